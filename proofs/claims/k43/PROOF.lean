import PyProof.Rows.All
import Wide.All
import OpenK.AllK
import Wide.FinOn
import HandS.ForMost
import HandS.Lambda
import HandS.Flow
import HandS.Exc
import HandS.ExcOwn
import HandS.TupAny
import HandS.Wide
import HandS.IsInst
import HandS.SortInts
import HandS.Conv
import HandS.Style
import HandS.RaiseMore
import HandS.Property
import HandS.WordsExc
import KE.GoesEnum
import HandS.Iter
import HandS.SetFor
import HandS.Strs
import KE.DataMinMax
import PyProof.ListStr
import PyProof.ZipIter
import PyProof.StrWalks
import HandS.RevRange
import PyProof.GenRules
import PyProof.ForAny
import HandS.GenList
import HandS.Deep
import HandS.WideBits
import HandS.TryMany
import HandS.TryOnly
import HandS.TupSets
import HandS.Text
import HandS.Call
import HandS.Zip0
import PyProof.InstEq
import HandS.SortKw
import HandS.TupLe
import HandS.NamedTupSort
import HandS.ExcInit
import HandS.Nested
import HandS.FStr
import KE.KExcSuper
import HandS.ExcField
import HandS.EndTab
import KE.KNestM
import HandS.ExcIs
import KE.KLam
import PyProof.Rows.StrSplitCount
import PyProof.StrLawsChain
import KE.GoesEnumKw
import PyProof.Rows.CallKwBuiltin
import HandS.StrMore
import HandS.Star
import HandS.More
import KE.RegKTryMore
import KE.RegKSuper
import PySem.Challenge.RW_maskedprints_k43_lines_rejected
set_option Elab.async false
set_option linter.all false
set_option maxRecDepth 100000
set_option autoImplicit false
namespace Fw
open PySem L2
inductive D where
  | non | bl (b : Bool) | int (i : Int) | str (s : List Nat) | tup (ds : List D) | lst (ds : List D)
  | flst (is : List Int) | obj (c : Nat) (ns : List Str) (ds : List D) | loc (n : Nat)
  | ptr (a : Addr) | dct (ks : List (Int ⊕ List Nat)) (ds : List D)
  deriving Inhabited
mutual
def D.deq : (x y : D) → Decidable (x = y)
  | .non, .non => Decidable.isTrue rfl
  | .ptr a, .ptr b => if h : a = b then Decidable.isTrue (by rw [h]) else Decidable.isFalse fun e => h (D.ptr.inj e)
  | .bl a, .bl b => if h : a = b then Decidable.isTrue (by rw [h]) else Decidable.isFalse fun e => h (D.bl.inj e)
  | .int a, .int b => if h : a = b then Decidable.isTrue (by rw [h]) else Decidable.isFalse fun e => h (D.int.inj e)
  | .str a, .str b => if h : a = b then Decidable.isTrue (by rw [h]) else Decidable.isFalse fun e => h (D.str.inj e)
  | .flst a, .flst b => if h : a = b then Decidable.isTrue (by rw [h]) else Decidable.isFalse fun e => h (D.flst.inj e)
  | .loc a, .loc b => if h : a = b then Decidable.isTrue (by rw [h]) else Decidable.isFalse fun e => h (D.loc.inj e)
  | .tup a, .tup b => match D.deqs a b with
    | Decidable.isTrue h => Decidable.isTrue (by rw [h])
    | Decidable.isFalse h => Decidable.isFalse fun e => h (D.tup.inj e)
  | .lst a, .lst b => match D.deqs a b with
    | Decidable.isTrue h => Decidable.isTrue (by rw [h])
    | Decidable.isFalse h => Decidable.isFalse fun e => h (D.lst.inj e)
  | .obj c ns a, .obj c' ns' b => if h : c = c' then if h2 : ns = ns' then match D.deqs a b with
      | Decidable.isTrue h3 => Decidable.isTrue (by rw [h, h2, h3])
      | Decidable.isFalse h3 => Decidable.isFalse fun e => h3 (D.obj.inj e).2.2
    else Decidable.isFalse fun e => h2 (D.obj.inj e).2.1
    else Decidable.isFalse fun e => h (D.obj.inj e).1
  | .dct ks a, .dct ks' b => if h2 : ks = ks' then match D.deqs a b with
      | Decidable.isTrue h3 => Decidable.isTrue (by rw [h2, h3])
      | Decidable.isFalse h3 => Decidable.isFalse fun e => h3 (D.dct.inj e).2
    else Decidable.isFalse fun e => h2 (D.dct.inj e).1
  | .non, .bl _ => Decidable.isFalse nofun | .non, .int _ => Decidable.isFalse nofun | .non, .str _ => Decidable.isFalse nofun | .non, .tup _ => Decidable.isFalse nofun | .non, .lst _ => Decidable.isFalse nofun | .non, .flst _ => Decidable.isFalse nofun | .non, .obj _ _ _ => Decidable.isFalse nofun | .non, .loc _ => Decidable.isFalse nofun | .non, .ptr _ => Decidable.isFalse nofun | .non, .dct _ _ => Decidable.isFalse nofun
  | .bl _, .non => Decidable.isFalse nofun | .bl _, .int _ => Decidable.isFalse nofun | .bl _, .str _ => Decidable.isFalse nofun | .bl _, .tup _ => Decidable.isFalse nofun | .bl _, .lst _ => Decidable.isFalse nofun | .bl _, .flst _ => Decidable.isFalse nofun | .bl _, .obj _ _ _ => Decidable.isFalse nofun | .bl _, .loc _ => Decidable.isFalse nofun | .bl _, .ptr _ => Decidable.isFalse nofun | .bl _, .dct _ _ => Decidable.isFalse nofun
  | .int _, .non => Decidable.isFalse nofun | .int _, .bl _ => Decidable.isFalse nofun | .int _, .str _ => Decidable.isFalse nofun | .int _, .tup _ => Decidable.isFalse nofun | .int _, .lst _ => Decidable.isFalse nofun | .int _, .flst _ => Decidable.isFalse nofun | .int _, .obj _ _ _ => Decidable.isFalse nofun | .int _, .loc _ => Decidable.isFalse nofun | .int _, .ptr _ => Decidable.isFalse nofun | .int _, .dct _ _ => Decidable.isFalse nofun
  | .str _, .non => Decidable.isFalse nofun | .str _, .bl _ => Decidable.isFalse nofun | .str _, .int _ => Decidable.isFalse nofun | .str _, .tup _ => Decidable.isFalse nofun | .str _, .lst _ => Decidable.isFalse nofun | .str _, .flst _ => Decidable.isFalse nofun | .str _, .obj _ _ _ => Decidable.isFalse nofun | .str _, .loc _ => Decidable.isFalse nofun | .str _, .ptr _ => Decidable.isFalse nofun | .str _, .dct _ _ => Decidable.isFalse nofun
  | .tup _, .non => Decidable.isFalse nofun | .tup _, .bl _ => Decidable.isFalse nofun | .tup _, .int _ => Decidable.isFalse nofun | .tup _, .str _ => Decidable.isFalse nofun | .tup _, .lst _ => Decidable.isFalse nofun | .tup _, .flst _ => Decidable.isFalse nofun | .tup _, .obj _ _ _ => Decidable.isFalse nofun | .tup _, .loc _ => Decidable.isFalse nofun | .tup _, .ptr _ => Decidable.isFalse nofun | .tup _, .dct _ _ => Decidable.isFalse nofun
  | .lst _, .non => Decidable.isFalse nofun | .lst _, .bl _ => Decidable.isFalse nofun | .lst _, .int _ => Decidable.isFalse nofun | .lst _, .str _ => Decidable.isFalse nofun | .lst _, .tup _ => Decidable.isFalse nofun | .lst _, .flst _ => Decidable.isFalse nofun | .lst _, .obj _ _ _ => Decidable.isFalse nofun | .lst _, .loc _ => Decidable.isFalse nofun | .lst _, .ptr _ => Decidable.isFalse nofun | .lst _, .dct _ _ => Decidable.isFalse nofun
  | .flst _, .non => Decidable.isFalse nofun | .flst _, .bl _ => Decidable.isFalse nofun | .flst _, .int _ => Decidable.isFalse nofun | .flst _, .str _ => Decidable.isFalse nofun | .flst _, .tup _ => Decidable.isFalse nofun | .flst _, .lst _ => Decidable.isFalse nofun | .flst _, .obj _ _ _ => Decidable.isFalse nofun | .flst _, .loc _ => Decidable.isFalse nofun | .flst _, .ptr _ => Decidable.isFalse nofun | .flst _, .dct _ _ => Decidable.isFalse nofun
  | .obj _ _ _, .non => Decidable.isFalse nofun | .obj _ _ _, .bl _ => Decidable.isFalse nofun | .obj _ _ _, .int _ => Decidable.isFalse nofun | .obj _ _ _, .str _ => Decidable.isFalse nofun | .obj _ _ _, .tup _ => Decidable.isFalse nofun | .obj _ _ _, .lst _ => Decidable.isFalse nofun | .obj _ _ _, .flst _ => Decidable.isFalse nofun | .obj _ _ _, .loc _ => Decidable.isFalse nofun | .obj _ _ _, .ptr _ => Decidable.isFalse nofun | .obj _ _ _, .dct _ _ => Decidable.isFalse nofun
  | .loc _, .non => Decidable.isFalse nofun | .loc _, .bl _ => Decidable.isFalse nofun | .loc _, .int _ => Decidable.isFalse nofun | .loc _, .str _ => Decidable.isFalse nofun | .loc _, .tup _ => Decidable.isFalse nofun | .loc _, .lst _ => Decidable.isFalse nofun | .loc _, .flst _ => Decidable.isFalse nofun | .loc _, .obj _ _ _ => Decidable.isFalse nofun | .loc _, .ptr _ => Decidable.isFalse nofun | .loc _, .dct _ _ => Decidable.isFalse nofun
  | .ptr _, .non => Decidable.isFalse nofun | .ptr _, .bl _ => Decidable.isFalse nofun | .ptr _, .int _ => Decidable.isFalse nofun | .ptr _, .str _ => Decidable.isFalse nofun | .ptr _, .tup _ => Decidable.isFalse nofun | .ptr _, .lst _ => Decidable.isFalse nofun | .ptr _, .flst _ => Decidable.isFalse nofun | .ptr _, .obj _ _ _ => Decidable.isFalse nofun | .ptr _, .loc _ => Decidable.isFalse nofun | .ptr _, .dct _ _ => Decidable.isFalse nofun
  | .dct _ _, .non => Decidable.isFalse nofun | .dct _ _, .bl _ => Decidable.isFalse nofun | .dct _ _, .int _ => Decidable.isFalse nofun | .dct _ _, .str _ => Decidable.isFalse nofun | .dct _ _, .tup _ => Decidable.isFalse nofun | .dct _ _, .lst _ => Decidable.isFalse nofun | .dct _ _, .flst _ => Decidable.isFalse nofun | .dct _ _, .obj _ _ _ => Decidable.isFalse nofun | .dct _ _, .loc _ => Decidable.isFalse nofun | .dct _ _, .ptr _ => Decidable.isFalse nofun
def D.deqs : (xs ys : List D) → Decidable (xs = ys)
  | [], [] => Decidable.isTrue rfl
  | [], _ :: _ => Decidable.isFalse nofun
  | _ :: _, [] => Decidable.isFalse nofun
  | x :: xs, y :: ys => match D.deq x y with
    | Decidable.isTrue h => match D.deqs xs ys with
      | Decidable.isTrue h2 => Decidable.isTrue (by rw [h, h2])
      | Decidable.isFalse h2 => Decidable.isFalse fun e => h2 (List.cons.inj e).2
    | Decidable.isFalse h => Decidable.isFalse fun e => h (List.cons.inj e).1
end
instance : DecidableEq D := D.deq
inductive Cell where
  | lst (ds : List D)
  | ins (c : Nat) (ns : List Str) (ds : List D)
  | dct (ks : List (Int ⊕ List Nat)) (ds : List D)
  deriving DecidableEq, Inhabited
abbrev Store := List Cell
abbrev Env := List (Option D)
inductive Res (α : Type) where
  | ok (a : α) (μ : Store)
  | err (k : Nat) (ns : List Str) (ds : List D) (μ : Store)
  | stuck
def Res.bind {α β : Type} (r : Res α) (f : α → Store → Res β) : Res β := match r with
  | .ok a μ => f a μ
  | .err k ns ds μ => .err k ns ds μ
  | .stuck => .stuck
@[simp] theorem Res.bind_err {α β : Type} {k : Nat} {ns : List Str} {ds : List D} {μ : Store} {f : α → Store → Res β} : (Res.err k ns ds μ : Res α).bind f = .err k ns ds μ := rfl
@[simp] theorem Res.bind_ok {α β : Type} {a : α} {μ : Store} {f : α → Store → Res β} : (Res.ok a μ).bind f = f a μ := rfl
@[simp] theorem Res.bind_stuck {α β : Type} {f : α → Store → Res β} : (Res.stuck : Res α).bind f = .stuck := rfl
/-- what may not raise -/
def Res.mute {α : Type} (r : Res α) : Res α := match r with
  | .ok a μ => .ok a μ
  | _ => .stuck
@[simp] theorem Res.mute_ok {α : Type} {a : α} {μ : Store} : (Res.ok a μ).mute = .ok a μ := rfl
/-- not a table of code objects -/
def NT (o : HO) : Prop := ∀ ps, o ≠ .tbl ps
/-- the places of the mutable things, the banned places, the heap -/
structure Wd where
  x : Option Addr
  ι : List Addr
  B : List Addr
  H : Hp
section
variable (K : PySem.W.Frag) (cls : Nat → Option Addr) (w : Wd)
def toKey : Int ⊕ List Nat → Key
  | .inl i => .inl i
  | .inr s => .inr ⟨s.toArray⟩
def TupAt (a : Addr) (vs : List V) : Prop := (w.H a = some (.tup vs) ∧ a ∉ w.ι ∧ a ∉ w.B) ∨ SqT K (fun _ => none) a vs
def FlsAt (a : Addr) (vs : List V) : Prop := ((∃ o, w.H a = some (.frz o (.lst vs))) ∧ a ∉ w.ι ∧ a ∉ w.B) ∨ SqL K (fun _ => none) a vs
mutual
def RV : D → V → Prop
  | .non, v => v = .non
  | .bl b, v => v = .bl b
  | .int i, v => v = .int i
  | .str s, v => v = .str ⟨s.toArray⟩
  | .tup ds, v => ∃ a vs, v = .ref a ∧ TupAt K w a vs ∧ RVs ds vs
  | .lst ds, v => ∃ a vs, v = .ref a ∧ (w.H a = some (.lst vs) ∧ a ∉ w.ι ∧ a ∉ w.B) ∧ RVs ds vs
  | .flst is, v => ∃ a, v = .ref a ∧ FlsAt K w a (is.map .int)
  | .obj c ns ds, v => ∃ a C dx vs, v = .ref a ∧ cls c = some C ∧ (w.H a = some (.ins C dx (ns.zip vs)) ∧ a ∉ w.ι ∧ a ∉ w.B) ∧ ns.length = vs.length ∧ RVs ds vs
  | .loc n, v => ∃ a, v = .ref a ∧ w.ι[n]? = some a
  | .ptr a, v => v = .ref a
  | .dct ks ds, v => ∃ a vs, v = .ref a ∧ (w.H a = some (.dK ((ks.map toKey).zip vs)) ∧ a ∉ w.ι ∧ a ∉ w.B) ∧ ks.length = vs.length ∧ RVs ds vs
def RVs : List D → List V → Prop
  | [], vs => vs = []
  | d :: ds, vs => ∃ v r, vs = v :: r ∧ RV d v ∧ RVs ds r
end
/-- the table at a: each code object in it bears the name q, and is no place -/
def TabC (a : Addr) (q : Str) : Prop := ∃ ps : Array Value, w.H a = some (.tbl ps) ∧ TriplesOk ps.toList ∧ ∀ (pos : Pos) (cv : Value), codeAmong pos ps.toList = some cv → ∃ c, cv = .ref c ∧ w.H c = some (LamX.CodeO c q) ∧ c ∉ w.ι ∧ c ∉ w.B
def CellOk (a : Addr) : Cell → Prop
  | .lst ds => ∃ vs, w.H a = some (.lst vs) ∧ RVs K cls w ds vs
  | .ins c ns ds => ∃ C dx vs, cls c = some C ∧ w.H a = some (.ins C dx (ns.zip vs)) ∧ ns.length = vs.length ∧ RVs K cls w ds vs
  | .dct ks ds => ∃ vs, w.H a = some (.dK ((ks.map toKey).zip vs)) ∧ ks.length = vs.length ∧ RVs K cls w ds vs
/-- the name that a def's lambdas bear -/
def lamQ (x : Str) : Str := x ++ (".<locals>." : Str) ++ ("<lambda>" : Str)
/-- the numbers 50 to 99 are of tables of code objects: whose lambdas -/
def tabName (k : Nat) : Str := lamQ (["law", "_law_are_strips", "_law_are_repeats", "_law_are_refused", "_law_calls", "_law_more"].getD (k - 50) "")
/-- an error that lies: its class, its fields -/
def RErr (k : Nat) (ns : List Str) (ds : List D) (cv : Value) (d : Option Addr) : Prop := ∃ C, (100 ≤ k ∧ cls k = some C) ∧ cv = .ref C ∧
  ((ns = [] ∧ ds = [] ∧ d = none) ∨ ∃ dd vs, d = some dd ∧ (w.H dd = some (.xd (ns.zip vs)) ∧ dd ∉ w.ι ∧ dd ∉ w.B) ∧ ns.length = vs.length ∧ RVs K cls w ds vs)
structure RelS (μ : Store) : Prop where
  len : w.ι.length = μ.length
  nd : w.ι.Nodup
  ban : ∀ b ∈ w.B, b ∉ w.ι ∧ ∃ vs, w.H b = some (.lst vs)
  cell : ∀ (n : Nat) (c : Cell), μ[n]? = some c → ∃ a, w.ι[n]? = some a ∧ CellOk K cls w a c
  tabs : ∀ (k : Nat) (P : Addr), 50 ≤ k → k < 100 → cls k = some P → TabC w P (tabName k) ∧ P ∉ w.ι ∧ P ∉ w.B
  tinj : ∀ (j k : Nat) (P : Addr), (50 ≤ j ∧ j < 100) → (50 ≤ k ∧ k < 100) → cls j = some P → cls k = some P → j = k
def RelE (ρ : Env) (σ : L2.St) : Prop := σ.length = ρ.length ∧ ∀ (i : Nat) (d : D), ρ[i]? = some (some d) → ∃ v, σ[i]? = some (some v) ∧ RV K cls w d v
end
structure Step (w w' : Wd) : Prop where
  keep : ∀ a o, a ∉ w.ι → w.H a = some o → (nt : NT o := by first | assumption | (intro _ z; cases z)) → w'.H a = some o
  pre : ∃ l, w'.ι = w.ι ++ l
  fresh : ∀ a ∈ w'.ι, a ∉ w.ι → ∀ o, NT o → w.H a ≠ some o
  ban : w'.B = w.B
  exn : w'.x = w.x
section
variable {K : PySem.W.Frag} {cls : Nat → Option Addr} {w w' w'' : Wd}
theorem Step.refl : Step w w := ⟨fun _ _ _ h _ => h, ⟨[], by simp⟩, fun a h n => absurd h n, rfl, rfl⟩
theorem Step.notin (s : Step w w') {a : Addr} {o : HO} (h : w.H a = some o) (n : a ∉ w.ι) (nt : NT o := by first | assumption | (intro _ z; cases z)) : a ∉ w'.ι := fun z => s.fresh a z n o nt h
theorem Step.trans (s : Step w w') (t : Step w' w'') : Step w w'' where
  keep := fun a o n h nt => t.keep a o (s.notin h n) (s.keep a o n h)
  pre := by
    obtain ⟨l, e⟩ := s.pre
    obtain ⟨l', e'⟩ := t.pre
    exact ⟨l ++ l', by rw [e', e, List.append_assoc]⟩
  fresh := fun a h n o nt e => by
    by_cases q : a ∈ w'.ι
    · exact s.fresh a q n o nt e
    · exact t.fresh a h q o nt (s.keep a o n e)
  ban := t.ban.trans s.ban
  exn := t.exn.trans s.exn
theorem Step.loc (s : Step w w') {n : Nat} {a : Addr} (h : w.ι[n]? = some a) : w'.ι[n]? = some a := by
  obtain ⟨l, e⟩ := s.pre
  rw [e]
  exact List.getElem?_append_left (List.getElem?_eq_some_iff.mp h).1 ▸ h
/-- what RV leans on is kept -/
structure Kp (w w' : Wd) : Prop where
  at_ : ∀ a o, a ∉ w.ι → a ∉ w.B → w.H a = some o → (nt : NT o := by first | assumption | (intro _ z; cases z)) → w'.H a = some o ∧ a ∉ w'.ι ∧ a ∉ w'.B
  loc : ∀ (n : Nat) (a : Addr), w.ι[n]? = some a → w'.ι[n]? = some a
  exn : w'.x = w.x
theorem Step.kp (s : Step w w') : Kp w w' := ⟨fun a o n b h nt => ⟨s.keep a o n h, s.notin h n, by rw [s.ban]; exact b⟩, fun n a h => s.loc h, s.exn⟩
theorem TupAt.mono (s : Kp w w') {a : Addr} {vs : List V} (h : TupAt K w a vs) : TupAt K w' a vs := by
  rcases h with ⟨h, n, b⟩ | h
  · exact .inl (s.at_ a _ n b h)
  · exact .inr h
theorem FlsAt.mono (s : Kp w w') {a : Addr} {vs : List V} (h : FlsAt K w a vs) : FlsAt K w' a vs := by
  rcases h with ⟨⟨o, h⟩, n, b⟩ | h
  · obtain ⟨h1, h2⟩ := s.at_ a _ n b h
    exact .inl ⟨⟨o, h1⟩, h2⟩
  · exact .inr h
mutual
theorem RV.mono (s : Kp w w') : ∀ {d : D} {v : V}, RV K cls w d v → RV K cls w' d v
  | .non, _, h => h
  | .bl _, _, h => h
  | .int _, _, h => h
  | .str _, _, h => h
  | .tup ds, _, ⟨a, vs, e, h, r⟩ => ⟨a, vs, e, h.mono s, RVs.mono s r⟩
  | .lst ds, _, ⟨a, vs, e, ⟨h, n, b⟩, r⟩ => ⟨a, vs, e, s.at_ a _ n b h, RVs.mono s r⟩
  | .flst _, _, ⟨a, e, h⟩ => ⟨a, e, h.mono s⟩
  | .obj _ _ ds, _, ⟨a, C, dx, vs, e, c, ⟨h, n, b⟩, l, r⟩ => ⟨a, C, dx, vs, e, c, s.at_ a _ n b h, l, RVs.mono s r⟩
  | .loc _, _, ⟨a, e, h⟩ => ⟨a, e, s.loc _ _ h⟩
  | .ptr _, _, h => h
  | .dct _ ds, _, ⟨a, vs, e, ⟨h, n, b⟩, l, r⟩ => ⟨a, vs, e, s.at_ a _ n b h, l, RVs.mono s r⟩
theorem RVs.mono (s : Kp w w') : ∀ {ds : List D} {vs : List V}, RVs K cls w ds vs → RVs K cls w' ds vs
  | [], _, h => h
  | _ :: _, _, ⟨v, r, e, h, t⟩ => ⟨v, r, e, RV.mono s h, RVs.mono s t⟩
end
theorem RelE.mono (s : Kp w w') {ρ : Env} {σ : L2.St} (h : RelE K cls w ρ σ) : RelE K cls w' ρ σ := ⟨h.1, fun i d e => by
  obtain ⟨v, e1, r⟩ := h.2 i d e
  exact ⟨v, e1, r.mono s⟩⟩
theorem RVs.length : ∀ {ds : List D} {vs : List V}, RVs K cls w ds vs → vs.length = ds.length
  | [], _, h => by rw [show _ = [] from h]; rfl
  | _ :: _, _, ⟨v, r, e, _, t⟩ => by rw [e, List.length_cons, List.length_cons, RVs.length t]
theorem RVs.get : ∀ {ds : List D} {vs : List V} {i : Nat} {d : D}, RVs K cls w ds vs → ds[i]? = some d → ∃ v, vs[i]? = some v ∧ RV K cls w d v
  | [], _, _, _, _, e => by simp at e
  | d :: ds, _, 0, d', ⟨v, r, e, h, t⟩, e' => by
    simp at e'
    subst e' e
    exact ⟨v, rfl, h⟩
  | d :: ds, _, i + 1, d', ⟨v, r, e, h, t⟩, e' => by
    subst e
    obtain ⟨u, h1, h2⟩ := RVs.get (i := i) t (by simpa using e')
    exact ⟨u, by simpa using h1, h2⟩
theorem RVs.append : ∀ {ds es : List D} {vs us : List V}, RVs K cls w ds vs → RVs K cls w es us → RVs K cls w (ds ++ es) (vs ++ us)
  | [], _, _, _, h, t => by rw [show _ = [] from h]; exact t
  | _ :: _, _, _, _, ⟨v, r, e, h, t⟩, t' => ⟨v, r ++ _, by rw [e]; rfl, h, RVs.append t t'⟩
theorem RVs.nil : RVs K cls w [] [] := rfl
theorem RVs.cons {d : D} {ds : List D} {v : V} {vs : List V} (h : RV K cls w d v) (t : RVs K cls w ds vs) : RVs K cls w (d :: ds) (v :: vs) := ⟨v, vs, rfl, h, t⟩
theorem RVs.set {e : D} {u : V} (h : RV K cls w e u) : ∀ {ds : List D} {vs : List V} (i : Nat), RVs K cls w ds vs → RVs K cls w (ds.set i e) (vs.set i u)
  | [], _, _, r => by rw [show _ = [] from r]; rfl
  | _ :: _, _, 0, ⟨v, r, q, _, t⟩ => by rw [q]; exact ⟨u, r, rfl, h, t⟩
  | _ :: _, _, i + 1, ⟨v, r, q, g, t⟩ => by rw [q]; exact ⟨v, _, rfl, g, RVs.set h i t⟩
theorem RVs.take : ∀ {ds : List D} {vs : List V} (n : Nat), RVs K cls w ds vs → RVs K cls w (ds.take n) (vs.take n)
  | _, _, 0, _ => by simp [RVs]
  | [], _, n + 1, r => by rw [show _ = [] from r]; rfl
  | _ :: _, _, n + 1, ⟨v, r, q, g, t⟩ => by rw [q]; exact ⟨v, _, rfl, g, RVs.take n t⟩
theorem RVs.drop : ∀ {ds : List D} {vs : List V} (n : Nat), RVs K cls w ds vs → RVs K cls w (ds.drop n) (vs.drop n)
  | _, _, 0, h => by simpa using h
  | [], _, n + 1, r => by rw [show _ = [] from r]; rfl
  | _ :: _, _, n + 1, ⟨v, r, q, g, t⟩ => by rw [q]; exact RVs.drop n t
theorem RVs.ints : ∀ {is : List Int}, RVs K cls w (is.map .int) (is.map .int)
  | [] => rfl
  | _ :: _ => ⟨_, _, rfl, rfl, RVs.ints⟩
theorem RVs.flatten : ∀ {dss : List (List D)} {vss : List (List V)}, Paired (RVs K cls w) dss vss → RVs K cls w dss.flatten vss.flatten
  | _, _, .nil => rfl
  | _, _, .cons h t => by
    rw [List.flatten_cons, List.flatten_cons]
    exact h.append (RVs.flatten t)
theorem RVs.rep {ds : List D} {vs : List V} (h : RVs K cls w ds vs) : ∀ n : Nat, RVs K cls w (List.replicate n ds).flatten (List.replicate n vs).flatten
  | 0 => rfl
  | n + 1 => by
    rw [List.replicate_succ, List.replicate_succ, List.flatten_cons, List.flatten_cons]
    exact h.append (RVs.rep h n)
theorem TupAt.sq {a : Addr} {vs : List V} (h : TupAt K w a vs) : SqT K w.H a vs := by
  rcases h with ⟨h, _⟩ | (h | h)
  · exact .inl (.inl h)
  · rcases h with h | ⟨o, h⟩ <;> cases h
  · exact .inr h
theorem FlsAt.sq {a : Addr} {vs : List V} (h : FlsAt K w a vs) : SqL K w.H a vs := by
  rcases h with ⟨⟨o, h⟩, _⟩ | (h | h)
  · exact .inl (.inr ⟨o, h⟩)
  · rcases h with h | ⟨o, h⟩ <;> cases h
  · exact .inr h
theorem RelS.tracked {μ : Store} (S : RelS K cls w μ) {a : Addr} (h : a ∈ w.ι) : ∃ o, w.H a = some o := by
  obtain ⟨n, hn, e⟩ := List.getElem_of_mem h
  have hm : n < μ.length := by rw [← S.len]; exact hn
  obtain ⟨a', e1, c⟩ := S.cell n μ[n] (List.getElem?_eq_getElem hm)
  have : a' = a := by
    rw [List.getElem?_eq_getElem hn, e] at e1
    exact (Option.some.inj e1).symm
  subst this
  generalize hc : μ[n] = cc at c
  cases cc with
  | lst ds => obtain ⟨vs, h, _⟩ := c; exact ⟨_, h⟩
  | ins cn ns ds => obtain ⟨C, dx, vs, _, h, _⟩ := c; exact ⟨_, h⟩
  | dct ks ds => obtain ⟨vs, h, _⟩ := c; exact ⟨_, h⟩
theorem RelS.free {μ : Store} (S : RelS K cls w μ) {p : Addr} (h : w.H p = none) : p ∉ w.ι ∧ p ∉ w.B := by
  refine ⟨fun z => ?_, fun z => ?_⟩
  · obtain ⟨o, e⟩ := S.tracked z
    rw [h] at e
    cases e
  · obtain ⟨_, o, e⟩ := S.ban p z
    rw [h] at e
    cases e
abbrev Wd.up (w : Wd) (p : Addr) (o : HO) : Wd := ⟨w.x, w.ι, w.B, upd w.H p o⟩
theorem step_new {p : Addr} {o : HO} (h : w.H p = none) : Step w (w.up p o) where
  keep := fun a u _ e _ => by
    show upd w.H p o a = some u
    rw [upd_ne (ne_of_none e h)]
    exact e
  pre := ⟨[], by simp⟩
  fresh := fun a h n => absurd h n
  ban := rfl
  exn := rfl
theorem TabC.mono {a : Addr} {q : Str} (s : Kp w w') (h : ∀ ps, w.H a = some (.tbl ps) → w'.H a = some (.tbl ps)) : TabC w a q → TabC w' a q := fun ⟨ps, e, t, r⟩ => ⟨ps, h _ e, t, fun pos cv z => let ⟨c, e1, e2, e3, e4⟩ := r pos cv z; ⟨c, e1, s.at_ c _ e3 e4 e2⟩⟩
/-- the tables are kept -/
theorem RelS.tabsK {μ : Store} (S : RelS K cls w μ) (s : Kp w w') (h : ∀ P ps, w.H P = some (.tbl ps) → P ∉ w.ι → P ∉ w.B → w'.H P = some (.tbl ps) ∧ P ∉ w'.ι ∧ P ∉ w'.B) (k : Nat) (P : Addr) (h1 : 50 ≤ k) (h2 : k < 100) (h3 : cls k = some P) : TabC w' P (tabName k) ∧ P ∉ w'.ι ∧ P ∉ w'.B := by
  obtain ⟨t, i, j⟩ := S.tabs k P h1 h2 h3
  obtain ⟨ps, e, _⟩ := id t
  exact ⟨t.mono s fun ps e => (h P ps e i j).1, (h P ps e i j).2⟩
theorem CellOk.mono {a : Addr} {c : Cell} (s : Kp w w') (h : ∀ o, w.H a = some o → w'.H a = some o) : CellOk K cls w a c → CellOk K cls w' a c := by
  cases c with
  | lst ds => exact fun ⟨vs, e, r⟩ => ⟨vs, h _ e, r.mono s⟩
  | ins cn ns ds => exact fun ⟨C, dx, vs, c, e, l, r⟩ => ⟨C, dx, vs, c, h _ e, l, r.mono s⟩
  | dct ks ds => exact fun ⟨vs, e, l, r⟩ => ⟨vs, h _ e, l, r.mono s⟩
theorem RErr.mono {k : Nat} {ns : List Str} {ds : List D} {cv : Value} {d : Option Addr} (s : Kp w w') : RErr K cls w k ns ds cv d → RErr K cls w' k ns ds cv d := fun ⟨C, c, e, h⟩ => ⟨C, c, e, h.imp id fun ⟨dd, vs, e1, ⟨h1, n, b⟩, l, r⟩ => ⟨dd, vs, e1, s.at_ dd _ n b h1, l, r.mono s⟩⟩
/-- a new thing is laid -/
theorem RelS.new {μ : Store} (S : RelS K cls w μ) {p : Addr} {o : HO} (h : w.H p = none) : RelS K cls (w.up p o) μ where
  len := S.len
  nd := S.nd
  ban := fun b hb => by
    obtain ⟨h1, u, h2⟩ := S.ban b hb
    exact ⟨h1, u, by show upd w.H p o b = some (.lst u); rw [upd_ne (ne_of_none h2 h)]; exact h2⟩
  cell := fun n c e => by
    obtain ⟨a, h1, h2⟩ := S.cell n c e
    refine ⟨a, h1, h2.mono (step_new h).kp fun u e => ?_⟩
    show upd w.H p o a = some u
    rw [upd_ne (ne_of_none e h)]
    exact e
  tabs := S.tabsK (step_new h).kp fun P ps e i j => ⟨by show upd w.H p o P = _; rw [upd_ne (ne_of_none e h)]; exact e, i, j⟩
  tinj := S.tinj
theorem new_tup {μ : Store} (S : RelS K cls w μ) {p : Addr} {ds : List D} {vs : List V} (h : w.H p = none) (r : RVs K cls w ds vs) : RV K cls (w.up p (.tup vs)) (.tup ds) (.ref p) :=
  ⟨p, vs, rfl, .inl ⟨upd_same, S.free h⟩, r.mono (step_new h).kp⟩
theorem new_lst {μ : Store} (S : RelS K cls w μ) {p : Addr} {ds : List D} {vs : List V} (h : w.H p = none) (r : RVs K cls w ds vs) : RV K cls (w.up p (.lst vs)) (.lst ds) (.ref p) :=
  ⟨p, vs, rfl, ⟨upd_same, S.free h⟩, r.mono (step_new h).kp⟩
/-- a frozen list that nothing else is becomes a place: p is fresh over w0 -/
abbrev Wd.add (w : Wd) (p : Addr) : Wd := ⟨w.x, w.ι ++ [p], w.B, w.H⟩
def PostR {α : Type} (K : PySem.W.Frag) (cls : Nat → Option Addr) (w : Wd) (Er : XK) (R : Wd → α → Prop) : Res α → Prop
  | .ok d μ' => ∀ w', Step w w' → RelS K cls w' μ' → R w' d
  | .err k ns ds μ' => ∀ w' cv d, Step w w' → RelS K cls w' μ' → RErr K cls w' k ns ds cv d → Er cv d w'.H
  | .stuck => False
theorem PostR.step {α : Type} {Er : XK} {R : Wd → α → Prop} {r : Res α} (s : Step w w') (h : PostR K cls w Er R r) : PostR K cls w' Er R r := by
  cases r with
  | ok d μ => exact fun w2 s2 => h w2 (s.trans s2)
  | err k ns ds μ => exact fun w2 cv d s2 => h w2 cv d (s.trans s2)
  | stuck => exact h
theorem PostR.mute {α : Type} {Er Er' : XK} {R : Wd → α → Prop} {r : Res α} (h : PostR K cls w Er R r.mute) : PostR K cls w Er' R r := by
  cases r with
  | ok d μ => exact h
  | err k ns ds μ => exact h.elim
  | stuck => exact h
end
end Fw
set_option Elab.async false
set_option linter.all false
set_option maxRecDepth 100000
set_option autoImplicit false
namespace Fw
open PySem L2
abbrev FE := Env → Store → Res D
abbrev FA := Env → Store → Res (List D)
abbrev FT := Env → Store → Res Bool
def LIM : Nat := 1000000
theorem lim_le {n : Nat} (h : n ≤ LIM) : n ≤ sizeLine := Nat.le_trans h (by rw [sizeLine_eq]; decide)
theorem lim_lt {n : Nat} (h : n < LIM) : n < sizeLine := Nat.lt_of_lt_of_le h (by rw [sizeLine_eq]; decide)
section
variable (X : Cx) (W : WX) (cls : Nat → Option Addr)
def SE (e : Expr) (f : FE) : Prop := ∃ t, PE X e t ∧ ∀ (σ : L2.St) (Q : VK) (w : Wd) (ρ : Env) (μ : Store), RelS X.K cls w μ → RelE X.K cls w ρ σ →
  PostR X.K cls w (WE W σ) (fun w' d => ∀ v, RV X.K cls w' d v → Q v w'.H) (f ρ μ) → t σ w.H Q
def SA (es : List Expr) (f : FA) : Prop := ∃ t, PA X es t ∧ ∀ (σ : L2.St) (Q : List V → Hp → Prop) (w : Wd) (ρ : Env) (μ : Store), RelS X.K cls w μ → RelE X.K cls w ρ σ →
  PostR X.K cls w (WE W σ) (fun w' d => ∀ v, RVs X.K cls w' d v → Q v w'.H) (f ρ μ) → t σ w.H Q
def ST (e : Expr) (f : FT) : Prop := ∃ t, PT X e t ∧ ∀ (σ : L2.St) (Q : Bool → Hp → Prop) (w : Wd) (ρ : Env) (μ : Store), RelS X.K cls w μ → RelE X.K cls w ρ σ →
  PostR X.K cls w (WE W σ) (fun w' b => Q b w'.H) (f ρ μ) → t σ w.H Q
def SW (e : Expr) (f : FT) : Prop := ∃ t, PW X e t ∧ ∀ (σ : L2.St) (Q : Bool → Hp → Prop) (w : Wd) (ρ : Env) (μ : Store), RelS X.K cls w μ → RelE X.K cls w ρ σ →
  PostR X.K cls w (WE W σ) (fun w' b => Q b w'.H) (f ρ μ) → t σ w.H Q
/-- an operator by values; a call; a method -/
def OV (op : Value → Value → Sem Value) (f : D → D → Store → Res D) : Prop := ∃ r, OpR X op r ∧ ∀ (w : Wd) (μ : Store) (Er : XK) (d e : D) (x y : V) (Q : VK), RelS X.K cls w μ → RV X.K cls w d x → RV X.K cls w e y →
  PostR X.K cls w Er (fun w' d => ∀ v, RV X.K cls w' d v → Q v w'.H) (f d e μ) → r x y w.H Q
def CV (c : Value) (f : List D → Store → Res D) : Prop := ∃ r, CallR X c r ∧ ∀ (w : Wd) (μ : Store) (Er : XK) (ds : List D) (xs : List V) (Q : VK), RelS X.K cls w μ → RVs X.K cls w ds xs →
  PostR X.K cls w Er (fun w' d => ∀ v, RV X.K cls w' d v → Q v w'.H) (f ds μ) → r xs w.H Q
end
def eVar (i : Nat) : FE := fun ρ μ => match ρ[i]? with
  | some (some d) => .ok d μ
  | _ => .stuck
def eC (d : D) : FE := fun _ μ => .ok d μ
def eBin (g : D → D → Store → Res D) (fa fb : FE) : FE := fun ρ μ => (fa ρ μ).bind fun x μ1 => (fb ρ μ1).bind fun y μ2 => g x y μ2
def aNil : FA := fun _ μ => .ok [] μ
def aCons (fa : FE) (fr : FA) : FA := fun ρ μ => (fa ρ μ).bind fun x μ1 => (fr ρ μ1).bind fun xs μ2 => .ok (x :: xs) μ2
def eTup (fs : FA) : FE := fun ρ μ => (fs ρ μ).bind fun ds μ1 => if ds.length ≤ LIM then .ok (.tup ds) μ1 else .stuck
def eLst (fs : FA) : FE := fun ρ μ => (fs ρ μ).bind fun ds μ1 => if ds.length ≤ LIM then .ok (.lst ds) μ1 else .stuck
def eCall (F : List D → Store → Res D) (fs : FA) : FE := fun ρ μ => (fs ρ μ).bind fun ds μ1 => F ds μ1
def tB (fa : FE) : FT := fun ρ μ => (fa ρ μ).bind fun x μ1 => match x with
  | .bl b => .ok b μ1
  | _ => .stuck
def tNot (fa : FT) : FT := fun ρ μ => (fa ρ μ).bind fun b μ1 => .ok (!b) μ1
def tAnd (fa fb : FT) : FT := fun ρ μ => (fa ρ μ).bind fun b μ1 => if b then fb ρ μ1 else .ok false μ1
def tOr (fa fb : FT) : FT := fun ρ μ => (fa ρ μ).bind fun b μ1 => if b then .ok true μ1 else fb ρ μ1
def eIf (c : FT) (fa fb : FE) : FE := fun ρ μ => (c ρ μ).bind fun b μ1 => if b then fa ρ μ1 else fb ρ μ1
def eNot (fa : FE) : FE := fun ρ μ => (fa ρ μ).bind fun x μ1 => match x with
  | .bl b => .ok (.bl (!b)) μ1
  | _ => .stuck
def eAnd (fa fb : FE) : FE := fun ρ μ => (fa ρ μ).bind fun x μ1 => match x with
  | .bl b => if b then fb ρ μ1 else .ok (.bl false) μ1
  | _ => .stuck
def eOr (fa fb : FE) : FE := fun ρ μ => (fa ρ μ).bind fun x μ1 => match x with
  | .bl b => if b then .ok (.bl true) μ1 else fb ρ μ1
  | _ => .stuck
/-- a op b op' c -/
def eChain (g g' : D → D → Store → Res D) (fa fb fc : FE) : FE := fun ρ μ => (fa ρ μ).bind fun x μ1 => (fb ρ μ1).bind fun y μ2 => (g x y μ2).bind fun z μ3 => match z with
  | .bl b => if b then (fc ρ μ3).bind fun u μ4 => (g' y u μ4).bind fun z' μ5 => match z' with
      | .bl b' => .ok (.bl b') μ5
      | _ => .stuck
    else .ok (.bl false) μ3
  | _ => .stuck
/-- a bound reading: what comes first, then the rest -/
theorem PostR.bind {α β : Type} {K : PySem.W.Frag} {cls : Nat → Option Addr} {w : Wd} {Er : XK} {R : Wd → β → Prop} {r : Res α} {f : α → Store → Res β}
    (h : PostR K cls w Er R (r.bind f)) : PostR K cls w Er (fun w' a => ∃ μ', RelS K cls w' μ' ∧ PostR K cls w' Er R (f a μ')) r := by
  cases r with
  | ok a μ => exact fun w' s S => ⟨μ, S, PostR.step s h⟩
  | err k ns ds μ => exact h
  | stuck => exact h
theorem PostR.imp {α : Type} {K : PySem.W.Frag} {cls : Nat → Option Addr} {w : Wd} {Er : XK} {R R' : Wd → α → Prop} {r : Res α} (h : PostR K cls w Er R r) (q : ∀ w' a, Step w w' → R w' a → R' w' a) : PostR K cls w Er R' r := by
  cases r with
  | ok a μ => exact fun w' s S => q w' a s (h w' s S)
  | err k ns ds μ => exact h
  | stuck => exact h
section
variable {X : Cx} {W : WX} {cls : Nat → Option Addr} {a b c : Expr} {fa fb fc : FE} {ta tb tc : FT} {pos : Pos}
theorem se_var (i : Nat) {x : Str} (hN : X.N[i]? = some x := by rfl) (hv : Vis X.env.scope x := by first | exact Or.inl rfl | exact Or.inr (Or.inl rfl) | exact Or.inr (Or.inr rfl)) (hd : (x == ("__debug__" : Str)) = false := by decide +kernel)
    (hcd : (x == ("__classdict__" : Str)) = false := by decide +kernel) : SE X W cls (.Name x pos) (eVar i) := by
  refine ⟨_, pe_var hN hv hd hcd, fun σ Q w ρ μ S E h => ?_⟩
  unfold eVar at h
  split at h
  · rename_i d hd
    obtain ⟨v, e, r⟩ := E.2 i d hd
    exact ⟨v, e, h w Step.refl S v r⟩
  · exact h.elim
theorem se_int {i : Int} {j pos} : SE X W cls (.Constant (.int i) j pos) (eC (.int i)) := ⟨_, pe_int, fun σ Q w ρ μ S E h => h w Step.refl S _ rfl⟩
theorem se_bl {i : Bool} {j pos} : SE X W cls (.Constant (.bool i) j pos) (eC (.bl i)) := ⟨_, pe_bl, fun σ Q w ρ μ S E h => h w Step.refl S _ rfl⟩
theorem se_non {j pos} : SE X W cls (.Constant .none j pos) (eC .non) := ⟨_, pe_non, fun σ Q w ρ μ S E h => h w Step.refl S _ rfl⟩
theorem se_str {x : Str} {j pos} : SE X W cls (.Constant (.str x) j pos) (eC (.str x.cps.toList)) := ⟨_, pe_str, fun σ Q w ρ μ S E h => h w Step.refl S _ (by
  show V.str x = V.str ⟨x.cps.toList.toArray⟩
  rw [Array.toArray_toList])⟩
/-- a module's constant -/
theorem se_glob {x : Str} {v : V} {u : Value} {d : D} (hg : Gl X x) (hm : X.mg x = some u) (r : RelV v u) (rd : ∀ w, RV X.K cls w d v) (hd : (x == ("__debug__" : Str)) = false := by decide +kernel) : SE X W cls (.Name x pos) (eC d) :=
  ⟨_, pe_glob hg hm r hd, fun σ Q w ρ μ S E h => h w Step.refl S _ (rd w)⟩
theorem se_bin {op : Operator} {g : D → D → Store → Res D} (ho : OV X cls (binaryOp op) g) (ha : SE X W cls a fa) (hb : SE X W cls b fb) : SE X W cls (.BinOp a op b pos) (eBin g fa fb) := by
  obtain ⟨r, o, ho⟩ := ho
  obtain ⟨t1, p1, h1⟩ := ha
  obtain ⟨t2, p2, h2⟩ := hb
  refine ⟨_, pe_op o p1 p2, fun σ Q w ρ μ S E h => ?_⟩
  refine h1 σ _ w ρ μ S E ((PostR.bind h).imp fun w1 d s1 ⟨μ1, S1, q1⟩ v r1 => ?_)
  refine h2 σ _ w1 ρ μ1 S1 (E.mono s1.kp) ((PostR.bind q1).imp fun w2 e s2 ⟨μ2, S2, q2⟩ u r2 => ?_)
  exact ho w2 μ2 _ d e v u Q S2 (r1.mono s2.kp) r2 q2
theorem se_cmp {op : CmpOp} {g : D → D → Store → Res D} (ho : OV X cls (compareOp op) g) (ha : SE X W cls a fa) (hb : SE X W cls b fb) (hm : behindInMarks op b = false := by first | exact nomark _ | rfl) : SE X W cls (.Compare a [op] [b] pos) (eBin g fa fb) := by
  obtain ⟨r, o, ho⟩ := ho
  obtain ⟨t1, p1, h1⟩ := ha
  obtain ⟨t2, p2, h2⟩ := hb
  refine ⟨_, pe_cmpR o p1 p2 hm, fun σ Q w ρ μ S E h => ?_⟩
  refine h1 σ _ w ρ μ S E ((PostR.bind h).imp fun w1 d s1 ⟨μ1, S1, q1⟩ v r1 => ?_)
  refine h2 σ _ w1 ρ μ1 S1 (E.mono s1.kp) ((PostR.bind q1).imp fun w2 e s2 ⟨μ2, S2, q2⟩ u r2 => ?_)
  exact ho w2 μ2 _ d e v u Q S2 (r1.mono s2.kp) r2 q2
/-- a comparison as a test -/
theorem st_cmp {op : CmpOp} {g : D → D → Store → Res D} (ho : OV X cls (compareOp op) g) (ha : SE X W cls a fa) (hb : SE X W cls b fb) (hm : behindInMarks op b = false := by first | exact nomark _ | rfl) : ST X W cls (.Compare a [op] [b] pos) (tB (eBin g fa fb)) := by
  obtain ⟨r, o, ho⟩ := ho
  obtain ⟨t1, p1, h1⟩ := ha
  obtain ⟨t2, p2, h2⟩ := hb
  refine ⟨_, pt_cmpR o p1 p2 hm, fun σ Q w ρ μ S E h => ?_⟩
  have h := PostR.bind h
  refine h1 σ _ w ρ μ S E ((PostR.bind h).imp fun w1 d s1 ⟨μ1, S1, q1⟩ v r1 => ?_)
  refine h2 σ _ w1 ρ μ1 S1 (E.mono s1.kp) ((PostR.bind q1).imp fun w2 e s2 ⟨μ2, S2, q2⟩ u r2 => ?_)
  refine ho w2 μ2 _ d e v u _ S2 (r1.mono s2.kp) r2 (q2.imp fun w3 z s3 ⟨μ3, S3, q3⟩ x rx => ?_)
  cases z with
  | bl k => exact ⟨k, rx, q3 w3 Step.refl S3⟩
  | _ => exact q3.elim
theorem se_chain {op op' : CmpOp} {g g' : D → D → Store → Res D} (ho : OV X cls (compareOp op) g) (ho' : OV X cls (compareOp op') g') (ha : SE X W cls a fa) (hb : SE X W cls b fb) (hc : SE X W cls c fc)
    (k : ∀ {r r' : R2} {t1 t2 t3 : TE}, OpR X (compareOp op) r → OpR X (compareOp op') r' → PE X a t1 → PE X b t2 → PE X c t3 → PE X (.Compare a [op, op'] [b, c] pos) (tChain r r' t1 t2 t3) := by exact fun o o' p1 p2 p3 => pe_chain o o' p1 p2 p3) :
    SE X W cls (.Compare a [op, op'] [b, c] pos) (eChain g g' fa fb fc) := by
  obtain ⟨r, o, ho⟩ := ho
  obtain ⟨r', o', ho'⟩ := ho'
  obtain ⟨t1, p1, h1⟩ := ha
  obtain ⟨t2, p2, h2⟩ := hb
  obtain ⟨t3, p3, h3⟩ := hc
  refine ⟨_, k o o' p1 p2 p3, fun σ Q w ρ μ S E h => ?_⟩
  refine h1 σ _ w ρ μ S E ((PostR.bind h).imp fun w1 d s1 ⟨μ1, S1, q1⟩ v r1 => ?_)
  refine h2 σ _ w1 ρ μ1 S1 (E.mono s1.kp) ((PostR.bind q1).imp fun w2 e s2 ⟨μ2, S2, q2⟩ u r2 => ?_)
  refine ho w2 μ2 _ d e v u _ S2 (r1.mono s2.kp) r2 ((PostR.bind q2).imp fun w3 z s3 ⟨μ3, S3, q3⟩ x rx => ?_)
  cases z with
  | bl k =>
    refine ⟨k, rx, ?_⟩
    cases k with
    | true =>
      refine h3 σ _ w3 ρ μ3 S3 (E.mono ((s1.trans s2).trans s3).kp) ((PostR.bind q3).imp fun w4 z4 s4 ⟨μ4, S4, q4⟩ x4 rx4 => ?_)
      refine ho' w4 μ4 _ e z4 u x4 _ S4 (r2.mono (s3.trans s4).kp) rx4 ((PostR.bind q4).imp fun w5 z5 s5 ⟨μ5, S5, q5⟩ x5 rx5 => ?_)
      cases z5 with
      | bl k' =>
        first
        | exact ⟨k', rx5, q5 w5 Step.refl S5 _ rfl⟩
        | exact q5 w5 Step.refl S5 _ rx5
      | _ => exact q5.elim
    | false => exact q3 w3 Step.refl S3 _ rfl
  | _ => exact q3.elim
theorem st_val (ha : SE X W cls a fa) (he : ∀ whole, isTrue a X.env whole = (do let v ← whole; standAt a.pos; holding [v] (truthy v)) := by intro _; rfl) : ST X W cls a (tB fa) := by
  obtain ⟨t1, p1, h1⟩ := ha
  refine ⟨_, pt_val p1 he, fun σ Q w ρ μ S E h => ?_⟩
  refine h1 σ _ w ρ μ S E ((PostR.bind h).imp fun w1 d s1 ⟨μ1, S1, q1⟩ v r1 => ?_)
  cases d with
  | bl k => exact ⟨k, r1, q1 w1 Step.refl S1⟩
  | _ => exact q1.elim
theorem st_not (ha : ST X W cls a ta) : ST X W cls (.UnaryOp .Not a pos) (tNot ta) := by
  obtain ⟨t1, p1, h1⟩ := ha
  refine ⟨_, pt_not p1, fun σ Q w ρ μ S E h => ?_⟩
  exact h1 σ _ w ρ μ S E ((PostR.bind h).imp fun w1 d s1 ⟨μ1, S1, q1⟩ => q1 w1 Step.refl S1)
theorem sw_or1 (ha : ST X W cls a ta) : SW X W cls (.BoolOp .Or [a] pos) ta := by
  obtain ⟨t1, p1, h1⟩ := ha
  exact ⟨_, pw_or1 p1, h1⟩
theorem sw_or {rest : List Expr} (ha : ST X W cls a ta) (hb : SW X W cls (.BoolOp .Or (b :: rest) pos) tb) : SW X W cls (.BoolOp .Or (a :: b :: rest) pos) (tOr ta tb) := by
  obtain ⟨t1, p1, h1⟩ := ha
  obtain ⟨t2, p2, h2⟩ := hb
  refine ⟨_, pw_or p1 p2, fun σ Q w ρ μ S E h => ?_⟩
  refine h1 σ _ w ρ μ S E ((PostR.bind h).imp fun w1 d s1 ⟨μ1, S1, q1⟩ => ?_)
  cases d with
  | false => exact h2 σ _ w1 ρ μ1 S1 (E.mono s1.kp) q1
  | true => exact q1 w1 Step.refl S1
theorem SW.st (ha : SW X W cls a ta) : ST X W cls a ta := by
  obtain ⟨t1, p1, h1⟩ := ha
  exact ⟨_, p1.pt, h1⟩
theorem se_if (hc : ST X W cls c tc) (ha : SE X W cls a fa) (hb : SE X W cls b fb) : SE X W cls (.IfExp c a b pos) (eIf tc fa fb) := by
  obtain ⟨t0, p0, h0⟩ := hc
  obtain ⟨t1, p1, h1⟩ := ha
  obtain ⟨t2, p2, h2⟩ := hb
  refine ⟨_, pe_ifExp p0 p1 p2, fun σ Q w ρ μ S E h => ?_⟩
  refine h0 σ _ w ρ μ S E ((PostR.bind h).imp fun w1 d s1 ⟨μ1, S1, q1⟩ => ?_)
  cases d with
  | true => exact h1 σ _ w1 ρ μ1 S1 (E.mono s1.kp) q1
  | false => exact h2 σ _ w1 ρ μ1 S1 (E.mono s1.kp) q1
theorem se_not (ha : SE X W cls a fa) : SE X W cls (.UnaryOp .Not a pos) (eNot fa) := by
  obtain ⟨t1, p1, h1⟩ := ha
  refine ⟨_, pe_not p1, fun σ Q w ρ μ S E h => ?_⟩
  refine h1 σ _ w ρ μ S E ((PostR.bind h).imp fun w1 d s1 ⟨μ1, S1, q1⟩ v r1 => ?_)
  cases d with
  | bl k => exact ⟨k, r1, q1 w1 Step.refl S1 _ rfl⟩
  | _ => exact q1.elim
theorem se_one {op} (ha : SE X W cls a fa) : SE X W cls (.BoolOp op [a] pos) fa := by
  obtain ⟨t1, p1, h1⟩ := ha
  exact ⟨_, pe_one p1, h1⟩
theorem se_and {rest : List Expr} (ha : SE X W cls a fa) (hb : SE X W cls (.BoolOp .And (b :: rest) pos) fb) : SE X W cls (.BoolOp .And (a :: b :: rest) pos) (eAnd fa fb) := by
  obtain ⟨t1, p1, h1⟩ := ha
  obtain ⟨t2, p2, h2⟩ := hb
  refine ⟨_, pe_and p1 p2, fun σ Q w ρ μ S E h => ?_⟩
  refine h1 σ _ w ρ μ S E ((PostR.bind h).imp fun w1 d s1 ⟨μ1, S1, q1⟩ v r1 => ?_)
  cases d with
  | bl k =>
    refine ⟨k, r1, ?_⟩
    cases k with
    | true => exact h2 σ _ w1 ρ μ1 S1 (E.mono s1.kp) q1
    | false => exact q1 w1 Step.refl S1 _ rfl
  | _ => exact q1.elim
theorem sa_nil : SA X W cls [] aNil := ⟨_, pa_nil, fun σ Q w ρ μ S E h => h w Step.refl S _ rfl⟩
theorem sa_cons {es : List Expr} {fr : FA} (ha : SE X W cls a fa) (hr : SA X W cls es fr) (hs : starEach (a :: es) X.env = (false, eval a X.env) :: starEach es X.env := by rfl) : SA X W cls (a :: es) (aCons fa fr) := by
  obtain ⟨t1, p1, h1⟩ := ha
  obtain ⟨t2, p2, h2⟩ := hr
  refine ⟨_, pa_cons p1 p2 hs, fun σ Q w ρ μ S E h => ?_⟩
  refine h1 σ _ w ρ μ S E ((PostR.bind h).imp fun w1 d s1 ⟨μ1, S1, q1⟩ v r1 => ?_)
  refine h2 σ _ w1 ρ μ1 S1 (E.mono s1.kp) ((PostR.bind q1).imp fun w2 e s2 ⟨μ2, S2, q2⟩ u r2 => ?_)
  exact q2 w2 Step.refl S2 _ (.cons (r1.mono s2.kp) r2)
theorem se_tup {es : List Expr} {fr : FA} {x1} (ha : SA X W cls es fr) : SE X W cls (.Tuple es x1 pos) (eTup fr) := by
  obtain ⟨t1, p1, h1⟩ := ha
  refine ⟨_, pe_tup p1, fun σ Q w ρ μ S E h => ?_⟩
  refine h1 σ _ w ρ μ S E ((PostR.bind h).imp fun w1 d s1 ⟨μ1, S1, q1⟩ v r1 => ?_)
  by_cases hl : d.length ≤ LIM
  · rw [if_pos hl] at q1
    exact ⟨by rw [r1.length]; exact lim_le hl, fun p hp => q1 (w1.up p (.tup v)) (step_new hp) (S1.new hp) _ (new_tup S1 hp r1)⟩
  · rw [if_neg hl] at q1
    exact q1.elim
theorem se_lst {es : List Expr} {fr : FA} (ha : SA X W cls es fr) : SE X W cls (.List es pos) (eLst fr) := by
  obtain ⟨t1, p1, h1⟩ := ha
  refine ⟨_, pe_lst p1, fun σ Q w ρ μ S E h => ?_⟩
  refine h1 σ _ w ρ μ S E ((PostR.bind h).imp fun w1 d s1 ⟨μ1, S1, q1⟩ v r1 => ?_)
  by_cases hl : d.length ≤ LIM
  · rw [if_pos hl] at q1
    exact ⟨by rw [r1.length]; exact lim_le hl, fun p hp => q1 (w1.up p (.lst v)) (step_new hp) (S1.new hp) _ (new_lst S1 hp r1)⟩
  · rw [if_neg hl] at q1
    exact q1.elim
/-- a built-in by its name -/
theorem se_callB {x : Str} {p : Pos} {es : List Expr} {fr : FA} {id : String} {F : List D → Store → Res D} (hc : CV X cls (.builtin id) F) (hg : Gl X x) (hm : X.mg x = none) (hv : bootBuiltins x = some (.builtin id)) (ha : SA X W cls (a :: es) fr)
    (hn : x ≠ "__name__" := by decide +kernel) (hdb : (x == ("__debug__" : Str)) = false := by decide +kernel)
    (he : starEach (a :: es) X.env = (false, eval a X.env) :: starEach es X.env := by rfl) (hpl : (backTo pos (starEach es X.env)).any (·.1) = false := by rfl) : SE X W cls (.Call (.Name x p) (a :: es) [] pos) (eCall F fr) := by
  obtain ⟨r, c, hc⟩ := hc
  obtain ⟨t1, p1, h1⟩ := ha
  refine ⟨_, pe_callB c hg hm hv p1 hn hdb he hpl, fun σ Q w ρ μ S E h => ?_⟩
  refine h1 σ _ w ρ μ S E ((PostR.bind h).imp fun w1 d s1 ⟨μ1, S1, q1⟩ v r1 => ?_)
  exact hc w1 μ1 _ d v Q S1 r1 q1
theorem se_callTy {x : Str} {p : Pos} {es : List Expr} {fr : FA} {T : String} {F : List D → Store → Res D} (hc : CV X cls (.type T) F) (hg : Gl X x) (hm : X.mg x = none) (hv : bootBuiltins x = some (.type T)) (ha : SA X W cls (a :: es) fr)
    (hn : x ≠ "__name__" := by decide +kernel) (hdb : (x == ("__debug__" : Str)) = false := by decide +kernel)
    (he : starEach (a :: es) X.env = (false, eval a X.env) :: starEach es X.env := by rfl) (hpl : (backTo pos (starEach es X.env)).any (·.1) = false := by rfl) : SE X W cls (.Call (.Name x p) (a :: es) [] pos) (eCall F fr) := by
  obtain ⟨r, c, hc⟩ := hc
  obtain ⟨t1, p1, h1⟩ := ha
  refine ⟨_, pe_callTy c hg hm hv p1 hn hdb he hpl, fun σ Q w ρ μ S E h => ?_⟩
  refine h1 σ _ w ρ μ S E ((PostR.bind h).imp fun w1 d s1 ⟨μ1, S1, q1⟩ v r1 => ?_)
  exact hc w1 μ1 _ d v Q S1 r1 q1
def spD (K : PySem.W.Frag) (cls : Nat → Option Addr) (F : List D → Store → Res D) (n : Nat) : Sp := fun vs H Q E => ∃ (w : Wd) (ds : List D) (μ : Store), w.H = H ∧ ds.length = n ∧ RelS K cls w μ ∧ RVs K cls w ds vs ∧
  PostR K cls w E (fun w' d => ∀ v, RV K cls w' d v → Q v w'.H) (F ds μ)
/-- a def as the top has left it, with what it reads as -/
structure Df (P : Program) (W : World) (K : PySem.W.Frag) (cls : Nat → Option Addr) (mg : Str → Option Value) (base : Heap) (k : Nat) (x : Str) (n : Nat) (F : List D → Store → Res D) : Prop where
  ex : ∃ (f : Addr) (fd : FuncData) (ps : List Str), FnOk P W K mg base (CX P W) k f fd ps (spD K cls F n) ∧ mg x = some (.ref f) ∧ PySem.W.keepIn K (.ref f) = true ∧ Binds K fd ps [] ∧ ps.length = n
def eCallD (n : Nat) (F : List D → Store → Res D) (fs : FA) : FE := fun ρ μ => (fs ρ μ).bind fun ds μ1 => if ds.length = n then F ds μ1 else .stuck
theorem se_call {k n : Nat} {x : Str} {p : Pos} {es : List Expr} {fr : FA} {F : List D → Store → Res D} (tk : Takes X W) (G : Df X.prog X.w X.K cls X.mg X.base k x n F) (hr : Room k X.A) (hg : Gl X x) (ha : SA X W cls (a :: es) fr)
    (hdb : (x == ("__debug__" : Str)) = false := by decide +kernel) (he : starEach (a :: es) X.env = (false, eval a X.env) :: starEach es X.env := by rfl) (hpl : (backTo pos (starEach es X.env)).any (·.1) = false := by rfl) :
    SE X W cls (.Call (.Name x p) (a :: es) [] pos) (eCallD n F fr) := by
  obtain ⟨f, fd, ps, hf, hm, hk, hb, hn⟩ := G.ex
  obtain ⟨t1, p1, h1⟩ := ha
  refine ⟨_, pe_callS (E := WE W) hf hr hg hm hk hb (passAt tk) p1 hdb he hpl, fun σ Q w ρ μ S E h => ?_⟩
  refine h1 σ _ w ρ μ S E ((PostR.bind h).imp fun w1 d s1 ⟨μ1, S1, q1⟩ v r1 => ?_)
  by_cases hl : d.length = n
  · rw [if_pos hl] at q1
    exact ⟨w1, d, μ1, rfl, hl, S1, r1, q1⟩
  · rw [if_neg hl] at q1
    exact q1.elim
end
end Fw
set_option Elab.async false
set_option linter.all false
set_option maxRecDepth 100000
set_option autoImplicit false
namespace Fw
open PySem L2 PyProof.Rows
section
variable {K : PySem.W.Frag} {cls : Nat → Option Addr} {w : Wd} {μ : Store}
def lstOf (μ : Store) : D → Option (List D)
  | .lst ds => some ds
  | .loc n => match μ[n]? with
    | some (.lst ds) => some ds
    | _ => none
  | _ => none
theorem lstOf_at (S : RelS K cls w μ) {d : D} {x : V} {ds : List D} (r : RV K cls w d x) (h : lstOf μ d = some ds) : ∃ a vs, x = .ref a ∧ w.H a = some (.lst vs) ∧ RVs K cls w ds vs := by
  cases d with
  | lst es =>
    cases h
    obtain ⟨a, vs, e, ⟨h1, _⟩, h2⟩ := r
    exact ⟨a, vs, e, h1, h2⟩
  | loc n =>
    obtain ⟨a, e, hn⟩ := r
    simp only [lstOf] at h
    split at h
    · rename_i es hc
      cases h
      obtain ⟨a', h1, vs, h2, h3⟩ := S.cell n _ hc
      rw [hn] at h1
      cases h1
      exact ⟨a, vs, e, h2, h3⟩
    · cases h
  | _ => cases h
/-- any sequence but a text -/
def seqOf (μ : Store) : D → Option (List D)
  | .lst ds => some ds
  | .tup ds => some ds
  | .flst is => some (is.map .int)
  | .loc n => match μ[n]? with
    | some (.lst ds) => some ds
    | _ => none
  | _ => none
theorem seqOf_at (S : RelS K cls w μ) {d : D} {x : V} {ds : List D} (r : RV K cls w d x) (h : seqOf μ d = some ds) : ∃ a vs, x = .ref a ∧ (SqL K w.H a vs ∨ SqT K w.H a vs) ∧ RVs K cls w ds vs := by
  cases d with
  | lst es =>
    obtain ⟨a, vs, e, h1, h2⟩ := lstOf_at S r h
    exact ⟨a, vs, e, .inl (.inl (.inl h1)), h2⟩
  | loc n =>
    obtain ⟨a, vs, e, h1, h2⟩ := lstOf_at S r h
    exact ⟨a, vs, e, .inl (.inl (.inl h1)), h2⟩
  | tup es =>
    cases h
    obtain ⟨a, vs, e, h1, h2⟩ := r
    exact ⟨a, vs, e, .inr h1.sq, h2⟩
  | flst is =>
    cases h
    obtain ⟨a, e, h1⟩ := r
    exact ⟨a, _, e, .inl h1.sq, RVs.ints⟩
  | _ => cases h
theorem strEq {s : List Nat} : (⟨s.toArray⟩ : Str).cps.toList = s := by simp
theorem strLen {s : List Nat} : (⟨s.toArray⟩ : Str).length = s.length := by show s.toArray.size = s.length; simp
theorem strApp {s t : List Nat} : (⟨s.toArray⟩ : Str) ++ (⟨t.toArray⟩ : Str) = (⟨(s ++ t).toArray⟩ : Str) := by
  show Str.mk (s.toArray ++ t.toArray) = _
  simp
end
def oAdd : D → D → Store → Res D := fun d e μ => match d, e with
  | .int i, .int j => .ok (.int (i + j)) μ
  | .str a, .str b => if a.length + b.length ≤ LIM then .ok (.str (a ++ b)) μ else .stuck
  | .tup a, .tup b => if a.length + b.length ≤ LIM then .ok (.tup (a ++ b)) μ else .stuck
  | d, e => match lstOf μ d, lstOf μ e with
    | some a, some b => if a.length + b.length ≤ LIM then .ok (.lst (a ++ b)) μ else .stuck
    | _, _ => .stuck
def oSub : D → D → Store → Res D := fun d e μ => match d, e with
  | .int i, .int j => .ok (.int (i - j)) μ
  | _, _ => .stuck
def Sm (i : Int) : Bool := decide (-(2 ^ 64) < i) && decide (i < 2 ^ 64)
def oMul : D → D → Store → Res D := fun d e μ => match d, e with
  | .int i, .int j => if (Sm i || Sm j) = true then .ok (.int (i * j)) μ else .stuck
  | .str a, .int j => if j ≤ 1000 ∧ -1000 ≤ j ∧ a.length ≤ 1000 then .ok (.str (List.replicate j.toNat a).flatten) μ else .stuck
  | d, .int j => match lstOf μ d with
    | some a => if j ≤ 1000 ∧ -1000 ≤ j ∧ a.length ≤ 1000 then .ok (.lst (List.replicate j.toNat a).flatten) μ else .stuck
    | _ => .stuck
  | _, _ => .stuck
def oMod : D → D → Store → Res D := fun d e μ => match d, e with
  | .int i, .int j => if 0 < j then .ok (.int (i % j)) μ else .stuck
  | _, _ => .stuck
def oFdv : D → D → Store → Res D := fun d e μ => match d, e with
  | .int i, .int j => if 0 < j ∧ j.natAbs.log2 < 9000 then .ok (.int (i / j)) μ else .stuck
  | _, _ => .stuck
def oPow : D → D → Store → Res D := fun d e μ => match d, e with
  | .int i, .int j => if 0 ≤ j ∧ j ≤ 1000 ∧ Sm i = true then .ok (.int (i ^ j.toNat)) μ else .stuck
  | _, _ => .stuck
section
variable {X : Cx} {W : WX} {cls : Nat → Option Addr}
theorem sm_ok {i : Int} (h : Sm i = true) : -(2 ^ 64) < i ∧ i < 2 ^ 64 := by
  unfold Sm at h
  simpa using h
theorem ov_add : OV X cls (binaryOp .Add) oAdd := by
  refine ⟨_, op_add.or (op_add_str.or (op_catA.or op_cat)), fun w μ Er d e x y Q S r1 r2 h => ?_⟩
  have lsts : ∀ {a b : List D}, lstOf μ d = some a → lstOf μ e = some b → PostR X.K cls w Er (fun w' d => ∀ v, RV X.K cls w' d v → Q v w'.H) (if a.length + b.length ≤ LIM then Res.ok (.lst (a ++ b)) μ else .stuck) →
      L2.rCat x y w.H Q := fun {a b} ha hb h => by
    obtain ⟨l, vs, e1, h1, h2⟩ := lstOf_at S r1 ha
    obtain ⟨m, us, e2, h3, h4⟩ := lstOf_at S r2 hb
    split at h
    · rename_i hl
      refine ⟨l, m, vs, us, e1, e2, h1, h3, by rw [h2.length, h4.length]; exact lim_le hl, fun p hp => ?_⟩
      exact h (w.up p (.lst (vs ++ us))) (step_new hp) (S.new hp) _ (new_lst S hp (h2.append h4))
    · exact h.elim
  unfold oAdd at h
  split at h
  · exact .inl ⟨_, _, r1, r2, h w Step.refl S _ rfl⟩
  · rename_i a b
    split at h
    · rename_i hl
      refine .inr (.inl ⟨_, _, r1, r2, by rw [strLen, strLen]; exact lim_le hl, ?_⟩)
      rw [strApp]
      exact h w Step.refl S _ rfl
    · exact h.elim
  · rename_i a b
    split at h
    · rename_i hl
      obtain ⟨p, vs, e1, t1, q1⟩ := r1
      obtain ⟨q, us, e2, t2, q2⟩ := r2
      refine .inr (.inr (.inl ⟨p, q, vs, us, e1, e2, t1.sq, t2.sq, by rw [q1.length, q2.length]; exact lim_le hl, fun z => ?_, fun z z' => ?_, fun z z' n hn => ?_⟩))
      · subst z
        refine h w Step.refl S _ ⟨q, us, rfl, t2, ?_⟩
        have : a = [] := List.length_eq_zero_iff.mp (by rw [← q1.length]; rfl)
        rw [this]
        exact q2
      · subst z'
        refine h w Step.refl S _ ⟨p, vs, rfl, t1, ?_⟩
        have : b = [] := List.length_eq_zero_iff.mp (by rw [← q2.length]; rfl)
        rw [this, List.append_nil]
        exact q1
      · exact h (w.up n (.tup (vs ++ us))) (step_new hn) (S.new hn) _ (new_tup S hn (q1.append q2))
    · exact h.elim
  · split at h
    · rename_i a b ha hb
      exact .inr (.inr (.inr (lsts ha hb h)))
    · exact h.elim
theorem ov_sub : OV X cls (binaryOp .Sub) oSub := by
  refine ⟨_, op_sub, fun w μ Er d e x y Q S r1 r2 h => ?_⟩
  unfold oSub at h
  split at h
  · exact ⟨_, _, r1, r2, h w Step.refl S _ rfl⟩
  · exact h.elim
theorem op_repS : OpR X (binaryOp .Mult) (fun x y H Q => ∃ (a : List Nat) (j : Int), x = .str ⟨a.toArray⟩ ∧ y = .int j ∧ (j ≤ 1000 ∧ -1000 ≤ j ∧ a.length ≤ 1000) ∧ Q (.str ⟨(List.replicate j.toNat a).flatten.toArray⟩) H) := by
  intro pins s σ H x y v u Q I rx ry h
  obtain ⟨a, j, rfl, rfl, ⟨h1, h2, h3⟩, q⟩ := h
  obtain ⟨t, rfl⟩ := rx
  obtain ⟨t', rfl⟩ := ry
  have hl : (⟨a.toArray⟩ : Str).length = a.length := strLen
  refine PySem.P.mul_str (by rw [decide_eq_false (by omega), decide_eq_false (by omega)]; rfl) (fun g1 _ z => ?_) (fun g1 _ => ?_) ?_
  · rw [hl] at z
    have hj : (1000 : Int) * j ≤ 2 ^ 63 - 1 := by omega
    have : (1000 : Int) ≤ (2 ^ 63 - 1) / j := (Int.le_ediv_iff_mul_le (by omega)).mpr hj
    omega
  · rw [hl]
    have hm : a.length * j.toNat ≤ 1000 * 1000 := Nat.mul_le_mul h3 (by omega)
    unfold Builtin.Str.tooLong
    rw [sizeLine_eq]
    simp
    omega
  · have key : ∀ n : Nat, (List.replicate n a.toArray).foldl (· ++ ·) #[] = (List.replicate n a).flatten.toArray := fun n => by
      have gen : ∀ (n : Nat) (b : List Nat), (List.replicate n a.toArray).foldl (· ++ ·) b.toArray = (b ++ (List.replicate n a).flatten).toArray := by
        intro n
        induction n with
        | zero => intro b; simp
        | succ n ih =>
          intro b
          rw [List.replicate_succ, List.foldl_cons, List.append_toArray, ih, List.replicate_succ, List.flatten_cons, List.append_assoc]
      simpa using gen n []
    split
    · rename_i hn
      have : j.toNat = 0 := by omega
      rw [this] at q
      exact ⟨by decide, ⟨V.str Str.empty, H, I.tok _, ⟨_, rfl⟩, q⟩⟩
    · split
      · rename_i hn hb
        rw [Bool.or_eq_true] at hb
        rcases hb with hb | hb
        · have : j = 1 := by simpa using hb
          subst this
          have e : (List.replicate (1 : Int).toNat a).flatten = a := by simp
          rw [e] at q
          exact ⟨V.str _, H, I, ⟨_, rfl⟩, q⟩
        · rw [hl] at hb
          have : a = [] := List.length_eq_zero_iff.mp (by simpa using hb)
          subst this
          have e : (List.replicate j.toNat ([] : List Nat)).flatten = [] := by
            rw [List.flatten_eq_nil_iff]
            intro l hl
            exact List.eq_of_mem_replicate hl
          rw [e] at q
          exact ⟨V.str _, H, I, ⟨_, rfl⟩, q⟩
      · rw [key]
        refine ⟨?_, ⟨V.str _, H, I.tok _, ⟨_, rfl⟩, q⟩⟩
        show ((List.replicate j.toNat a).flatten.toArray).size ≤ sizeLine
        have e : (List.replicate j.toNat a).flatten.length = j.toNat * a.length := by simp
        rw [List.size_toArray, e]
        have hm : j.toNat * a.length ≤ 1000 * 1000 := Nat.mul_le_mul (by omega) h3
        exact lim_le hm
theorem ov_mul : OV X cls (binaryOp .Mult) oMul := by
  refine ⟨_, op_mul.or (op_repS.or op_rep), fun w μ Er d e x y Q S r1 r2 h => ?_⟩
  unfold oMul at h
  split at h
  · split at h
    · rename_i i j hs
      refine .inl ⟨_, _, r1, r2, ?_, h w Step.refl S _ rfl⟩
      rw [Bool.or_eq_true] at hs
      exact hs.imp sm_ok sm_ok
    · exact h.elim
  · split at h
    · rename_i a j hs
      exact .inr (.inl ⟨_, _, r1, r2, hs, h w Step.refl S _ rfl⟩)
    · exact h.elim
  · split at h
    · rename_i a ha
      split at h
      · rename_i hs
        obtain ⟨l, vs, e1, h1, h2⟩ := lstOf_at S r1 ha
        have hm : ∀ n : Nat, n ≤ 1000 → vs.length * n ≤ sizeLine := fun n hn => by
          rw [h2.length]
          exact lim_le (Nat.mul_le_mul hs.2.2 hn)
        exact .inr (.inr ⟨l, _, vs, e1, r2, h1, by omega, by omega, hm _ (by omega), fun p hp => h (w.up p _) (step_new hp) (S.new hp) _ (new_lst S hp (h2.rep _))⟩)
      · exact h.elim
    · exact h.elim
  · exact h.elim
theorem ov_mod : OV X cls (binaryOp .Mod) oMod := by
  refine ⟨_, op_mod, fun w μ Er d e x y Q S r1 r2 h => ?_⟩
  unfold oMod at h
  split at h
  · split at h
    · rename_i hs
      exact ⟨_, _, r1, r2, hs, h w Step.refl S _ rfl⟩
    · exact h.elim
  · exact h.elim
theorem ov_fdv : OV X cls (binaryOp .FloorDiv) oFdv := by
  refine ⟨_, op_fdivW, fun w μ Er d e x y Q S r1 r2 h => ?_⟩
  unfold oFdv at h
  split at h
  · split at h
    · rename_i hs
      exact ⟨_, _, r1, r2, hs, h w Step.refl S _ rfl⟩
    · exact h.elim
  · exact h.elim
theorem ov_pow : OV X cls (binaryOp .Pow) oPow := by
  refine ⟨_, op_pow, fun w μ Er d e x y Q S r1 r2 h => ?_⟩
  unfold oPow at h
  split at h
  · split at h
    · rename_i hs
      refine ⟨_, _, r1, r2, ⟨hs.1, by omega, ?_⟩, h w Step.refl S _ rfl⟩
      have := sm_ok hs.2.2
      omega
    · exact h.elim
  · exact h.elim
def oI (p : Int → Int → Bool) : D → D → Store → Res D := fun d e μ => match d, e with
  | .int i, .int j => .ok (.bl (p i j)) μ
  | _, _ => .stuck
theorem ov_I {op : CmpOp} {p : Int → Int → Bool} (ho : OpR X (compareOp op) (rI0 fun i j => .bl (p i j))) : OV X cls (compareOp op) (oI p) := by
  refine ⟨_, ho, fun w μ Er d e x y Q S r1 r2 h => ?_⟩
  unfold oI at h
  split at h
  · exact ⟨_, _, r1, r2, h w Step.refl S _ rfl⟩
  · exact h.elim
def oLt := oI fun i j => decide (i < j)
def oLe := oI fun i j => decide (i ≤ j)
def oGt := oI fun i j => decide (j < i)
def oGe := oI fun i j => decide (j ≤ i)
theorem ov_lt : OV X cls (compareOp .Lt) oLt := ov_I op_lt
theorem ov_le : OV X cls (compareOp .LtE) oLe := ov_I op_le
theorem ov_gt : OV X cls (compareOp .Gt) oGt := ov_I op_gt
theorem ov_ge : OV X cls (compareOp .GtE) oGe := ov_I op_ge
def D.isNon : D → Bool
  | .non => true
  | _ => false
theorem isNon_iff {K : PySem.W.Frag} {w : Wd} {d : D} {x : V} (r : RV K cls w d x) : decide (x = .non) = d.isNon := by
  cases d with
  | non => rw [show x = V.non from r]; rfl
  | bl b => rw [show x = V.bl b from r]; rfl
  | int b => rw [show x = V.int b from r]; rfl
  | str b => rw [show x = V.str _ from r]; rfl
  | tup b => obtain ⟨_, _, e, _⟩ := r; rw [e]; rfl
  | lst b => obtain ⟨_, _, e, _⟩ := r; rw [e]; rfl
  | flst b => obtain ⟨_, e, _⟩ := r; rw [e]; rfl
  | obj _ _ b => obtain ⟨_, _, _, _, e, _⟩ := r; rw [e]; rfl
  | loc b => obtain ⟨_, e, _⟩ := r; rw [e]; rfl
  | ptr a => rw [show x = V.ref a from r]; rfl
  | dct _ _ => obtain ⟨_, _, e, _⟩ := r; rw [e]; rfl
def oIsN : D → D → Store → Res D := fun d e μ => match e with
  | .non => .ok (.bl d.isNon) μ
  | _ => .stuck
def oNotN : D → D → Store → Res D := fun d e μ => match e with
  | .non => .ok (.bl (!d.isNon)) μ
  | _ => .stuck
theorem ov_notN : OV X cls (compareOp .IsNot) oNotN := by
  refine ⟨_, op_notN, fun w μ Er d e x y Q S r1 r2 h => ?_⟩
  unfold oNotN at h
  split at h
  · exact ⟨r2, h w Step.refl S _ (by rw [isNon_iff r1]; rfl)⟩
  · exact h.elim
end
end Fw
set_option Elab.async false
set_option linter.all false
set_option maxRecDepth 100000
set_option autoImplicit false
namespace Fw
open PySem L2 PyProof.Rows
mutual
def toPy : D → PyData
  | .non => .none
  | .bl b => .bool b
  | .int i => .int i
  | .str s => .str ⟨s.toArray⟩
  | .tup ds => .tuple (toPys ds)
  | .lst ds => .list (toPys ds)
  | .flst is => .list (is.map .int)
  | .obj _ _ _ => .dict []
  | .loc _ => .dict []
  | .ptr _ => .dict []
  | .dct _ _ => .dict []
def toPys : List D → List PyData
  | [] => []
  | d :: ds => toPy d :: toPys ds
end
def toPyM (μ : Store) : D → PyData
  | .loc n => match μ[n]? with
    | some (.lst ds) => .list (toPys ds)
    | _ => .dict []
  | d => toPy d
/-- a thing that == can tell: texts of code points, not too deep, nothing else in it -/
def okD (p : PyData) : Bool := SeqAt.shaped p
section
variable {K : PySem.W.Frag} {cls : Nat → Option Addr} {w : Wd} {μ : Store}
mutual
theorem dp_of : ∀ {d : D} {x : V}, RV K cls w d x → (toPy d).canLay0 = true → Dp K w.H x (toPy d)
  | .non, _, r, _ => by rw [show _ = V.non from r]; exact .non
  | .bl b, _, r, _ => by rw [show _ = V.bl b from r]; exact .bl b
  | .int b, _, r, _ => by rw [show _ = V.int b from r]; exact .int b
  | .str b, _, r, _ => by rw [show _ = V.str _ from r]; exact .str _
  | .tup ds, _, ⟨a, vs, e, t, r⟩, h => by rw [e]; exact .tup t.sq (dps_of r h)
  | .lst ds, _, ⟨a, vs, e, t, r⟩, h => by rw [e]; exact .lst (.inl (.inl t.1)) (dps_of r h)
  | .flst is, _, ⟨a, e, t⟩, h => by rw [e]; exact .lst t.sq (dps_ints is)
  | .obj _ _ _, _, _, h => nomatch h
  | .loc _, _, _, h => nomatch h
  | .ptr _, _, _, h => nomatch h
  | .dct _ _, _, _, h => nomatch h
theorem dps_of : ∀ {ds : List D} {vs : List V}, RVs K cls w ds vs → PyData.canLayAll0 (toPys ds) = true → DpAll K w.H vs (toPys ds)
  | [], _, r, _ => by rw [show _ = [] from r]; exact .nil
  | d :: ds, _, ⟨v, vs, e, r, t⟩, h => by
    have h' : (toPy d).canLay0 = true ∧ PyData.canLayAll0 (toPys ds) = true := by simpa [toPys, PyData.canLayAll0] using h
    rw [e]
    exact .cons (dp_of r h'.1) (dps_of t h'.2)
theorem dps_ints : ∀ is : List Int, DpAll K w.H (is.map V.int) (is.map PyData.int)
  | [] => .nil
  | i :: is => .cons (.int i) (dps_ints is)
end
theorem dpM_of (S : RelS K cls w μ) {d : D} {x : V} (r : RV K cls w d x) (h : okD (toPyM μ d) = true) : Dp K w.H x (toPyM μ d) := by
  have h1 : (toPyM μ d).canLay0 = true := by
    unfold okD SeqAt.shaped at h
    rw [Bool.and_eq_true] at h
    exact h.1
  cases d with
  | loc n =>
    simp only [toPyM] at h1 ⊢
    split
    · rename_i ds hc
      rw [hc] at h1
      obtain ⟨a, vs, e, h2, h3⟩ := lstOf_at S (d := .loc n) (ds := ds) r (by simp [lstOf, hc])
      rw [e]
      exact .lst (.inl (.inl h2)) (dps_of h3 h1)
    · rename_i hc
      split at h1
      · rename_i ds hc'
        exact absurd hc' (hc ds)
      · exact nomatch h1
  | _ => exact dp_of r h1
end
def oEq : D → D → Store → Res D := fun d e μ => if (okD (toPyM μ d) && okD (toPyM μ e)) = true then .ok (.bl (PyData.eqv (toPyM μ d) (toPyM μ e))) μ else .stuck
def oNe : D → D → Store → Res D := fun d e μ => if (okD (toPyM μ d) && okD (toPyM μ e)) = true then .ok (.bl (!PyData.eqv (toPyM μ d) (toPyM μ e))) μ else .stuck
section
variable {X : Cx} {W : WX} {cls : Nat → Option Addr}
theorem ov_eq (hu : X.A.units + 64 < cLine) : OV X cls (compareOp .Eq) oEq := by
  refine ⟨_, op_eqD hu, fun w μ Er d e x y Q S r1 r2 h => ?_⟩
  unfold oEq at h
  split at h
  · rename_i hs
    rw [Bool.and_eq_true] at hs
    exact ⟨_, _, dpM_of S r1 hs.1, dpM_of S r2 hs.2, hs.1, hs.2, h w Step.refl S _ rfl⟩
  · exact h.elim
theorem ov_ne (hu : X.A.units + 64 < cLine) : OV X cls (compareOp .NotEq) oNe := by
  refine ⟨_, op_neD hu, fun w μ Er d e x y Q S r1 r2 h => ?_⟩
  unfold oNe at h
  split at h
  · rename_i hs
    rw [Bool.and_eq_true] at hs
    exact ⟨_, _, dpM_of S r1 hs.1, dpM_of S r2 hs.2, hs.1, hs.2, h w Step.refl S _ rfl⟩
  · exact h.elim
end
def flatD : D → Bool
  | .non => true
  | .bl _ => true
  | .int _ => true
  | .str _ => true
  | _ => false
def eqDf : D → D → Bool
  | .non, .non => true
  | .bl a, .bl b => a == b
  | .bl a, .int b => (if a then 1 else 0) == b
  | .int a, .bl b => a == (if b then 1 else 0)
  | .int a, .int b => a == b
  | .str a, .str b => a == b
  | _, _ => false
def inD (d : D) (ds : List D) : Bool := ds.any fun y => eqDf y d
def oIn (neg : Bool) : D → D → Store → Res D := fun d e μ => match d, e with
  | .str [c], .str s => .ok (.bl (if neg then !decide (c ∈ s) else decide (c ∈ s))) μ
  | d, e => match seqOf μ e with
    | some ds => if (flatD d && ds.all flatD) = true then .ok (.bl (if neg then !inD d ds else inD d ds)) μ else .stuck
    | none => .stuck
section
variable {K : PySem.W.Frag} {cls : Nat → Option Addr} {w : Wd} {μ : Store}
theorem flat_of {d : D} {x : V} (r : RV K cls w d x) (h : flatD d = true) : flatV x = true := by
  cases d with
  | non => rw [show x = V.non from r]; rfl
  | bl b => rw [show x = V.bl b from r]; rfl
  | int b => rw [show x = V.int b from r]; rfl
  | str b => rw [show x = V.str _ from r]; rfl
  | _ => exact nomatch h
theorem str_beq {a b : List Nat} : ((⟨a.toArray⟩ : Str) == (⟨b.toArray⟩ : Str)) = (a == b) := by
  by_cases h : a = b
  · subst h; simp
  · have : ¬ (⟨a.toArray⟩ : Str) = ⟨b.toArray⟩ := fun e => h (by simpa using congrArg (fun s : Str => s.cps.toList) e)
    rw [beq_eq_false_iff_ne.mpr this, beq_eq_false_iff_ne.mpr h]
theorem eqV_of {d e : D} {x y : V} (r : RV K cls w d x) (r2 : RV K cls w e y) (h : flatD d = true) (h2 : flatD e = true) : eqV x y = eqDf d e := by
  cases d with
  | non => rw [show x = V.non from r]; cases e with
    | non => rw [show y = V.non from r2]; rfl
    | bl b => rw [show y = V.bl b from r2]; rfl
    | int b => rw [show y = V.int b from r2]; rfl
    | str b => rw [show y = V.str _ from r2]; rfl
    | _ => exact nomatch h2
  | bl b => rw [show x = V.bl b from r]; cases e with
    | non => rw [show y = V.non from r2]; rfl
    | bl b => rw [show y = V.bl b from r2]; rfl
    | int b => rw [show y = V.int b from r2]; rfl
    | str b => rw [show y = V.str _ from r2]; rfl
    | _ => exact nomatch h2
  | int b => rw [show x = V.int b from r]; cases e with
    | non => rw [show y = V.non from r2]; rfl
    | bl b => rw [show y = V.bl b from r2]; rfl
    | int b => rw [show y = V.int b from r2]; rfl
    | str b => rw [show y = V.str _ from r2]; rfl
    | _ => exact nomatch h2
  | str b => rw [show x = V.str _ from r]; cases e with
    | non => rw [show y = V.non from r2]; rfl
    | bl b => rw [show y = V.bl b from r2]; rfl
    | int b => rw [show y = V.int b from r2]; rfl
    | str b => rw [show y = V.str _ from r2]; exact str_beq
    | _ => exact nomatch h2
  | _ => exact nomatch h
theorem inV_of {d : D} {x : V} (r : RV K cls w d x) (h : flatD d = true) : ∀ {ds : List D} {vs : List V}, RVs K cls w ds vs → ds.all flatD = true → vs.all flatV = true ∧ inV x vs = inD d ds
  | [], _, t, _ => by rw [show _ = [] from t]; exact ⟨rfl, rfl⟩
  | e :: ds, _, ⟨v, vs, q, t, ts⟩, hf => by
    rw [List.all_cons, Bool.and_eq_true] at hf
    obtain ⟨h1, h2⟩ := inV_of r h ts hf.2
    refine ⟨?_, ?_⟩
    · rw [q, List.all_cons, flat_of t hf.1, h1]; rfl
    · rw [q]
      show (eqV v x || vs.any fun y => eqV y x) = (eqDf e d || ds.any fun y => eqDf y d)
      rw [eqV_of t r hf.1 h]
      show (eqDf e d || inV x vs) = (eqDf e d || inD d ds)
      rw [h2]
end
section
variable {X : Cx} {W : WX} {cls : Nat → Option Addr}
theorem ov_inG {neg : Bool} {op : CmpOp} (h1 : OpR X (compareOp op) (fun x y H Q => ∃ (c : Nat) (z : Str), x = .str ⟨#[c]⟩ ∧ y = .str z ∧ Q (.bl (if neg then !decide (c ∈ z.cps.toList) else decide (c ∈ z.cps.toList))) H))
    (h2 : OpR X (compareOp op) (rIn X.K neg)) : OV X cls (compareOp op) (oIn neg) := by
  refine ⟨_, h1.or h2, fun w μ Er d e x y Q S r1 r2 h => ?_⟩
  unfold oIn at h
  split at h
  · rename_i c s
    have h := h w Step.refl S _ rfl
    refine .inl ⟨c, _, r1, r2, ?_⟩
    rw [strEq]
    exact h
  · split at h
    · rename_i ds hd
      split at h
      · rename_i hs
        rw [Bool.and_eq_true] at hs
        obtain ⟨a, vs, e1, h3, h4⟩ := seqOf_at S r2 hd
        obtain ⟨h5, h6⟩ := inV_of r1 hs.1 h4 hs.2
        have h := h w Step.refl S _ rfl
        rw [← h6] at h
        exact .inr ⟨a, vs, e1, h3, flat_of r1 hs.1, h5, h⟩
      · exact h.elim
    · exact h.elim
theorem ov_in : OV X cls (compareOp .In) (oIn false) := ov_inG (fun pins s σ H x y v u Q I rx ry h => op_in_sign pins s σ H x y v u Q I rx ry (by simpa using h)) op_in_seq
end
def oIx : D → D → Store → Res D := fun d e μ => match d, e with
  | .str s, .int i => if s.length ≤ LIM then match atI s i with
      | some c => .ok (.str [c]) μ
      | none => .stuck
    else .stuck
  | d, .int i => match seqOf μ d with
    | some ds => match atI ds i with
      | some e => .ok e μ
      | none => .stuck
    | none => .stuck
  | _, _ => .stuck
def cutD {α : Type} (xs : List α) (lo hi : Option Int) : List α := (xs.drop (HT.sIx xs.length 0 lo)).take (HT.sIx xs.length xs.length hi - HT.sIx xs.length 0 lo)
def oCut : D → Option Int → Option Int → Store → Res D := fun d lo hi μ => match d with
  | .str s => if s.length ≤ LIM then .ok (.str (cutD s lo hi)) μ else .stuck
  | .tup ds => .ok (.tup (cutD ds lo hi)) μ
  | d => match seqOf μ d with
    | some ds => .ok (.lst (cutD ds lo hi)) μ
    | none => .stuck
abbrev FO := Env → Store → Res (Option Int)
def oNone : FO := fun _ μ => .ok none μ
def oSome (fa : FE) : FO := fun ρ μ => (fa ρ μ).bind fun d μ1 => match d with
  | .int i => .ok (some i) μ1
  | _ => .stuck
def eCut (fa : FE) (fl fh : FO) : FE := fun ρ μ => (fa ρ μ).bind fun d μ1 => (fl ρ μ1).bind fun l μ2 => (fh ρ μ2).bind fun u μ3 => oCut d l u μ3
section
variable {K : PySem.W.Frag} {cls : Nat → Option Addr} {w : Wd} {μ : Store}
theorem RVs.atI {ds : List D} {vs : List V} {i : Int} {d : D} (r : RVs K cls w ds vs) (h : L2.atI ds i = some d) : ∃ v, L2.atI vs i = some v ∧ RV K cls w d v := by
  unfold L2.atI at h ⊢
  rw [r.length]
  cases e : ixN ds.length i with
  | none => rw [e] at h; cases h
  | some j =>
    rw [e] at h
    exact r.get h
theorem RVs.cut {ds : List D} {vs : List V} {lo hi : Option Int} (r : RVs K cls w ds vs) : RVs K cls w (cutD ds lo hi) (cutV vs lo hi) := by
  unfold cutD cutV
  rw [r.length]
  exact (r.drop _).take _
end
section
variable {K : PySem.W.Frag} {cls : Nat → Option Addr} {w : Wd} {μ : Store} {Q : VK} {Er : XK}
theorem ix_val (S : RelS K cls w μ) {d e : D} {x y : V} (r1 : RV K cls w d x) (r2 : RV K cls w e y) (q2 : PostR K cls w Er (fun w' d => ∀ v, RV K cls w' d v → Q v w'.H) (oIx d e μ)) : rIx K x y w.H Q := by
  unfold oIx at q2
  split at q2
  · rename_i s i
    split at q2
    · rename_i hl
      split at q2
      · rename_i c hc
        exact .inr (.inr ⟨_, i, c, r1, r2, by rw [strLen]; exact lim_le hl, by rw [strEq]; exact hc, q2 w Step.refl S _ rfl⟩)
      · exact q2.elim
    · exact q2.elim
  · rename_i i hn
    split at q2
    · rename_i ds hd
      split at q2
      · rename_i e he
        obtain ⟨a, vs, e1, h3, h4⟩ := seqOf_at S r1 hd
        obtain ⟨x, h5, h6⟩ := h4.atI he
        have q2 := q2 w Step.refl S _ h6
        rcases h3 with h3 | h3
        · exact .inl ⟨a, vs, _, x, e1, r2, h3, h5, q2⟩
        · exact .inr (.inl ⟨a, vs, _, x, e1, r2, h3, h5, q2⟩)
      · exact q2.elim
    · exact q2.elim
  · exact q2.elim
theorem cut_val (S : RelS K cls w μ) {d : D} {x : V} {l u : Option Int} (r1 : RV K cls w d x) (q3 : PostR K cls w Er (fun w' d => ∀ v, RV K cls w' d v → Q v w'.H) (oCut d l u μ)) :
    rSlS x l u w.H Q ∨ rSlA K x l u w.H Q ∨ rSlL K x l u w.H Q := by
  have fin : ∀ {ds : List D} {p : Addr} {vs : List V}, x = .ref p → SqL K w.H p vs → RVs K cls w ds vs → PostR K cls w Er (fun w' d => ∀ v, RV K cls w' d v → Q v w'.H) (.ok (.lst (cutD ds l u)) μ) → rSlL K x l u w.H Q := fun {ds p vs} e h4 h5 q =>
    ⟨p, vs, e, h4, fun n hp => q (w.up n (.lst (cutV vs l u))) (step_new hp) (S.new hp) _ (new_lst S hp h5.cut)⟩
  cases d with
  | str s =>
    simp only [oCut] at q3
    split at q3
    · rename_i hl
      refine .inl ⟨_, r1, by rw [strLen]; exact lim_le hl, ?_⟩
      have e : cutS (⟨s.toArray⟩ : Str) l u = ⟨(cutD s l u).toArray⟩ := by
        unfold cutS cutD
        rw [strLen, strEq]
      rw [e]
      exact q3 w Step.refl S _ rfl
    · exact q3.elim
  | tup ds =>
    simp only [oCut] at q3
    obtain ⟨p, vs, e1, h4, h5⟩ := r1
    refine .inr (.inl ⟨p, vs, e1, h4.sq, fun hw => ?_, fun hn n hp => ?_⟩)
    · have e : cutD ds l u = ds := by
        unfold cutD
        rw [← h5.length, hw.1, hw.2, List.drop_zero, Nat.sub_zero]
        exact List.take_of_length_le (by rw [h5.length]; exact Nat.le_refl _)
      rw [e] at q3
      exact q3 w Step.refl S _ ⟨p, vs, rfl, h4, h5⟩
    · exact q3 (w.up n (.tup (cutV vs l u))) (step_new hp) (S.new hp) _ (new_tup S hp h5.cut)
  | lst ds =>
    simp only [oCut, seqOf] at q3
    obtain ⟨p, vs, e2, h6, h7⟩ := lstOf_at S (d := .lst ds) (ds := ds) r1 rfl
    exact .inr (.inr (fin e2 (.inl (.inl h6)) h7 q3))
  | flst is =>
    simp only [oCut, seqOf] at q3
    obtain ⟨p, e2, h6⟩ := r1
    exact .inr (.inr (fin e2 h6.sq RVs.ints q3))
  | loc n =>
    simp only [oCut, seqOf] at q3
    split at q3
    · rename_i ds hd
      split at hd
      · rename_i es hc
        cases hd
        obtain ⟨p, vs, e2, h6, h7⟩ := lstOf_at S (d := .loc n) (ds := ds) r1 (by simp [lstOf, hc])
        exact .inr (.inr (fin e2 (.inl (.inl h6)) h7 q3))
      · cases hd
    · exact q3.elim
  | non => exact q3.elim
  | bl _ => exact q3.elim
  | int _ => exact q3.elim
  | obj _ _ _ => exact q3.elim
  | ptr _ => exact q3.elim
  | dct _ _ => exact q3.elim
end
section
variable {X : Cx} {W : WX} {cls : Nat → Option Addr} {a b e : Expr} {fa fb : FE} {fl fh : FO} {pos p2 : Pos} {lo hi : Option Expr}
theorem se_ix (ha : SE X W cls a fa) (hb : SE X W cls b fb) (hs : PlainIx b := by exact fun _ _ => rfl) : SE X W cls (.Subscript a b pos) (eBin oIx fa fb) := by
  obtain ⟨t1, p1, h1⟩ := ha
  obtain ⟨t2, p2, h2⟩ := hb
  refine ⟨_, pe_ix ix_seq p1 p2 hs, fun σ Q w ρ μ S E h => ?_⟩
  refine h1 σ _ w ρ μ S E ((PostR.bind h).imp fun w1 d s1 ⟨μ1, S1, q1⟩ v r1 => ?_)
  refine h2 σ _ w1 ρ μ1 S1 (E.mono s1.kp) ((PostR.bind q1).imp fun w2 e s2 ⟨μ2, S2, q2⟩ u r2 => ?_)
  exact ix_val S2 (r1.mono s2.kp) r2 q2
def SO (X : Cx) (W : WX) (cls : Nat → Option Addr) (e : Option Expr) (f : FO) : Prop := ∃ t, PO X e t ∧ ∀ (σ : L2.St) (Q : Option Int → Hp → Prop) (w : Wd) (ρ : Env) (μ : Store), RelS X.K cls w μ → RelE X.K cls w ρ σ →
  PostR X.K cls w (WE W σ) (fun w' o => Q o w'.H) (f ρ μ) → t σ w.H Q
theorem so_none : SO X W cls none oNone := ⟨_, po_none, fun σ Q w ρ μ S E h => h w Step.refl S⟩
theorem so_some (ha : SE X W cls a fa) : SO X W cls (some a) (oSome fa) := by
  obtain ⟨t1, p1, h1⟩ := ha
  refine ⟨_, po_some p1, fun σ Q w ρ μ S E h => ?_⟩
  refine h1 σ _ w ρ μ S E ((PostR.bind h).imp fun w1 d s1 ⟨μ1, S1, q1⟩ v r1 => ?_)
  cases d with
  | int i => exact ⟨i, r1, q1 w1 Step.refl S1⟩
  | _ => exact q1.elim
theorem slR_or {r r' : V → Option Int → Option Int → Hp → VK → Prop} (h : SlR X r) (h' : SlR X r') : SlR X (fun x l u H Q => r x l u H Q ∨ r' x l u H Q) := by
  intro pins s σ H x v vl vu lo hi sl Q I rx hs pl pu z
  rcases z with z | z
  · exact h pins s σ H x v vl vu lo hi sl Q I rx hs pl pu z
  · exact h' pins s σ H x v vl vu lo hi sl Q I rx hs pl pu z
theorem se_cut (ha : SE X W cls a fa) (hl : SO X W cls lo fl) (hh : SO X W cls hi fh) : SE X W cls (.Subscript a (.Slice lo hi none p2) pos) (eCut fa fl fh) := by
  obtain ⟨t1, p1, h1⟩ := ha
  obtain ⟨t2, p2, h2⟩ := hl
  obtain ⟨t3, p3, h3⟩ := hh
  refine ⟨_, pe_slice (slR_or sl_str (slR_or sl_tupA sl_list)) p1 p2 p3, fun σ Q w ρ μ S E h => ?_⟩
  refine h1 σ _ w ρ μ S E ((PostR.bind h).imp fun w1 d s1 ⟨μ1, S1, q1⟩ v r1 => ?_)
  refine h2 σ _ w1 ρ μ1 S1 (E.mono s1.kp) ((PostR.bind q1).imp fun w2 l s2 ⟨μ2, S2, q2⟩ => ?_)
  refine h3 σ _ w2 ρ μ2 S2 (E.mono (s1.trans s2).kp) ((PostR.bind q2).imp fun w3 u s3 ⟨μ3, S3, q3⟩ => ?_)
  exact cut_val S3 (r1.mono (s2.trans s3).kp) q3
end
end Fw
set_option Elab.async false
set_option linter.all false
set_option maxRecDepth 100000
set_option autoImplicit false
namespace Fw
open PySem L2 PyProof.Rows
def cLen : List D → Store → Res D := fun ds μ => match ds with
  | [.str s] => if s.length ≤ LIM then .ok (.int s.length) μ else .stuck
  | [d] => match seqOf μ d with
    | some es => .ok (.int es.length) μ
    | none => .stuck
  | _ => .stuck
def cInt : List D → Store → Res D := fun ds μ => match ds with
  | [.int i] => .ok (.int i) μ
  | [.bl b] => .ok (.int (if b then 1 else 0)) μ
  | [.str s] => match PySem.intText? ⟨s.toArray⟩ with
    | some n => if s.length ≤ 640 then .ok (.int n) μ else .stuck
    | none => .stuck
  | _ => .stuck
def strI (i : Int) : List Nat := (Str.ofString (toString i)).cps.toList
def cStr : List D → Store → Res D := fun ds μ => match ds with
  | [.int i] => if i.natAbs.log2 < 1920 then .ok (.str (strI i)) μ else .stuck
  | [.str s] => .ok (.str s) μ
  | _ => .stuck
def cTuple : List D → Store → Res D := fun ds μ => match ds with
  | [d] => match seqOf μ d with
    | some es => .ok (.tup es) μ
    | none => .stuck
  | _ => .stuck
def cMax2 : List D → Store → Res D := fun ds μ => match ds with
  | [.int i, .int j] => .ok (.int (if j > i then j else i)) μ
  | _ => .stuck
def intsOf : List D → Option (List Int)
  | [] => some []
  | .int i :: ds => (intsOf ds).map (i :: ·)
  | _ :: _ => none
def blsOf : List D → Option (List Bool)
  | [] => some []
  | .bl i :: ds => (blsOf ds).map (i :: ·)
  | _ :: _ => none
def strsOf : List D → Option (List (List Nat))
  | [] => some []
  | .str i :: ds => (strsOf ds).map (i :: ·)
  | _ :: _ => none
def cAll : List D → Store → Res D := fun ds μ => match ds with
  | [d] => match lstOf μ d with
    | some es => match blsOf es with
      | some bs => .ok (.bl (bs.all id)) μ
      | none => .stuck
    | none => .stuck
  | _ => .stuck
section
variable {K : PySem.W.Frag} {cls : Nat → Option Addr} {w : Wd} {μ : Store}
theorem RVs.one {d : D} {xs : List V} (r : RVs K cls w [d] xs) : ∃ x, xs = [x] ∧ RV K cls w d x := by
  obtain ⟨v, vs, e, h, t⟩ := r
  rw [show vs = [] from t] at e
  exact ⟨v, e, h⟩
theorem RVs.two {d d' : D} {xs : List V} (r : RVs K cls w [d, d'] xs) : ∃ x y, xs = [x, y] ∧ RV K cls w d x ∧ RV K cls w d' y := by
  obtain ⟨v, vs, e, h, t⟩ := r
  obtain ⟨u, rfl, h2⟩ := RVs.one t
  exact ⟨v, u, e, h, h2⟩
theorem blsOf_at : ∀ {ds : List D} {is : List Bool} {vs : List V}, RVs K cls w ds vs → blsOf ds = some is → vs = is.map V.bl
  | [], _, _, r, h => by rw [show _ = [] from r]; cases h; rfl
  | .bl i :: ds, is, _, ⟨v, vs, e, h1, t⟩, h => by
    simp only [blsOf, Option.map_eq_some_iff] at h
    obtain ⟨js, h2, rfl⟩ := h
    rw [e, blsOf_at t h2, show v = V.bl i from h1]
    rfl
  | .non :: _, _, _, _, h | .int _ :: _, _, _, _, h | .str _ :: _, _, _, _, h | .tup _ :: _, _, _, _, h | .lst _ :: _, _, _, _, h | .flst _ :: _, _, _, _, h | .obj _ _ _ :: _, _, _, _, h | .loc _ :: _, _, _, _, h => by simp [blsOf] at h
theorem strsOf_at : ∀ {ds : List D} {is : List (List Nat)} {vs : List V}, RVs K cls w ds vs → strsOf ds = some is → vs = (is.map fun s => (⟨s.toArray⟩ : Str)).map V.str
  | [], _, _, r, h => by rw [show _ = [] from r]; cases h; rfl
  | .str i :: ds, is, _, ⟨v, vs, e, h1, t⟩, h => by
    simp only [strsOf, Option.map_eq_some_iff] at h
    obtain ⟨js, h2, rfl⟩ := h
    rw [e, strsOf_at t h2, show v = V.str _ from h1]
    rfl
  | .non :: _, _, _, _, h | .int _ :: _, _, _, _, h | .bl _ :: _, _, _, _, h | .tup _ :: _, _, _, _, h | .lst _ :: _, _, _, _, h | .flst _ :: _, _, _, _, h | .obj _ _ _ :: _, _, _, _, h | .loc _ :: _, _, _, _, h => by simp [strsOf] at h
end
section
variable {X : Cx} {W : WX} {cls : Nat → Option Addr}
theorem cv_len : CV X cls (.builtin "len") cLen := by
  refine ⟨_, call_len_str.or call_len_seq, fun w μ Er ds xs Q S r0 h => ?_⟩
  unfold cLen at h
  split at h
  · rename_i s
    obtain ⟨x, rfl, r⟩ := r0.one
    split at h
    · rename_i hl
      refine .inl ⟨_, congrArg (fun z => [z]) r, by rw [strLen]; exact lim_le hl, ?_⟩
      rw [strLen]
      exact h w Step.refl S _ rfl
    · exact h.elim
  · obtain ⟨x, rfl, r⟩ := r0.one
    split at h
    · rename_i es hd
      obtain ⟨a, vs, e, h3, h4⟩ := seqOf_at S r hd
      refine .inr ⟨a, vs, congrArg (fun z => [z]) e, h3, ?_⟩
      rw [h4.length]
      exact h w Step.refl S _ rfl
    · exact h.elim
  · exact h.elim
theorem cv_int : CV X cls (.type "int") cInt := by
  refine ⟨_, call_int1.or call_int_str, fun w μ Er ds xs Q S r0 h => ?_⟩
  unfold cInt at h
  split at h
  · obtain ⟨x, rfl, r⟩ := r0.one
    exact .inl (.inl ⟨_, congrArg (fun z => [z]) r, h w Step.refl S _ rfl⟩)
  · obtain ⟨x, rfl, r⟩ := r0.one
    exact .inl (.inr ⟨_, congrArg (fun z => [z]) r, h w Step.refl S _ rfl⟩)
  · obtain ⟨x, rfl, r⟩ := r0.one
    split at h
    · rename_i n hn
      split at h
      · rename_i hl
        exact .inr ⟨_, n, congrArg (fun z => [z]) r, hn, by rw [strLen]; exact hl, h w Step.refl S _ rfl⟩
      · exact h.elim
    · exact h.elim
  · exact h.elim
theorem cv_str : CV X cls (.type "str") cStr := by
  refine ⟨_, call_str_int.or SkE.call_str_str, fun w μ Er ds xs Q S r0 h => ?_⟩
  unfold cStr at h
  split at h
  · rename_i i
    obtain ⟨x, rfl, r⟩ := r0.one
    split at h
    · rename_i hl
      refine .inl ⟨i, congrArg (fun z => [z]) r, hl, h w Step.refl S _ ?_⟩
      show V.str _ = V.str ⟨(strI i).toArray⟩
      unfold strI
      rw [Array.toArray_toList]
    · exact h.elim
  · obtain ⟨x, rfl, r⟩ := r0.one
    exact .inr ⟨_, congrArg (fun z => [z]) r, h w Step.refl S _ rfl⟩
  · exact h.elim
theorem cv_tuple : CV X cls (.type "tuple") cTuple := by
  refine ⟨_, call_tuple_of, fun w μ Er ds xs Q S r0 h => ?_⟩
  unfold cTuple at h
  split at h
  · rename_i d
    obtain ⟨x, rfl, r⟩ := r0.one
    split at h
    · rename_i es hd
      have gen : (∃ a vs, x = .ref a ∧ SqL X.K w.H a vs ∧ RVs X.K cls w es vs) → ∃ p ys, [x] = [V.ref p] ∧ ((SqL X.K w.H p ys ∧ ∀ l, w.H l = none → Q (.ref l) (upd w.H l (.tup ys))) ∨ (SqT X.K w.H p ys ∧ Q (.ref p) w.H)) := fun ⟨a, vs, e, h3, h4⟩ =>
        ⟨a, vs, congrArg (fun z => [z]) e, .inl ⟨h3, fun l hl => h (w.up l (.tup vs)) (step_new hl) (S.new hl) _ (new_tup S hl h4)⟩⟩
      cases d with
      | tup ts =>
        cases hd
        obtain ⟨a, vs, e, t, q⟩ := r
        exact ⟨a, vs, congrArg (fun z => [z]) e, .inr ⟨t.sq, h w Step.refl S _ ⟨a, vs, rfl, t, q⟩⟩⟩
      | lst ts => obtain ⟨a, vs, e, h3, h4⟩ := lstOf_at S (d := .lst ts) (ds := es) r hd; exact gen ⟨a, vs, e, .inl (.inl h3), h4⟩
      | loc ts => obtain ⟨a, vs, e, h3, h4⟩ := lstOf_at S (d := .loc ts) (ds := es) r hd; exact gen ⟨a, vs, e, .inl (.inl h3), h4⟩
      | flst ts =>
        cases hd
        obtain ⟨a, e, t⟩ := r
        exact gen ⟨a, _, e, t.sq, RVs.ints⟩
      | _ => cases hd
    · exact h.elim
  · exact h.elim
theorem cv_all (hc : X.calm = true) : CV X cls (.builtin "all") cAll := by
  refine ⟨_, cr_all hc, fun w μ Er ds xs Q S r0 h => ?_⟩
  unfold cAll at h
  split at h
  · obtain ⟨x, rfl, r⟩ := r0.one
    split at h
    · rename_i es hd
      obtain ⟨a, vs, e, h3, h4⟩ := lstOf_at S r hd
      split at h
      · rename_i bs hb
        rw [blsOf_at h4 hb] at h3
        exact ⟨a, bs, congrArg (fun z => [z]) e, .inl (.inl h3), h w Step.refl S _ rfl⟩
      · exact h.elim
    · exact h.elim
  · exact h.elim
end
def tyName (μ : Store) : D → Option String
  | .non => some "NoneType"
  | .bl _ => some "bool"
  | .int _ => some "int"
  | .str _ => some "str"
  | .tup _ => some "tuple"
  | .lst _ => some "list"
  | .flst _ => none
  | .obj _ _ _ => none
  | .ptr _ => none
  | .dct _ _ => some "dict"
  | .loc n => match μ[n]? with
    | some (.lst _) => some "list"
    | _ => none
def eIsi (T : String) (fa : FE) : FE := fun ρ μ => (fa ρ μ).bind fun d μ1 => match tyName μ1 d with
  | some t => match kitB t T with
    | some b => .ok (.bl b) μ1
    | none => .stuck
  | none => .stuck
theorem tyName_at {K : PySem.W.Frag} {cls : Nat → Option Addr} {w : Wd} {μ : Store} (S : RelS K cls w μ) {d : D} {x : V} {t : String} (r : RV K cls w d x) (h : tyName μ d = some t) : TyX K w.H x (.type t) := by
  cases d with
  | non => cases h; rw [show x = V.non from r]; exact .base .non
  | bl b => cases h; rw [show x = V.bl b from r]; exact .base (.bl b)
  | int b => cases h; rw [show x = V.int b from r]; exact .base (.int b)
  | str b => cases h; rw [show x = V.str _ from r]; exact .base (.str _)
  | tup b =>
    cases h
    obtain ⟨a, vs, e, t, _⟩ := r
    rw [e]
    rcases t with ⟨t, _⟩ | t
    · exact .base (.tup t)
    · rcases t with (t | ⟨o, t⟩) | ⟨o, its, n, e1, e2, _⟩
      · cases t
      · cases t
      · exact .kTuple e1 e2
  | lst b =>
    cases h
    obtain ⟨a, vs, e, ⟨t, _⟩, _⟩ := r
    rw [e]
    exact .base (.lst t)
  | flst b => cases h
  | obj _ _ _ => cases h
  | ptr _ => cases h
  | dct _ _ =>
    cases h
    obtain ⟨a, vs, e, ⟨t, _⟩, _⟩ := r
    rw [e]
    exact .base (.dK t)
  | loc n =>
    simp only [tyName] at h
    split at h
    · rename_i es hc
      cases h
      obtain ⟨a, vs, e, h1, _⟩ := lstOf_at S (d := .loc n) (ds := es) r (by simp [lstOf, hc])
      rw [e]
      exact .base (.lst h1)
    · cases h
theorem se_isi {X : Cx} {W : WX} {cls : Nat → Option Addr} {a : Expr} {fa : FE} {pos p p2 : Pos} {T : String} {x : Str} (ha : SE X W cls a fa) (hg : Gl X "isinstance") (hm : X.mg "isinstance" = none) (hv : bootBuiltins "isinstance" = some (.builtin "isinstance"))
    (hg2 : Gl X x) (hm2 : X.mg x = none) (hv2 : bootBuiltins x = some (.type T)) (hn : x ≠ "__name__" := by decide +kernel) (hd : (x == ("__debug__" : Str)) = false := by decide +kernel)
    (he : starEach [a, .Name x p2] X.env = (false, eval a X.env) :: starEach [.Name x p2] X.env := by rfl) (hs : starEach [.Name x p2] X.env = (false, eval (.Name x p2) X.env) :: starEach [] X.env := by rfl)
    (hpl : (backTo pos (starEach [.Name x p2] X.env)).any (·.1) = false := by rfl) :
    SE X W cls (.Call (.Name "isinstance" p) [a, .Name x p2] [] pos) (eIsi T fa) := by
  obtain ⟨t1, p1, h1⟩ := ha
  refine ⟨_, pe_callB call_isi hg hm hv (pa_cons p1 (pa_cons (pe_bltn (v := .ty T) hg2 hm2 hv2 rfl hn hd) pa_nil hs) he) (by decide +kernel) (by decide +kernel) he hpl, fun σ Q w ρ μ S E h => ?_⟩
  refine h1 σ _ w ρ μ S E ((PostR.bind h).imp fun w1 d s1 ⟨μ1, S1, q1⟩ v r1 => ?_)
  split at q1
  · rename_i t ht
    split at q1
    · rename_i b hb
      exact ⟨v, .ty T, .type t, .type T, b, rfl, .ty T, tyName_at S1 r1 ht, kit_ty hb, q1 w1 Step.refl S1 _ rfl⟩
    · exact q1.elim
  · exact q1.elim
end Fw
set_option Elab.async false
set_option linter.all false
set_option maxRecDepth 100000
set_option autoImplicit false
namespace Fw
open PySem L2 PyProof.Rows
def joinD (S : List Nat) : List (List Nat) → List Nat
  | [] => []
  | [p] => p
  | p :: q :: r => p ++ (S ++ joinD S (q :: r))
theorem join_of (S : List Nat) : ∀ ps : List (List Nat), Str.join ⟨S.toArray⟩ (ps.map fun s => (⟨s.toArray⟩ : Str)) = ⟨(joinD S ps).toArray⟩
  | [] => rfl
  | [p] => rfl
  | p :: q :: r => by
    show ((⟨p.toArray⟩ : Str) ++ (⟨S.toArray⟩ : Str)) ++ Str.join ⟨S.toArray⟩ ((q :: r).map fun s => (⟨s.toArray⟩ : Str)) = _
    rw [join_of S (q :: r), strApp, strApp, List.append_assoc]
    rfl
def oJoin (d e : D) (μ : Store) : Res D := match d with
  | .str s => match seqOf μ e with
    | some es => match strsOf es with
      | some ps => if (ps.map List.length).sum + ps.length * s.length ≤ LIM then .ok (.str (joinD s ps)) μ else .stuck
      | none => .stuck
    | none => .stuck
  | _ => .stuck
def eJoin (fo fe : FE) : FE := fun ρ μ => (fo ρ μ).bind fun d μ1 => match d with
  | .str s => (fe ρ μ1).bind fun e μ2 => oJoin (.str s) e μ2
  | _ => .stuck
def isL (μ : Store) : D → Bool
  | .loc n => match μ[n]? with
    | some (.lst _) => true
    | _ => false
  | _ => false
def oApp (d e : D) (μ : Store) : Res D := match d with
  | .loc n => match μ[n]? with
    | some (.lst es) => if es.length < LIM then .ok .non (μ.set n (.lst (es ++ [e]))) else .stuck
    | _ => .stuck
  | _ => .stuck
/-- xs.m(e), xs a list at a place -/
def eLm (g : D → D → Store → Res D) (fo fe : FE) : FE := fun ρ μ => (fo ρ μ).bind fun d μ1 => if isL μ1 d = true then (fe ρ μ1).bind fun e μ2 => g d e μ2 else .stuck
section
variable {K : PySem.W.Frag} {cls : Nat → Option Addr} {w : Wd} {μ : Store}
theorem Step.write {n : Nat} {a : Addr} (hn : w.ι[n]? = some a) {o : HO} : Step w (w.up a o) where
  keep := fun b u hb e _ => by
    show upd w.H a o b = some u
    rw [upd_ne fun z => hb (by rw [z]; exact List.mem_of_getElem? hn)]
    exact e
  pre := ⟨[], by simp⟩
  fresh := fun b h n => absurd h n
  ban := rfl
  exn := rfl
theorem RelS.write (S : RelS K cls w μ) {n : Nat} {a : Addr} {c : Cell} {o : HO} (hn : w.ι[n]? = some a) (hc : CellOk K cls (w.up a o) a c) : RelS K cls (w.up a o) (μ.set n c) where
  len := by rw [List.length_set]; exact S.len
  nd := S.nd
  ban := fun b hb => by
    obtain ⟨h1, u, h2⟩ := S.ban b hb
    exact ⟨h1, u, by show upd w.H a o b = some (.lst u); rw [upd_ne fun z => h1 (by rw [z]; exact List.mem_of_getElem? hn)]; exact h2⟩
  cell := fun m c' e => by
    have hl : n < μ.length := by rw [← S.len]; exact (List.getElem?_eq_some_iff.mp hn).1
    by_cases hm : n = m
    · subst hm
      rw [List.getElem?_set_self hl] at e
      cases e
      exact ⟨a, hn, hc⟩
    · rw [List.getElem?_set_ne hm] at e
      obtain ⟨a', h1, h2⟩ := S.cell m c' e
      refine ⟨a', h1, h2.mono (Step.write hn).kp fun u e => ?_⟩
      show upd w.H a o a' = some u
      rw [upd_ne fun z => hm ?_]
      · exact e
      · obtain ⟨l1, e1⟩ := List.getElem?_eq_some_iff.mp hn
        obtain ⟨l2, e2⟩ := List.getElem?_eq_some_iff.mp h1
        exact (List.getElem_inj S.nd).mp (e1.trans (z.symm.trans e2.symm))
  tabs := S.tabsK (Step.write hn).kp fun P ps e i j => ⟨by show upd w.H a o P = _; rw [upd_ne fun z => i (by rw [z]; exact List.mem_of_getElem? hn)]; exact e, i, j⟩
  tinj := S.tinj
theorem RelS.lst (S : RelS K cls w μ) {n : Nat} {x : V} {ds : List D} (r : RV K cls w (.loc n) x) (h : μ[n]? = some (.lst ds)) : ∃ a vs, x = .ref a ∧ w.ι[n]? = some a ∧ w.H a = some (.lst vs) ∧ RVs K cls w ds vs := by
  obtain ⟨a, e, hn⟩ := r
  obtain ⟨a', h1, vs, h2, h3⟩ := S.cell n _ h
  rw [hn] at h1
  cases h1
  exact ⟨a, vs, e, hn, h2, h3⟩
theorem wlst (S : RelS K cls w μ) {n : Nat} {a : Addr} {ds : List D} {vs : List V} (hn : w.ι[n]? = some a) (r : RVs K cls w ds vs) : RelS K cls (w.up a (.lst vs)) (μ.set n (.lst ds)) :=
  S.write hn ⟨vs, upd_same, r.mono (Step.write hn).kp⟩
end
section
variable {X : Cx} {W : WX} {cls : Nat → Option Addr} {o e : Expr} {fo fe : FE} {apos pos : Pos}
theorem se_join (ho : SE X W cls o fo) (he : SE X W cls e fe) (hs : starEach [e] X.env = [(false, eval e X.env)] := by rfl) (hbase : attributeBase o "join" X.env (eval o X.env) = eval o X.env := by rfl) (hline : (apos.endLine == pos.line) = true := by rfl) :
    SE X W cls (.Call (.Attribute o "join" apos) [e] [] pos) (eJoin fo fe) := by
  obtain ⟨t1, p1, h1⟩ := ho
  obtain ⟨t2, p2, h2⟩ := he
  refine ⟨_, pe_join p1 p2 hs hbase hline, fun σ Q w ρ μ S E h => ?_⟩
  refine h1 σ _ w ρ μ S E ((PostR.bind h).imp fun w1 d s1 ⟨μ1, S1, q1⟩ v r1 => ?_)
  cases d with
  | str s =>
    refine ⟨⟨_, r1⟩, h2 σ _ w1 ρ μ1 S1 (E.mono s1.kp) ((PostR.bind q1).imp fun w2 e s2 ⟨μ2, S2, q2⟩ u r2 => ?_)⟩
    simp only [oJoin] at q2
    split at q2
    · rename_i es hd
      obtain ⟨a, vs, e1, h3, h4⟩ := seqOf_at S2 r2 hd
      split at q2
      · rename_i ps hp
        rw [strsOf_at h4 hp] at h3
        split at q2
        · rename_i hl
          have hz : (ps.map fun s => (⟨s.toArray⟩ : Str)).map (·.length) = ps.map List.length := by
            rw [List.map_map]
            exact List.map_congr_left fun s _ => strLen
          refine ⟨_, a, ps.map fun s => (⟨s.toArray⟩ : Str), r1, congrArg (fun z => [z]) e1, h3, ?_, ?_⟩
          · rw [hz, List.length_map, strLen]
            have := lim_le hl
            rw [sizeLine_eq] at this
            exact this
          · rw [TL.join_eq, join_of]
            exact q2 w2 Step.refl S2 _ rfl
        · exact q2.elim
      · exact q2.elim
    · exact q2.elim
  | _ => exact q1.elim
theorem isL_at {K : PySem.W.Frag} {w : Wd} {μ : Store} (S : RelS K cls w μ) {d : D} {x : V} (r : RV K cls w d x) (h : isL μ d = true) : tyV K "list" x w.H := by
  cases d with
  | loc n =>
    simp only [isL] at h
    split at h
    · rename_i es hc
      obtain ⟨a, vs, e, _, h2, _⟩ := S.lst r hc
      rw [e]
      exact .inl ⟨rfl, vs, .inl (.inl h2)⟩
    · cases h
  | _ => cases h
theorem app_val {K : PySem.W.Frag} {w : Wd} {μ : Store} {Q : VK} {Er : XK} (S : RelS K cls w μ) {d e : D} {x y : V} (r1 : RV K cls w d x) (r2 : RV K cls w e y) (q : PostR K cls w Er (fun w' d => ∀ v, RV K cls w' d v → Q v w'.H) (oApp d e μ)) : rAppend x [y] w.H Q := by
  cases d with
  | loc n =>
    simp only [oApp] at q
    split at q
    · rename_i es hc
      split at q
      · rename_i hl
        obtain ⟨a, vs, ex, hn, h2, h3⟩ := S.lst r1 hc
        exact ⟨a, vs, y, ex, rfl, h2, by rw [h3.length]; exact lim_lt hl, q (w.up a (.lst (vs ++ [y]))) (Step.write hn) (wlst S hn (h3.append (.cons r2 .nil))) _ rfl⟩
      · exact q.elim
    · exact q.elim
  | _ => exact q.elim
theorem se_lm {m : Str} {r : V → List V → Hp → VK → Prop} {g : D → D → Store → Res D} (ho : SE X W cls o fo) (he : SE X W cls e fe)
    (k : ∀ {to : TE} {t : TA}, PE X o to → PA X [e] t → PE X (.Call (.Attribute o m apos) [e] [] pos) (tBM X.K "list" r to t))
    (hg : ∀ {w : Wd} {μ : Store} {Q : VK} {Er : XK} {d e : D} {x y : V}, RelS X.K cls w μ → RV X.K cls w d x → RV X.K cls w e y → PostR X.K cls w Er (fun w' d => ∀ v, RV X.K cls w' d v → Q v w'.H) (g d e μ) → r x [y] w.H Q)
    (hs : starEach [e] X.env = (false, eval e X.env) :: starEach [] X.env := by rfl) :
    SE X W cls (.Call (.Attribute o m apos) [e] [] pos) (eLm g fo fe) := by
  obtain ⟨t1, p1, h1⟩ := ho
  obtain ⟨t2, p2, h2⟩ := he
  refine ⟨_, k p1 (pa_cons p2 pa_nil hs), fun σ Q w ρ μ S E h => ?_⟩
  refine h1 σ _ w ρ μ S E ((PostR.bind h).imp fun w1 d s1 ⟨μ1, S1, q1⟩ v r1 => ?_)
  split at q1
  · rename_i hl
    refine ⟨isL_at S1 r1 hl, h2 σ _ w1 ρ μ1 S1 (E.mono s1.kp) ((PostR.bind q1).imp fun w2 e s2 ⟨μ2, S2, q2⟩ u r2 => hg S2 (r1.mono s2.kp) r2 q2)⟩
  · exact q1.elim
end
inductive SR where
  | nx (ρ : Env) (μ : Store)
  | rt (d : D) (μ : Store)
  | bk (ρ : Env) (μ : Store)
  | ct (ρ : Env) (μ : Store)
  | er (k : Nat) (ns : List Str) (ds : List D) (ρ : Env) (μ : Store)
  | stuck
abbrev FS := Env → Store → SR
def PostS (K : PySem.W.Frag) (cls : Nat → Option Addr) (w : Wd) (W : WX) (D : Ends) : SR → Prop
  | .nx ρ μ => ∀ w' σ, Step w w' → RelS K cls w' μ → RelE K cls w' ρ σ → D.nx σ w'.H
  | .rt d μ => ∀ w' v, Step w w' → RelS K cls w' μ → RV K cls w' d v → D.rt v w'.H
  | .bk ρ μ => ∀ w' σ, Step w w' → RelS K cls w' μ → RelE K cls w' ρ σ → D.bk σ w'.H
  | .ct ρ μ => ∀ w' σ, Step w w' → RelS K cls w' μ → RelE K cls w' ρ σ → D.ct σ w'.H
  | .er k ns ds ρ μ => ∀ w' σ cv d, Step w w' → RelS K cls w' μ → RelE K cls w' ρ σ → RErr K cls w' k ns ds cv d → W cv d σ w'.H
  | .stuck => False
def Off (is : List Nat) (σ σ' : L2.St) : Prop := σ'.length = σ.length ∧ ∀ j, j ∉ is → σ'[j]? = σ[j]?
theorem Off.refl {is : List Nat} {σ : L2.St} : Off is σ σ := ⟨rfl, fun _ _ => rfl⟩
theorem Off.set {i : Nat} {σ : L2.St} {v : Option V} : Off [i] σ (σ.set i v) := ⟨List.length_set, fun j hj => List.getElem?_set_ne fun e => hj (by rw [e]; exact List.mem_cons_self)⟩
theorem Off.trans {is js : List Nat} {σ σ1 σ2 : L2.St} (a : Off is σ σ1) (b : Off js σ1 σ2) : Off (is ++ js) σ σ2 := ⟨b.1.trans a.1, fun j hj => (b.2 j fun z => hj (List.mem_append_right _ z)).trans (a.2 j fun z => hj (List.mem_append_left _ z))⟩
section
variable (X : Cx) (W : WX) (cls : Nat → Option Addr)
def SS (st : Stmt) (f : FS) : Prop := ∃ t, PS X st t ∧ ∀ (D : Ends) (σ : L2.St) (w : Wd) (ρ : Env) (μ : Store), RelS X.K cls w μ → RelE X.K cls w ρ σ → PostS X.K cls w W D (f ρ μ) → t D σ w.H
def SSs (st : List Stmt) (f : FS) : Prop := ∃ t, PSs X st t ∧ ∀ (D : Ends) (σ : L2.St) (w : Wd) (ρ : Env) (μ : Store), RelS X.K cls w μ → RelE X.K cls w ρ σ → PostS X.K cls w W D (f ρ μ) → t D σ w.H
/-- a target; is: the slots that it writes -/
def SG (tg : Expr) (is : List Nat) (g : D → Env → Store → Res Env) : Prop := ∃ t, PG X tg t ∧ ∀ (v : V) (d : D) (σ : L2.St) (w : Wd) (ρ : Env) (μ : Store) (Q : L2.St → Hp → Prop) (Er : XK), RelS X.K cls w μ → RelE X.K cls w ρ σ → RV X.K cls w d v →
  PostR X.K cls w Er (fun w' ρ' => ∀ σ', RelE X.K cls w' ρ' σ' → Off is σ σ' → Q σ' w'.H) (g d ρ μ) → t v σ w.H Q
def SGs (ts : List Expr) (is : List Nat) (g : List D → Env → Store → Res Env) : Prop := ∃ t, PGs X ts t ∧ ∀ (vs : List V) (ds : List D) (σ : L2.St) (w : Wd) (ρ : Env) (μ : Store) (Q : L2.St → Hp → Prop) (Er : XK), RelS X.K cls w μ → RelE X.K cls w ρ σ → RVs X.K cls w ds vs →
  PostR X.K cls w Er (fun w' ρ' => ∀ σ', RelE X.K cls w' ρ' σ' → Off is σ σ' → Q σ' w'.H) (g ds ρ μ) → t vs σ w.H Q
end
theorem PostS.step {K : PySem.W.Frag} {cls : Nat → Option Addr} {w w' : Wd} {W : WX} {D : Ends} {r : SR} (s : Step w w') (h : PostS K cls w W D r) : PostS K cls w' W D r := by
  cases r with
  | nx ρ μ => exact fun w2 σ s2 => h w2 σ (s.trans s2)
  | rt ρ μ => exact fun w2 σ s2 => h w2 σ (s.trans s2)
  | bk ρ μ => exact fun w2 σ s2 => h w2 σ (s.trans s2)
  | ct ρ μ => exact fun w2 σ s2 => h w2 σ (s.trans s2)
  | er k ns ds ρ μ => exact fun w2 σ cv d s2 => h w2 σ cv d (s.trans s2)
  | stuck => exact h
/-- ahead of a statement's reading an expression's -/
def rS {α : Type} (ρ : Env) (r : Res α) (f : α → Store → SR) : SR := match r with
  | .ok a μ => f a μ
  | .err k ns ds μ => .er k ns ds ρ μ
  | .stuck => .stuck
@[simp] theorem rS_ok {α : Type} {ρ : Env} {a : α} {μ : Store} {f : α → Store → SR} : rS ρ (.ok a μ) f = f a μ := rfl
@[simp] theorem rS_err {α : Type} {ρ : Env} {k : Nat} {ns : List Str} {ds : List D} {μ : Store} {f : α → Store → SR} : rS ρ (.err k ns ds μ : Res α) f = .er k ns ds ρ μ := rfl
@[simp] theorem rS_stuck {α : Type} {ρ : Env} {f : α → Store → SR} : rS ρ (.stuck : Res α) f = .stuck := rfl
theorem PostS.bind {α : Type} {K : PySem.W.Frag} {cls : Nat → Option Addr} {w : Wd} {W : WX} {D : Ends} {ρ : Env} {σ : L2.St} {r : Res α} {f : α → Store → SR} (E : RelE K cls w ρ σ)
    (h : PostS K cls w W D (rS ρ r f)) : PostR K cls w (WE W σ) (fun w' a => ∃ μ', RelS K cls w' μ' ∧ PostS K cls w' W D (f a μ')) r := by
  cases r with
  | ok a μ => exact fun w' s S => ⟨μ, S, PostS.step s h⟩
  | err k ns ds μ => exact fun w' cv d s S x => h w' σ cv d s S (E.mono s.kp) x
  | stuck => exact h
def sNext : FS := fun ρ μ => .nx ρ μ
def sSeq (f g : FS) : FS := fun ρ μ => match f ρ μ with
  | .nx ρ1 μ1 => g ρ1 μ1
  | r => r
def sIf (c : FT) (f g : FS) : FS := fun ρ μ => rS ρ (c ρ μ) fun b μ1 => if b = true then f ρ μ1 else g ρ μ1
def sRet (fe : FE) : FS := fun ρ μ => rS ρ (fe ρ μ) fun d μ1 => .rt d μ1
def sExpr (fe : FE) : FS := fun ρ μ => rS ρ (fe ρ μ) fun _ μ1 => .nx ρ μ1
def sNever : FS := fun _ _ => .stuck
def sAsg (g : D → Env → Store → Res Env) (fe : FE) : FS := fun ρ μ => rS ρ (fe ρ μ) fun d μ1 => rS ρ (g d ρ μ1) fun ρ1 μ2 => .nx ρ1 μ2
def gVar (i : Nat) : D → Env → Store → Res Env := fun d ρ μ => if i < ρ.length then .ok (ρ.set i (some d)) μ else .stuck
def gNil : List D → Env → Store → Res Env := fun ds ρ μ => match ds with
  | [] => .ok ρ μ
  | _ => .stuck
def gCons (g : D → Env → Store → Res Env) (h : List D → Env → Store → Res Env) : List D → Env → Store → Res Env := fun ds ρ μ => match ds with
  | [] => .stuck
  | d :: r => (g d ρ μ).bind fun ρ1 μ1 => h r ρ1 μ1
def gTup (n : Nat) (h : List D → Env → Store → Res Env) : D → Env → Store → Res Env := fun d ρ μ => match d with
  | .tup ds => if ds.length = n then h ds ρ μ else .stuck
  | _ => .stuck
/-- xs[i] = v, a list at a place -/
def gIx (fo fi : FE) : D → Env → Store → Res Env := fun v ρ μ => (fo ρ μ).mute.bind fun d μ1 => (fi ρ μ1).mute.bind fun e μ2 => match d, e with
  | .loc n, .int i => match μ2[n]? with
    | some (.lst es) => match ixN es.length i with
      | some j => .ok ρ (μ2.set n (.lst (es.set j v)))
      | none => .stuck
    | _ => .stuck
  | _, _ => .stuck
/-- x op= e on a name -/
def sAug (i : Nat) (g : D → D → Store → Res D) (fe : FE) : FS := fun ρ μ => match ρ[i]? with
  | some (some x) => rS ρ (fe ρ μ) fun y μ1 => rS ρ (g x y μ1) fun z μ2 => if i < ρ.length then .nx (ρ.set i (some z)) μ2 else .stuck
  | _ => .stuck
section
variable {X : Cx} {W : WX} {cls : Nat → Option Addr} {st : Stmt} {rest : List Stmt} {f g : FS} {e : Expr} {fe : FE} {pos : Pos}
theorem RelE.set {K : PySem.W.Frag} {w : Wd} {ρ : Env} {σ : L2.St} {i : Nat} {d : D} {v : V} (h : RelE K cls w ρ σ) (r : RV K cls w d v) : RelE K cls w (ρ.set i (some d)) (σ.set i (some v)) := by
  refine ⟨by rw [List.length_set, List.length_set]; exact h.1, fun j d' e => ?_⟩
  by_cases hj : i = j
  · subst hj
    by_cases hl : i < ρ.length
    · rw [List.getElem?_set_self hl] at e
      cases e
      exact ⟨v, List.getElem?_set_self (by rw [h.1]; exact hl), r⟩
    · rw [List.getElem?_eq_none (by rw [List.length_set]; omega)] at e
      cases e
  · rw [List.getElem?_set_ne hj] at e
    obtain ⟨v', h1, h2⟩ := h.2 j d' e
    exact ⟨v', by rw [List.getElem?_set_ne hj]; exact h1, h2⟩
theorem sss_nil : SSs X W cls [] sNext := ⟨_, pss_nil, fun D σ w ρ μ S E h => h w σ Step.refl S E⟩
theorem sss_cons (h1 : SS X W cls st f) (h2 : SSs X W cls rest g) : SSs X W cls (st :: rest) (sSeq f g) := by
  obtain ⟨t1, p1, h1⟩ := h1
  obtain ⟨t2, p2, h2⟩ := h2
  refine ⟨_, pss_cons p1 p2, fun D σ w ρ μ S E h => ?_⟩
  refine h1 _ σ w ρ μ S E ?_
  unfold sSeq at h
  cases hf : f ρ μ with
  | nx ρ1 μ1 =>
    rw [hf] at h
    exact fun w' σ' s' S' E' => h2 D σ' w' ρ1 μ1 S' E' (PostS.step s' h)
  | rt d μ1 => rw [hf] at h; exact h
  | bk ρ1 μ1 => rw [hf] at h; exact h
  | ct ρ1 μ1 => rw [hf] at h; exact h
  | er k ns ds ρ1 μ1 => rw [hf] at h; exact h
  | stuck => rw [hf] at h; exact h
theorem sss_one (h1 : SS X W cls st f) : SSs X W cls [st] f := by
  obtain ⟨t1, p1, h1⟩ := h1
  exact ⟨_, pss_one p1, h1⟩
theorem ss_expr (he : SE X W cls e fe) (hs : swapsWith e none pos.line X.env = pure false := by rfl) : SS X W cls (.Expr e pos) (sExpr fe) := by
  obtain ⟨t1, p1, h1⟩ := he
  refine ⟨_, ps_expr p1 hs, fun D σ w ρ μ S E h => ?_⟩
  exact h1 σ _ w ρ μ S E ((PostS.bind E h).imp fun w1 d s1 ⟨μ1, S1, q1⟩ v r1 => q1 w1 σ Step.refl S1 (E.mono s1.kp))
theorem ss_ret (he : SE X W cls e fe) : SS X W cls (.Return (some e) pos) (sRet fe) := by
  obtain ⟨t1, p1, h1⟩ := he
  refine ⟨_, ps_ret p1, fun D σ w ρ μ S E h => ?_⟩
  exact h1 σ _ w ρ μ S E ((PostS.bind E h).imp fun w1 d s1 ⟨μ1, S1, q1⟩ v r1 => q1 w1 v Step.refl S1 r1)
theorem ss_if {c : Expr} {a b : List Stmt} {fc : FT} (hc : ST X W cls c fc) (ha : SSs X W cls a f) (hb : SSs X W cls b g) : SS X W cls (.If c a b pos) (sIf fc f g) := by
  obtain ⟨t0, p0, h0⟩ := hc
  obtain ⟨t1, p1, h1⟩ := ha
  obtain ⟨t2, p2, h2⟩ := hb
  refine ⟨_, ps_if p0 p1 p2, fun D σ w ρ μ S E h => ?_⟩
  refine h0 σ _ w ρ μ S E ((PostS.bind E h).imp fun w1 b s1 ⟨μ1, S1, q1⟩ => ?_)
  cases b with
  | true => exact h1 D σ w1 ρ μ1 S1 (E.mono s1.kp) q1
  | false => exact h2 D σ w1 ρ μ1 S1 (E.mono s1.kp) q1
theorem sg_var (i : Nat) {x : Str} (hN : X.N.Nodup) (hi : X.N[i]? = some x := by rfl) (hx : Loc X.env.scope x := by first | exact .inl rfl | exact .inr rfl) (hf : X.fn x = true ∨ X.env.scope.names.lookup x = some .local := by first | exact .inl rfl | exact .inr rfl) : SG X cls (.Name x pos) [i] (gVar i) := by
  refine ⟨_, pg_name hN hi hx hf, fun v d σ w ρ μ Q Er S E r h => ?_⟩
  unfold gVar at h
  split at h
  · exact h w Step.refl S _ (E.set r) Off.set
  · exact h.elim
theorem sgs_nil : SGs X cls [] [] gNil := by
  refine ⟨_, pgs_nil, fun vs ds σ w ρ μ Q Er S E r h => ?_⟩
  cases ds with
  | nil => exact ⟨r, h w Step.refl S _ E Off.refl⟩
  | cons d ds => exact h.elim
theorem sgs_cons {t : Expr} {ts : List Expr} {is js : List Nat} {g1 : D → Env → Store → Res Env} {g2 : List D → Env → Store → Res Env} (h1 : SG X cls t is g1) (h2 : SGs X cls ts js g2)
    (hs : (assignEach (t :: ts) X.env).map (·.2) = assign t X.env :: (assignEach ts X.env).map (·.2) := by rfl) : SGs X cls (t :: ts) (is ++ js) (gCons g1 g2) := by
  obtain ⟨t1, p1, h1⟩ := h1
  obtain ⟨t2, p2, h2⟩ := h2
  refine ⟨_, pgs_cons p1 p2 hs, fun vs ds σ w ρ μ Q Er S E r h => ?_⟩
  cases ds with
  | nil => exact h.elim
  | cons d ds =>
    obtain ⟨v, vr, e, r1, r2⟩ := r
    refine ⟨v, vr, e, ?_⟩
    exact h1 v d σ w ρ μ _ _ S E r1 ((PostR.bind h).imp fun w1 ρ1 s1 ⟨μ1, S1, q1⟩ σ1 E1 o1 => h2 vr ds σ1 w1 ρ1 μ1 Q _ S1 E1 (r2.mono s1.kp) (q1.imp fun w2 ρ2 s2 q2 σ2 E2 o2 => q2 σ2 E2 (o1.trans o2)))
theorem sg_tup {ts : List Expr} {k n : Nat} {is : List Nat} {g2 : List D → Env → Store → Res Env} (hc : X.calm = true) (h2 : SGs X cls ts is g2) (hn : (assignEach ts X.env).length = n := by rfl) (hst : (assignEach ts X.env).findIdx? (·.1) = none := by rfl) :
    SG X cls (.Tuple ts k pos) is (gTup n g2) := by
  obtain ⟨t2, p2, h2⟩ := h2
  refine ⟨_, pg_tup hc p2 hn hst, fun v d σ w ρ μ Q Er S E r h => ?_⟩
  cases d with
  | tup ds =>
    simp only [gTup] at h
    split at h
    · rename_i hl
      obtain ⟨a, vs, e, t, q⟩ := r
      exact ⟨a, vs, e, t.sq, by rw [q.length]; exact hl, h2 vs ds σ w ρ μ Q _ S E q h⟩
    · exact h.elim
  | _ => exact h.elim
theorem sg_ix {o i : Expr} {fo fi : FE} (ho : SE X W cls o fo) (hi : SE X W cls i fi)
    (ha : ∀ v, assign (.Subscript o i pos) X.env v = (do
      let ov ← holding [v] (eval o X.env)
      let iv ← holding [v, ov] (eval i X.env)
      standAt pos
      holding [v, ov, iv] (setItem ov iv v)
      release [v, ov, iv] []) := by intro _; rfl) : SG X cls (.Subscript o i pos) [] (gIx fo fi) := by
  obtain ⟨t1, p1, h1⟩ := ho
  obtain ⟨t2, p2, h2⟩ := hi
  refine ⟨_, pg_sub p1 p2 set_list ha, fun v d σ w ρ μ Q Er S E r h => ?_⟩
  refine h1 σ _ w ρ μ S E ((PostR.mute (PostR.bind h)).imp fun w1 d1 s1 ⟨μ1, S1, q1⟩ v1 r1 => ?_)
  refine h2 σ _ w1 ρ μ1 S1 (E.mono s1.kp) ((PostR.mute (PostR.bind q1)).imp fun w2 d2 s2 ⟨μ2, S2, q2⟩ v2 r2 => ?_)
  cases d1 with
  | loc n =>
    cases d2 with
    | int i =>
      simp only at q2
      split at q2
      · rename_i es hc
        split at q2
        · rename_i j hj
          obtain ⟨a, vs, ex, hn, h3, h4⟩ := S2.lst (r1.mono s2.kp) hc
          have rv := r.mono (s1.trans s2).kp
          exact ⟨a, vs, i, j, ex, r2, h3, by rw [h4.length]; exact hj, q2 (w2.up a (.lst (vs.set j v))) (Step.write hn) (wlst S2 hn (RVs.set rv j h4)) σ (E.mono ((s1.trans s2).trans (Step.write hn)).kp) Off.refl⟩
        · exact q2.elim
      · exact q2.elim
    | _ => exact q2.elim
  | _ => cases d2 <;> exact q2.elim
theorem ss_asg {tg : Expr} {is : List Nat} {g1 : D → Env → Store → Res Env} (he : SE X W cls e fe) (hg : SG X cls tg is g1) (hs : swapsWithSole [tg] e pos.line X.env = pure false := by rfl) (hw : swappedStores [tg] e X.env = pure none := by rfl)
    (h1 : (assignEach [tg] X.env).map (·.2) = [assign tg X.env] := by rfl) : SS X W cls (.Assign [tg] e pos) (sAsg g1 fe) := by
  obtain ⟨t1, p1, h1'⟩ := he
  obtain ⟨t2, p2, h2⟩ := hg
  refine ⟨_, ps_asg p1 p2 hs hw h1, fun D σ w ρ μ S E h => ?_⟩
  refine h1' σ _ w ρ μ S E ((PostS.bind E h).imp fun w1 d s1 ⟨μ1, S1, q1⟩ v r1 => ?_)
  exact h2 v d σ w1 ρ μ1 D.nx _ S1 (E.mono s1.kp) r1 ((PostS.bind (E.mono s1.kp) q1).imp fun w2 ρ2 s2 ⟨μ2, S2, q2⟩ σ2 E2 _ => q2 w2 σ2 Step.refl S2 E2)
theorem ss_set (i : Nat) {x : Str} {pos' : Pos} (hN : X.N.Nodup) (he : SE X W cls e fe) (hi : X.N[i]? = some x := by rfl) (hx : Loc X.env.scope x := by first | exact .inl rfl | exact .inr rfl) (hs : swapsWith e (some (.Name x pos')) pos.line X.env = pure false := by rfl)
    (hf : X.fn x = true ∨ X.env.scope.names.lookup x = some .local := by first | exact .inl rfl | exact .inr rfl) : SS X W cls (.Assign [.Name x pos'] e pos) (sAsg (gVar i) fe) := by
  obtain ⟨t1, p1, h1⟩ := he
  refine ⟨_, ps_set hN hi hx p1 hs hf, fun D σ w ρ μ S E h => ?_⟩
  refine h1 σ _ w ρ μ S E ((PostS.bind E h).imp fun w1 d s1 ⟨μ1, S1, q1⟩ v r1 => ?_)
  unfold gVar at q1
  split at q1
  · exact q1 w1 _ Step.refl S1 ((E.mono s1.kp).set r1)
  · exact q1.elim
/-- a, b = x, y on plain local names -/
def sPar (i j : Nat) (fa fb : FE) : FS := fun ρ μ => rS ρ (fa ρ μ) fun x μ1 => rS ρ (fb ρ μ1) fun y μ2 => if i < ρ.length ∧ j < ρ.length then .nx ((ρ.set i (some x)).set j (some y)) μ2 else .stuck
/-- a = b = e -/
def sAsg2 (g1 g2 : D → Env → Store → Res Env) (fe : FE) : FS := fun ρ μ => rS ρ (fe ρ μ) fun d μ1 => rS ρ (g1 d ρ μ1) fun ρ1 μ2 => rS ρ1 (g2 d ρ1 μ2) fun ρ2 μ3 => .nx ρ2 μ3
/-- ints: x += e -/
def oAddI : D → D → Store → Res D := fun d e μ => match d, e with
  | .int i, .int j => .ok (.int (i + j)) μ
  | _, _ => .stuck
end
end Fw
set_option Elab.async false
set_option linter.all false
set_option maxRecDepth 100000
set_option autoImplicit false
namespace Fw
open PySem L2 PyProof.Rows
/-- nothing may be raised -/
abbrev W0 : WX := fun _ _ _ _ => False
abbrev E00 : XK := fun _ _ _ => False
section
variable {X : Cx} {W : WX} {cls : Nat → Option Addr}
def TEof (K : PySem.W.Frag) (cls : Nat → Option Addr) (f : FE) : TE := fun σ H Q => ∃ (w : Wd) (ρ : Env) (μ : Store), w.H = H ∧ RelS K cls w μ ∧ RelE K cls w ρ σ ∧ PostR K cls w E00 (fun w' d => ∀ v, RV K cls w' d v → Q v w'.H) (f ρ μ)
theorem SE.pe {e : Expr} {f : FE} (h : SE X W0 cls e f) : PE X e (TEof X.K cls f) := by
  obtain ⟨t, p, k⟩ := h
  refine ⟨fun pins s σ H Q I z => ?_⟩
  obtain ⟨w, ρ, μ, rfl, S, E, q⟩ := z
  exact p.run pins s σ w.H Q I (k σ Q w ρ μ S E q)
def TTof (K : PySem.W.Frag) (cls : Nat → Option Addr) (f : FT) : TT := fun σ H Q => ∃ (w : Wd) (ρ : Env) (μ : Store), w.H = H ∧ RelS K cls w μ ∧ RelE K cls w ρ σ ∧ PostR K cls w E00 (fun w' b => Q b w'.H) (f ρ μ)
def STs (X : Cx) (cls : Nat → Option Addr) (es : List Expr) (f : FT) : Prop := PTs X es (TTof X.K cls f)
theorem sts_nil : STs X cls [] (fun _ μ => .ok true μ) := by
  refine ⟨fun pins s σ H Q I z => ?_⟩
  obtain ⟨w, ρ, μ, rfl, S, E, q⟩ := z
  exact pts_nil.run pins s σ w.H Q I (q w Step.refl S)
def TGof (K : PySem.W.Frag) (cls : Nat → Option Addr) (is : List Nat) (g : D → Env → Store → Res Env) : TG := fun v σ H Q => ∃ (w : Wd) (ρ : Env) (μ : Store) (d : D), w.H = H ∧ RelS K cls w μ ∧ RelE K cls w ρ σ ∧ RV K cls w d v ∧
  PostR K cls w E00 (fun w' ρ' => ∀ σ', RelE K cls w' ρ' σ' → Off is σ σ' → Q σ' w'.H) (g d ρ μ)
theorem SG.pg {e : Expr} {is : List Nat} {g : D → Env → Store → Res Env} (h : SG X cls e is g) : PG X e (TGof X.K cls is g) := by
  obtain ⟨t, p, k⟩ := h
  refine ⟨fun pins s σ H v u Q I r z => ?_⟩
  obtain ⟨w, ρ, μ, d, rfl, S, E, rd, q⟩ := z
  exact p.run pins s σ w.H v u Q I r (k v d σ w ρ μ Q _ S E rd q)
end
abbrev FI := Env → Store → Res (List D × Option Nat)
def srcOk (src : Option Nat) (items : List D) (μ : Store) : Bool := match src with
  | none => true
  | some n => decide (μ[n]? = some (.lst items))
def Wk (K : PySem.W.Frag) (cls : Nat → Option Addr) (J : It) (w : Wd) (items : List D) (src : Option Nat) : Prop :=
  ∀ (i : Nat) (w' : Wd) (μ' : Store), Kp w w' → RelS K cls w' μ' → srcOk src items μ' = true →
    (∀ d, items[i]? = some d → J.go i w'.H ∧ ∀ x H2, J.yld i w'.H x H2 → ∃ w2 : Wd, w2.H = H2 ∧ Step w' w2 ∧ RelS K cls w2 μ' ∧ RV K cls w2 d x) ∧
    (items.length ≤ i → J.stop i w'.H)
def SI (X : Cx) (W : WX) (cls : Nat → Option Addr) (tg iter : Expr) (f : FI) : Prop := ∃ wi, PI X tg iter wi ∧ ∀ (σ : L2.St) (R : It → Hp → Prop) (w : Wd) (ρ : Env) (μ : Store), RelS X.K cls w μ → RelE X.K cls w ρ σ →
  PostR X.K cls w (WE W σ) (fun w' it => ∀ J, Wk X.K cls J w' it.1 it.2 → R J w'.H) (f ρ μ) → wi σ w.H R
theorem pi_or {X : Cx} {tg iter : Expr} {a b : TI} (h : PI X tg iter a) (h' : PI X tg iter b) : PI X tg iter (fun σ H R => a σ H R ∨ b σ H R) :=
  ⟨fun pins s σ H R I z => z.elim (h.run pins s σ H R I) (h'.run pins s σ H R I)⟩
def oWalk (d : D) (μ : Store) : Res (List D × Option Nat) := match d with
  | .lst ds => .ok (ds, none) μ
  | .flst is => .ok (is.map .int, none) μ
  | .tup ds => .ok (ds, none) μ
  | .str s => .ok (s.map fun c => .str [c], none) μ
  | .loc n => match μ[n]? with
    | some (.lst ds) => .ok (ds, some n) μ
    | _ => .stuck
  | _ => .stuck
def iOf (fe : FE) : FI := fun ρ μ => (fe ρ μ).bind fun d μ1 => oWalk d μ1
section
variable {K : PySem.W.Frag} {cls : Nat → Option Addr} {w : Wd} {μ : Store}
theorem wk_list {a : Addr} {ds : List D} {src : Option Nat} (h : ∀ (w' : Wd) (μ' : Store), Kp w w' → RelS K cls w' μ' → srcOk src ds μ' = true → ∃ vs, SqL K w'.H a vs ∧ RVs K cls w' ds vs) : Wk K cls (Itl K a) w ds src := by
  intro i w' μ' k S' so
  obtain ⟨vs, h1, h2⟩ := h w' μ' k S' so
  refine ⟨fun d hd => ?_, fun hi => ⟨vs, h1, by rw [h2.length]; exact hi⟩⟩
  obtain ⟨v, hv, rv⟩ := h2.get hd
  refine ⟨⟨vs, v, h1, hv⟩, fun x H2 ⟨e, y⟩ => ⟨w', e.symm, Step.refl, S', ?_⟩⟩
  have := y vs h1
  rw [hv] at this
  cases this
  exact rv
theorem wk_tup {a : Addr} {ds : List D} (h : ∀ (w' : Wd), Kp w w' → ∃ vs, SqT K w'.H a vs ∧ RVs K cls w' ds vs) : Wk K cls (Itt K a) w ds none := by
  intro i w' μ' k S' so
  obtain ⟨vs, h1, h2⟩ := h w' k
  refine ⟨fun d hd => ?_, fun hi => ⟨vs, h1, by rw [h2.length]; exact hi⟩⟩
  obtain ⟨v, hv, rv⟩ := h2.get hd
  refine ⟨⟨vs, v, h1, hv⟩, fun x H2 ⟨e, y⟩ => ⟨w', e.symm, Step.refl, S', ?_⟩⟩
  have := y vs h1
  rw [hv] at this
  cases this
  exact rv
theorem wk_str {s : List Nat} : Wk K cls (Its ⟨s.toArray⟩) w (s.map fun c => .str [c]) none := by
  intro i w' μ' k S' so
  refine ⟨fun d hd => ?_, fun hi => ?_⟩
  · rw [List.getElem?_map, Option.map_eq_some_iff] at hd
    obtain ⟨c, hc, rfl⟩ := hd
    have hi : i < s.length := (List.getElem?_eq_some_iff.mp hc).1
    refine ⟨by show i < s.toArray.size; simpa using hi, fun x H2 ⟨e, c', h1, h2⟩ => ⟨w', e.symm, Step.refl, S', ?_⟩⟩
    have h1 : s.toArray[i]? = some c' := h1
    rw [List.getElem?_toArray, hc] at h1
    cases h1
    rw [h2]
    rfl
  · show s.toArray.size ≤ i
    simpa using hi
theorem wk_range {lo : Int} {n : Nat} : Wk K cls (Itr lo n) w ((List.range n).map fun i => .int (lo + (i : Nat))) none := by
  intro i w' μ' k S' so
  refine ⟨fun d hd => ?_, fun hi => ?_⟩
  · rw [List.getElem?_map, Option.map_eq_some_iff] at hd
    obtain ⟨c, hc, rfl⟩ := hd
    obtain ⟨hi, e⟩ := List.getElem?_eq_some_iff.mp hc
    rw [List.length_range] at hi
    rw [List.getElem_range] at e
    subst e
    exact ⟨hi, fun x H2 ⟨e, h2⟩ => ⟨w', e.symm, Step.refl, S', h2⟩⟩
  · rw [List.length_map, List.length_range] at hi
    exact hi
end
section
variable {X : Cx} {W : WX} {cls : Nat → Option Addr} {tg e a b : Expr} {fe fa fb : FE} {p pos : Pos}
theorem si_of (he : SE X W cls e fe) : SI X W cls tg e (iOf fe) := by
  obtain ⟨t, p, k⟩ := he
  refine ⟨_, pi_or (pi_list p) (pi_or (pi_tup p) (pi_str p)), fun σ R w ρ μ S E h => ?_⟩
  have h := PostR.bind h
  cases hf : fe ρ μ with
  | stuck => rw [hf] at h; exact h.elim
  | err k' ns ds μ1 =>
    rw [hf] at h
    exact .inl (k σ _ w ρ μ S E (by rw [hf]; exact h))
  | ok d μ1 =>
    have go := k σ
    rw [hf] at h
    cases d with
    | lst ds =>
      refine .inl (go _ w ρ μ S E ?_)
      rw [hf]
      intro w1 s1 S1 v r1
      obtain ⟨μ', S2, q⟩ := h w1 s1 S1
      obtain ⟨a, vs, e1, h1, h2⟩ := r1
      refine ⟨a, e1, ⟨vs, .inl (.inl h1.1)⟩, q w1 Step.refl S2 _ (wk_list fun w' μ' kp S' _ => ?_)⟩
      exact ⟨vs, .inl (.inl (kp.at_ a _ h1.2.1 h1.2.2 h1.1).1), h2.mono kp⟩
    | flst is =>
      refine .inl (go _ w ρ μ S E ?_)
      rw [hf]
      intro w1 s1 S1 v r1
      obtain ⟨μ', S2, q⟩ := h w1 s1 S1
      obtain ⟨a, e1, h1⟩ := r1
      refine ⟨a, e1, ⟨_, h1.sq⟩, q w1 Step.refl S2 _ (wk_list fun w' μ' kp S' _ => ?_)⟩
      exact ⟨_, (h1.mono kp).sq, RVs.ints⟩
    | loc n =>
      refine .inl (go _ w ρ μ S E ?_)
      rw [hf]
      intro w1 s1 S1 v r1
      obtain ⟨μ', S2, q⟩ := h w1 s1 S1
      simp only [oWalk] at q
      split at q
      · rename_i ds hc
        obtain ⟨a, vs, e1, hn, h1, h2⟩ := S2.lst r1 hc
        refine ⟨a, e1, ⟨vs, .inl (.inl h1)⟩, q w1 Step.refl S2 _ (wk_list fun w' μ' kp S' so => ?_)⟩
        have so : μ'[n]? = some (.lst ds) := of_decide_eq_true so
        obtain ⟨a', vs', e2, hn', h3, h4⟩ := S'.lst (x := .ref a) ⟨a, rfl, kp.loc n a hn⟩ so
        cases e2
        exact ⟨vs', .inl (.inl h3), h4⟩
      · exact q.elim
    | tup ds =>
      refine .inr (.inl (go _ w ρ μ S E ?_))
      rw [hf]
      intro w1 s1 S1 v r1
      obtain ⟨μ', S2, q⟩ := h w1 s1 S1
      obtain ⟨a, vs, e1, h1, h2⟩ := r1
      refine ⟨a, e1, ⟨vs, h1.sq⟩, q w1 Step.refl S2 _ (wk_tup fun w' kp => ?_)⟩
      exact ⟨vs, (h1.mono kp).sq, h2.mono kp⟩
    | str s =>
      refine .inr (.inr (go _ w ρ μ S E ?_))
      rw [hf]
      intro w1 s1 S1 v r1
      obtain ⟨μ', S2, q⟩ := h w1 s1 S1
      exact ⟨_, r1, q w1 Step.refl S2 _ wk_str⟩
    | non =>
      refine .inl (go _ w ρ μ S E ?_)
      rw [hf]
      intro w1 s1 S1 v r1
      obtain ⟨μ', S2, q⟩ := h w1 s1 S1
      exact q.elim
    | bl _ =>
      refine .inl (go _ w ρ μ S E ?_)
      rw [hf]
      intro w1 s1 S1 v r1
      obtain ⟨μ', S2, q⟩ := h w1 s1 S1
      exact q.elim
    | int _ =>
      refine .inl (go _ w ρ μ S E ?_)
      rw [hf]
      intro w1 s1 S1 v r1
      obtain ⟨μ', S2, q⟩ := h w1 s1 S1
      exact q.elim
    | obj _ _ _ =>
      refine .inl (go _ w ρ μ S E ?_)
      rw [hf]
      intro w1 s1 S1 v r1
      obtain ⟨μ', S2, q⟩ := h w1 s1 S1
      exact q.elim
    | ptr _ =>
      refine .inl (go _ w ρ μ S E ?_)
      rw [hf]
      intro w1 s1 S1 v r1
      obtain ⟨μ', S2, q⟩ := h w1 s1 S1
      exact q.elim
    | dct _ _ =>
      refine .inl (go _ w ρ μ S E ?_)
      rw [hf]
      intro w1 s1 S1 v r1
      obtain ⟨μ', S2, q⟩ := h w1 s1 S1
      exact q.elim
def iRange1 (fa : FE) : FI := fun ρ μ => (fa ρ μ).bind fun d μ1 => match d with
  | .int j => if -1000000 ≤ j ∧ j ≤ 1000000 then .ok ((List.range j.toNat).map fun i => .int (0 + (i : Nat)), none) μ1 else .stuck
  | _ => .stuck
theorem si_range1 (hg : Gl X "range") (hm : X.mg "range" = none) (ha : SE X W cls a fa) (hs : starEach [a] X.env = [(false, eval a X.env)] := by rfl) : SI X W cls tg (.Call (.Name "range" p) [a] [] pos) (iRange1 fa) := by
  obtain ⟨t, p, k⟩ := ha
  refine ⟨_, pi_range1 hg hm (pa_cons p pa_nil hs) hs, fun σ R w ρ μ S E h => ?_⟩
  refine k σ _ w ρ μ S E ((PostR.bind h).imp fun w1 d s1 ⟨μ1, S1, q1⟩ v r1 => ?_)
  cases d with
  | int j =>
    simp only at q1
    split at q1
    · rename_i hj
      exact ⟨j, by rw [show v = V.int j from r1], by omega, by omega, q1 w1 Step.refl S1 _ wk_range⟩
    · exact q1.elim
  | _ => exact q1.elim
def iRange2 (fa fb : FE) : FI := fun ρ μ => (fa ρ μ).bind fun d μ1 => (fb ρ μ1).bind fun e μ2 => match d, e with
  | .int i, .int j => if -1000000 ≤ i ∧ i ≤ 1000000 ∧ -1000000 ≤ j ∧ j ≤ 1000000 then .ok ((List.range (j - i).toNat).map fun k => .int (i + (k : Nat)), none) μ2 else .stuck
  | _, _ => .stuck
theorem si_range2 (hg : Gl X "range") (hm : X.mg "range" = none) (ha : SE X W cls a fa) (hb : SE X W cls b fb) (hs : starEach [a, b] X.env = [(false, eval a X.env), (false, eval b X.env)] := by rfl) (hs2 : starEach [b] X.env = [(false, eval b X.env)] := by rfl) :
    SI X W cls tg (.Call (.Name "range" p) [a, b] [] pos) (iRange2 fa fb) := by
  obtain ⟨t, p, k⟩ := ha
  obtain ⟨t2, p2, k2⟩ := hb
  refine ⟨_, pi_range2 hg hm (pa_cons p (pa_cons p2 pa_nil hs2) (by rw [hs, hs2])) hs hs2, fun σ R w ρ μ S E h => ?_⟩
  refine k σ _ w ρ μ S E ((PostR.bind h).imp fun w1 d s1 ⟨μ1, S1, q1⟩ v r1 => ?_)
  refine k2 σ _ w1 ρ μ1 S1 (E.mono s1.kp) ((PostR.bind q1).imp fun w2 d2 s2 ⟨μ2, S2, q2⟩ v2 r2 => ?_)
  cases d with
  | int i =>
    cases d2 with
    | int j =>
      simp only at q2
      split at q2
      · rename_i hj
        exact ⟨i, j, by rw [show v = V.int i from r1, show v2 = V.int j from r2], ⟨by omega, by omega, by omega, by omega⟩, q2 w2 Step.refl S2 _ wk_range⟩
      · exact q2.elim
    | _ => exact q2.elim
  | _ => cases d2 <;> exact q2.elim
end
/-- what comes first, the rest at the base -/
theorem PostS.bind0 {α : Type} {K : PySem.W.Frag} {cls : Nat → Option Addr} {w w' : Wd} {W : WX} {D : Ends} {ρ : Env} {σ : L2.St} {r : Res α} {f : α → Store → SR} (st : Step w w') (E : RelE K cls w' ρ σ)
    (h : PostS K cls w W D (rS ρ r f)) : PostR K cls w' (WE W σ) (fun w3 a => Step w' w3 ∧ ∃ μ', RelS K cls w3 μ' ∧ PostS K cls w W D (f a μ')) r := by
  cases r with
  | ok a μ => exact fun w3 s S => ⟨s, μ, S, h⟩
  | err k ns ds μ => exact fun w3 cv d s S x => h w3 σ cv d (st.trans s) S (E.mono s.kp) x
  | stuck => exact h
theorem PostR.bind0 {α β : Type} {K : PySem.W.Frag} {cls : Nat → Option Addr} {w w' : Wd} {Er Er' : XK} {R : Wd → β → Prop} {r : Res α} {f : α → Store → Res β}
    (h : PostR K cls w Er R (r.mute.bind f)) : PostR K cls w' Er' (fun w3 a => Step w' w3 ∧ ∃ μ', RelS K cls w3 μ' ∧ PostR K cls w Er R (f a μ')) r := by
  cases r with
  | ok a μ => exact fun w3 s S => ⟨s, μ, S, h⟩
  | err k ns ds μ => exact h.elim
  | stuck => exact h
def forL (items : List D) (src : Option Nat) (g : D → Env → Store → Res Env) (body : FS) : List D → Env → Store → SR
  | [], ρ, μ => if srcOk src items μ = true then .nx ρ μ else .stuck
  | d :: ds, ρ, μ => if srcOk src items μ = true then rS ρ (g d ρ μ) fun ρ1 μ1 => match body ρ1 μ1 with
      | .nx ρ2 μ2 => forL items src g body ds ρ2 μ2
      | .ct ρ2 μ2 => forL items src g body ds ρ2 μ2
      | .bk ρ2 μ2 => .nx ρ2 μ2
      | .rt d μ2 => .rt d μ2
      | .er k ns es ρ2 μ2 => .er k ns es ρ2 μ2
      | .stuck => .stuck
    else .stuck
def sFor (fi : FI) (g : D → Env → Store → Res Env) (body : FS) : FS := fun ρ μ => rS ρ (fi ρ μ) fun it μ1 => forL it.1 it.2 g body it.1 ρ μ1
theorem ss_for {X : Cx} {W : WX} {cls : Nat → Option Addr} {tg iter : Expr} {body : List Stmt} {pos : Pos} {fi : FI} {is : List Nat} {g : D → Env → Store → Res Env} {fb : FS} (hp : PassesOwn (model X.prog X.w) X.A X.env X.xe) (hc : X.calm = true)
    (hi : SI X W cls tg iter fi) (hg : SG X cls tg is g) (hb : SSs X W cls body fb) (hs : ∀ x, foldedSetIterable iter X.env x = pure x := by intro _; rfl) : SS X W cls (.For tg iter body [] pos) (sFor fi g fb) := by
  obtain ⟨t1, p1, h1⟩ := hi
  obtain ⟨t2, p2, h2⟩ := hg
  obtain ⟨t3, p3, h3⟩ := hb
  refine ⟨_, ps_for hp hc p1 p2 p3 hs, fun D σ w ρ μ S E h => ?_⟩
  refine h1 σ _ w ρ μ S E ((PostS.bind E h).imp fun w1 it s1 ⟨μ1, S1, q1⟩ J wk => ?_)
  obtain ⟨items, src⟩ := it
  have E1 := E.mono s1.kp
  refine ⟨fun i m σ' H' => m = items.length - i ∧ i ≤ items.length ∧ ∃ (w' : Wd) (ρ' : Env) (μ' : Store), w'.H = H' ∧ Step w1 w' ∧ RelS X.K cls w' μ' ∧ RelE X.K cls w' ρ' σ' ∧ PostS X.K cls w1 W D (forL items src g fb (items.drop i) ρ' μ'),
    ⟨items.length, by simp, Nat.zero_le _, w1, ρ, μ1, rfl, Step.refl, S1, E1, by simpa using q1⟩, ?_⟩
  rintro i m σ' H' ⟨rfl, hle, w', ρ', μ', rfl, st, S', E', q⟩
  by_cases hlt : i < items.length
  · rw [List.drop_eq_getElem_cons hlt] at q
    simp only [forL] at q
    split at q
    · rename_i so
      obtain ⟨wd, _⟩ := wk i w' μ' st.kp S' so
      obtain ⟨go, yld⟩ := wd items[i] (List.getElem?_eq_getElem hlt)
      refine .inr ⟨go, fun σ2 H2 => ∃ (w2 : Wd) (ρ2 : Env) (μ2 : Store), w2.H = H2 ∧ Step w1 w2 ∧ RelS X.K cls w2 μ2 ∧ RelE X.K cls w2 ρ2 σ2 ∧ PostS X.K cls w1 W D (forL items src g fb (items.drop (i + 1)) ρ2 μ2), ?_, fun x H2 y => ?_⟩
      · rintro σ2 H2 ⟨w2, ρ2, μ2, e, st2, S2, E2, q2⟩
        exact ⟨_, by omega, rfl, hlt, w2, ρ2, μ2, e, st2, S2, E2, q2⟩
      · obtain ⟨w2, rfl, st2, S2, rx⟩ := yld x H2 y
        refine h2 x items[i] σ' w2 ρ' μ' _ _ S2 (E'.mono st2.kp) rx ((PostS.bind0 (st.trans st2) (E'.mono st2.kp) q).imp fun w3 ρ3 _ ⟨st3, μ3, S3, q3⟩ σ3 E3 _ => ?_)
        have st13 := (st.trans st2).trans st3
        refine h3 _ σ3 w3 ρ3 μ3 S3 E3 ?_
        split at q3
        · rename_i ρ4 μ4 hf
          rw [hf]
          exact fun w4 σ4 s4 S4 E4 => ⟨w4, ρ4, μ4, rfl, st13.trans s4, S4, E4, q3⟩
        · rename_i ρ4 μ4 hf
          rw [hf]
          exact fun w4 σ4 s4 S4 E4 => ⟨w4, ρ4, μ4, rfl, st13.trans s4, S4, E4, q3⟩
        · rename_i ρ4 μ4 hf
          rw [hf]
          exact fun w4 σ4 s4 S4 E4 => q3 w4 σ4 (st13.trans s4) S4 E4
        · rename_i d μ4 hf
          rw [hf]
          exact fun w4 σ4 s4 S4 E4 => q3 w4 σ4 (st13.trans s4) S4 E4
        · rename_i k4 ns4 ds4 ρ4 μ4 hf
          rw [hf]
          exact fun w4 σ4 cv d s4 S4 E4 => q3 w4 σ4 cv d (st13.trans s4) S4 E4
        · exact q3.elim
    · exact q.elim
  · have e : i = items.length := by omega
    subst e
    rw [List.drop_length] at q
    simp only [forL] at q
    split at q
    · rename_i so
      obtain ⟨_, stop⟩ := wk items.length w' μ' st.kp S' so
      exact .inl ⟨stop (Nat.le_refl _), q w' σ' st S' E'⟩
    · exact q.elim
def wipeE (ρ : Env) : List Nat → Env
  | [] => ρ
  | v :: vs => (wipeE ρ vs).set v none
def lcL (items : List D) (src : Option Nat) (g : D → Env → Store → Res Env) (ft : FT) (fe : FE) (ρ : Env) : List D → Store → List D → Res D
  | [], μ, acc => if srcOk src items μ = true then .ok (.lst acc) μ else .stuck
  | d :: ds, μ, acc => if srcOk src items μ = true then (g d ρ μ).mute.bind fun ρ1 μ1 => (ft ρ1 μ1).mute.bind fun b μ2 =>
      if b = true then (fe ρ1 μ2).mute.bind fun y μ3 => if acc.length < LIM then lcL items src g ft fe ρ ds μ3 (acc ++ [y]) else .stuck
      else lcL items src g ft fe ρ ds μ2 acc
    else .stuck
def eLc (vs : List Nat) (fi : FI) (g : D → Env → Store → Res Env) (ft : FT) (fe : FE) : FE := fun ρ μ => (fi ρ μ).bind fun it μ1 => lcL it.1 it.2 g ft fe (wipeE ρ vs) it.1 μ1 []
section
variable {K : PySem.W.Frag} {cls : Nat → Option Addr} {w : Wd} {μ : Store}
theorem RelE.setN {ρ : Env} {σ : L2.St} {i : Nat} (h : RelE K cls w ρ σ) : RelE K cls w (ρ.set i none) (σ.set i none) := by
  refine ⟨by rw [List.length_set, List.length_set]; exact h.1, fun j d' e => ?_⟩
  by_cases hj : i = j
  · subst hj
    by_cases hl : i < ρ.length
    · rw [List.getElem?_set_self hl] at e
      cases e
    · rw [List.getElem?_eq_none (by rw [List.length_set]; omega)] at e
      cases e
  · rw [List.getElem?_set_ne hj] at e
    obtain ⟨v', h1, h2⟩ := h.2 j d' e
    exact ⟨v', by rw [List.getElem?_set_ne hj]; exact h1, h2⟩
theorem RelE.wipe {ρ : Env} {σ : L2.St} (h : RelE K cls w ρ σ) : ∀ vs : List Nat, RelE K cls w (wipeE ρ vs) (L2.wipe σ vs)
  | [] => h
  | v :: vs => (RelE.wipe h vs).setN
theorem wipe_in {σ : L2.St} {i : Nat} : ∀ {vs : List Nat}, i ∈ vs → i < σ.length → (L2.wipe σ vs)[i]? = some none
  | [], h, _ => absurd h (by simp)
  | v :: vs, h, hl => by
    unfold L2.wipe
    by_cases e : v = i
    · subst e
      rw [List.getElem?_set_self (by rw [wipe_length]; exact hl)]
    · rw [List.getElem?_set_ne e]
      exact wipe_in (by simpa [Ne.symm e] using h) hl
theorem wipe_off {σ σ2 : L2.St} {is vs : List Nat} (h : Off is (L2.wipe σ vs) σ2) (hs : is.all (vs.contains ·) = true) : L2.wipe σ2 vs = L2.wipe σ vs := by
  have hl : σ2.length = σ.length := by rw [h.1, wipe_length]
  refine List.ext_getElem? fun i => ?_
  by_cases hi : i ∈ vs
  · by_cases hlt : i < σ.length
    · rw [wipe_in hi (by rw [hl]; exact hlt), wipe_in hi hlt]
    · rw [List.getElem?_eq_none (by rw [wipe_length, hl]; omega), List.getElem?_eq_none (by rw [wipe_length]; omega)]
  · rw [wipe_out hi]
    refine h.2 i fun z => hi ?_
    have := List.all_eq_true.mp hs i z
    simpa using this
/-- one more banned -/
theorem RelS.ban1 (S : RelS K cls w μ) {p : Addr} {o : List V} (h : w.H p = none) : RelS K cls ⟨w.x, w.ι, p :: w.B, upd w.H p (.lst o)⟩ μ where
  len := S.len
  nd := S.nd
  ban := fun b hb => by
    rcases List.mem_cons.mp hb with e | hb
    · subst e
      exact ⟨(S.free h).1, o, upd_same⟩
    · obtain ⟨h1, u, h2⟩ := S.ban b hb
      exact ⟨h1, u, by show upd w.H p _ b = some (.lst u); rw [upd_ne (ne_of_none h2 h)]; exact h2⟩
  cell := fun n c e => by
    obtain ⟨a, h1, h2⟩ := S.cell n c e
    refine ⟨a, h1, h2.mono (kp_ban h) fun u e => ?_⟩
    show upd w.H p _ a = some u
    rw [upd_ne (ne_of_none e h)]
    exact e
  tabs := S.tabsK (kp_ban h) fun P ps e i j => ⟨by show upd w.H p _ P = _; rw [upd_ne (ne_of_none e h)]; exact e, i, fun z => (List.mem_cons.mp z).elim (ne_of_none e h) j⟩
  tinj := S.tinj
where
  kp_ban {p : Addr} {o : HO} (h : w.H p = none) : Kp w ⟨w.x, w.ι, p :: w.B, upd w.H p o⟩ := ⟨fun a u hi hb e _ => ⟨by
    show upd w.H p o a = some u
    rw [upd_ne (ne_of_none e h)]
    exact e, hi, fun z => (List.mem_cons.mp z).elim (fun e1 => ne_of_none e h e1) hb⟩, fun n a e => e, rfl⟩
end
section
variable {K : PySem.W.Frag} {cls : Nat → Option Addr} {w w1 w' w4 : Wd} {μ : Store}
theorem kp_bump {p : Addr} {o : HO} (hp : p ∈ w.B) : Kp w ⟨w.x, w.ι, w.B, upd w.H p o⟩ := ⟨fun a u hi hb e _ => ⟨by
    show upd w.H p o a = some u
    rw [upd_ne fun z => hb (by rw [z]; exact hp)]
    exact e, hi, hb⟩, fun n a e => e, rfl⟩
theorem RelS.bump (S : RelS K cls w μ) {p : Addr} {o : List V} (hp : p ∈ w.B) : RelS K cls ⟨w.x, w.ι, w.B, upd w.H p (.lst o)⟩ μ where
  len := S.len
  nd := S.nd
  ban := fun b hb => by
    obtain ⟨h1, u, h2⟩ := S.ban b hb
    refine ⟨h1, ?_⟩
    by_cases e : b = p
    · subst e
      exact ⟨o, upd_same⟩
    · exact ⟨u, by show upd w.H p _ b = some (.lst u); rw [upd_ne e]; exact h2⟩
  cell := fun n c e => by
    obtain ⟨a, h1, h2⟩ := S.cell n c e
    refine ⟨a, h1, h2.mono (kp_bump hp) fun u e => ?_⟩
    show upd w.H p _ a = some u
    rw [upd_ne fun z => (S.ban p hp).1 (by rw [← z]; exact List.mem_of_getElem? h1)]
    exact e
  tabs := S.tabsK (kp_bump hp) fun P ps e i j => ⟨by show upd w.H p _ P = _; rw [upd_ne fun z => j (by rw [z]; exact hp)]; exact e, i, j⟩
  tinj := S.tinj
theorem Step.under {B : List Addr} (st : Step w1 ⟨w'.x, w'.ι, B, w'.H⟩) (s : Step w' w4) : Step w1 ⟨w4.x, w4.ι, B, w4.H⟩ where
  keep := fun a o hi e nt => s.keep a o (st.notin e hi) (st.keep a o hi e)
  pre := by
    obtain ⟨l, e⟩ := st.pre
    obtain ⟨l', e'⟩ := s.pre
    exact ⟨l ++ l', by show w4.ι = _; rw [e', show w'.ι = _ from e, List.append_assoc]⟩
  fresh := fun a h n o nt e => by
    by_cases q : a ∈ w'.ι
    · exact st.fresh a q n o nt e
    · exact s.fresh a h q o nt (st.keep a o n e)
  ban := st.ban
  exn := s.exn.trans st.exn
theorem Step.bumped {B : List Addr} {p : Addr} {o : HO} (st : Step w1 ⟨w'.x, w'.ι, B, w'.H⟩) (h : w1.H p = none) : Step w1 ⟨w'.x, w'.ι, B, upd w'.H p o⟩ where
  keep := fun a u hi e nt => by
    show upd w'.H p o a = some u
    rw [upd_ne (ne_of_none e h)]
    exact st.keep a u hi e
  pre := st.pre
  fresh := st.fresh
  ban := st.ban
  exn := st.exn
theorem kp_unban {B : List Addr} {p : Addr} (hB : w.B = p :: B) : Kp w ⟨w.x, w.ι, B, w.H⟩ := ⟨fun a o hi hb e _ => ⟨e, hi, fun z => hb (by rw [hB]; exact List.mem_cons_of_mem _ z)⟩, fun n a e => e, rfl⟩
theorem RelS.unban {B : List Addr} {p : Addr} (S : RelS K cls w μ) (hB : w.B = p :: B) : RelS K cls ⟨w.x, w.ι, B, w.H⟩ μ := by
  have kp : Kp w ⟨w.x, w.ι, B, w.H⟩ := kp_unban hB
  exact ⟨S.len, S.nd, fun b hb => S.ban b (by rw [hB]; exact List.mem_cons_of_mem _ hb), fun n c e => by
    obtain ⟨a, h1, h2⟩ := S.cell n c e
    exact ⟨a, h1, h2.mono kp fun u e => e⟩, S.tabsK kp fun P ps e i j => ⟨e, i, fun z => j (by rw [hB]; exact List.mem_cons_of_mem _ z)⟩, S.tinj⟩
theorem RVs.unban {B : List Addr} {p : Addr} {ds : List D} {vs : List V} (r : RVs K cls w ds vs) (hB : w.B = p :: B) : RVs K cls ⟨w.x, w.ι, B, w.H⟩ ds vs :=
  RVs.mono (kp_unban hB) r
theorem lc_ok {W : WX} {wi : TI} {fi : FI} {is vs : List Nat} {g : D → Env → Store → Res Env} {ft : FT} {fe : FE}
    (h1 : ∀ (σ : L2.St) (R : It → Hp → Prop) (w : Wd) (ρ : Env) (μ : Store), RelS K cls w μ → RelE K cls w ρ σ → PostR K cls w (WE W σ) (fun w' it => ∀ J, Wk K cls J w' it.1 it.2 → R J w'.H) (fi ρ μ) → wi σ w.H R)
    (hs : is.all (vs.contains ·) = true) {σ : L2.St} {Q : VK} {ρ : Env} (S : RelS K cls w μ) (E : RelE K cls w ρ σ) (h : PostR K cls w (WE W σ) (fun w' d => ∀ v, RV K cls w' d v → Q v w'.H) (eLc vs fi g ft fe ρ μ)) :
    tLc wi (TGof K cls is g) (TTof K cls ft) (TEof K cls fe) vs σ w.H Q := by
  refine h1 σ _ w ρ μ S E ((PostR.bind h).imp fun w1 it s1 ⟨μ1, S1, q1⟩ J wk => ?_)
  obtain ⟨items, src⟩ := it
  have E1 := E.mono s1.kp
  intro p hp
  refine ⟨fun i m H => m = items.length - i ∧ i ≤ items.length ∧ ∃ (w' : Wd) (μ' : Store) (acc : List D) (us : List V), w'.H = H ∧ w'.B = p :: w1.B ∧ Step w1 ⟨w'.x, w'.ι, w1.B, w'.H⟩ ∧ RelS K cls w' μ' ∧ H p = some (.lst us) ∧
      RVs K cls w' acc us ∧ PostR K cls w1 (WE W σ) (fun w' d => ∀ v, RV K cls w' d v → Q v w'.H) (lcL items src g ft fe (wipeE ρ vs) (items.drop i) μ' acc),
    ⟨items.length, by simp, Nat.zero_le _, ⟨w1.x, w1.ι, p :: w1.B, upd w1.H p (.lst [])⟩, μ1, [], [], rfl, rfl, step_new hp, S1.ban1 hp, upd_same, rfl, by simpa using q1⟩, ?_⟩
  rintro i m H ⟨rfl, hle, w', μ', acc, us, rfl, hB, st, S', hD, racc, q⟩
  have kp : Kp w1 w' := ⟨fun a o hi hb e nt => ⟨st.keep a o hi e, st.notin e hi, fun z => by
      rw [hB] at z
      rcases List.mem_cons.mp z with e1 | z
      · exact ne_of_none e hp e1
      · exact hb z⟩, fun n a e => st.loc e, st.exn⟩
  have E' := (E1.mono kp).wipe vs
  by_cases hlt : i < items.length
  · rw [List.drop_eq_getElem_cons hlt] at q
    simp only [lcL] at q
    split at q
    · rename_i so
      obtain ⟨wd, _⟩ := wk i w' μ' kp S' so
      obtain ⟨go, yld⟩ := wd items[i] (List.getElem?_eq_getElem hlt)
      refine .inr ⟨go, fun H => ∃ (w' : Wd) (μ' : Store) (acc : List D) (us : List V), w'.H = H ∧ w'.B = p :: w1.B ∧ Step w1 ⟨w'.x, w'.ι, w1.B, w'.H⟩ ∧ RelS K cls w' μ' ∧ H p = some (.lst us) ∧
          RVs K cls w' acc us ∧ PostR K cls w1 (WE W σ) (fun w' d => ∀ v, RV K cls w' d v → Q v w'.H) (lcL items src g ft fe (wipeE ρ vs) (items.drop (i + 1)) μ' acc), fun H z => ⟨_, by omega, rfl, hlt, z⟩, fun x H2 y => ?_⟩
      obtain ⟨w2, rfl, st2, S2, rx⟩ := yld x H2 y
      refine ⟨w2, wipeE ρ vs, μ', items[i], rfl, S2, E'.mono st2.kp, rx, (PostR.bind0 q).imp fun w3 ρ3 _ ⟨st3, μ3, S3, q3⟩ σ3 E3 off => ⟨wipe_off off hs, w3, ρ3, μ3, rfl, S3, E3, (PostR.bind0 q3).imp fun w4 b _ ⟨st4, μ4, S4, q4⟩ => ?_⟩⟩
      have st14 : Step w' w4 := (st2.trans st3).trans st4
      have stw := st.under st14
      have hpB : p ∈ w'.B := by rw [hB]; exact List.mem_cons_self
      cases b with
      | false =>
        refine iteF ?_
        exact ⟨w4, μ4, acc, us, rfl, st14.ban.trans hB, stw, S4, st14.keep p _ (S'.ban p hpB).1 hD, racc.mono st14.kp, by simpa using q4⟩
      | true =>
        refine iteT ?_
        simp only [if_true] at q4
        refine ⟨w4, ρ3, μ4, rfl, S4, E3.mono st4.kp, (PostR.bind0 q4).imp fun w5 y _ ⟨st5, μ5, S5, q5⟩ v rv => ?_⟩
        have st15 : Step w' w5 := st14.trans st5
        split at q5
        · rename_i hl
          have hB5 : w5.B = p :: w1.B := st15.ban.trans hB
          have hp5 : p ∈ w5.B := by rw [hB5]; exact List.mem_cons_self
          refine ⟨us, st15.keep p _ (S'.ban p hpB).1 hD, by rw [racc.length]; exact lim_lt hl, ⟨w5.x, w5.ι, w5.B, upd w5.H p (.lst (us ++ [v]))⟩, μ5, acc ++ [y], us ++ [v], rfl, hB5, (st.under st15).bumped hp, S5.bump hp5, upd_same, ?_, q5⟩
          exact ((racc.mono st15.kp).append (.cons rv .nil)).mono (kp_bump hp5)
        · exact q5.elim
    · exact q.elim
  · have e : i = items.length := by omega
    subst e
    rw [List.drop_length] at q
    simp only [lcL] at q
    split at q
    · rename_i so
      obtain ⟨_, stop⟩ := wk items.length w' μ' kp S' so
      refine .inl ⟨stop (Nat.le_refl _), q ⟨w'.x, w'.ι, w1.B, w'.H⟩ st (S'.unban hB) _ ⟨p, us, rfl, ⟨hD, (S'.ban p (by rw [hB]; exact List.mem_cons_self)).1, (S1.free hp).2⟩, racc.unban hB⟩⟩
    · exact q.elim
end
section
variable {X : Cx} {W : WX} {cls : Nat → Option Addr} {elt tg iter : Expr} {ifs : List Expr} {scope : Scope} {own : List (Str × Nat)} {pos : Pos} {is : List Nat} {fi : FI} {g : D → Env → Store → Res Env} {ft : FT} {fe : FE}
theorem se_lc (hc : X.calm = true) (hN : X.N.Nodup) (hi : SI X W cls tg iter fi) (ok : BlkOk X.N X.env.scope scope own)
    (hg : ∀ (s : Shared) (H : Hp) (C : Addr) (cl : List (Str × Addr)) (fp : List Addr), SG (X.blk s H scope (compEnvC scope cl C X.env) fp) cls tg is g) (ht : ∀ (s : Shared) (H : Hp) (C : Addr) (cl : List (Str × Addr)) (fp : List Addr), STs (X.blk s H scope (compEnvC scope cl C X.env) fp) cls ifs ft)
    (he : ∀ (s : Shared) (H : Hp) (C : Addr) (cl : List (Str × Addr)) (fp : List Addr), SE (X.blk s H scope (compEnvC scope cl C X.env) fp) W0 cls elt fe) (hs : is.all ((own.map (·.2)).contains ·) = true := by decide) (hf : ∀ x, foldedSetIterable iter X.env x = pure x := by intro _; rfl) :
    SE X W cls (.ListComp elt [⟨tg, iter, ifs, 0⟩] scope pos) (eLc (own.map (·.2)) fi g ft fe) := by
  obtain ⟨t1, p1, h1⟩ := hi
  exact ⟨_, pe_lc (g := TGof X.K cls is g) (tt := TTof X.K cls ft) (te := TEof X.K cls fe) hc hN p1 ok (fun s H C cl fp => (hg s H C cl fp).pg) ht (fun s H C cl fp => (he s H C cl fp).pe) hf, fun σ Q w ρ μ S E h => lc_ok h1 hs S E h⟩
theorem ss_setLc {i : Nat} {y : Str} {py spos : Pos} (hc : X.calm = true) (hN : X.N.Nodup) (hy : X.N[i]? = some y) (hyl : X.env.scope.names.lookup y = some .local) (hsw : swapsWith (.ListComp elt [⟨tg, iter, ifs, 0⟩] scope pos) (some (.Name y py)) spos.line X.env = pure true)
    (hi : SI X W cls tg iter fi) (ok : BlkOk X.N X.env.scope scope own)
    (hg : ∀ (s : Shared) (H : Hp) (C : Addr) (cl : List (Str × Addr)) (fp : List Addr), SG (X.blk s H scope (compEnvC scope cl C X.env) fp) cls tg is g) (ht : ∀ (s : Shared) (H : Hp) (C : Addr) (cl : List (Str × Addr)) (fp : List Addr), STs (X.blk s H scope (compEnvC scope cl C X.env) fp) cls ifs ft)
    (he : ∀ (s : Shared) (H : Hp) (C : Addr) (cl : List (Str × Addr)) (fp : List Addr), SE (X.blk s H scope (compEnvC scope cl C X.env) fp) W0 cls elt fe) (hs : is.all ((own.map (·.2)).contains ·) = true := by decide) (hf : ∀ x, foldedSetIterable iter X.env x = pure x := by intro _; rfl) :
    SS X W cls (.Assign [.Name y py] (.ListComp elt [⟨tg, iter, ifs, 0⟩] scope pos) spos) (sAsg (gVar i) (eLc (own.map (·.2)) fi g ft fe)) := by
  obtain ⟨t1, p1, h1⟩ := hi
  refine ⟨_, ps_setLc (g := TGof X.K cls is g) (tt := TTof X.K cls ft) (te := TEof X.K cls fe) hc hN hy hyl hsw p1 ok (fun s H C cl fp => (hg s H C cl fp).pg) ht (fun s H C cl fp => (he s H C cl fp).pe) hf, fun D σ w ρ μ S E h => ?_⟩
  refine lc_ok (Q := fun x H1 => L2.gName i x σ H1 D.nx) h1 hs S E ((PostS.bind E h).imp fun w1 d s1 ⟨μ1, S1, q1⟩ v r1 => ?_)
  unfold gVar at q1
  split at q1
  · exact q1 w1 _ Step.refl S1 ((E.mono s1.kp).set r1)
  · exact q1.elim
end
section
variable {K : PySem.W.Frag} {cls : Nat → Option Addr} {w : Wd} {μ : Store}
theorem kp_add {p : Addr} {o : HO} (h : w.H p = none) : Kp w ⟨w.x, w.ι ++ [p], w.B, upd w.H p o⟩ := ⟨fun a u hi hb e _ => ⟨by
    show upd w.H p o a = some u
    rw [upd_ne (ne_of_none e h)]
    exact e, fun z => (List.mem_append.mp z).elim hi fun z => ne_of_none e h (by simpa using z), hb⟩, fun n a e => by
    rw [List.getElem?_append_left (List.getElem?_eq_some_iff.mp e).1]
    exact e, rfl⟩
theorem step_add {p : Addr} {o : HO} (h : w.H p = none) : Step w ⟨w.x, w.ι ++ [p], w.B, upd w.H p o⟩ where
  keep := fun a u hi e _ => by
    show upd w.H p o a = some u
    rw [upd_ne (ne_of_none e h)]
    exact e
  pre := ⟨[p], rfl⟩
  fresh := fun a hm hn u _ e => by
    have : a = p := (List.mem_append.mp hm).elim (fun z => absurd z hn) fun z => by simpa using z
    rw [this, h] at e
    cases e
  ban := rfl
  exn := rfl
theorem RelS.add (S : RelS K cls w μ) {p : Addr} {o : HO} {c : Cell} (h : w.H p = none) (hc : CellOk K cls ⟨w.x, w.ι ++ [p], w.B, upd w.H p o⟩ p c) : RelS K cls ⟨w.x, w.ι ++ [p], w.B, upd w.H p o⟩ (μ ++ [c]) where
  len := by rw [List.length_append, List.length_append, S.len]; rfl
  nd := by
    rw [List.nodup_append]
    refine ⟨S.nd, by simp, fun a ha b hb e => ?_⟩
    have hb : b = p := by simpa using hb
    rw [e, hb] at ha
    exact (S.free h).1 ha
  ban := fun b hb => by
    obtain ⟨h1, u, h2⟩ := S.ban b hb
    have hbp : b ≠ p := ne_of_none h2 h
    exact ⟨fun z => (List.mem_append.mp z).elim h1 fun z => hbp (by simpa using z), u, by show upd w.H p o b = some (.lst u); rw [upd_ne hbp]; exact h2⟩
  cell := fun n c' e => by
    by_cases hn : n < μ.length
    · rw [List.getElem?_append_left hn] at e
      obtain ⟨a, h1, h2⟩ := S.cell n c' e
      refine ⟨a, by rw [List.getElem?_append_left (by rw [S.len]; exact hn)]; exact h1, h2.mono (kp_add h) fun u e => ?_⟩
      show upd w.H p o a = some u
      rw [upd_ne (ne_of_none e h)]
      exact e
    · rw [List.getElem?_append_right (by omega)] at e
      have hn2 : n - μ.length = 0 := by
        have := (List.getElem?_eq_some_iff.mp e).1
        simp at this
        omega
      rw [hn2] at e
      cases e
      refine ⟨p, ?_, hc⟩
      rw [List.getElem?_append_right (by rw [S.len]; omega), S.len, hn2]
      rfl
  tabs := S.tabsK (kp_add h) fun P ps e i j => ⟨by show upd w.H p o P = _; rw [upd_ne (ne_of_none e h)]; exact e, fun z => (List.mem_append.mp z).elim i fun z => ne_of_none e h (by simpa using z), j⟩
  tinj := S.tinj
end
def mD (m : Nat) (g : FS) : List D → Store → Res D := fun ds μ => match g (ds.map some ++ List.replicate (m - ds.length) none) μ with
  | .rt d μ' => .ok d μ'
  | .nx _ μ' => .ok .non μ'
  | .er k ns es _ μ' => .err k ns es μ'
  | _ => .stuck
mutual
/-- no place from n on in it -/
def low (n : Nat) : D → Bool
  | .tup ds => lows n ds
  | .lst ds => lows n ds
  | .obj _ _ ds => lows n ds
  | .loc k => decide (k < n)
  | .dct _ ds => lows n ds
  | _ => true
def lows (n : Nat) : List D → Bool
  | [] => true
  | d :: ds => low n d && lows n ds
end
def lowC (n : Nat) : Cell → Bool
  | .lst ds => lows n ds
  | .ins _ _ ds => lows n ds
  | .dct _ ds => lows n ds
/-- a new list in a tuple that is handed back is frozen -/
def frz (n : Nat) (μ : Store) (d : D) : Option D := match d with
  | .loc k => if k < n then some (.loc k) else match μ[k]? with
    | some (.lst es) => if lows n es = true then some (.lst es) else none
    | _ => none
  | d => if low n d = true then some d else none
def frzs (n : Nat) (μ : Store) : List D → Option (List D)
  | [] => some []
  | d :: ds => match frz n μ d with
    | some e => match frzs n μ ds with
      | some es => some (e :: es)
      | none => none
    | none => none
/-- a def's own lists are gone behind it; one that it hands back is frozen -/
def fin (n : Nat) : Res D → Res D
  | .ok d μ => match d with
    | .loc k => if k < n then (if (μ.take n).all (lowC n) = true then .ok (.loc k) (μ.take n) else .stuck) else match μ[k]? with
      | some (.lst ds) => if (lows n ds && (μ.take n).all (lowC n)) = true then .ok (.lst ds) (μ.take n) else .stuck
      | _ => .stuck
    | d => if (low n d && (μ.take n).all (lowC n)) = true then .ok d (μ.take n) else match d with
      | .tup ds => if (μ.take n).all (lowC n) = true then match frzs n μ ds with
          | some es => .ok (.tup es) (μ.take n)
          | none => .stuck
        else .stuck
      | _ => .stuck
  | .err k ns es μ => if (lows n es && (μ.take n).all (lowC n)) = true then .err k ns es (μ.take n) else .stuck
  | .stuck => .stuck
def mDf (m : Nat) (g : FS) : List D → Store → Res D := fun ds μ => fin μ.length (mD m g ds μ)
end Fw
set_option Elab.async false
set_option linter.all false
set_option maxRecDepth 100000
set_option autoImplicit false
namespace Fw
open PySem L2 PyProof.Rows
def thaw : Res D → Res D
  | .ok (.lst ds) μ => .ok (.loc μ.length) (μ ++ [.lst ds])
  | .err k ns es μ => .err k ns es μ
  | _ => .stuck
def eThaw (f : FE) : FE := fun ρ μ => thaw (f ρ μ)
section
variable {K : PySem.W.Frag} {cls : Nat → Option Addr} {w : Wd} {μ : Store} {Q : VK} {Er : XK}
/-- a list is laid at p and becomes the next place -/
theorem thaw_new (S : RelS K cls w μ) {ds : List D} {vs : List V} (r : RVs K cls w ds vs) (h : PostR K cls w Er (fun w' d => ∀ v, RV K cls w' d v → Q v w'.H) (thaw (.ok (.lst ds) μ))) {p : Addr} (hp : w.H p = none) : Q (.ref p) (upd w.H p (.lst vs)) := by
  refine h ⟨w.x, w.ι ++ [p], w.B, upd w.H p (.lst vs)⟩ (step_add hp) (S.add hp ⟨vs, upd_same, r.mono (kp_add hp)⟩) _ ⟨p, rfl, ?_⟩
  show (w.ι ++ [p])[μ.length]? = some p
  rw [List.getElem?_append_right (by rw [S.len]; omega), S.len, Nat.sub_self]
  rfl
theorem PostR.thaw {α : Type} {R : Wd → D → Prop} {r : Res α} {f : α → Store → Res D} (h : PostR K cls w Er R (thaw (r.bind f))) : PostR K cls w Er (fun w' a => ∃ μ', RelS K cls w' μ' ∧ PostR K cls w' Er R (thaw (f a μ'))) r := by
  cases r with
  | ok a μ => exact fun w' s S => ⟨μ, S, PostR.step s h⟩
  | err k ns ds μ => exact h
  | stuck => exact h
end
section
variable {X : Cx} {W : WX} {cls : Nat → Option Addr} {a b : Expr} {fa fb : FE} {es : List Expr} {fs : FA} {p pos : Pos}
theorem se_lstT (ha : SA X W cls es fs) : SE X W cls (.List es pos) (eThaw (eLst fs)) := by
  obtain ⟨t1, p1, h1⟩ := ha
  refine ⟨_, pe_lst p1, fun σ Q w ρ μ S E h => ?_⟩
  refine h1 σ _ w ρ μ S E ((PostR.thaw h).imp fun w1 d s1 ⟨μ1, S1, q1⟩ v r1 => ?_)
  by_cases hl : d.length ≤ LIM
  · rw [if_pos hl] at q1
    exact ⟨by rw [r1.length]; exact lim_le hl, fun p hp => thaw_new S1 r1 q1 hp⟩
  · rw [if_neg hl] at q1
    exact q1.elim
/-- tuple(range(..)), list(range(..)) -/
def eTupRg (fi : FI) : FE := fun ρ μ => (fi ρ μ).bind fun it μ1 => .ok (.tup it.1) μ1
end
section
variable {K : PySem.W.Frag} {cls : Nat → Option Addr} {w w' : Wd} {μ : Store}
/-- kept but for the places from n on -/
structure Kl (n : Nat) (w w' : Wd) : Prop where
  at_ : ∀ a o, a ∉ w.ι → a ∉ w.B → w.H a = some o → w'.H a = some o ∧ a ∉ w'.ι ∧ a ∉ w'.B
  loc : ∀ (k : Nat) (a : Addr), k < n → w.ι[k]? = some a → w'.ι[k]? = some a
  exn : w'.x = w.x
mutual
theorem RV.low {n : Nat} (s : Kl n w w') : ∀ {d : D} {v : V}, low n d = true → RV K cls w d v → RV K cls w' d v
  | .non, _, _, h => h
  | .bl _, _, _, h => h
  | .int _, _, _, h => h
  | .str _, _, _, h => h
  | .tup ds, _, l, ⟨a, vs, e, h, r⟩ => ⟨a, vs, e, (match h with
    | .inl ⟨h, m, b⟩ => .inl (s.at_ a _ m b h)
    | .inr h => .inr h), RVs.low s l r⟩
  | .lst ds, _, l, ⟨a, vs, e, ⟨h, m, b⟩, r⟩ => ⟨a, vs, e, s.at_ a _ m b h, RVs.low s l r⟩
  | .flst _, _, _, ⟨a, e, h⟩ => ⟨a, e, match h with
    | .inl ⟨⟨o, h⟩, m, b⟩ => let z := s.at_ a _ m b h; .inl ⟨⟨o, z.1⟩, z.2⟩
    | .inr h => .inr h⟩
  | .obj _ _ ds, _, l, ⟨a, C, dx, vs, e, c, ⟨h, m, b⟩, hl, r⟩ => ⟨a, C, dx, vs, e, c, s.at_ a _ m b h, hl, RVs.low s l r⟩
  | .loc _, _, l, ⟨a, e, h⟩ => ⟨a, e, s.loc _ _ (of_decide_eq_true l) h⟩
  | .ptr _, _, _, h => h
  | .dct _ ds, _, l, ⟨a, vs, e, ⟨h, m, b⟩, hl, r⟩ => ⟨a, vs, e, s.at_ a _ m b h, hl, RVs.low s l r⟩
theorem RVs.low {n : Nat} (s : Kl n w w') : ∀ {ds : List D} {vs : List V}, lows n ds = true → RVs K cls w ds vs → RVs K cls w' ds vs
  | [], _, _, h => h
  | d :: ds, _, l, ⟨v, r, e, h, t⟩ => by
    have l : Fw.low n d = true ∧ lows n ds = true := by simpa [lows] using l
    exact ⟨v, r, e, RV.low s l.1 h, RVs.low s l.2 t⟩
end
/-- the places from the entry's on are gone -/
theorem kl_cut (s : Step w w') : Kl w.ι.length w' ⟨w.x, w.ι, w'.B, w'.H⟩ := ⟨fun a o hi hb e => ⟨e, fun z => hi (by obtain ⟨l, e⟩ := s.pre; rw [e]; exact List.mem_append_left _ z), hb⟩, fun k a hk e => by
  obtain ⟨l, el⟩ := s.pre
  rw [el, List.getElem?_append_left hk] at e
  exact e, s.exn.symm⟩
theorem step_cut (s : Step w w') : Step w ⟨w.x, w.ι, w'.B, w'.H⟩ := ⟨fun a o h1 h2 nt => s.keep a o h1 h2 nt, ⟨[], by simp⟩, fun a h n => absurd h n, s.ban, rfl⟩
theorem RelS.cut (S : RelS K cls w μ) {μ' : Store} (s : Step w w') (S' : RelS K cls w' μ') (h : (μ'.take μ.length).all (lowC μ.length) = true) : RelS K cls ⟨w.x, w.ι, w'.B, w'.H⟩ (μ'.take μ.length) := by
  have hle : μ.length ≤ μ'.length := by
    obtain ⟨l, e⟩ := s.pre
    rw [← S.len, ← S'.len, e, List.length_append]
    omega
  refine ⟨by rw [List.length_take, S.len]; omega, S.nd, fun b hb => ?_, fun n c e => ?_, fun k P h1 h2 h3 => ?_, S.tinj⟩
  · obtain ⟨h1, h2⟩ := S'.ban b hb
    exact ⟨fun z => h1 (by obtain ⟨l, e⟩ := s.pre; rw [e]; exact List.mem_append_left _ z), h2⟩
  · have hn : n < μ.length := by
      have := (List.getElem?_eq_some_iff.mp e).1
      rw [List.length_take] at this
      omega
    have lc : lowC μ.length c = true := List.all_eq_true.mp h c (List.mem_of_getElem? e)
    rw [List.getElem?_take_of_lt hn] at e
    obtain ⟨a, h1, h2⟩ := S'.cell n c e
    have hk := kl_cut s
    rw [S.len] at hk
    refine ⟨a, hk.loc n a hn h1, ?_⟩
    cases c with
    | lst ds =>
      obtain ⟨vs, e1, r⟩ := h2
      exact ⟨vs, e1, RVs.low hk lc r⟩
    | ins cn ns ds =>
      obtain ⟨C, dx, vs, e0, e1, e2, r⟩ := h2
      exact ⟨C, dx, vs, e0, e1, e2, RVs.low hk lc r⟩
    | dct ks ds =>
      obtain ⟨vs, e1, e2, r⟩ := h2
      exact ⟨vs, e1, e2, RVs.low hk lc r⟩
  · obtain ⟨⟨ps, e1, t, r⟩, i, j⟩ := S'.tabs k P h1 h2 h3
    have hk := kl_cut s
    have ni : ∀ {a : Addr}, a ∉ w'.ι → a ∉ w.ι := fun {a} z y => z (by obtain ⟨l, e⟩ := s.pre; rw [e]; exact List.mem_append_left _ y)
    exact ⟨⟨ps, e1, t, fun pos cv z => let ⟨c', z1, z2, z3, z4⟩ := r pos cv z; ⟨c', z1, z2, ni z3, z4⟩⟩, ni i, j⟩
theorem frz_ok (S : RelS K cls w μ) {μ' : Store} (s : Step w w') (S' : RelS K cls w' μ') (hk : Kl μ.length w' ⟨w.x, w.ι, w'.B, w'.H⟩) {d e : D} {v : V} (r : RV K cls w' d v) (he : frz μ.length μ' d = some e) : RV K cls ⟨w.x, w.ι, w'.B, w'.H⟩ e v := by
  have plain : ∀ {d : D}, RV K cls w' d v → (if low μ.length d = true then some d else none) = some e → RV K cls ⟨w.x, w.ι, w'.B, w'.H⟩ e v := fun {d} r he => by
    split at he
    · cases he
      exact RV.low hk (by assumption) r
    · cases he
  cases d with
  | loc k =>
    simp only [frz] at he
    split at he
    · rename_i hlt
      cases he
      exact RV.low hk (by simp [low, hlt]) r
    · split at he
      · rename_i ds hm
        split at he
        · rename_i hlow
          cases he
          obtain ⟨a, vs, ex, hn, h3, h4⟩ := S'.lst r hm
          refine ⟨a, vs, ex, ⟨h3, fun z => ?_, (fun z => (S'.ban a z).1 (List.mem_of_getElem? hn))⟩, RVs.low hk hlow h4⟩
          obtain ⟨l, el⟩ := s.pre
          obtain ⟨j, hj, ej⟩ := List.getElem_of_mem z
          have hj : j < w.ι.length := hj
          have hj' : w'.ι[j]? = some a := by rw [el, List.getElem?_append_left hj, List.getElem?_eq_getElem hj, ej]
          obtain ⟨l1, e1⟩ := List.getElem?_eq_some_iff.mp hn
          obtain ⟨l2, e2⟩ := List.getElem?_eq_some_iff.mp hj'
          have : k = j := (List.getElem_inj S'.nd).mp (e1.trans e2.symm)
          have hw : w.ι.length = μ.length := S.len
          omega
        · cases he
      · cases he
  | non => exact plain r he
  | bl _ => exact plain r he
  | int _ => exact plain r he
  | str _ => exact plain r he
  | tup _ => exact plain r he
  | lst _ => exact plain r he
  | flst _ => exact plain r he
  | obj _ _ _ => exact plain r he
  | ptr _ => exact plain r he
  | dct _ _ => exact plain r he
theorem frzs_ok (S : RelS K cls w μ) {μ' : Store} (s : Step w w') (S' : RelS K cls w' μ') (hk : Kl μ.length w' ⟨w.x, w.ι, w'.B, w'.H⟩) : ∀ {ds es : List D} {vs : List V}, RVs K cls w' ds vs → frzs μ.length μ' ds = some es → RVs K cls ⟨w.x, w.ι, w'.B, w'.H⟩ es vs
  | [], es, vs, r, he => by
    cases he
    exact r
  | d :: ds, es, vs, ⟨v, rest, e, r, t⟩, he => by
    simp only [frzs] at he
    split at he
    · rename_i e1 h1
      split at he
      · rename_i es1 h2
        cases he
        exact ⟨v, rest, e, frz_ok S s S' hk r h1, frzs_ok S s S' hk t h2⟩
      · cases he
    · cases he
theorem fin_ok {Q : VK} {Er : XK} (S : RelS K cls w μ) {r : Res D} (h : PostR K cls w Er (fun w' d => ∀ v, RV K cls w' d v → Q v w'.H) (fin μ.length r)) : PostR K cls w Er (fun w' d => ∀ v, RV K cls w' d v → Q v w'.H) r := by
  cases r with
  | stuck => exact h
  | err k ns es μ' =>
    intro w' cv d s S' x
    have hk := kl_cut s
    rw [S.len] at hk
    simp only [fin] at h
    split at h
    · rename_i hc
      rw [Bool.and_eq_true] at hc
      obtain ⟨C, e1, e2, e3⟩ := x
      refine h ⟨w.x, w.ι, w'.B, w'.H⟩ cv d (step_cut s) (S.cut s S' hc.2) ⟨C, e1, e2, ?_⟩
      rcases e3 with e3 | ⟨dd, vs, e3, ⟨e4, e5, e6⟩, e7, e8⟩
      · exact .inl e3
      · exact .inr ⟨dd, vs, e3, hk.at_ dd _ e5 e6 e4, e7, RVs.low hk hc.1 e8⟩
    · exact h.elim
  | ok d μ' =>
    intro w' s S' v rv
    have hk := kl_cut s
    rw [S.len] at hk
    have plain : (low μ.length d && (μ'.take μ.length).all (lowC μ.length)) = true → PostR K cls w Er (fun w' d => ∀ v, RV K cls w' d v → Q v w'.H) (.ok d (μ'.take μ.length)) → Q v w'.H := fun hc h => by
      rw [Bool.and_eq_true] at hc
      exact h ⟨w.x, w.ι, w'.B, w'.H⟩ (step_cut s) (S.cut s S' hc.2) v (RV.low hk hc.1 rv)
    cases d with
    | loc k =>
      simp only [fin] at h
      split at h
      · rename_i hlt
        split at h
        · rename_i hc
          exact plain (by rw [hc]; simp [low, hlt]) h
        · exact h.elim
      · rename_i hge
        split at h
        · rename_i ds he
          split at h
          · rename_i hc
            rw [Bool.and_eq_true] at hc
            obtain ⟨a, vs, ex, hn, h3, h4⟩ := S'.lst rv he
            refine h ⟨w.x, w.ι, w'.B, w'.H⟩ (step_cut s) (S.cut s S' hc.2) v ⟨a, vs, ex, ⟨h3, fun z => ?_, (fun z => (S'.ban a z).1 (List.mem_of_getElem? hn))⟩, RVs.low hk hc.1 h4⟩
            obtain ⟨l, el⟩ := s.pre
            obtain ⟨j, hj, ej⟩ := List.getElem_of_mem z
            have hj : j < w.ι.length := hj
            have hj' : w'.ι[j]? = some a := by rw [el, List.getElem?_append_left hj, List.getElem?_eq_getElem hj, ej]
            obtain ⟨l1, e1⟩ := List.getElem?_eq_some_iff.mp hn
            obtain ⟨l2, e2⟩ := List.getElem?_eq_some_iff.mp hj'
            have : k = j := (List.getElem_inj S'.nd).mp (e1.trans e2.symm)
            have hw : w.ι.length = μ.length := S.len
            omega
          · exact h.elim
        · exact h.elim
    | non => simp only [fin] at h; split at h; exact plain (by assumption) h; exact h.elim
    | bl _ => simp only [fin] at h; split at h; exact plain (by assumption) h; exact h.elim
    | int _ => simp only [fin] at h; split at h; exact plain (by assumption) h; exact h.elim
    | str _ => simp only [fin] at h; split at h; exact plain (by assumption) h; exact h.elim
    | tup ds =>
      simp only [fin] at h
      split at h
      · exact plain (by assumption) h
      · split at h
        · rename_i hall
          split at h
          · rename_i es he
            obtain ⟨a, vs, ev, t, rs⟩ := rv
            refine h ⟨w.x, w.ι, w'.B, w'.H⟩ (step_cut s) (S.cut s S' hall) v ⟨a, vs, ev, ?_, frzs_ok S s S' hk rs he⟩
            rcases t with ⟨t, tn, tb⟩ | t
            · exact .inl ⟨t, fun z => tn (by obtain ⟨l, e⟩ := s.pre; rw [e]; exact List.mem_append_left _ z), tb⟩
            · exact .inr t
          · exact h.elim
        · exact h.elim
    | lst _ => simp only [fin] at h; split at h; exact plain (by assumption) h; exact h.elim
    | flst _ => simp only [fin] at h; split at h; exact plain (by assumption) h; exact h.elim
    | obj _ _ _ => simp only [fin] at h; split at h; exact plain (by assumption) h; exact h.elim
    | ptr _ => simp only [fin] at h; split at h; exact plain (by assumption) h; exact h.elim
    | dct _ _ => simp only [fin] at h; split at h; exact plain (by assumption) h; exact h.elim
theorem relE_start {N : List Str} : ∀ {ds : List D} {vs : List V}, RVs K cls w ds vs → RelE K cls w (ds.map some ++ List.replicate (N.length - ds.length) none) (L2.start N vs) := fun {ds vs} r => by
  unfold L2.start
  rw [r.length]
  refine ⟨by simp [r.length], fun i d e => ?_⟩
  by_cases hi : i < ds.length
  · rw [List.getElem?_append_left (by simpa using hi), List.getElem?_map, Option.map_eq_some_iff] at e
    obtain ⟨d', e1, e2⟩ := e
    cases e2
    obtain ⟨v, hv, rv⟩ := r.get e1
    refine ⟨v, ?_, rv⟩
    rw [List.getElem?_append_left (by rw [List.length_map, r.length]; exact hi), List.getElem?_map, hv]
    rfl
  · rw [List.getElem?_append_right (by simpa using hi)] at e
    have := List.mem_replicate.mp (List.mem_of_getElem? e)
    cases this.2
end
section
variable {P : Program} {W : World} {K : PySem.W.Frag} {cls : Nat → Option Addr} {mg : Str → Option Value} {base : Heap} {x qual : Str} {st : Stmt} {f : Addr} {fd : FuncData} {N ps : List Str} {k : Nat} {g : FS}
/-- what a def's body wishes of what it raises: what its caller wishes -/
abbrev WD (E : XK) : WX := fun cls d _ H => E cls d H
theorem fn_mk (F : Fun K x qual st f fd) (S : FnScope N ps (defScope st))
    (hb : ∀ (cdv : Value) (A : Around) (outer : List PySem.Env) (s : Shared) (H : Hp) (E : XK), Room k (A.deeper (envOfC qual (defScope st) s.heap.objs.size f cdv)) → Takes (cxOf (CX P W) P W K mg base N qual (defScope st) f cdv A outer s H E) (WD E) →
      SSs (cxOf (CX P W) P W K mg base N qual (defScope st) f cdv A outer s H E) (WD E) cls (defBody st) g) :
    FnOk P W K mg base (CX P W) (k + 1) f fd ps (spD K cls (mD N.length g) ps.length) := by
  refine F.okX S (fun vs H Q E h => ?_) fun cdv A outer s H vs Q E hr h => ?_
  · obtain ⟨w, ds, μ, _, hl, _, r, _⟩ := h
    rw [r.length, hl]
  · obtain ⟨w, ds, μ, rfl, hl, S', r, h⟩ := h
    obtain ⟨t, p, hk⟩ := hb cdv A outer s w.H E hr (takes_of rfl rfl rfl rfl)
    refine ⟨t, p, hk _ _ w _ μ S' (relE_start r) ?_⟩
    unfold mD at h
    cases hg : g (ds.map some ++ List.replicate (N.length - ds.length) none) μ with
    | nx ρ μ1 => rw [hg] at h; exact fun w' σ s S1 E1 => h w' s S1 _ rfl
    | rt d μ1 => rw [hg] at h; exact fun w' v s S1 r1 => h w' s S1 v r1
    | bk ρ μ1 => rw [hg] at h; exact h.elim
    | ct ρ μ1 => rw [hg] at h; exact h.elim
    | er k ns es ρ μ1 => rw [hg] at h; exact fun w' σ cv d s S1 E1 x => h w' cv d s S1 x
    | stuck => rw [hg] at h; exact h
theorem df_mk (F : Fun K x qual st f fd) (b : Binds K fd ps []) (hm : mg x = some (.ref f)) (S : FnScope N ps (defScope st))
    (hb : ∀ (cdv : Value) (A : Around) (outer : List PySem.Env) (s : Shared) (H : Hp) (E : XK), Room k (A.deeper (envOfC qual (defScope st) s.heap.objs.size f cdv)) → Takes (cxOf (CX P W) P W K mg base N qual (defScope st) f cdv A outer s H E) (WD E) →
      SSs (cxOf (CX P W) P W K mg base N qual (defScope st) f cdv A outer s H E) (WD E) cls (defBody st) g) :
    Df P W K cls mg base (k + 1) x ps.length (mD N.length g) := ⟨f, fd, ps, fn_mk F S hb, hm, F.kp, b, rfl⟩
theorem Df.fin {n m : Nat} {g : FS} (h : Df P W K cls mg base k x n (mD m g)) : Df P W K cls mg base k x n (mDf m g) := by
  obtain ⟨f, fd, ps, hf, hm, hk, hb, hn⟩ := h.ex
  refine ⟨f, fd, ps, hf.imp fun vs H Q E h => ?_, hm, hk, hb, hn⟩
  obtain ⟨w, ds, μ, e, hl, S, r, h⟩ := h
  exact ⟨w, ds, μ, e, hl, S, r, fin_ok S h⟩
end
end Fw
set_option Elab.async false
set_option linter.all false
set_option maxRecDepth 100000
set_option autoImplicit false
namespace Fw
open PySem L2 PyProof.Rows
/-- the heap with both of its objects: the tuple's iterator, and enumerate's own at the place behind it -/
abbrev enumH (h : Heap) (a : Addr) : Heap := (h.push { cls := .type "tuple_iterator", data := .fields #[.ref a, .int 0 0] }).push
  { cls := .type "enumerate", data := .fields #[.none, .bool false, .ref h.objs.size, rawInt 0, .none, .none] }
theorem enumH_at (h : Heap) (a : Addr) : IsEnum (enumH h a) (h.objs.size + 1) h.objs.size 0 .none ∧ (enumH h a).IsTupleIter h.objs.size a 0 ∧ ∀ b o, h.get? b = some o → (enumH h a).get? b = some o := by
  unfold enumH
  refine ⟨?_, ⟨_, Heap.get?_push_of_some _ (Heap.get?_push_size h rfl), rfl, rfl⟩, fun b o q => Heap.get?_push_of_some _ (Heap.get?_push_of_some _ q)⟩
  exact Heap.size_push h _ ▸ Heap.get?_push_size (h.push _) rfl
section
variable {P : Program} {w : World}
theorem if_both {α : Type} {M : Model} {A : Around} {c : Prop} [Decidable c] {x y : Sem α} {Q : α → Shared → Prop} {E : Value → Shared → Prop} {s : Shared} (hx : wpAny M A x Q E s) (hy : wpAny M A y Q E s) : wpAny M A (if c then x else y) Q E s := by
  split <;> assumption
set_option maxHeartbeats 1000000 in
theorem enum_new (a : Addr) (items : Array Value) : MeetsIn P w (Builtin.«enumerate.__new__» ⟨[.type "enumerate", .ref a], []⟩)
    (fun _ R s => s.heap.IsTuple a items ∧ R (.ok (.ret (.ref (s.heap.objs.size + 1)))) { s with heap := enumH s.heap a }) := by
  intro A R s h
  have own := sub_enumerate
  have begun : ∀ {A' : Around} {E Q : Value → Shared → Prop}, Q (.ref s.heap.objs.size) { s with heap := s.heap.push { cls := .type "tuple_iterator", data := .fields #[.ref a, .int 0 0] } } → wpAny (model P w) A' (pyIter (.ref a)) Q E s :=
    fun q => (begins_tuple a items).iter P w _ _ s _ h.1 q
  have last : (s.heap.push { cls := .type "tuple_iterator", data := .fields #[.ref a, .int 0 0] }).objs.size = s.heap.objs.size + 1 := Heap.size_push ..
  unfold Builtin.«enumerate.__new__»
  wp_walk using begun
  refine wpAny_stack_any fun st => wpAny_pure (if_both ?_ ?_) <;> (wp_walk using begun; exact last ▸ h.2)
theorem enum_of_tuple {A : Around} {E Q : Value → Shared → Prop} {s : Shared} {a : Addr} {items : Array Value} (p : s.heap.IsTuple a items) (h : Q (.ref (s.heap.objs.size + 1)) { s with heap := enumH s.heap a }) :
    wpAny (model P w) A (call (.type "enumerate") [.ref a]) Q E s :=
  callType_newIn F.called_enumerate (by decide) (F.typeCall_enumerate_1 _) (F.newCall_enumerate_1 _) (F.args_object_init_2 · _) F.entry_enumerate_new (enum_new a items) ⟨p, ⟨_, (enumH_at s.heap a).1, rfl⟩, h⟩
end
/-- things of unlike classes lie apart -/
theorem cls_apart {h : Heap} {x y : Addr} {o o' : Obj} {T T' : String} (hx : h.get? x = some o) (hy : h.get? y = some o') (cx : o.cls = .type T) (cy : o'.cls = .type T') (ne : (T == T') = false) : x ≠ y := by
  rintro rfl
  rw [hx, Option.some.injEq] at hy
  rw [← hy, cx, Value.type.injEq] at cy
  rw [cy, beq_self_eq_true] at ne
  cases ne
/-- enumerate's object e, its iterator it, which stands at place i of the tuple at a -/
structure EnAt (e it a : Addr) (i : Nat) (h : Heap) : Prop where
  en : ∃ old, IsEnum h e it ((i : Nat) : Int) old
  on : h.IsTupleIter it a i
  two : e ≠ it
section
variable {e it a : Addr} {i : Nat} {h h' : Heap}
theorem EnAt.keep (y : EnAt e it a i h) (k : ∀ b ∈ [e, it], ∀ o, h.get? b = some o → h'.get? b = some o) : EnAt e it a i h' :=
  ⟨y.en.imp fun _ q => k e (.head _) _ q, y.on.at (k it (.tail _ (.head _))), y.two⟩
theorem EnAt.obj (y : EnAt e it a i h) {b : Addr} (hb : b ∈ [e, it]) : ∃ o vs, h.get? b = some o ∧ o.data = .fields vs := by
  rw [List.mem_cons, List.mem_singleton] at hb
  rcases hb with rfl | rfl
  · exact let ⟨_, q⟩ := y.en; ⟨_, _, q, rfl⟩
  · exact let ⟨o, q, _, d⟩ := y.on; ⟨o, _, q, d⟩
theorem EnAt.old (y : EnAt e it a i h) {b : Addr} (hb : b ∈ [e, it]) : b < h.objs.size := let ⟨_, _, q, _⟩ := y.obj hb; Heap.lt_size q
theorem EnAt.off {items : Array Value} (y : EnAt e it a i h) (p : h.IsTuple a items) : a ≠ it ∧ a ≠ e := by
  obtain ⟨o, q, c, _⟩ := p
  obtain ⟨o2, q2, c2, _⟩ := y.on
  obtain ⟨_, q3⟩ := y.en
  exact ⟨cls_apart q q2 c c2 (by decide), cls_apart q q3 c rfl (by decide)⟩
end
theorem en_item {X : Cx} {pins : List (Addr × Obj)} {σ : L2.St} {H : Hp} {s : Shared} {E : Value → Shared → Prop} {elts : List Expr} {kk : Nat} {tpos : Pos} {e it a : Addr} {i : Nat} {xs : List V} {x : V} (hc : X.calm = true) (I : Inv X pins σ H s)
    (own : ∀ b ∈ [e, it], FpOk X pins H b) (y : EnAt e it a i s.heap) (hq : SqT X.K H a xs) (hx : xs[i]? = some x) :
    wpAny (model X.prog X.w) X.A (pyNext (.ref e)) (fun r s1 => ∃ u, r = some u ∧ wpAny (model X.prog X.w) X.A (letOwnedTupleGo (.Tuple elts kk tpos) (.ref e) u)
      (fun _ s2 => ∃ T, u = .ref T ∧ s.heap.objs.size ≤ T ∧ Inv X pins σ (upd H T (.tup [.int (i : Nat), x])) s2 ∧ EnAt e it a (i + 1) s2.heap) E s1) E s := by
  obtain ⟨its, rv, p, _⟩ := I.tuple hq
  have ⟨u, hu, ru⟩ := rv.get hx
  obtain ⟨ai, ae⟩ := y.off p
  obtain ⟨_, en⟩ := y.en
  have room : i < its.toArray.size := by rw [List.size_toArray]; exact (List.getElem?_eq_some_iff.mp hu).1
  have e_old : e ≠ s.heap.objs.size := Nat.ne_of_lt (y.old (.head _))
  refine wpAny_pyNext_enum_itemD (Draws.tuple (A := X.A.in1) (I.ok.hd hc) it a ai its.toArray) en ⟨y.on, p⟩ room y.two (by simp [y.two, Ne.symm ae]) fun x1 h1 tk got out st pair _ k1 => ⟨_, rfl, ?_⟩
  obtain rfl : u = x1 := Option.some.inj (hu.symm.trans (by rw [← got, List.getElem?_toArray]))
  refine wpAny_letOwnedTupleGo_enum out fun h2 en2 same => ⟨s.heap.objs.size, rfl, Nat.le_refl _, ?_, ⟨⟨_, by rw [Int.natCast_add]; exact en2⟩, st.1.at fun _ q => (same.2 it y.two.symm).trans q, y.two⟩⟩
  refine I.turnedNew (ch := [e, it]) (fun b o nb q => ?_) own (Nat.le_refl _) ⟨by show 2 ≤ sizeLine; decide, [.int i tk, u], .cons ⟨_, rfl⟩ (.cons ru .nil), _, (same.2 _ e_old.symm).trans pair, rfl, _, rfl⟩
  simp only [List.mem_cons, List.not_mem_nil, or_false, not_or] at nb
  exact (same.2 b nb.1).trans (k1 b o nb.1 nb.2 q)
theorem en_end {X : Cx} {pins : List (Addr × Obj)} {σ : L2.St} {H : Hp} {s : Shared} {E : Value → Shared → Prop} {e it a : Addr} {i : Nat} {xs : List V} (hc : X.calm = true) (I : Inv X pins σ H s)
    (own : FpOk X pins H it) (y : EnAt e it a i s.heap) (hq : SqT X.K H a xs) (hx : xs.length ≤ i) : wpAny (model X.prog X.w) X.A (pyNext (.ref e)) (fun r s1 => r = none ∧ Inv X pins σ H s1) E s := by
  obtain ⟨its, rv, p, _⟩ := I.tuple hq
  have none_ : its.toArray[i]? = none := by
    rw [List.getElem?_toArray, List.getElem?_eq_none_iff]
    exact rv.length ▸ hx
  have D : Draws X.prog X.w X.A.in1 it [it, a] i (fun i v => its.toArray[i]? = some v) (fun k h => k = i ∧ h.IsTupleIter it a i ∧ h.IsTuple a its.toArray) := {
    live := fun _ _ st => st.2.1.imp fun _ q => q.1
    frame := fun _ _ _ st k => ⟨st.1, st.2.1.at (k it (.head _)), st.2.2.at (k a (.tail _ (.head _)))⟩
    item := fun j _ _ _ lt st => absurd (st.1 ▸ lt) (Nat.lt_irrefl _)
    done := fun _ _ _ st out => wpAny_nextOf_tuple_end (I.ok.hd hc) st.2.1 st.2.2 none_ out }
  obtain ⟨_, en⟩ := y.en
  obtain ⟨n1, n2, _, n4, n5, n6⟩ := own
  exact wpAny_pyNext_enum_endD D en ⟨rfl, y.on, p⟩ fun h' ext => ⟨rfl, I.turned (t' := s.toks) ext n1 n2 n4 n5 n6⟩
/-- the tuple at a, each item in a new pair -/
def IteT (K : PySem.W.Frag) (a : Addr) : It :=
  ⟨fun i H => ∃ (xs : List V) (x : V), SqT K H a xs ∧ xs[i]? = some x, fun i H v H' => ∃ T x, v = .ref T ∧ H T = none ∧ H' = upd H T (.tup [.int (i : Nat), x]) ∧ ∀ xs, SqT K H a xs → xs[i]? = some x, fun i H => ∃ xs : List V, SqT K H a xs ∧ xs.length ≤ i⟩
theorem turn_enumT {P : Program} {w : World} {K : PySem.W.Frag} {elts : List Expr} {kk : Nat} {tpos : Pos} (a e it : Addr) : Turn P w K (.Tuple elts kk tpos) (IteT K a) [e, it] e (EnAt e it a) where
  mem := .head _
  obj := fun _ _ y b hb => let ⟨o, _, q, d⟩ := y.obj hb; ⟨o, q, fun v => by rw [d]; exact nofun⟩
  keep := fun _ _ _ y k => y.keep k
  item := fun X hP hw hK hc i pins s σ H E I own y ⟨xs, x, hq, hx⟩ => by
    subst hP hw hK
    refine wpAny_mono (en_item (elts := elts) (kk := kk) (tpos := tpos) hc I own y hq hx) (fun r s1 ⟨u, hr, more⟩ => ⟨u, hr, ?_⟩) fun _ _ q => q
    refine wpAny_mono more (fun _ s2 ⟨T, hu, new, J, y2⟩ => ⟨.ref T, _, J, hu, ⟨T, x, rfl, I.hok.fresh new, rfl, fun ys hy => ?_⟩, y2, fun b hb => ?_⟩) fun _ _ q => q
    · rw [I.tuple_inj hy hq]
      exact hx
    · rw [upd_ne (Nat.ne_of_lt (Nat.lt_of_lt_of_le (y.old hb) new))]
      exact (own b hb).1
  done := fun X hP hw hK hc i pins s σ H E I own y ⟨xs, hq, hx⟩ => by
    subst hP hw hK
    exact en_end hc I (own it (.tail _ (.head _))) y hq hx
  self := fun A i s Q E y q => let ⟨_, en⟩ := y.en; wpAny_pyIter_enum en q
def iEnumT (K : PySem.W.Frag) (ta : TA) : TI := fun σ H R => ta σ H fun vs H1 => ∃ a xs, vs = [.ref a] ∧ SqT K H1 a xs ∧ R (IteT K a) H1
theorem pi_enumT {X : Cx} {e : Expr} {ta : TA} {p pos tpos : Pos} {elts : List Expr} {kk : Nat} (hg : Gl X "enumerate") (hm : X.mg "enumerate" = none) (ha : PA X [e] ta) (hs : starEach [e] X.env = [(false, eval e X.env)] := by rfl) :
    PI X (.Tuple elts kk tpos) (.Call (.Name "enumerate" p) [e] [] pos) (iEnumT X.K ta) where
  run pins s σ H R I h := by
    refine Call_ (ld_blt I hg hm boot_enumerate (callWith_type1 (thn (ha.run pos pins s σ H _ I h) fun us s1 q => ?_) hs rfl))
    obtain ⟨_, H1, J, rr, a, xs, rfl, hq, go⟩ := q
    obtain rfl := Vals.ref1 rr
    obtain ⟨its, _, tup, _⟩ := J.tuple hq
    obtain ⟨en, on, k⟩ := enumH_at s1.heap a
    refine enum_of_tuple tup (wpAny_pyIter_enum en ⟨_, [_, s1.heap.objs.size], _, _, H1, rfl, J.kept (t' := s1.toks) k, turn_enumT a _ _, ⟨⟨_, en⟩, on, Nat.succ_ne_self _⟩, fun b hb => ?_, go⟩)
    have le : s1.heap.objs.size ≤ b := by
      rw [List.mem_cons, List.mem_singleton] at hb
      exact hb.elim (fun z => z ▸ Nat.le_succ _) fun z => z ▸ Nat.le_refl _
    exact J.fpOk le (J.hok.fresh le)
def enumD (ds : List D) : List D := (ds.zipIdx).map fun p => .tup [.int (p.2 : Nat), p.1]
def oEnum (d : D) (μ : Store) : Res (List D × Option Nat) := match d with
  | .lst ds => .ok (enumD ds, none) μ
  | .tup ds => .ok (enumD ds, none) μ
  | _ => .stuck
def iEnumD (fe : FE) : FI := fun ρ μ => (fe ρ μ).bind fun d μ1 => oEnum d μ1
section
variable {K : PySem.W.Frag} {cls : Nat → Option Addr} {w : Wd} {μ : Store}
theorem enumD_get {ds : List D} {i : Nat} {d : D} (h : (enumD ds)[i]? = some d) : ∃ e, ds[i]? = some e ∧ d = .tup [.int (i : Nat), e] := by
  unfold enumD at h
  rw [List.getElem?_map, Option.map_eq_some_iff] at h
  obtain ⟨⟨e, j⟩, h1, rfl⟩ := h
  rw [List.getElem?_zipIdx, Option.map_eq_some_iff] at h1
  obtain ⟨e', h2, h3⟩ := h1
  simp at h3
  obtain ⟨rfl, rfl⟩ := h3
  exact ⟨_, h2, by simp⟩
theorem wk_enumG {J : It} {ds : List D} (h : ∀ (w' : Wd), Kp w w' → ∃ vs, RVs K cls w' ds vs ∧ (∀ i v, vs[i]? = some v → J.go i w'.H ∧ ∀ x H2, J.yld i w'.H x H2 → ∃ T, x = .ref T ∧ w'.H T = none ∧ H2 = upd w'.H T (.tup [.int (i : Nat), v])) ∧ (∀ i, vs.length ≤ i → J.stop i w'.H)) : Wk K cls J w (enumD ds) none := by
  intro i w' μ' k S' so
  obtain ⟨vs, h1, h2, h3⟩ := h w' k
  refine ⟨fun d hd => ?_, fun hi => h3 i (by rw [h1.length]; simpa [enumD] using hi)⟩
  obtain ⟨e, he, rfl⟩ := enumD_get hd
  obtain ⟨v, hv, rv⟩ := h1.get he
  obtain ⟨go, yld⟩ := h2 i v hv
  refine ⟨go, fun x H2 y => ?_⟩
  obtain ⟨T, rfl, hT, rfl⟩ := yld x H2 y
  exact ⟨w'.up T (.tup [.int (i : Nat), v]), rfl, step_new hT, S'.new hT, new_tup S' hT (.cons rfl (.cons rv .nil))⟩
end
theorem si_enum {X : Cx} {W : WX} {cls : Nat → Option Addr} {e : Expr} {fe : FE} {p pos tpos : Pos} {elts : List Expr} {kk : Nat} (hg : Gl X "enumerate") (hm : X.mg "enumerate" = none) (he : SE X W cls e fe) (hs : starEach [e] X.env = [(false, eval e X.env)] := by rfl) :
    SI X W cls (.Tuple elts kk tpos) (.Call (.Name "enumerate" p) [e] [] pos) (iEnumD fe) := by
  obtain ⟨t, p1, k⟩ := he
  refine ⟨_, pi_or (pi_enum hg hm (pa_cons p1 pa_nil hs) hs) (pi_enumT hg hm (pa_cons p1 pa_nil hs) hs), fun σ R w ρ μ S E h => ?_⟩
  have h := PostR.bind h
  cases hf : fe ρ μ with
  | stuck => rw [hf] at h; exact h.elim
  | err k' ns ds μ1 =>
    rw [hf] at h
    exact .inl (k σ _ w ρ μ S E (by rw [hf]; exact h))
  | ok d μ1 =>
    rw [hf] at h
    have go := k σ
    cases d with
    | lst ds =>
      refine .inl (go _ w ρ μ S E ?_)
      rw [hf]
      intro w1 s1 S1 v r1
      obtain ⟨μ', S2, q⟩ := h w1 s1 S1
      obtain ⟨a, vs, e1, h1, h2⟩ := r1
      refine ⟨a, vs, congrArg (fun z => [z]) e1, .inl (.inl h1.1), q w1 Step.refl S2 _ (wk_enumG fun w' kp => ?_)⟩
      have hL : SqL X.K w'.H a vs := .inl (.inl (kp.at_ a _ h1.2.1 h1.2.2 h1.1).1)
      refine ⟨vs, h2.mono kp, fun i v hv => ⟨⟨vs, v, hL, hv⟩, fun x H2 ⟨T, x', ex, hT, hH, hx⟩ => ⟨T, ex, hT, ?_⟩⟩, fun i hi => ⟨vs, hL, hi⟩⟩
      have := hx vs hL
      rw [hv] at this
      cases this
      exact hH
    | tup ds =>
      refine .inr (go _ w ρ μ S E ?_)
      rw [hf]
      intro w1 s1 S1 v r1
      obtain ⟨μ', S2, q⟩ := h w1 s1 S1
      obtain ⟨a, vs, e1, h1, h2⟩ := r1
      refine ⟨a, vs, congrArg (fun z => [z]) e1, h1.sq, q w1 Step.refl S2 _ (wk_enumG fun w' kp => ?_)⟩
      have hL : SqT X.K w'.H a vs := (h1.mono kp).sq
      refine ⟨vs, h2.mono kp, fun i v hv => ⟨⟨vs, v, hL, hv⟩, fun x H2 ⟨T, x', ex, hT, hH, hx⟩ => ⟨T, ex, hT, ?_⟩⟩, fun i hi => ⟨vs, hL, hi⟩⟩
      have := hx vs hL
      rw [hv] at this
      cases this
      exact hH
    | non => exact .inl (go _ w ρ μ S E (by rw [hf]; intro w1 s1 S1 v r1; obtain ⟨μ', S2, q⟩ := h w1 s1 S1; exact q.elim))
    | bl _ => exact .inl (go _ w ρ μ S E (by rw [hf]; intro w1 s1 S1 v r1; obtain ⟨μ', S2, q⟩ := h w1 s1 S1; exact q.elim))
    | int _ => exact .inl (go _ w ρ μ S E (by rw [hf]; intro w1 s1 S1 v r1; obtain ⟨μ', S2, q⟩ := h w1 s1 S1; exact q.elim))
    | str _ => exact .inl (go _ w ρ μ S E (by rw [hf]; intro w1 s1 S1 v r1; obtain ⟨μ', S2, q⟩ := h w1 s1 S1; exact q.elim))
    | flst _ => exact .inl (go _ w ρ μ S E (by rw [hf]; intro w1 s1 S1 v r1; obtain ⟨μ', S2, q⟩ := h w1 s1 S1; exact q.elim))
    | obj _ _ _ => exact .inl (go _ w ρ μ S E (by rw [hf]; intro w1 s1 S1 v r1; obtain ⟨μ', S2, q⟩ := h w1 s1 S1; exact q.elim))
    | ptr _ => exact .inl (go _ w ρ μ S E (by rw [hf]; intro w1 s1 S1 v r1; obtain ⟨μ', S2, q⟩ := h w1 s1 S1; exact q.elim))
    | dct _ _ => exact .inl (go _ w ρ μ S E (by rw [hf]; intro w1 s1 S1 v r1; obtain ⟨μ', S2, q⟩ := h w1 s1 S1; exact q.elim))
    | loc _ => exact .inl (go _ w ρ μ S E (by rw [hf]; intro w1 s1 S1 v r1; obtain ⟨μ', S2, q⟩ := h w1 s1 S1; exact q.elim))
end Fw
set_option Elab.async false
set_option linter.all false
set_option maxRecDepth 100000
set_option autoImplicit false
namespace Fw
open PySem L2 PyProof.Rows
/-- a method as the top has left it -/
structure Dm (P : Program) (W : World) (K : PySem.W.Frag) (cls : Nat → Option Addr) (mg : Str → Option Value) (base : Heap) (k : Nat) (f : Addr) (n : Nat) (F : List D → Store → Res D) : Prop where
  ex : ∃ (fd : FuncData) (ps : List Str), FnOk P W K mg base (CX P W) k f fd ps (spD K cls F n) ∧ Binds K fd ps [] ∧ ps.length = n
/-- an own class -/
structure Kl1 (K : PySem.W.Frag) (cls : Nat → Option Addr) (c : Nat) (C : Addr) : Prop where
  at_ : cls c = some C
  cl : Cls K C
def putNs (f : Str) : List Str → List Str
  | [] => [f]
  | g :: r => if g = f then g :: r else g :: putNs f r
def putXs {α : Type} (f : Str) (d : α) : List Str → List α → List α
  | g :: r, x :: xs => if g = f then d :: xs else x :: putXs f d r xs
  | _, _ => [d]
theorem putF_zip (f : Str) (y : V) : ∀ (ns : List Str) (vs : List V), ns.length = vs.length → putF f y (ns.zip vs) = (putNs f ns).zip (putXs f y ns vs)
  | [], [], _ => rfl
  | g :: r, x :: xs, h => by
    show (if g = f then (g, y) :: r.zip xs else (g, x) :: putF f y (r.zip xs)) = (if g = f then g :: r else g :: putNs f r).zip (if g = f then y :: xs else x :: putXs f y r xs)
    by_cases e : g = f
    · rw [if_pos e, if_pos e, if_pos e]; rfl
    · rw [if_neg e, if_neg e, if_neg e, putF_zip f y r xs (by simpa using h)]; rfl
theorem put_len {α : Type} (f : Str) (y : α) : ∀ (ns : List Str) (vs : List α), ns.length = vs.length → (putNs f ns).length = (putXs f y ns vs).length
  | [], [], _ => rfl
  | g :: r, x :: xs, h => by
    show (if g = f then g :: r else g :: putNs f r).length = (if g = f then y :: xs else x :: putXs f y r xs).length
    have := put_len f y r xs (by simpa using h)
    split <;> simp_all
theorem RVs.put {K : PySem.W.Frag} {cls : Nat → Option Addr} {w : Wd} {f : Str} {d : D} {y : V} (h : RV K cls w d y) : ∀ {ns : List Str} {ds : List D} {vs : List V}, RVs K cls w ds vs → RVs K cls w (putXs f d ns ds) (putXs f y ns vs)
  | [], _, _, _ => ⟨y, [], rfl, h, rfl⟩
  | g :: r, [], _, t => by rw [show _ = [] from t]; exact ⟨y, [], rfl, h, rfl⟩
  | g :: r, e :: ds, _, ⟨v, vs, q, t1, t2⟩ => by
    rw [q]
    show RVs K cls w (if g = f then d :: ds else e :: putXs f d r ds) (if g = f then y :: vs else v :: putXs f y r vs)
    split
    · exact ⟨y, vs, rfl, h, t2⟩
    · exact ⟨v, _, rfl, t1, RVs.put h t2⟩
theorem RVs.lookup {K : PySem.W.Frag} {cls : Nat → Option Addr} {w : Wd} {f : Str} {d : D} : ∀ {ns : List Str} {ds : List D} {vs : List V}, RVs K cls w ds vs → (ns.zip ds).lookup f = some d → ∃ v, (ns.zip vs).lookup f = some v ∧ RV K cls w d v
  | [], _, _, _, h => by simp at h
  | g :: r, [], _, _, h => by simp at h
  | g :: r, e :: ds, _, ⟨v, vs, q, t1, t2⟩, h => by
    rw [q]
    rw [List.zip_cons_cons, List.lookup_cons] at h ⊢
    by_cases e : (f == g) = true
    · rw [e] at h ⊢
      cases h
      exact ⟨v, rfl, t1⟩
    · have e : (f == g) = false := by simpa using e
      rw [e] at h ⊢
      exact RVs.lookup t2 h
def insOf (c : Nat) (μ : Store) : D → Option (List Str × List D)
  | .obj c' ns ds => if c' = c then some (ns, ds) else none
  | .loc n => match μ[n]? with
    | some (.ins c' ns ds) => if c' = c then some (ns, ds) else none
    | _ => none
  | _ => none
theorem insOf_at {K : PySem.W.Frag} {cls : Nat → Option Addr} {w : Wd} {μ : Store} (S : RelS K cls w μ) {c : Nat} {C : Addr} (hc : cls c = some C) {d : D} {x : V} {ns : List Str} {ds : List D} (r : RV K cls w d x) (h : insOf c μ d = some (ns, ds)) :
    ∃ a dx vs, x = .ref a ∧ w.H a = some (.ins C dx (ns.zip vs)) ∧ ns.length = vs.length ∧ RVs K cls w ds vs := by
  cases d with
  | obj c' ns' ds' =>
    simp only [insOf] at h
    split at h
    · rename_i e
      cases h
      subst e
      obtain ⟨a, C', dx, vs, e1, e2, ⟨e3, _⟩, e4, e5⟩ := r
      rw [hc] at e2
      cases e2
      exact ⟨a, dx, vs, e1, e3, e4, e5⟩
    · cases h
  | loc n =>
    simp only [insOf] at h
    split at h
    · rename_i c' ns' ds' hm
      split at h
      · rename_i e
        cases h
        subst e
        obtain ⟨a, e1, hn⟩ := r
        obtain ⟨a', h1, C', dx, vs, e2, e3, e4, e5⟩ := S.cell n _ hm
        rw [hn] at h1
        cases h1
        rw [hc] at e2
        cases e2
        exact ⟨a, dx, vs, e1, e3, e4, e5⟩
      · cases h
    · cases h
  | _ => cases h
def eFld (c : Nat) (f : Str) (fa : FE) : FE := fun ρ μ => (fa ρ μ).bind fun d μ1 => match insOf c μ1 d with
  | some (ns, ds) => match (ns.zip ds).lookup f with
    | some e => .ok e μ1
    | none => .stuck
  | none => .stuck
def eProp (c : Nat) (F : List D → Store → Res D) (fa : FE) : FE := fun ρ μ => (fa ρ μ).bind fun d μ1 => match insOf c μ1 d with
  | some _ => (F [d] μ1).mute
  | none => .stuck
def sFld (c : Nat) (f : Str) (fo fv : FE) : FS := fun ρ μ => rS ρ (fv ρ μ) fun e μ1 => rS ρ (fo ρ μ1) fun d μ2 => match d with
  | .loc n => match μ2[n]? with
    | some (.ins c' ns ds) => if c' = c ∧ ns.length < 900 then .nx ρ (μ2.set n (.ins c (putNs f ns) (putXs f e ns ds))) else .stuck
    | _ => .stuck
  | _ => .stuck
def cLenO (c : Nat) (F : List D → Store → Res D) : List D → Store → Res D := fun ds μ => match ds with
  | [d] => match insOf c μ d with
    | some _ => (F [d] μ).mute.bind fun e μ1 => match e with
      | .int n => if 0 ≤ n ∧ n < 1000000 then .ok (.int n) μ1 else .stuck
      | _ => .stuck
    | none => cLen [d] μ
  | _ => .stuck
/-- C(..) -/
def eMake (c n : Nat) (F : List D → Store → Res D) (fs : FA) : FE := fun ρ μ => (fs ρ μ).bind fun ds μ1 => if ds.length + 1 = n then match F (.loc μ1.length :: ds) (μ1 ++ [.ins c [] []]) with
    | .ok .non μ2 => match μ2[μ1.length]? with
      | some (.ins c' ns es) => if (decide (c' = c) && decide (μ2.length = μ1.length + 1) && lows μ1.length es && (μ2.take μ1.length).all (lowC μ1.length)) = true then .ok (.obj c ns es) (μ2.take μ1.length) else .stuck
      | _ => .stuck
    | .err k ns es μ2 => if (lows μ1.length es && (μ2.take μ1.length).all (lowC μ1.length)) = true then .err k ns es (μ2.take μ1.length) else .stuck
    | _ => .stuck
  else .stuck
section
variable {X : Cx} {W : WX} {cls : Nat → Option Addr} {e o v : Expr} {fe fo fv : FE} {c : Nat} {C : Addr} {f : Str} {pos pos' : Pos}
theorem se_fld (T : Kl1 X.K cls c C) (hn : NoAttr X.K C f) (he : SE X W cls e fe) (hb : attributeBase e f X.env (eval e X.env) = eval e X.env := by rfl) : SE X W cls (.Attribute e f pos) (eFld c f fe) := by
  obtain ⟨t1, p1, h1⟩ := he
  refine ⟨_, pe_fld p1 hb, fun σ Q w ρ μ S E h => ?_⟩
  refine h1 σ _ w ρ μ S E ((PostR.bind h).imp fun w1 d s1 ⟨μ1, S1, q1⟩ x r1 => ?_)
  split at q1
  · rename_i ns ds hd
    split at q1
    · rename_i y hy
      obtain ⟨a, dx, vs, e1, e2, e3, e4⟩ := insOf_at S1 T.at_ r1 hd
      obtain ⟨u, hu, ru⟩ := e4.lookup hy
      exact ⟨a, C, dx, _, u, e1, e2, T.cl, hn, hu, q1 w1 Step.refl S1 u ru⟩
    · exact q1.elim
  · exact q1.elim
theorem ss_fld (T : Kl1 X.K cls c C) (hn : NoAttr X.K C f) (ho : SE X W cls o fo) (hv : SE X W cls v fv) (hs : swapsWith v (some (.Attribute o f pos')) pos.line X.env = pure false := by rfl) : SS X W cls (.Assign [.Attribute o f pos'] v pos) (sFld c f fo fv) := by
  obtain ⟨t1, p1, h1⟩ := ho
  obtain ⟨t2, p2, h2⟩ := hv
  refine ⟨_, ps_fld p1 p2 hs, fun D σ w ρ μ S E h => ?_⟩
  refine h2 σ _ w ρ μ S E ((PostS.bind E h).imp fun w1 d s1 ⟨μ1, S1, q1⟩ x r1 => ?_)
  refine h1 σ _ w1 ρ μ1 S1 (E.mono s1.kp) ((PostS.bind (E.mono s1.kp) q1).imp fun w2 e s2 ⟨μ2, S2, q2⟩ y r2 => ?_)
  cases e with
  | loc n =>
    simp only at q2
    split at q2
    · rename_i c' ns ds hm
      split at q2
      · rename_i hc
        obtain ⟨rfl, hl⟩ := hc
        obtain ⟨a, e1, hn'⟩ := r2
        obtain ⟨a', h1', C', dx, vs, e2, e3, e4, e5⟩ := S2.cell n _ hm
        rw [hn'] at h1'
        cases h1'
        rw [T.at_] at e2
        cases e2
        refine ⟨a, C, dx, _, e1, e3, T.cl, hn, by rw [List.length_zip, ← e4]; omega, ?_⟩
        have kw := (Step.write (o := .ins C dx (putF f x (ns.zip vs))) hn').kp
        refine q2 (w2.up a (.ins C dx (putF f x (ns.zip vs)))) σ (Step.write hn') (S2.write hn' ⟨C, dx, putXs f x ns vs, T.at_, ?_, put_len f x ns vs e4, (e5.mono kw).put ((r1.mono s2.kp).mono kw)⟩) (E.mono ((s1.trans s2).trans (Step.write hn')).kp)
        show upd w2.H a _ a = _
        rw [upd_same, putF_zip f x ns vs e4]
      · exact q2.elim
    · exact q2.elim
  | _ => exact q2.elim
theorem call_lenOwn {k : Nat} {g : Addr} {F : List D → Store → Res D} (T : Kl1 X.K cls c C) (hs : PySem.W.findIn X.K (.ref C) "__len__" = some (some (.ref g))) (hf : PySem.W.isFn X.K (.ref g) = true) (G : Dm X.prog X.w X.K cls X.mg X.base k g 1 F) (hr : Room (k + 1) X.A) :
    CallR X (.builtin "len") (fun xs H Q => ∃ a dx fs, xs = [.ref a] ∧ H a = some (.ins C dx fs) ∧ spD X.K cls F 1 [.ref a] H (fun v H' => ∃ n, v = .int n ∧ 0 ≤ n ∧ n < 2 ^ 63 ∧ Q (.int n) H') E00) := by
  intro pins s σ H xs us Q I r h
  obtain ⟨a, dx, fs, rfl, ea, hsp⟩ := h
  obtain ⟨u, rfl, ru⟩ := vals1 r
  cases ru
  obtain ⟨mA, O, _⟩ := ins_get I.hok ea
  obtain ⟨od, J, _⟩ := O.look
  obtain ⟨m, hF⟩ := I.fr
  obtain ⟨fd, ps, hfn, hbd, hl⟩ := G.ex
  refine PySem.W.len_K hF I.ok.mod.kin J hs hf ?_
  have hb := hbd s [.ref a] I.kIn (by simpa using hl.symm)
  refine wpAny_call (codeAny_mono (hfn.run X.A.in1 X.stack s H ⟨[.ref a], []⟩ [.ref a] [.ref a] _ E00 hr.in1 I.env0.in1 (by simpa using hb) (.cons rfl .nil) hsp) fun r s' hq => ?_)
  cases r with
  | error er => obtain ⟨_, _, _, _, _, _, _, _, _, _, _, _, _, e⟩ := hq
  | ok fl =>
    cases fl with
    | ret u =>
      obtain ⟨v, H', I3, rv, n, ev, h0, h1, q3⟩ := I.after hq
      subst ev
      obtain ⟨t, rfl⟩ := rv
      exact ⟨⟨h0, h1⟩, .int n, H', I3.tok _, ⟨_, rfl⟩, q3⟩
    | next => exact False.elim hq
    | brk => exact False.elim hq
    | cont => exact False.elim hq
theorem cv_lenO {k : Nat} {g : Addr} {F : List D → Store → Res D} (T : Kl1 X.K cls c C) (hs : PySem.W.findIn X.K (.ref C) "__len__" = some (some (.ref g))) (hf : PySem.W.isFn X.K (.ref g) = true) (G : Dm X.prog X.w X.K cls X.mg X.base k g 1 F) (hr : Room (k + 1) X.A) :
    CV X cls (.builtin "len") (cLenO c F) := by
  obtain ⟨r0, c0, h0⟩ := cv_len (X := X) (cls := cls)
  refine ⟨_, c0.or (call_lenOwn T hs hf G hr), fun w μ Er ds xs Q S r h => ?_⟩
  unfold cLenO at h
  split at h
  · rename_i d
    split at h
    · rename_i ns ds hd
      obtain ⟨x, rfl, r1⟩ := r.one
      obtain ⟨a, dx, vs, e1, e2, e3, e4⟩ := insOf_at S T.at_ r1 hd
      subst e1
      refine .inr ⟨a, dx, _, rfl, e2, w, [d], μ, rfl, rfl, S, r, (PostR.mute (PostR.bind h)).imp fun w1 e s1 ⟨μ1, S1, q1⟩ v rv => ?_⟩
      cases e with
      | int n =>
        simp only at q1
        split at q1
        · rename_i hn
          exact ⟨n, rv, hn.1, by omega, q1 w1 Step.refl S1 _ rfl⟩
        · exact q1.elim
      | _ => exact q1.elim
    · exact .inl (h0 w μ _ [d] xs Q S r h)
  · exact h.elim
end
end Fw
set_option Elab.async false
set_option linter.all false
set_option maxRecDepth 100000
set_option autoImplicit false
namespace Fw
open PySem L2 PyProof.Rows
abbrev lit (s : String) : List Nat := (PySem.Str.ofString s).cps.toList
/-- a module's constant, whatever object it is -/
structure Gv (K : PySem.W.Frag) (cls : Nat → Option Addr) (mg : Str → Option Value) (x : Str) (d : D) : Prop where
  ex : ∃ (v : V) (u : Value), mg x = some u ∧ RelV v u ∧ ∀ w, RV K cls w d v
section
variable {X : Cx} {W : WX} {cls : Nat → Option Addr} {a b c : Expr} {fa fb fc : FE} {pos : Pos}
theorem se_globG {x : Str} {d : D} (hg : Gl X x) (G : Gv X.K cls X.mg x d) (hd : (x == ("__debug__" : Str)) = false := by decide +kernel) : SE X W cls (.Name x pos) (eC d) := by
  obtain ⟨v, u, hm, r, rd⟩ := G.ex
  exact se_glob hg hm r rd hd
def eNeg (fa : FE) : FE := fun ρ μ => (fa ρ μ).bind fun x μ1 => match x with
  | .int i => .ok (.int (-i)) μ1
  | _ => .stuck
end
section
variable {P : Program} {W : World} {K : PySem.W.Frag} {cls : Nat → Option Addr} {mg : Str → Option Value} {base : Heap} {x qual : Str} {st : Stmt} {f : Addr} {fd : FuncData} {N ps : List Str} {k : Nat} {g : FS}
theorem dm_mk (F : Fun K x qual st f fd) (b : Binds K fd ps []) (S : FnScope N ps (defScope st))
    (hb : ∀ (cdv : Value) (A : Around) (outer : List PySem.Env) (s : Shared) (H : Hp) (E : XK), Room k (A.deeper (envOfC qual (defScope st) s.heap.objs.size f cdv)) → Takes (cxOf (CX P W) P W K mg base N qual (defScope st) f cdv A outer s H E) (WD E) →
      SSs (cxOf (CX P W) P W K mg base N qual (defScope st) f cdv A outer s H E) (WD E) cls (defBody st) g) :
    Dm P W K cls mg base (k + 1) f ps.length (mD N.length g) := ⟨fd, ps, fn_mk F S hb, b, rfl⟩
end
end Fw
set_option Elab.async false
set_option linter.all false
set_option maxRecDepth 100000
set_option autoImplicit false
namespace Fw
open PySem L2 PyProof.Rows
section
variable {K : PySem.W.Frag} {cls : Nat → Option Addr} {h : Heap} {mg : Str → Option Value} {x : Str}
theorem gv_int {i : Int} {t : Tok} (X : K.In h) (G : h.Ns mainGlobals mg) (a : PySem.W.nsIn K mainGlobals x = some (some (.int i t))) : Gv K cls mg x (.int i) := ⟨.int i, .int i t, PySem.W.mg_of X G a, ⟨t, rfl⟩, fun _ => rfl⟩
theorem gv_str {s : String} {t : Tok} (X : K.In h) (G : h.Ns mainGlobals mg) (a : PySem.W.nsIn K mainGlobals x = some (some (.str (PySem.Str.ofString s) t))) : Gv K cls mg x (.str (lit s)) :=
  ⟨.str (PySem.Str.ofString s), .str _ t, PySem.W.mg_of X G a, ⟨t, rfl⟩, fun _ => by
    show V.str _ = V.str ⟨(PySem.Str.ofString s).cps.toList.toArray⟩
    rw [Array.toArray_toList]⟩
theorem fn_fin {P : Program} {W : World} {base : Heap} {k : Nat} {f : Addr} {fd : FuncData} {ps : List Str} {m n : Nat} {g : FS} (hf : FnOk P W K mg base (CX P W) k f fd ps (spD K cls (mD m g) n)) : FnOk P W K mg base (CX P W) k f fd ps (spD K cls (mDf m g) n) :=
  hf.imp fun vs H Q E h => by
    obtain ⟨w, ds, μ, e, hl, S, r, h⟩ := h
    exact ⟨w, ds, μ, e, hl, S, r, fin_ok S h⟩
/-- no tables -/
abbrev NoTab (cls : Nat → Option Addr) : Prop := ∀ k, 50 ≤ k → k < 100 → cls k = none
theorem law_sp (hno : NoTab cls) {F : List D → Store → Res D} (hF : ∀ ns : List Int, ns.length ≤ 63 → ∃ μ, F [.flst ns] [] = .ok (.bl true) μ) {H : Hp} {a : Addr} {ns : List Int} (hl : ns.length ≤ 63) (hO : Only H) (hS : SqL K H a (ns.map V.int)) :
    spD K cls F 1 [.ref a] H (fun v _ => v = .bl true) (fun _ _ _ => False) := by
  obtain ⟨μ, e⟩ := hF ns hl
  refine ⟨⟨none, [], [], H⟩, [.flst ns], [], rfl, rfl, ⟨rfl, List.nodup_nil, (fun b hb => by simp at hb), (fun n c e => by simp at e), (fun k P h1 h2 h3 => by rw [hno k h1 h2] at h3; cases h3), (fun j k P h1 _ h3 => by rw [hno j h1.1 h1.2] at h3; cases h3)⟩, .cons ⟨a, rfl, ?_⟩ .nil, ?_⟩
  · rcases hS with (hS | ⟨o, hS⟩) | hS
    · rcases hO a with z | ⟨o, xs, z⟩
      · rw [hS] at z; cases z
      · rw [hS] at z; cases z
    · exact .inl ⟨⟨o, hS⟩, by simp, by simp⟩
    · exact .inr (.inr hS)
  · rw [e]
    exact fun w' s S v r => r
end
/-- the law's promise, whatever the classes' places -/
def spA (K : PySem.W.Frag) (F : List D → Store → Res D) : Sp := fun vs H Q E => ∀ cls, NoTab cls → spD K cls F 1 vs H Q E
theorem fn_any {P : Program} {W : World} {K : PySem.W.Frag} {cls : Nat → Option Addr} {mg : Str → Option Value} {base : Heap} {k : Nat} {f : Addr} {fd : FuncData} {ps : List Str} {F : List D → Store → Res D} (hf : FnOk P W K mg base (CX P W) k f fd ps (spD K cls F 1)) (hno : NoTab cls) : FnOk P W K mg base (CX P W) k f fd ps (spA K F) :=
  hf.imp fun vs H Q E h => h cls hno
theorem law_spA {K : PySem.W.Frag} {F : List D → Store → Res D} (hF : ∀ ns : List Int, ns.length ≤ 63 → ∃ μ, F [.flst ns] [] = .ok (.bl true) μ) {H : Hp} {a : Addr} {ns : List Int} (hl : ns.length ≤ 63) (hO : Only H) (hS : SqL K H a (ns.map V.int)) :
    spA K F [.ref a] H (fun v _ => v = .bl true) (fun _ _ _ => False) := fun _ hno => law_sp hno hF hl hO hS
end Fw
set_option Elab.async false
set_option linter.all false
set_option maxRecDepth 100000
set_option autoImplicit false
namespace Fw
open PySem L2
section
variable {α β : Type} {ρ : Env} {μ : Store} {fa fb fc fd fe fo fi fv : FE} {fs fr : FA} {ft c c' : FT} {g g' : D → D → Store → Res D} {F : List D → Store → Res D} {n i j k : Nat} {s s' : FS}
theorem bok {a : α} {f : α → Store → Res β} : (Res.ok a μ).bind f = f a μ := (rfl)
theorem sok {a : α} {f : α → Store → SR} : rS ρ (.ok a μ) f = f a μ := (rfl)
@[simp] theorem eVar_ev : eVar i ρ μ = match ρ[i]? with | some (some d) => .ok d μ | _ => .stuck := (rfl)
@[simp] theorem eC_ev {d : D} : eC d ρ μ = .ok d μ := (rfl)
@[simp] theorem eBin_ev : eBin g fa fb ρ μ = (fa ρ μ).bind fun x μ1 => (fb ρ μ1).bind fun y μ2 => g x y μ2 := (rfl)
@[simp] theorem aNil_ev : aNil ρ μ = .ok [] μ := (rfl)
@[simp] theorem aCons_ev : aCons fa fr ρ μ = (fa ρ μ).bind fun x μ1 => (fr ρ μ1).bind fun xs μ2 => .ok (x :: xs) μ2 := (rfl)
@[simp] theorem eTup_ev : eTup fs ρ μ = (fs ρ μ).bind fun ds μ1 => if ds.length ≤ LIM then .ok (.tup ds) μ1 else .stuck := (rfl)
@[simp] theorem eLst_ev : eLst fs ρ μ = (fs ρ μ).bind fun ds μ1 => if ds.length ≤ LIM then .ok (.lst ds) μ1 else .stuck := (rfl)
@[simp] theorem eCall_ev : eCall F fs ρ μ = (fs ρ μ).bind fun ds μ1 => F ds μ1 := (rfl)
@[simp] theorem eCallD_ev : eCallD n F fs ρ μ = (fs ρ μ).bind fun ds μ1 => if ds.length = n then F ds μ1 else .stuck := (rfl)
@[simp] theorem tB_ev : tB fa ρ μ = (fa ρ μ).bind fun x μ1 => match x with | .bl b => .ok b μ1 | _ => .stuck := (rfl)
@[simp] theorem tNot_ev : tNot c ρ μ = (c ρ μ).bind fun b μ1 => .ok (!b) μ1 := (rfl)
@[simp] theorem tAnd_ev : tAnd c c' ρ μ = (c ρ μ).bind fun b μ1 => if b then c' ρ μ1 else .ok false μ1 := (rfl)
@[simp] theorem tOr_ev : tOr c c' ρ μ = (c ρ μ).bind fun b μ1 => if b then .ok true μ1 else c' ρ μ1 := (rfl)
@[simp] theorem eIf_ev : eIf c fa fb ρ μ = (c ρ μ).bind fun b μ1 => if b then fa ρ μ1 else fb ρ μ1 := (rfl)
@[simp] theorem eNot_ev : eNot fa ρ μ = (fa ρ μ).bind fun x μ1 => match x with | .bl b => .ok (.bl (!b)) μ1 | _ => .stuck := (rfl)
@[simp] theorem eAnd_ev : eAnd fa fb ρ μ = (fa ρ μ).bind fun x μ1 => match x with | .bl b => if b then fb ρ μ1 else .ok (.bl false) μ1 | _ => .stuck := (rfl)
@[simp] theorem eOr_ev : eOr fa fb ρ μ = (fa ρ μ).bind fun x μ1 => match x with | .bl b => if b then .ok (.bl true) μ1 else fb ρ μ1 | _ => .stuck := (rfl)
@[simp] theorem eChain_ev : eChain g g' fa fb fc ρ μ = (fa ρ μ).bind fun x μ1 => (fb ρ μ1).bind fun y μ2 => (g x y μ2).bind fun z μ3 => match z with
  | .bl b => if b then (fc ρ μ3).bind fun u μ4 => (g' y u μ4).bind fun z' μ5 => match z' with
      | .bl b' => .ok (.bl b') μ5
      | _ => .stuck
    else .ok (.bl false) μ3
  | _ => .stuck := (rfl)
@[simp] theorem oNone_ev : oNone ρ μ = .ok none μ := (rfl)
@[simp] theorem oSome_ev : oSome fa ρ μ = (fa ρ μ).bind fun d μ1 => match d with | .int i => .ok (some i) μ1 | _ => .stuck := (rfl)
@[simp] theorem eCut_ev {fl fh : FO} : eCut fa fl fh ρ μ = (fa ρ μ).bind fun d μ1 => (fl ρ μ1).bind fun l μ2 => (fh ρ μ2).bind fun u μ3 => oCut d l u μ3 := (rfl)
@[simp] theorem eIsi_ev {T : String} : eIsi T fa ρ μ = (fa ρ μ).bind fun d μ1 => match tyName μ1 d with
  | some t => match kitB t T with
    | some b => .ok (.bl b) μ1
    | none => .stuck
  | none => .stuck := (rfl)
@[simp] theorem eJoin_ev : eJoin fo fe ρ μ = (fo ρ μ).bind fun d μ1 => match d with | .str s => (fe ρ μ1).bind fun e μ2 => oJoin (.str s) e μ2 | _ => .stuck := (rfl)
@[simp] theorem eLm_ev : eLm g fo fe ρ μ = (fo ρ μ).bind fun d μ1 => if isL μ1 d = true then (fe ρ μ1).bind fun e μ2 => g d e μ2 else .stuck := (rfl)
@[simp] theorem sNext_ev : sNext ρ μ = .nx ρ μ := (rfl)
@[simp] theorem sSeq_ev : sSeq s s' ρ μ = match s ρ μ with | .nx ρ1 μ1 => s' ρ1 μ1 | r => r := (rfl)
@[simp] theorem sIf_ev : sIf c s s' ρ μ = rS ρ (c ρ μ) fun b μ1 => if b = true then s ρ μ1 else s' ρ μ1 := (rfl)
@[simp] theorem sRet_ev : sRet fe ρ μ = rS ρ (fe ρ μ) fun d μ1 => .rt d μ1 := (rfl)
@[simp] theorem sExpr_ev : sExpr fe ρ μ = rS ρ (fe ρ μ) fun _ μ1 => .nx ρ μ1 := (rfl)
@[simp] theorem sNever_ev : sNever ρ μ = .stuck := (rfl)
@[simp] theorem sAsg_ev {g : D → Env → Store → Res Env} : sAsg g fe ρ μ = rS ρ (fe ρ μ) fun d μ1 => rS ρ (g d ρ μ1) fun ρ1 μ2 => .nx ρ1 μ2 := (rfl)
@[simp] theorem gVar_ev {d : D} : gVar i d ρ μ = if i < ρ.length then .ok (ρ.set i (some d)) μ else .stuck := (rfl)
@[simp] theorem gNil_ev : gNil [] ρ μ = .ok ρ μ := (rfl)
@[simp] theorem gCons_ev {g : D → Env → Store → Res Env} {h : List D → Env → Store → Res Env} {d : D} {r : List D} : gCons g h (d :: r) ρ μ = (g d ρ μ).bind fun ρ1 μ1 => h r ρ1 μ1 := (rfl)
@[simp] theorem gTup_ev {h : List D → Env → Store → Res Env} {ds : List D} : gTup n h (.tup ds) ρ μ = if ds.length = n then h ds ρ μ else .stuck := (rfl)
@[simp] theorem gIx_ev {v : D} : gIx fo fi v ρ μ = (fo ρ μ).mute.bind fun d μ1 => (fi ρ μ1).mute.bind fun e μ2 => match d, e with
  | .loc n, .int i => match μ2[n]? with
    | some (.lst es) => match ixN es.length i with
      | some j => .ok ρ (μ2.set n (.lst (es.set j v)))
      | none => .stuck
    | _ => .stuck
  | _, _ => .stuck := (rfl)
@[simp] theorem sAug_ev : sAug i g fe ρ μ = match ρ[i]? with
  | some (some x) => rS ρ (fe ρ μ) fun y μ1 => rS ρ (g x y μ1) fun z μ2 => if i < ρ.length then .nx (ρ.set i (some z)) μ2 else .stuck
  | _ => .stuck := (rfl)
@[simp] theorem sPar_ev : sPar i j fa fb ρ μ = rS ρ (fa ρ μ) fun x μ1 => rS ρ (fb ρ μ1) fun y μ2 => if i < ρ.length ∧ j < ρ.length then .nx ((ρ.set i (some x)).set j (some y)) μ2 else .stuck := (rfl)
@[simp] theorem sAsg2_ev {g1 g2 : D → Env → Store → Res Env} : sAsg2 g1 g2 fe ρ μ = rS ρ (fe ρ μ) fun d μ1 => rS ρ (g1 d ρ μ1) fun ρ1 μ2 => rS ρ1 (g2 d ρ1 μ2) fun ρ2 μ3 => .nx ρ2 μ3 := (rfl)
@[simp] theorem iOf_ev : iOf fe ρ μ = (fe ρ μ).bind fun d μ1 => oWalk d μ1 := (rfl)
@[simp] theorem iEnumD_ev : iEnumD fe ρ μ = (fe ρ μ).bind fun d μ1 => oEnum d μ1 := (rfl)
def rangeR (d : D) (μ : Store) : Res (List D × Option Nat) := match d with
  | .int j => if -1000000 ≤ j ∧ j ≤ 1000000 then .ok ((List.range j.toNat).map fun i => .int (0 + (i : Nat)), none) μ else .stuck
  | _ => .stuck
def rg (n : Nat) : List D := (List.range n).map fun i => .int (i : Nat)
@[simp] theorem iRange1_ev : iRange1 fa ρ μ = (fa ρ μ).bind fun d μ1 => rangeR d μ1 := (rfl)
@[simp] theorem sFor_ev {fi : FI} {g : D → Env → Store → Res Env} : sFor fi g s ρ μ = rS ρ (fi ρ μ) fun it μ1 => forL it.1 it.2 g s it.1 ρ μ1 := (rfl)
@[simp] theorem eLc_ev {vs : List Nat} {fi : FI} {g : D → Env → Store → Res Env} : eLc vs fi g ft fe ρ μ = (fi ρ μ).bind fun it μ1 => lcL it.1 it.2 g ft fe (wipeE ρ vs) it.1 μ1 [] := (rfl)
@[simp] theorem mD_ev {ds : List D} : mD n s ds μ = match s (ds.map some ++ List.replicate (n - ds.length) none) μ with
  | .rt d μ' => .ok d μ'
  | .nx _ μ' => .ok .non μ'
  | .er k ns es _ μ' => .err k ns es μ'
  | _ => .stuck := (rfl)
@[simp] theorem mDf_ev {ds : List D} : mDf n s ds μ = fin μ.length (mD n s ds μ) := (rfl)
@[simp] theorem thaw_ev {ds : List D} : thaw (.ok (.lst ds) μ) = .ok (.loc μ.length) (μ ++ [.lst ds]) := (rfl)
@[simp] theorem eThaw_ev : eThaw fe ρ μ = thaw (fe ρ μ) := (rfl)
@[simp] theorem eTupRg_ev {fi : FI} : eTupRg fi ρ μ = (fi ρ μ).bind fun it μ1 => .ok (.tup it.1) μ1 := (rfl)
@[simp] theorem eNeg_ev : eNeg fa ρ μ = (fa ρ μ).bind fun x μ1 => match x with | .int i => .ok (.int (-i)) μ1 | _ => .stuck := (rfl)
@[simp] theorem eFld_ev {f : Str} : eFld k f fa ρ μ = (fa ρ μ).bind fun d μ1 => match insOf k μ1 d with
  | some (ns, ds) => match (ns.zip ds).lookup f with
    | some e => .ok e μ1
    | none => .stuck
  | none => .stuck := (rfl)
@[simp] theorem eProp_ev : eProp k F fa ρ μ = (fa ρ μ).bind fun d μ1 => match insOf k μ1 d with
  | some _ => (F [d] μ1).mute
  | none => .stuck := (rfl)
@[simp] theorem sFld_ev {f : Str} : sFld k f fo fv ρ μ = rS ρ (fv ρ μ) fun e μ1 => rS ρ (fo ρ μ1) fun d μ2 => match d with
  | .loc n => match μ2[n]? with
    | some (.ins c' ns ds) => if c' = k ∧ ns.length < 900 then .nx ρ (μ2.set n (.ins k (putNs f ns) (putXs f e ns ds))) else .stuck
    | _ => .stuck
  | _ => .stuck := (rfl)
@[simp] theorem eMake_ev : eMake k n F fs ρ μ = (fs ρ μ).bind fun ds μ1 => if ds.length + 1 = n then match F (.loc μ1.length :: ds) (μ1 ++ [.ins k [] []]) with
    | .ok .non μ2 => match μ2[μ1.length]? with
      | some (.ins c' ns es) => if (decide (c' = k) && decide (μ2.length = μ1.length + 1) && lows μ1.length es && (μ2.take μ1.length).all (lowC μ1.length)) = true then .ok (.obj k ns es) (μ2.take μ1.length) else .stuck
      | _ => .stuck
    | .err k ns es μ2 => if (lows μ1.length es && (μ2.take μ1.length).all (lowC μ1.length)) = true then .err k ns es (μ2.take μ1.length) else .stuck
    | _ => .stuck
  else .stuck := (rfl)
@[simp] theorem oAdd_int {a b : Int} : oAdd (.int a) (.int b) μ = .ok (.int (a + b)) μ := (rfl)
@[simp] theorem oAddI_int {a b : Int} : oAddI (.int a) (.int b) μ = .ok (.int (a + b)) μ := (rfl)
@[simp] theorem oSub_int {a b : Int} : oSub (.int a) (.int b) μ = .ok (.int (a - b)) μ := (rfl)
theorem oMul_int {a b : Int} (h : (Sm a || Sm b) = true) : oMul (.int a) (.int b) μ = .ok (.int (a * b)) μ := by simp [oMul, h]
theorem oMod_int {a b : Int} (h : 0 < b) : oMod (.int a) (.int b) μ = .ok (.int (a % b)) μ := by simp [oMod, h]
theorem oFdv_wide {a b : Int} (h : 0 < b) (h2 : b < 4611686018427387904) : oFdv (.int a) (.int b) μ = .ok (.int (a / b)) μ := by
  have h3 : b.natAbs.log2 < 9000 := by
    have h4 : b.natAbs < 2 ^ 62 := by omega
    exact Nat.lt_of_lt_of_le (PySem.Flt.log2_lt_of (by decide) h4) (by decide)
  simp [oFdv, h, h3]
theorem oFdv_int {a b : Int} (h : 0 < b) (h2 : b < 1073741824) : oFdv (.int a) (.int b) μ = .ok (.int (a / b)) μ := oFdv_wide h (by omega)
@[simp] theorem oI_int {p : Int → Int → Bool} {a b : Int} : oI p (.int a) (.int b) μ = .ok (.bl (p a b)) μ := (rfl)
@[simp] theorem oLt_int {a b : Int} : oLt (.int a) (.int b) μ = .ok (.bl (decide (a < b))) μ := (rfl)
@[simp] theorem oLe_int {a b : Int} : oLe (.int a) (.int b) μ = .ok (.bl (decide (a ≤ b))) μ := (rfl)
@[simp] theorem oGt_int {a b : Int} : oGt (.int a) (.int b) μ = .ok (.bl (decide (b < a))) μ := (rfl)
@[simp] theorem oGe_int {a b : Int} : oGe (.int a) (.int b) μ = .ok (.bl (decide (b ≤ a))) μ := (rfl)
@[simp] theorem oNotN_ev {d : D} : oNotN d .non μ = .ok (.bl (!d.isNon)) μ := (rfl)
@[simp] theorem oIsN_ev {d : D} : oIsN d .non μ = .ok (.bl d.isNon) μ := (rfl)
@[simp] theorem cInt_int {a : Int} : cInt [.int a] μ = .ok (.int a) μ := (rfl)
@[simp] theorem cInt_bl {b : Bool} : cInt [.bl b] μ = .ok (.int (if b then 1 else 0)) μ := (rfl)
@[simp] theorem cMax2_ev {a b : Int} : cMax2 [.int a, .int b] μ = .ok (.int (if b > a then b else a)) μ := (rfl)
end
mutual
def pl : Nat → D → Bool
  | _, .int _ => true
  | _, .str s => s.all (· < 0x110000)
  | k + 1, .tup ds => pls k ds
  | k + 1, .lst ds => pls k ds
  | _, _ => false
def pls : Nat → List D → Bool
  | _, [] => true
  | k, d :: ds => pl k d && pls k ds
end
mutual
theorem pl_lay : ∀ {k : Nat} {d : D}, pl k d = true → (toPy d).canLay0 = true ∧ (toPy d).depth ≤ k + 1
  | _, .int _, _ => by simp [toPy, PyData.canLay0, PyData.depth]
  | _, .str s, h => by
    simp only [pl] at h
    simp [toPy, PyData.canLay0, PyData.depth, PyData.strOk]
    simpa using h
  | 0, .tup ds, h => by simp [pl] at h
  | 0, .lst ds, h => by simp [pl] at h
  | k + 1, .tup ds, h => by
    have := pls_lay (k := k) (ds := ds) (by simpa [pl] using h)
    simp only [toPy, PyData.canLay0, PyData.depth]
    exact ⟨this.1, by omega⟩
  | k + 1, .lst ds, h => by
    have := pls_lay (k := k) (ds := ds) (by simpa [pl] using h)
    simp only [toPy, PyData.canLay0, PyData.depth]
    exact ⟨this.1, by omega⟩
  | 0, .non, h => by simp [pl] at h
  | k + 1, .non, h => by simp [pl] at h
  | 0, .bl _, h => by simp [pl] at h
  | k + 1, .bl _, h => by simp [pl] at h
  | 0, .flst _, h => by simp [pl] at h
  | k + 1, .flst _, h => by simp [pl] at h
  | 0, .obj _ _ _, h => by simp [pl] at h
  | 0, .ptr _, h => by simp [pl] at h
  | 0, .dct _ _, h => by simp [pl] at h
  | k + 1, .obj _ _ _, h => by simp [pl] at h
  | k + 1, .ptr _, h => by simp [pl] at h
  | k + 1, .dct _ _, h => by simp [pl] at h
  | 0, .loc _, h => by simp [pl] at h
  | k + 1, .loc _, h => by simp [pl] at h
theorem pls_lay : ∀ {k : Nat} {ds : List D}, pls k ds = true → PyData.canLayAll0 (toPys ds) = true ∧ PyData.depthAll (toPys ds) ≤ k + 1
  | _, [], _ => by simp [toPys, PyData.canLayAll0, PyData.depthAll]
  | k, d :: ds, h => by
    simp only [pls, Bool.and_eq_true] at h
    have h1 := pl_lay h.1
    have h2 := pls_lay h.2
    simp only [toPys, PyData.canLayAll0, PyData.depthAll, h1.1, h2.1]
    exact ⟨rfl, by omega⟩
end
theorem pl_ok {k : Nat} {d : D} (h : pl k d = true) (hk : k ≤ 60 := by decide) : okD (toPy d) = true := by
  have := pl_lay h
  unfold okD SeqAt.shaped
  simp only [this.1, Bool.true_and, decide_eq_true_eq]
  omega
mutual
theorem pl_eqv : ∀ {k j : Nat} {d e : D}, pl k d = true → pl j e = true → (PyData.eqv (toPy d) (toPy e) = true ↔ d = e)
  | _, _, .int _, .int _, _, _ => by simp [toPy, PyData.eqv]
  | _, _, .str _, .str _, _, _ => by simp [toPy, PyData.eqv]
  | k + 1, j + 1, .tup ds, .tup es, h, h2 => by simpa [toPy, PyData.eqv] using pls_eqv (k := k) (j := j) (by simpa [pl] using h) (by simpa [pl] using h2)
  | k + 1, j + 1, .lst ds, .lst es, h, h2 => by simpa [toPy, PyData.eqv] using pls_eqv (k := k) (j := j) (by simpa [pl] using h) (by simpa [pl] using h2)
  | _, _, .int _, .str _, _, _ => by simp [toPy, PyData.eqv]
  | _, _, .int _, .tup _, _, _ => by simp [toPy, PyData.eqv]
  | _, _, .int _, .lst _, _, _ => by simp [toPy, PyData.eqv]
  | _, _, .str _, .int _, _, _ => by simp [toPy, PyData.eqv]
  | _, _, .str _, .tup _, _, _ => by simp [toPy, PyData.eqv]
  | _, _, .str _, .lst _, _, _ => by simp [toPy, PyData.eqv]
  | _, _, .tup _, .int _, _, _ => by simp [toPy, PyData.eqv]
  | _, _, .tup _, .str _, _, _ => by simp [toPy, PyData.eqv]
  | _, _, .tup _, .lst _, _, _ => by simp [toPy, PyData.eqv]
  | _, _, .lst _, .int _, _, _ => by simp [toPy, PyData.eqv]
  | _, _, .lst _, .str _, _, _ => by simp [toPy, PyData.eqv]
  | _, _, .lst _, .tup _, _, _ => by simp [toPy, PyData.eqv]
  | 0, _, .tup _, _, h, _ => by simp [pl] at h
  | 0, _, .lst _, _, h, _ => by simp [pl] at h
  | _, 0, _, .tup _, _, h => by simp [pl] at h
  | _, 0, _, .lst _, _, h => by simp [pl] at h
  | 0, _, .non, _, h, _ => by simp [pl] at h
  | k + 1, _, .non, _, h, _ => by simp [pl] at h
  | 0, _, .bl _, _, h, _ => by simp [pl] at h
  | k + 1, _, .bl _, _, h, _ => by simp [pl] at h
  | 0, _, .flst _, _, h, _ => by simp [pl] at h
  | k + 1, _, .flst _, _, h, _ => by simp [pl] at h
  | 0, _, .obj _ _ _, _, h, _ => by simp [pl] at h
  | 0, _, .ptr _, _, h, _ => by simp [pl] at h
  | 0, _, .dct _ _, _, h, _ => by simp [pl] at h
  | k + 1, _, .obj _ _ _, _, h, _ => by simp [pl] at h
  | k + 1, _, .ptr _, _, h, _ => by simp [pl] at h
  | k + 1, _, .dct _ _, _, h, _ => by simp [pl] at h
  | 0, _, .loc _, _, h, _ => by simp [pl] at h
  | k + 1, _, .loc _, _, h, _ => by simp [pl] at h
  | _, 0, _, .non, _, h => by simp [pl] at h
  | _, k + 1, _, .non, _, h => by simp [pl] at h
  | _, 0, _, .bl _, _, h => by simp [pl] at h
  | _, k + 1, _, .bl _, _, h => by simp [pl] at h
  | _, 0, _, .flst _, _, h => by simp [pl] at h
  | _, k + 1, _, .flst _, _, h => by simp [pl] at h
  | _, 0, _, .obj _ _ _, _, h => by simp [pl] at h
  | _, 0, _, .ptr _, _, h => by simp [pl] at h
  | _, 0, _, .dct _ _, _, h => by simp [pl] at h
  | _, k + 1, _, .obj _ _ _, _, h => by simp [pl] at h
  | _, k + 1, _, .ptr _, _, h => by simp [pl] at h
  | _, k + 1, _, .dct _ _, _, h => by simp [pl] at h
  | _, 0, _, .loc _, _, h => by simp [pl] at h
  | _, k + 1, _, .loc _, _, h => by simp [pl] at h
theorem pls_eqv : ∀ {k j : Nat} {ds es : List D}, pls k ds = true → pls j es = true → (PyData.eqvAll (toPys ds) (toPys es) = true ↔ ds = es)
  | _, _, [], [], _, _ => by simp [toPys, PyData.eqvAll]
  | _, _, [], _ :: _, _, _ => by simp [toPys, PyData.eqvAll]
  | _, _, _ :: _, [], _, _ => by simp [toPys, PyData.eqvAll]
  | k, j, d :: ds, e :: es, h, h2 => by
    simp only [pls, Bool.and_eq_true] at h h2
    simp [toPys, PyData.eqvAll, pl_eqv h.1 h2.1, pls_eqv h.2 h2.2]
end
/-- what stands at a place -/
def rd (μ : Store) : D → D
  | .loc n => match μ[n]? with
    | some (.lst ds) => .lst ds
    | _ => .loc n
  | d => d
theorem toPyM_rd {μ : Store} {d : D} : toPyM μ d = toPy (rd μ d) := by
  cases d <;> try rfl
  rename_i n
  simp only [toPyM, rd]
  cases h : μ[n]? with
  | none => rfl
  | some c => cases c <;> rfl
theorem oEq_pl {k j : Nat} {d e : D} {μ : Store} (h : pl k (rd μ d) = true) (h2 : pl j (rd μ e) = true) (hk : k ≤ 60 := by decide) (hj : j ≤ 60 := by decide) : oEq d e μ = .ok (.bl (decide (rd μ d = rd μ e))) μ := by
  unfold oEq
  simp only [toPyM_rd, pl_ok h hk, pl_ok h2 hj, Bool.and_true, if_true]
  congr 2
  rw [Bool.eq_iff_iff, decide_eq_true_eq]
  exact pl_eqv h h2
theorem oNe_pl {k j : Nat} {d e : D} {μ : Store} (h : pl k (rd μ d) = true) (h2 : pl j (rd μ e) = true) (hk : k ≤ 60 := by decide) (hj : j ≤ 60 := by decide) : oNe d e μ = .ok (.bl (!decide (rd μ d = rd μ e))) μ := by
  unfold oNe
  simp only [toPyM_rd, pl_ok h hk, pl_ok h2 hj, Bool.and_true, if_true]
  congr 3
  rw [Bool.eq_iff_iff, decide_eq_true_eq]
  exact pl_eqv h h2
@[simp] theorem oEq_bl {a b : Bool} {μ : Store} : oEq (.bl a) (.bl b) μ = .ok (.bl (a == b)) μ := by cases a <;> cases b <;> rfl
@[simp] theorem oNe_bl {a b : Bool} {μ : Store} : oNe (.bl a) (.bl b) μ = .ok (.bl (a != b)) μ := by cases a <;> cases b <;> rfl
@[simp] theorem oEq_int {a b : Int} {μ : Store} : oEq (.int a) (.int b) μ = .ok (.bl (decide (a = b))) μ := by
  rw [oEq_pl (k := 0) (j := 0) rfl rfl]; simp [rd]
@[simp] theorem oNe_int {a b : Int} {μ : Store} : oNe (.int a) (.int b) μ = .ok (.bl (!decide (a = b))) μ := by
  rw [oNe_pl (k := 0) (j := 0) rfl rfl]; simp [rd]
theorem lc_pure {items : List D} {g : D → Env → Store → Res Env} {ft : FT} {fe : FE} {ρ : Env} {μ : Store} (p : D → Bool) (f : D → D) {ds : List D} {acc : List D}
    (h : ∀ d ∈ ds, ∃ ρ1, g d ρ μ = .ok ρ1 μ ∧ ft ρ1 μ = .ok (p d) μ ∧ (p d = true → fe ρ1 μ = .ok (f d) μ)) (hl : acc.length + ds.length ≤ LIM) :
    lcL items none g ft fe ρ ds μ acc = .ok (.lst (acc ++ (ds.filter p).map f)) μ := by
  induction ds generalizing acc with
  | nil => simp [lcL, srcOk]
  | cons d ds ih =>
    obtain ⟨ρ1, h1, h2, h3⟩ := h d (by simp)
    simp only [lcL, srcOk, if_true, h1, Res.mute_ok, Res.bind_ok, h2]
    simp only [List.length_cons] at hl
    cases hp : p d with
    | false =>
      simp only [Bool.false_eq_true, if_false]
      rw [ih (fun d' m => h d' (by simp [m])) (by omega)]
      simp [hp]
    | true =>
      simp only [if_true, h3 hp, Res.mute_ok, Res.bind_ok]
      rw [if_pos (by omega), ih (fun d' m => h d' (by simp [m])) (by simp; omega)]
      simp [hp]
inductive F2 {α β : Type} (P : α → β → Prop) : List α → List β → Prop
  | nil : F2 P [] []
  | cons {a : α} {b : β} {r : List α} {s : List β} (h : P a b) (t : F2 P r s) : F2 P (a :: r) (b :: s)
theorem F2.all {α β : Type} {P : α → β → Prop} {r : List α} {s : List β} (h : F2 P r s) : ∀ b ∈ s, ∃ a ∈ r, P a b := by
  induction h with
  | nil => simp
  | cons h _ ih =>
    intro b hb
    rcases List.mem_cons.mp hb with rfl | hb
    · exact ⟨_, by simp, h⟩
    · obtain ⟨a, m, p⟩ := ih b hb
      exact ⟨a, by simp [m], p⟩
theorem for_cons {items : List D} {g : D → Env → Store → Res Env} {body : FS} {d : D} {ds : List D} {ρ : Env} {μ : Store} : forL items none g body (d :: ds) ρ μ = rS ρ (g d ρ μ) fun ρ1 μ1 => match body ρ1 μ1 with
      | .nx ρ2 μ2 => forL items none g body ds ρ2 μ2
      | .ct ρ2 μ2 => forL items none g body ds ρ2 μ2
      | .bk ρ2 μ2 => .nx ρ2 μ2
      | .rt d μ2 => .rt d μ2
      | .er k ns es ρ2 μ2 => .er k ns es ρ2 μ2
      | .stuck => .stuck := by rw [forL, if_pos (show srcOk none items μ = true from rfl)] <;> rfl
theorem for_nil {items : List D} {g : D → Env → Store → Res Env} {body : FS} {ρ : Env} {μ : Store} : forL items none g body [] ρ μ = .nx ρ μ := by rw [forL, if_pos (show srcOk none items μ = true from rfl)]
theorem getElem?_mid {α : Type} {μ r : List α} {x : α} : (μ ++ x :: r)[μ.length]? = some x := by simp
theorem set_mid {α : Type} {μ r : List α} {x y : α} : (μ ++ x :: r).set μ.length y = μ ++ y :: r := by simp
end Fw
local macro_rules
  | `(tactic| simp_arith [$ts,*]) => `(tactic| simp only [Fw.mD_ev, Fw.Res.mute_ok, Fw.sSeq_ev, Fw.sAsg_ev, Fw.eCallD_ev, Fw.eCall_ev, Fw.aCons_ev, Fw.aNil_ev, Fw.eVar_ev, List.map_cons, List.map_nil, List.length_cons, List.length_nil, List.cons_append, List.nil_append, Nat.reduceAdd, Nat.reduceSub, List.reduceReplicate, List.getElem?_cons_zero, List.getElem?_cons_succ, Fw.bok, if_true, Fw.eC_ev, Fw.sok, Fw.gVar_ev, List.set_cons_succ, List.set_cons_zero, Nat.reduceLT, Fw.eBin_ev, Fw.eLc_ev, Fw.iOf_ev, Fw.oWalk, Fw.wipeE, Fw.gTup_ev, Fw.gCons_ev, Fw.gNil_ev, Fw.eLst_ev, Fw.eTup_ev, Fw.eJoin_ev, Fw.iRange1_ev, Fw.sRet_ev, Fw.sIf_ev, Fw.tB_ev, Fw.tAnd_ev, Fw.tOr_ev, Fw.tNot_ev, Fw.eNot_ev, Fw.eAnd_ev, Fw.eIf_ev, Fw.sNext_ev, Fw.sExpr_ev, Fw.sPar_ev, Fw.sAug_ev, Fw.sAsg2_ev, Fw.sFor_ev, and_self, Fw.eThaw_ev, Fw.thaw_ev, $ts,*])
set_option Elab.async false
set_option linter.all false
set_option maxRecDepth 100000
set_option autoImplicit false
namespace Fw
open PySem L2 PyProof.Rows
end Fw
set_option Elab.async false
set_option linter.all false
set_option maxRecDepth 100000
set_option autoImplicit false
namespace Fw
open PySem L2 PyProof.Rows
end Fw
set_option Elab.async false
set_option linter.all false
set_option maxRecDepth 100000
set_option autoImplicit false
namespace Fw
open PySem PySem.Spec PyProof.Rows L2
end Fw
set_option Elab.async false
set_option linter.all false
set_option maxRecDepth 100000
set_option autoImplicit false
namespace Fw
open PySem PySem.Spec PyProof.Rows L2
end Fw
set_option Elab.async false
set_option linter.all false
set_option maxRecDepth 100000
set_option autoImplicit false
namespace Fw
open PySem PySem.Spec PyProof.Rows L2
end Fw
set_option Elab.async false
set_option linter.all false
set_option maxRecDepth 100000
set_option autoImplicit false
namespace Fw
open PySem PySem.Spec PyProof.Rows L2
open PySem.Sem (wp)
abbrev AscIt (h : Heap) (a : Addr) (x : Str) (t : Tok) (k : Nat) : Prop := h.IsStrIter a "str_ascii_iterator" x t k
section
variable {P : Program} {w : World} {A : Around} {E : Value → Shared → Prop} {s : Shared}
theorem AscIt.at {h h' : Heap} {a : Addr} {x : Str} {t : Tok} {k : Nat} (y : AscIt h a x t k) (e : ∀ o, h.get? a = some o → h'.get? a = some o) : AscIt h' a x t k := let ⟨o, ho, r⟩ := y; ⟨o, e o ho, r⟩
end
abbrev g1 (h : Heap) (x : Str) (t : Tok) : Heap := h.push { cls := .type "str_ascii_iterator", data := .fields #[.str x t, .int 0 0] }
abbrev g2 (h : Heap) (x y : Str) (t u : Tok) : Heap := (g1 h x t).push { cls := .type "str_ascii_iterator", data := .fields #[.str y u, .int 0 0] }
abbrev g3 (h : Heap) (x y : Str) (t u : Tok) : Heap := (g2 h x y t u).push { cls := .type "tuple", data := .seq #[.ref h.objs.size, .ref (g1 h x t).objs.size] }
end Fw
set_option Elab.async false
set_option linter.all false
set_option maxRecDepth 100000
set_option autoImplicit false
namespace Fw
open PySem PySem.Spec PyProof.Rows L2
end Fw
set_option Elab.async false
set_option linter.all false
set_option maxRecDepth 100000
set_option autoImplicit false
namespace Fw
open PySem L2 PyProof.Rows
end Fw
set_option Elab.async false
set_option linter.all false
set_option maxRecDepth 100000
set_option autoImplicit false
namespace Fw
open PySem
open PySem.Sem (wp)
end Fw
set_option Elab.async false
set_option linter.all false
set_option maxRecDepth 100000
set_option maxHeartbeats 1000000
set_option autoImplicit false
namespace Fw
open PySem L2 PyProof.Rows GenW
end Fw
set_option Elab.async false
set_option linter.all false
set_option maxRecDepth 100000
set_option maxHeartbeats 1000000
set_option autoImplicit false
namespace Fw
open PySem L2 GenW PyProof.Rows
inductive GRes where
  | nx (zs : List D) (ρ : Env) (μ : Store)
  | stuck
def gApp (zs : List D) : GRes → GRes
  | .nx us ρ μ => .nx (zs ++ us) ρ μ
  | .stuck => .stuck
def rG {α : Type} (r : Res α) (f : α → Store → GRes) : GRes := match r with
  | .ok a μ => f a μ
  | _ => .stuck
def PostG (K : PySem.W.Frag) (cls : Nat → Option Addr) (w : Wd) (D : GEnds) (ys : List V) : GRes → Prop
  | .nx zs ρ μ => ys.length + zs.length ≤ sizeLine ∧ ∀ w' σ us, Step w w' → RelS K cls w' μ → RelE K cls w' ρ σ → RVs K cls w' zs us → D.nx (ys ++ us) σ w'.H
  | .stuck => False
section
variable {K : PySem.W.Frag} {cls : Nat → Option Addr} {w w' : Wd} {zs : List D} {D : GEnds} {ys us : List V} {r : GRes}
theorem PostG.step (s : Step w w') (h : PostG K cls w D ys r) : PostG K cls w' D ys r := by
  cases r with
  | nx zs ρ μ => exact ⟨h.1, fun w2 σ us s2 => h.2 w2 σ us (s.trans s2)⟩
  | stuck => exact h
theorem PostG.bind {α : Type} {r : Res α} {f : α → Store → GRes} (h : PostG K cls w D ys (rG r f)) : PostR K cls w E00 (fun w' a => ∃ μ', RelS K cls w' μ' ∧ PostG K cls w' D ys (f a μ')) r := by
  cases r with
  | ok a μ => exact fun w' s S => ⟨μ, S, PostG.step s h⟩
  | err _ _ _ _ => exact h.elim
  | stuck => exact h
theorem PostG.len (h : PostG K cls w D ys (gApp zs r)) : ys.length + zs.length ≤ sizeLine := by
  cases r with
  | nx us ρ μ =>
    have := h.1
    rw [List.length_append] at this
    omega
  | stuck => exact h.elim
end
end Fw
set_option Elab.async false
set_option linter.all false
set_option maxRecDepth 100000
set_option autoImplicit false
namespace Fw
open PySem L2 PyProof.Rows
end Fw
set_option Elab.async false
set_option linter.all false
set_option maxRecDepth 100000
set_option autoImplicit false
namespace Fw
open PySem L2 PyProof.Rows
end Fw
set_option Elab.async false
set_option linter.all false
set_option maxRecDepth 100000
set_option autoImplicit false
namespace Fw
open PySem L2 PyProof.Rows
end Fw
set_option Elab.async false
set_option linter.all false
set_option maxRecDepth 100000
set_option autoImplicit false
namespace Fw
open PySem L2 PyProof.Rows
/-- an error class as the top has left it -/
structure Ek (K : PySem.W.Frag) (cls : Nat → Option Addr) (mg : Str → Option Value) (x : Str) (k : Nat) (C : Addr) : Prop where
  at_ : 100 ≤ k ∧ cls k = some C
  mg : mg x = some (.ref C)
  kp : PySem.W.keepIn K (.ref C) = true
  sub : PySem.W.subIn K (.ref C) (.type "BaseException") = some true
  ty : PySem.W.typeIn K (.ref C) = some (.type "type")
section
variable {X : Cx} {W : WX} {cls : Nat → Option Addr} {x : Str} {k : Nat} {C : Addr} {p pos rpos : Pos}
def sRaise (k : Nat) : FS := fun ρ μ => .er k [] [] ρ μ
@[simp] theorem sRaise_ev {ρ : Env} {μ : Store} : sRaise k ρ μ = .er k [] [] ρ μ := (rfl)
end
end Fw
set_option Elab.async false
set_option linter.all false
set_option maxRecDepth 100000
set_option autoImplicit false
namespace Fw
open PySem L2 PyProof.Rows
end Fw
set_option Elab.async false
set_option linter.all false
set_option maxRecDepth 100000
set_option autoImplicit false
namespace Fw
open PySem L2 PyProof.Rows
def pickS (n : Nat) (lo hi : Option Int) (k : Int) : List Nat := PySem.Builtin.Str.strSliceIndices lo hi k n
def stepD (s : List Nat) (lo hi : Option Int) (k : Int) : List Nat := (pickS s.length lo hi k).filterMap (s[·]?)
def oCutSt : D → Option Int → Option Int → Option Int → Store → Res D := fun d lo hi k μ => match d, k with
  | .str s, some k => if s.length ≤ LIM ∧ k ≠ 0 then .ok (.str (if (k == 1 && (pickS s.length lo hi k).length == s.length) = true then s else stepD s lo hi k)) μ else .stuck
  | _, _ => .stuck
def eCutSt (fa : FE) (fl fh fs : FO) : FE := fun ρ μ => (fa ρ μ).bind fun d μ1 => (fl ρ μ1).bind fun l μ2 => (fh ρ μ2).bind fun u μ3 => (fs ρ μ3).bind fun k μ4 => oCutSt d l u k μ4
@[simp] theorem eCutSt_ev {fa : FE} {fl fh fs : FO} {ρ : Env} {μ : Store} : eCutSt fa fl fh fs ρ μ = (fa ρ μ).bind fun d μ1 => (fl ρ μ1).bind fun l μ2 => (fh ρ μ2).bind fun u μ3 => (fs ρ μ3).bind fun k μ4 => oCutSt d l u k μ4 := (rfl)
end Fw
set_option Elab.async false
set_option linter.all false
set_option maxRecDepth 100000
set_option autoImplicit false
namespace Fw
open PySem PySem.Spec PyProof.Rows L2
/-- those that are met, each once -/
def met {K : Type} [DecidableEq K] (σ : List K) (v : K) : List K := if v ∈ σ then σ else σ ++ [v]
def metAll {K : Type} [DecidableEq K] (ks : List K) : List K := ks.foldl met []
def keysN (es : List D) : Option Nat := match intsOf es with
  | some is => some (metAll is).length
  | none => match strsOf es with
    | some ss => some (metAll ss).length
    | none => none
def eLenSet (fa : FE) : FE := fun ρ μ => (fa ρ μ).bind fun d μ1 => match seqOf μ1 d with
  | some es => match keysN es with
    | some n => if es.length ≤ 1000 then .ok (.int (n : Nat)) μ1 else .stuck
    | none => .stuck
  | none => .stuck
@[simp] theorem eLenSet_ev {fa : FE} {ρ : Env} {μ : Store} : eLenSet fa ρ μ = (fa ρ μ).bind fun d μ1 => match seqOf μ1 d with
  | some es => match keysN es with
    | some n => if es.length ≤ 1000 then .ok (.int (n : Nat)) μ1 else .stuck
    | none => .stuck
  | none => .stuck := (rfl)
end Fw
set_option Elab.async false
set_option linter.all false
set_option maxRecDepth 100000
set_option autoImplicit false
namespace Fw
open PySem L2
end Fw
set_option Elab.async false
set_option linter.all false
set_option maxRecDepth 100000
set_option autoImplicit false
namespace Fw
open PySem PySem.Spec PyProof.Rows L2
open PySem.Sem (wp)
end Fw
set_option Elab.async false
set_option linter.all false
set_option maxRecDepth 100000
set_option autoImplicit false
namespace Fw
open PySem PySem.Spec PySem.W PyProof.Rows L2 Builtin
def eIsiC (c : Nat) (fa : FE) : FE := fun ρ μ => (fa ρ μ).bind fun d μ1 => match insOf c μ1 d with
  | some _ => .ok (.bl true) μ1
  | none => .stuck
@[simp] theorem eIsiC_ev {c : Nat} {fa : FE} {ρ : Env} {μ : Store} : eIsiC c fa ρ μ = (fa ρ μ).bind fun d μ1 => match insOf c μ1 d with
  | some _ => .ok (.bl true) μ1
  | none => .stuck := (rfl)
end Fw
set_option Elab.async false
set_option linter.all false
set_option maxRecDepth 100000
set_option autoImplicit false
namespace Fw
open PySem PySem.Spec PyProof.Rows
end Fw
set_option Elab.async false
set_option linter.all false
set_option maxRecDepth 100000
set_option autoImplicit false
namespace Fw
open PySem L2 PyProof.Rows PySem.SeqAt
end Fw
set_option Elab.async false
set_option linter.all false
set_option maxRecDepth 100000
set_option autoImplicit false
namespace Fw
open PySem L2 PyProof.Rows PySem.SeqAt
end Fw
set_option Elab.async false
set_option linter.all false
set_option maxRecDepth 100000
set_option autoImplicit false
namespace Fw
open PySem L2 PyProof.Rows
end Fw
set_option Elab.async false
set_option linter.all false
set_option maxRecDepth 100000
set_option maxHeartbeats 2000000
set_option autoImplicit false
namespace Fw
open PySem PySem.Spec PyProof.Rows L2
end Fw
set_option Elab.async false
set_option linter.all false
set_option maxRecDepth 100000
set_option maxHeartbeats 6000000
set_option autoImplicit false
namespace Fw
open PySem PySem.Spec PyProof.Rows L2
end Fw
set_option Elab.async false
set_option linter.all false
set_option maxRecDepth 100000
set_option maxHeartbeats 2000000
set_option autoImplicit false
namespace Fw
open PySem PySem.Spec PyProof.Rows L2
end Fw
set_option Elab.async false
set_option linter.all false
set_option maxRecDepth 100000
set_option maxHeartbeats 4000000
set_option autoImplicit false
namespace Fw
open PySem PySem.Spec PyProof.Rows L2 NdefX
section
variable {P : Program} {w : World} {A : Around} {Q E : Value → Shared → Prop} {s : Shared}
/-- ValueError.__init__ of an own exception's object: its arguments are new, nothing else -/
theorem init_runs {C e t0 : Addr} {rest : List Value} (he : s.heap.get? e = some (HandSPX.excO C t0)) (few : rest.length ≤ sizeLine)
    (h : ∀ h' t1, (∀ b o, b ≠ e → s.heap.get? b = some o → h'.get? b = some o) → h'.get? e = some (HandSPX.excO C t1) → Q .none { s with heap := h' }) :
    codeAny (model P w) A (.builtin "ValueError.__init__" ⟨.ref e :: rest, []⟩) (wants Q E) s := by
  refine codeAny_builtin PySem.F.excBase_ValueError.initEntry (Around.under_plainId PySem.F.excBase_ValueError.init.plain _ ▸ ?_)
  wp_walk
  refine h _ s.heap.objs.size (fun b o ne at_ => (Heap.get?_update_other _ _ ne.symm).trans (Heap.get?_push_of_some _ at_)) ?_
  exact (Heap.get?_update_self _ (Heap.get?_push_of_some _ he) rfl).trans rfl
/-- ValueError.__init__ bound to the exception, called -/
theorem call_mw {nm q : Str} {C N : Addr} {bs bm : List Value} {hd : Bool} {sn : List Str} {sub : List Value} {ab : Bool} {col : Option Bool} {dd : Option Addr} {k0 k1 k2 k3 k5 : Option Value} {u e t0 : Addr} {rest : List Value}
    (hC : s.heap.get? C = some (excClassObj nm q C N bs bm hd sn sub ab col dd k0 k1 k2 k3 k5 "ValueError.__new__")) (he : s.heap.get? e = some (HandSPX.excO C t0)) (hu : s.heap.get? u = some (PySem.W.kxs_mw "ValueError.__init__" e)) (few : rest.length ≤ sizeLine)
    (h : ∀ h' t1, (∀ b o, b ≠ e → s.heap.get? b = some o → h'.get? b = some o) → h'.get? e = some (HandSPX.excO C t1) → Q .none { s with heap := h' }) : wpAny (model P w) A (call (.ref u) rest) Q E s := by
  have kind : (Value.type "method-wrapper" == Value.type "method" || Value.type "method-wrapper" == Value.type "builtin_function_or_method" || Value.type "method-wrapper" == Value.type "method-wrapper") = true := by decide
  have run := init_runs (P := P) (w := w) (A := A) (E := E) he few h
  refine wpAny_call (codeAny_of_tree (show wpAny _ A.in1 (callAny (.ref u) ⟨rest, []⟩) _ _ s from ?_))
  unfold callAny
  refine wpAny_bind (wpAny_load hu ?_)
  simp only [PySem.W.kxs_mw, kind, if_true]
  exact PySem.W.KFB.if_so (by decide) (wpAny_bind (PySem.W.check_bound_init PySem.F.excBase_ValueError.toExcCallFacts hC he rfl (wpAny_bind (wpAny_pure (wpAny_pure ⟨Code.quiet_builtin _ (by decide +kernel), run⟩)))))
end
/-- what the written part says of the class, for super() -/
structure Sup (prog : Program) (K : PySem.W.Frag) (mg : Str → Option Value) (C f cda cc : Addr) (slf : Str) : Prop where
  oex : OexC K C
  any : PySem.W.nsIn K cStatics "thirdparty.any" = some none
  sup : PySem.W.ks_superIn K C C "__init__" = some (some (.builtin "ValueError.__init__"))
  sub : PySem.W.subIn K (.ref C) (.type "ValueError") = some true
  mro : PySem.W.mroIn K C (.ref C) = some true
  fn : ∃ oc od fd osl ar, K.lookup f = some ⟨oc, od, .func fd, osl⟩ ∧ (fd.params.posonlyargs ++ fd.params.args).head? = some ar ∧ ar.arg = slf
  code : ∃ ccl cdd vs ccs file tf, K.lookup cda = some ⟨ccl, cdd, .fields vs, ccs⟩ ∧ vs[2]? = some (.str file tf) ∧ ((prog.main.file : Str) == file) = true
  cell : ∃ cl cld csl, K.lookup cc = some ⟨cl, cld, .cell (some (.ref C)), csl⟩
  gl : mg "super" = none
  top : (prog.main.scope.names.lookup ("super" : Str)).isSome = false
theorem Inv.pin1 {X : Cx} {pins : List (Addr × Obj)} {σ : L2.St} {H : Hp} {s : Shared} {h' : Heap} {tk : Nat} {o : Obj} (I : Inv X pins σ H s) (e : h'.get? s.heap.objs.size = some o) (k : ∀ b u, s.heap.get? b = some u → h'.get? b = some u) (hd : ∀ v, o.data ≠ .cell v) :
    Inv X ((s.heap.objs.size, o) :: pins) σ H { s with heap := h', toks := tk } := by
  have J : Inv X pins σ H { s with heap := h', toks := tk } := I.kept k
  have ⟨f0, f1, f2, _⟩ := I.fpOk (Nat.le_refl _) (I.hok.fresh (Nat.le_refl _))
  refine J.pins_of fun p hp => ?_
  rw [List.mem_cons] at hp
  exact hp.elim (fun z => z ▸ ⟨e, f0, f1, f2, hd⟩) fun z => J.pin p (List.mem_append_right _ z)
section
variable {X : Cx} {pins : List (Addr × Obj)} {σ : L2.St} {H : Hp} {s : Shared} {a C f cda cc : Addr} {slf : Str} {body : List Stmt} {e : Expr} {te : TE} {p0 p1 p2 pos pos2 : Pos}
theorem sup_init {Q : Flow → Shared → Prop} (T : Sup X.prog X.K X.mg C f cda cc slf) (hfu : X.env.func = some f) (hco : X.env.code = .ref cda) (hcl : X.env.cells.lookup ("__class__" : Str) = some cc)
    (hks : X.env.kindOf "super" = some .globalImplicit) (hkc : X.env.kindOf "__class__" = some .free) (hself : X.env.kindOf slf = some .local) (hN : X.N[0]? = some slf)
    (hdb : (slf == ("__debug__" : Str)) = false) (hint : interactive X.env = false) (I : Inv X pins σ H s) (hσ : σ[0]? = some (some (.ref a))) (ea : H a = some (exo a C none))
    (he : PE X e te) (hte : ∀ Q : V → Hp → Prop, (∀ v, Q v H) → te σ H Q) (hs : starEach (e :: []) X.env = (false, eval e X.env) :: starEach [] X.env) (hpl : (backTo pos (starEach [] X.env)).any (·.1) = false)
    (hq : ∀ s', Inv X pins σ H s' → Q .next s') {pl : Sem Bool}
    (hev : eval (.Call (.Attribute (.Call (.Name "super" p0) [] [] p1) "__init__" p2) [e] [] pos) X.env = (do
      let ov ← attributeBase (.Call (.Name "super" p0) [] [] p1) "__init__" X.env (eval (.Call (.Name "super" p0) [] [] p1) X.env)
      standAt p2.atName
      let (f, first) ← holding [ov] (getMethod ov "__init__" pl)
      callWith pos f first (backTo pos (starEach [e] X.env)) []))
    (hsw : swapsWith (.Call (.Attribute (.Call (.Name "super" p0) [] [] p1) "__init__" p2) [e] [] pos) none pos2.line X.env = pure false) :
    _root_.PySem.wpAt (model X.prog X.w) X.A (.func body X.env) (exec (.Expr (.Call (.Attribute (.Call (.Name "super" p0) [] [] p1) "__init__" p2) [e] [] pos) pos2) X.env) Q X.xe s := by
  refine ks_wpAt_Expr_any (ks_wpAt_MethodCall (pl := pl) ?_ hev) hint hsw
  obtain ⟨oc, od, fd, osl, ar, lkf, har, rfl⟩ := T.fn
  obtain ⟨ccl, cdd, vs, ccs, file, tf, lkc, hvs, hfile⟩ := T.code
  obtain ⟨cl, cld, csl, lkcell⟩ := T.cell
  obtain ⟨nm, q, N, bs, bm, sn, sub, ab, col, dd, k0, k1, k2, k3, k5, hC, hbm⟩ := T.oex.cls
  have KX := I.kIn
  obtain ⟨t0, hoe⟩ := exo_at I.hok ea
  obtain ⟨m, hn, hl⟩ := I.loc
  have ⟨u, ru, hlk⟩ := hl 0 _ _ hN hσ (.inl hself)
  obtain rfl : u = .ref a := ru
  have hm : m ar.arg = some (.ref a) := by
    rcases hlk with ⟨_, z⟩ | ⟨z, _⟩
    · exact z
    · rw [hself] at z
      rcases z with z | z <;> cases z
  refine ks_wpAt_super_base (env := X.env) hks hkc (by decide) hfu (KX _ _ lkf) rfl har hco (KX _ _ lkc) rfl hvs hfile T.top ?_
  have gl : wpAny (model X.prog X.w) X.A (loadName X.env "super") (fun g s₁ => g = .type "super" ∧ s₁ = s) X.xe s := by
    have ⟨mb, h1, h2⟩ := I.mod.blt
    refine PySem.W.ks_loadName_global I.ok.kind hks ?_
    exact Calls.loadGlobal_builtin (by rw [I.ok.glob]; exact I.mod.glob.keeps I.bk) T.gl (by rw [I.ok.blt]; exact h1.keeps I.bk) ((h2 _ (by decide)).trans (by decide +kernel)) ⟨rfl, rfl⟩
  refine wpAny_mono gl (fun gv s₁ hg => ?_) fun _ _ z => z
  obtain ⟨rfl, rfl⟩ := hg
  refine ⟨rfl, wpAny_loadName_free I.ok.kind hkc hcl ⟨_, KX _ _ lkcell, rfl⟩ (wpAny_loadName_local I.ok.kind hself hn hm ?_)⟩
  have hD := KX _ _ hC
  obtain ⟨hp, g, dr, tk, os⟩ := s₁
  have KX : X.K.In hp := KX
  refine ks_wpAny_isType_cls hD rfl ⟨rfl, ?_⟩
  refine ks_wpAny_call_super hD rfl hoe rfl (fun c z => by cases z) (PySem.W.looks_mroIn KX T.mro) fun h1 hso k1 => ?_
  -- the bound __init__
  have KX1 : X.K.In h1 := KX.keeps k1
  have hI : PySem.W.Looks (model X.prog X.w) h1 (isInstance (.ref a) (.type "ValueError")) true := by
    have Ia : PySem.W.InstAt h1 a { cls := .ref C, dict := none, data := .fields #[.ref t0, .none, .none, .none, .bool false, .none] } C none := ⟨k1 _ _ hoe, rfl, rfl, trivial⟩
    exact Ia.type.andThen (PySem.W.looks_subIn KX1 T.sub)
  have hsup := T.sup
  unfold PySem.W.ks_superIn at hsup
  obtain ⟨cdC, hcdC, hal⟩ := Option.bind_eq_some_iff.mp hsup
  have haC : a ≠ C := fun z => by
    rw [z] at hoe
    have hD' := hD
    rw [hoe] at hD'
    cases hD'
  refine PySem.W.kxs_getMethod PySem.W.kxs_ValueError hso (PySem.W.looks_opaque KX1 T.any) (l₀ := cdC.mro) (fun A Q E s k q => wpAny_bind ((PySem.W.looks_clsIn KX1 hcdC) A _ E s k (wpAny_pure q))) rfl KX1 hal hI haC (by decide) ?_
  have I1 : Inv X pins σ H ⟨h1, g, dr, tk + 1, os⟩ := I.kept (t' := tk + 1) k1
  have I2 : Inv X ((h1.objs.size, PySem.W.kxs_mw "ValueError.__init__" a) :: pins) σ H ⟨h1.push (PySem.W.kxs_mw "ValueError.__init__" a), g, dr, tk + 1, os⟩ := Inv.pin1 (s := ⟨h1, g, dr, tk + 1, os⟩) (tk := tk + 1) I1 (Heap.get?_push_at rfl rfl) (fun b o z => Heap.get?_push_of_some _ z) (fun v z => by cases z)
  refine PySem.W.kxs_callWith (i := "ValueError.__init__") (x := a) ?_ ?_
  · rw [hs]
    show (false || (backTo pos (starEach [] X.env)).any (·.1)) = false
    rw [hpl] <;> rfl
  have pa : PA X [e] (tCons te tNil) := pa_cons he pa_nil hs
  have hta : (tCons te tNil) σ H fun vs H1 => H1 = H ∧ vs.length = 1 := by
    refine (show te σ H fun x H1 => tNil σ H1 fun xs H2 => H2 = H ∧ (x :: xs).length = 1 from ?_)
    exact hte _ fun v => ⟨rfl, rfl⟩
  have go := pa.run pos _ _ σ H _ I2 hta
  rw [hs] at go ⊢
  refine PySem.Calls.evalArgs_plain (thn go fun us s3 ⟨vs, H1, I3, r3, eH, hl3⟩ => ?_)
  subst eH
  have hu := (I3.pin (h1.objs.size, PySem.W.kxs_mw "ValueError.__init__" a) (List.mem_append_right _ List.mem_cons_self)).1
  refine ⟨hu, ?_⟩
  obtain ⟨t3, hoe3⟩ := exo_at I3.hok ea
  obtain ⟨h3, g3, d3, tk3, os3⟩ := s3
  have few : us.length ≤ sizeLine := by rw [← Paired.length r3, hl3]; decide
  refine call_mw (I3.kIn _ _ hC) hoe3 hu (by simpa using few) fun h' t4 k hx => ?_
  have J := I3.write (t' := tk3) (x := a) (e := a) (o := exo a C none) (by rw [ea]; exact True.intro) (.inl rfl) k ⟨_, hx⟩ (exo_ok hx)
  have eu : upd H1 a (exo a C none) = H1 := by
    funext b
    by_cases hb : b = a
    · rw [hb, upd_same, ea]
    · rw [upd_ne hb]
  rw [eu] at J
  exact hq _ (J.pins_of fun p hp => J.pin p (List.mem_append_right _ (List.mem_cons_of_mem _ hp)))
end
end Fw
set_option Elab.async false
set_option linter.all false
set_option maxRecDepth 100000
set_option maxHeartbeats 4000000
set_option autoImplicit false
namespace Fw
open PySem PySem.Spec PyProof.Rows L2 NdefX
section
variable {CX : CXT} {P : Program} {w : World} {K : PySem.W.Frag} {mg : Str → Option Value} {base : Heap} {k : Nat} {f C cc : Addr} {N ps' : List Str} {slf : Str} {F : NF} {sp : Sp} {dV kV doc pm ct oc : Value} {an od : Option Addr} {osl : Array (Option Value)}
  {e : Expr} {p0 p1 p2 pos pos2 : Pos} {rest : List Stmt}
theorem fn_init (lk : K.lookup f = some ⟨oc, od, .func (PySem.W.fnX F.name F.qual F.params F.body F.scope F.cl dV kV doc pm an (.ref F.c) ct), osl⟩) (hcd : PySem.W.codeIn K (.ref F.c) F.qual = true) (S : NScope N (slf :: ps') ["__class__"] F.scope)
    (hcl : F.cl = [(("__class__" : Str), cc)]) (T : Sup P K mg C f F.c cc slf) (hb : F.body = .Expr (.Call (.Attribute (.Call (.Name "super" p0) [] [] p1) "__init__" p2) [e] [] pos) pos2 :: rest)
    (hks : F.scope.names.lookup ("super" : Str) = some .globalImplicit) (hdb : (slf == ("__debug__" : Str)) = false) (len : ∀ vs H Q E, sp vs H Q E → vs.length = (slf :: ps').length) {pl : PySem.Env → Sem Bool}
    (hev : ∀ env : PySem.Env, eval (.Call (.Attribute (.Call (.Name "super" p0) [] [] p1) "__init__" p2) [e] [] pos) env = (do
      let ov ← attributeBase (.Call (.Name "super" p0) [] [] p1) "__init__" env (eval (.Call (.Name "super" p0) [] [] p1) env)
      standAt p2.atName
      let (f, first) ← holding [ov] (getMethod ov "__init__" (pl env))
      callWith pos f first (backTo pos (starEach [e] env)) []))
    (hsw : ∀ env : PySem.Env, swapsWith (.Call (.Attribute (.Call (.Name "super" p0) [] [] p1) "__init__" p2) [e] [] pos) none pos2.line env = pure false)
    (hs : ∀ env : PySem.Env, starEach (e :: []) env = (false, eval e env) :: starEach [] env) (hpl : ∀ env : PySem.Env, (backTo pos (starEach [] env)).any (·.1) = false)
    (hbody : ∀ (A : Around) (outer : List PySem.Env) (s : Shared) (H : Hp) (vs : List V) (Q : VK) (E : XK), sp vs H Q E → ∃ (a : Addr) (ws : List V), vs = .ref a :: ws ∧ H a = some (exo a C none) ∧
      (∃ te, PE (ncx CX P w K mg base N F f A outer s H E) e te ∧ ∀ Q' : V → Hp → Prop, (∀ v, Q' v H) → te (startF N vs [none]) H Q') ∧
      ∃ t, PSs (ncx CX P w K mg base N F f A outer s H E) rest t ∧ t { nx := fun _ H' => Q .non H', rt := Q } (startF N vs [none]) H) :
    FnOk P w K mg base CX (k + 1) f (PySem.W.fnX F.name F.qual F.params F.body F.scope F.cl dV kV doc pm an (.ref F.c) ct) (slf :: ps') sp := by
  refine ⟨len, fun A outer s H args us vs Q E hr e0 hbt r hsp => ?_⟩
  have hl := len _ _ _ _ hsp
  have stays := fun b o (e : base.get? b = some o) => (e0.bs b o e).1
  have KX : K.In s.heap := e0.mod.kin.keeps stays
  have lim : s.heap.NoLimit := e0.mod.nolimit.keeps stays
  refine codeAny_call_function hr.depth (KX _ _ lk) rfl S.co S.gen rfl (PySem.W.codeRec_of KX hcd) (hbt _ _ _ _ ?_)
  refine wpAny_newFunctionEnv S.nocell (fun ⟨n, _⟩ hy => S.par n (List.of_mem_zip hy).1) (fun h₁ hns hsb => ⟨lim.fresh _ hsb, ?_⟩) S.kind
  refine ks_codeAny_funcAt (env := envF F f s.heap.objs.size) ?_
  have kp : ∀ b o, s.heap.get? b = some o → h₁.get? b = some o := fun b o e =>
    have old := Heap.lt_size e
    hsb.extBut b o (Nat.ne_of_lt old) (Heap.get?_push_of_some _ e)
  obtain ⟨cl, cld, csl, lkc⟩ := T.cell
  have hcc : H cc = none := (e0.bs cc _ (e0.mod.kin _ _ lkc)).2
  have hcell : s.heap.IsCell cc (some (.ref C)) := ⟨_, KX _ _ lkc, rfl⟩
  have lkup : ∀ (y : Str) (c : Addr), F.cl.lookup y = some c → y = "__class__" ∧ c = cc := fun y c z => by
    rw [hcl] at z
    simp only [List.lookup] at z
    split at z
    · rename_i hy
      exact ⟨by simpa using hy, (Option.some.inj z).symm⟩
    · cases z
  have hlc : F.cl.lookup ("__class__" : Str) = some cc := by
    rw [hcl]
    simp [List.lookup]
  have CA : CellsAt F.cl ["__class__"] [none] s.heap H := ⟨rfl, fun y c z => by
      obtain ⟨_, rfl⟩ := lkup y c z
      exact ⟨hcc, _, hcell⟩, fun x y c z1 z2 => (lkup x c z1).1.trans (lkup y c z2).1.symm, fun i y z => by
      have : y = "__class__" := by
        cases i with
        | zero => simpa using z.symm
        | succ i => simp at z
      subst this
      exact ⟨cc, hlc, fun v zv => by
        cases i with
        | zero => simp at zv
        | succ i => simp at zv⟩⟩
  have I : Inv (ncx CX P w K mg base N F f A outer s H E) [] (startF N vs [none]) H { s with heap := h₁, toks := s.toks + ((slf :: ps').zip us).length } := inv_startN S hr.hd e0 hl r CA hns kp
  obtain ⟨a, ws, rfl, ea, ⟨te, hte, pure⟩, t, ht, hq⟩ := hbody A outer s H vs Q E hsp
  have hN0 : N[0]? = some slf := by
    have := S.pre
    cases N with
    | nil => simp at this
    | cons x N => simp at this; rw [this.1]; rfl
  rw [hb]
  refine ks_wpAt_execs_cons ?_
  refine sup_init (X := ncx CX P w K mg base N F f A outer s H E) (cda := F.c) (slf := slf) (pl := pl _) T rfl rfl hlc hks (S.frk _ (by simp)) (S.par _ (by simp)) hN0 hdb (by show interactive (envF F f s.heap.objs.size) = false; unfold interactive; simp [S.kind]) I (by simp [startF]) ea hte pure (hs _) (hpl _) (fun s' J => ?_) (hev _) (hsw _)
  refine wpAt_of_wpAny (wpAny_mono (ht.run [] s' _ H _ J hq) (fun fl s'' hs => ?_) fun e s' hs => hs)
  cases fl with
  | ret u => exact let ⟨v, _, H', J, rv, q⟩ := hs; ⟨v, H', J.os, J.bare, J.base, J.hok, rv, q⟩
  | next => exact let ⟨_, H', J, q⟩ := hs; ⟨.non, H', J.os, J.bare, J.base, J.hok, rfl, q⟩
  | brk => exact hs.elim fun _ z => z.elim fun _ z => z.2.elim
  | cont => exact hs.elim fun _ z => z.elim fun _ z => z.2.elim
end
end Fw
namespace Fw
open PySem PySem.Spec PyProof.Rows L2 NdefX
/-- what an f-string can tell here -/
def okF (y : V) : Prop := (∃ i : Int, y = .int i ∧ i.natAbs.log2 < 1920) ∨ ∃ t : Str, y = .str t ∧ t.length ≤ 1000
theorem int_len {i : Int} (h : i.natAbs.log2 < 1920) : (Str.ofString (toString i)).length ≤ 1921 := by
  rw [PySem.ofString_length]
  exact int_text_length_le (k := 1920) (by decide) h
theorem str_app_len (a b : Str) : (a ++ b).length = a.length + b.length := by
  exact (Array.size_append : (a.cps ++ b.cps).size = _)
theorem js_const {z : Str} {ts : List TE} {acc : Str} {σ : L2.St} {H : Hp} {Q : Str → Hp → Prop} (hl : acc.length + z.length ≤ 20000) (k : tJs ts (acc ++ z) σ H Q) : tJs (tC (.str z) :: ts) acc σ H Q :=
  ⟨z, rfl, by rw [str_app_len, sizeLine_eq]; omega, k⟩
theorem js_var {i : Nat} {y : V} {ts : List TE} {acc : Str} {σ : L2.St} {H : Hp} {Q : Str → Hp → Prop} (hy : okF y) (hσ : σ[i]? = some (some y)) (hl : acc.length ≤ 10000) (k : ∀ t : Str, t.length ≤ 1921 → tJs ts (acc ++ t) σ H Q) : tJs (tFmt (tVar i) :: ts) acc σ H Q := by
  refine ⟨y, hσ, ?_⟩
  rcases hy with ⟨n, rfl, h⟩ | ⟨t, rfl, h⟩
  · refine .inr ⟨n, rfl, h, _, rfl, ?_, k _ (int_len h)⟩
    have := int_len h
    rw [str_app_len, sizeLine_eq]
    omega
  · refine .inl ⟨t, rfl, by rw [sizeLine_eq]; omega, t, rfl, ?_, k t (by omega)⟩
    rw [str_app_len, sizeLine_eq]
    omega
/-- the promise of such an __init__ of one field -/
def spE1 (C : Addr) (f1 : Str) : Sp := fun vs H Q _ => ∃ (a : Addr) (y : V), vs = [.ref a, y] ∧ H a = some (exo a C none) ∧ okF y ∧ ∀ dx, H dx = none → dx ≠ a → Q .non (upd (upd H dx (exd dx [(f1, y)])) a (exo a C (some dx)))
section
variable {CX : CXT} {P : Program} {w : World} {K : PySem.W.Frag} {mg : Str → Option Value} {base : Heap} {k : Nat} {f C cc : Addr} {slf x1 f1 z : Str} {F : NF} {dV kV doc pm ct oc : Value} {an od : Option Addr} {osl : Array (Option Value)}
  {p0 p1 p2 p3 p4 p5 p6 p7 p8 p9 q1 pos pos2 : Pos} {j : Nat}
theorem init1 (lk : K.lookup f = some ⟨oc, od, .func (PySem.W.fnX F.name F.qual F.params F.body F.scope F.cl dV kV doc pm an (.ref F.c) ct), osl⟩) (hcd : PySem.W.codeIn K (.ref F.c) F.qual = true) (S : NScope [slf, x1, "__class__"] [slf, x1] ["__class__"] F.scope)
    (hcl : F.cl = [(("__class__" : Str), cc)]) (T : Sup P K mg C f F.c cc slf)
    (hb : F.body = [.Expr (.Call (.Attribute (.Call (.Name "super" p0) [] [] p1) "__init__" p2) [.JoinedStr [.Constant (.str z) j p3, .FormattedValue (.Name x1 p4) (-1) none p5] p6] [] pos) pos2, .Assign [.Attribute (.Name slf p7) f1 p8] (.Name x1 p9) q1])
    (hks : F.scope.names.lookup ("super" : Str) = some .globalImplicit) (hdb : (slf == ("__debug__" : Str)) = false) (hdb1 : (x1 == ("__debug__" : Str)) = false) (hcd0 : (slf == ("__classdict__" : Str)) = false) (hcd1 : (x1 == ("__classdict__" : Str)) = false) (hz : z.length ≤ 1000)
    (hno : PySem.W.findIn K (.ref C) f1 = some none) {pl : PySem.Env → Sem Bool}
    (hev : ∀ env : PySem.Env, eval (.Call (.Attribute (.Call (.Name "super" p0) [] [] p1) "__init__" p2) [.JoinedStr [.Constant (.str z) j p3, .FormattedValue (.Name x1 p4) (-1) none p5] p6] [] pos) env = (do
      let ov ← attributeBase (.Call (.Name "super" p0) [] [] p1) "__init__" env (eval (.Call (.Name "super" p0) [] [] p1) env)
      standAt p2.atName
      let (f, first) ← holding [ov] (getMethod ov "__init__" (pl env))
      callWith pos f first (backTo pos (starEach [.JoinedStr [.Constant (.str z) j p3, .FormattedValue (.Name x1 p4) (-1) none p5] p6] env)) [])) :
    FnOk P w K mg base CX (k + 1) f (PySem.W.fnX F.name F.qual F.params F.body F.scope F.cl dV kV doc pm an (.ref F.c) ct) [slf, x1] (spE1 C f1) := by
  refine fn_init (ps' := [x1]) lk hcd S hcl T hb hks hdb (fun vs H Q E q => ?_) hev (fun env => rfl) (fun env => rfl) (fun env => rfl) ?_
  · obtain ⟨a, y, rfl, _⟩ := q
    rfl
  · rintro A outer s H vs Q E ⟨a, y, rfl, ea, hy, q⟩
    have vs0 : Vis F.scope slf := .inl (S.par _ (by simp))
    have vs1 : Vis F.scope x1 := .inl (S.par _ (by simp))
    refine ⟨a, [y], rfl, ea, ⟨_, pe_joined (.cons pe_str (.cons (pe_fmt (pe_var (i := 1) rfl vs1 hdb1 hcd1)) .nil)), fun Q' h => ?_⟩, _, pss_one (ps_ost (pe_var (i := 0) rfl vs0 hdb hcd0) (pe_var (i := 1) rfl vs1 hdb1 hcd1)), ?_⟩
    · exact js_const (by show 0 + z.length ≤ 20000; omega) (js_var hy rfl (by rw [str_app_len]; show 0 + z.length ≤ 10000; omega) fun t ht => h _)
    · exact ⟨y, rfl, .ref a, rfl, a, C, rfl, T.oex, hno, .inl ⟨ea, fun dx h1 h2 => q dx h1 h2⟩⟩
end
end Fw
set_option Elab.async false
set_option linter.all false
set_option maxRecDepth 100000
set_option maxHeartbeats 2000000
set_option autoImplicit false
namespace Fw
open PySem PySem.Spec PyProof.Rows L2
structure EkI (P : Program) (W : World) (K : PySem.W.Frag) (cls : Nat → Option Addr) (mgl : Str → Option Value) (base : Heap) (j : Nat) (x : Str) (k : Nat) (C : Addr) (f1 : Str) : Prop extends Ek K cls mgl x k C where
  oex : OexC K C
  init : ∃ (fI : Addr) (fd : FuncData) (ps : List Str), PySem.W.findIn K (.ref C) "__init__" = some (some (.ref fI)) ∧ PySem.W.typeIn K (.ref fI) = some (.type "function") ∧ FnOk P W K mgl base (CX P W) j fI fd ps (spE1 C f1) ∧ Binds K fd ps []
def okE : D → Bool
  | .int i => decide (i.natAbs.log2 < 1920)
  | .str s => decide (s.length ≤ 1000)
  | _ => false
/-- raise X(e) -/
def sRaise1 (k : Nat) (f1 : Str) (fe : FE) : FS := fun ρ μ => rS ρ (fe ρ μ) fun d μ1 => if okE d = true then .er k [f1] [d] ρ μ1 else .stuck
@[simp] theorem sRaise1_ev {k : Nat} {f1 : Str} {fe : FE} {ρ : Env} {μ : Store} : sRaise1 k f1 fe ρ μ = rS ρ (fe ρ μ) fun d μ1 => if okE d = true then .er k [f1] [d] ρ μ1 else .stuck := (rfl)
theorem okE_rv {K : PySem.W.Frag} {cls : Nat → Option Addr} {w : Wd} {d : D} {v : V} (h : okE d = true) (r : RV K cls w d v) : okF v := by
  cases d with
  | int i => exact .inl ⟨i, r, by simpa [okE] using h⟩
  | str s =>
    refine .inr ⟨⟨s.toArray⟩, r, ?_⟩
    have : s.length ≤ 1000 := by simpa [okE] using h
    simpa [Str.length] using this
  | _ => cases h
theorem noPass {X : Cx} : Passes (CX X.prog X.w) X (fun _ _ _ => False) := fun pins σ H s e s' I h => by
  obtain ⟨_, _, _, _, _, _, _, _, _, _, _, _, h⟩ := h
  exact h.elim
section
variable {X : Cx} {W : WX} {cls : Nat → Option Addr} {x f1 : Str} {j k : Nat} {C : Addr} {p pos rpos : Pos} {e : Expr} {fe : FE}
theorem ss_raise1 (hc : X.calm = true) (tk : Takes X W) (T : EkI X.prog X.w X.K cls X.mg X.base j x k C f1) (hr : Room (j + 1) X.A) (hg : Gl X x) (he : SE X W cls e fe) (hdb : (x == ("__debug__" : Str)) = false := by decide +kernel)
    (hs : starEach (e :: []) X.env = (false, eval e X.env) :: starEach [] X.env := by rfl) (hpl : (backTo pos (starEach [] X.env)).any (·.1) = false := by rfl) :
    SS X W cls (.Raise (some (.Call (.Name x p) [e] [] pos)) none rpos) (sRaise1 k f1 fe) := by
  obtain ⟨fI, fd, ps, iC, tI, F1, hb⟩ := T.init
  obtain ⟨t1, p1, h1⟩ := sa_cons he sa_nil hs
  refine ⟨_, ps_raise hc tk (pmk_oex T.oex iC tI F1 hr hb (dvs := []) .nil noPass hg T.mg p1 hdb hs hpl), fun D σ w ρ μ S E h => ?_⟩
  refine h1 σ _ w ρ μ S E ?_
  have h2 : PostS X.K cls w W D (rS ρ ((aCons fe aNil) ρ μ) fun ds μ1 => match ds with | [d] => if okE d = true then .er k [f1] [d] ρ μ1 else .stuck | _ => .stuck) := by
    rw [sRaise1_ev] at h
    rw [aCons_ev]
    cases hf : fe ρ μ with
    | ok d μ1 => rw [hf] at h; exact h
    | err => rw [hf] at h; exact h
    | stuck => rw [hf] at h; exact h
  refine (PostS.bind E h2).imp fun w1 ds s1 ⟨μ1, S1, q1⟩ vs r1 => ?_
  split at q1
  · rename_i d
    split at q1
    · rename_i ok
      · obtain ⟨v, rest, rfl, rd, rn⟩ := r1
        obtain rfl : rest = [] := rn
        refine ⟨by simp, fun a ha => ?_⟩
        refine ⟨a, v, rfl, upd_same, okE_rv ok rd, fun dx hdx hne => ?_⟩
        have hdx1 : w1.H dx = none := by rwa [upd_ne hne] at hdx
        refine ⟨rfl, dx, [(f1, v)], upd_same, by rw [upd_ne hne, upd_same], hdx1, ?_⟩
        have eH : upd (del (upd (upd (upd w1.H a (exo a C none)) dx (exd dx [(f1, v)])) a (exo a C (some dx))) a) dx (.xd [(f1, v)]) = (w1.up dx (.xd [(f1, v)])).H := by
          funext b
          show _ = upd w1.H dx (.xd [(f1, v)]) b
          by_cases hb1 : b = dx
          · subst hb1
            rw [upd_same, upd_same]
          · rw [upd_ne hb1, upd_ne hb1]
            by_cases hb2 : b = a
            · subst hb2
              rw [del_same, ha]
            · rw [del_ne hb2, upd_ne hb2, upd_ne hb1, upd_ne hb2]
        rw [eH]
        have fr := S1.free hdx1
        exact q1 (w1.up dx (.xd [(f1, v)])) σ (.ref C) (some dx) (step_new hdx1) (S1.new hdx1) ((E.mono s1.kp).mono (step_new hdx1).kp) ⟨C, T.at_, rfl, .inr ⟨dx, [v], rfl, ⟨upd_same, fr.1, fr.2⟩, rfl, ⟨v, [], rfl, rd.mono (step_new hdx1).kp, rfl⟩⟩⟩
    · exact q1.elim
  · exact q1.elim
end
end Fw
set_option Elab.async false
set_option linter.all false
set_option maxRecDepth 100000
set_option maxHeartbeats 2000000
set_option autoImplicit false
namespace Fw
open PySem PySem.Spec PyProof.Rows L2 NdefX
section
variable {P : Program} {W : World} {K : PySem.W.Frag} {cls : Nat → Option Addr} {mg : Str → Option Value} {base : Heap} {x f1 qual slf x1 z : Str} {k : Nat} {C fI cda cc : Addr} {st : Stmt}
  {od an : Option Addr} {osl : Array (Option Value)} {oc kV doc pm ct : Value}
  {nm q : Str} {N : Addr} {bs bm : List Value} {sn : List Str} {sub : List Value} {ab : Bool} {col : Option Bool} {dd : Option Addr} {k0 k1 k2 k3 k5 : Option Value}
  {ccl : Value} {cdd : Option Addr} {vs : Array Value} {ccs : Array (Option Value)} {file : Str} {tf : Tok} {cl : Value} {cld : Option Addr} {csl : Array (Option Value)}
  {p0 p1 p2 p3 p4 p5 p6 p7 p8 p9 q1 pos pos2 ap0 ap1 : Pos} {j : Nat}
theorem eki_mk (at_ : 100 ≤ k ∧ cls k = some C) (hm : mg x = some (.ref C)) (kc : PySem.W.keepIn K (.ref C) = true) (sb : PySem.W.subIn K (.ref C) (.type "BaseException") = some true) (ty : PySem.W.typeIn K (.ref C) = some (.type "type"))
    (lo : K.lookup C = some (excClassObj nm q C N bs bm true sn sub ab col dd k0 k1 k2 k3 k5 "ValueError.__new__")) (rf : PySem.HandSPX.refsVE bm = true)
    (sa : PySem.W.findIn K (.ref C) "__setattr__" = some (some (.builtin "object.__setattr__"))) (ia : PySem.W.findIn K (.ref C) "__init__" = some (some (.ref fI))) (it : PySem.W.typeIn K (.ref fI) = some (.type "function"))
    (li : K.lookup fI = some ⟨oc, od, .func (PySem.W.fnX "__init__" qual (defArgs st) (defBody st) (defScope st) [(("__class__" : Str), cc)] .none kV doc pm an (.ref cda) ct), osl⟩) (ci : PySem.W.codeIn K (.ref cda) qual = true)
    (sv : PySem.W.subIn K (.ref C) (.type "ValueError") = some true) (mr : PySem.W.mroIn K C (.ref C) = some true) (su : PySem.W.ks_superIn K C C "__init__" = some (some (.builtin "ValueError.__init__")))
    (lk : K.lookup cda = some ⟨ccl, cdd, .fields vs, ccs⟩) (vf : vs[2]? = some (.str file tf)) (ff : ((P.main.file : Str) == file) = true) (lc : K.lookup cc = some ⟨cl, cld, .cell (some (.ref C)), csl⟩)
    (nf : PySem.W.findIn K (.ref C) f1 = some none) (any : PySem.W.nsIn K cStatics "thirdparty.any" = some none) (sup : mg "super" = none) (top : (P.main.scope.names.lookup ("super" : Str)).isSome = false)
    (hargs : defArgs st = ⟨[], [⟨slf, none, ap0⟩, ⟨x1, none, ap1⟩], none, [], [], none, []⟩)
    (hb : defBody st = [.Expr (.Call (.Attribute (.Call (.Name "super" p0) [] [] p1) "__init__" p2) [.JoinedStr [.Constant (.str z) j p3, .FormattedValue (.Name x1 p4) (-1) none p5] p6] [] pos) pos2, .Assign [.Attribute (.Name slf p7) f1 p8] (.Name x1 p9) q1])
    (S : nscB [slf, x1, "__class__"] [slf, x1] ["__class__"] (defScope st) = true) (hks : (defScope st).names.lookup ("super" : Str) = some .globalImplicit)
    (hw : ((slf == ("__debug__" : Str)) || (x1 == ("__debug__" : Str)) || (slf == ("__classdict__" : Str)) || (x1 == ("__classdict__" : Str)) || slf == x1) = false) (hz : z.length ≤ 1000) {pl : PySem.Env → Sem Bool}
    (hev : ∀ env : PySem.Env, eval (.Call (.Attribute (.Call (.Name "super" p0) [] [] p1) "__init__" p2) [.JoinedStr [.Constant (.str z) j p3, .FormattedValue (.Name x1 p4) (-1) none p5] p6] [] pos) env = (do
      let ov ← attributeBase (.Call (.Name "super" p0) [] [] p1) "__init__" env (eval (.Call (.Name "super" p0) [] [] p1) env)
      standAt p2.atName
      let (f, first) ← holding [ov] (getMethod ov "__init__" (pl env))
      callWith pos f first (backTo pos (starEach [.JoinedStr [.Constant (.str z) j p3, .FormattedValue (.Name x1 p4) (-1) none p5] p6] env)) []))
    (hbi : ∀ us : List Value, us.length = [slf, x1].length → bindArgs (PySem.W.fnX "__init__" qual (defArgs st) (defBody st) (defScope st) [(("__class__" : Str), cc)] .none kV doc pm an (.ref cda) ct) ⟨us, []⟩ = pure ([slf, x1].zip us)) :
    EkI P W K cls mg base 1 x k C f1 := by
  simp only [Bool.or_eq_false_iff] at hw
  obtain ⟨⟨⟨⟨w1, w2⟩, w3⟩, w4⟩, w5⟩ := hw
  have ox : OexC K C := ⟨⟨nm, q, N, bs, bm, sn, sub, ab, col, dd, k0, k1, k2, k3, k5, lo, rf⟩, sa, sb, ty, kc⟩
  have T : Sup P K mg C fI cda cc slf := ⟨ox, any, su, sv, mr, ⟨_, _, _, _, ⟨slf, none, ap0⟩, li, by show (_ : List Arg).head? = _; rw [show (defArgs st).posonlyargs = [] by rw [hargs], show (defArgs st).args = _ by rw [hargs]] <;> rfl, rfl⟩, ⟨_, _, _, _, _, _, lk, vf, ff⟩, ⟨_, _, _, lc⟩, sup, top⟩
  refine ⟨⟨at_, hm, kc, sb, ty⟩, ox, fI, _, [slf, x1], ia, it, init1 (F := ⟨"__init__", qual, defArgs st, defBody st, defScope st, [(("__class__" : Str), cc)], cda⟩) li ci (nscope_by S) rfl T hb hks w1 w2 w3 w4 hz nf hev, .all hbi⟩
end
end Fw
set_option Elab.async false
set_option linter.all false
set_option maxRecDepth 100000
set_option maxHeartbeats 2000000
set_option autoImplicit false
namespace Fw
open PySem PySem.Spec PyProof.Rows L2
abbrev Cl := Value × (Addr → Value → Option Addr → TS)
/-- the ends of a suite behind which slot i is gone -/
abbrev gone (i : Nat) (D : Ends) : Ends := { nx := fun σ' H' => D.nx (σ'.set i none) H', rt := D.rt, bk := fun σ' H' => D.bk (σ'.set i none) H', ct := fun σ' H' => D.ct (σ'.set i none) H' }
/-- what the clauses wish, one after the other -/
def wAll (K : PySem.W.Frag) (i : Nat) (Wout : WX) (D : Ends) : List Cl → WX
  | [] => Wout
  | (c, ts) :: r => fun cls d σ H => ∃ b, PySem.W.exmOne K cls c = some b ∧ (b = true → ∀ a, H a = none → ts a cls d (gone i D) (σ.set i (some (.ref a))) H) ∧ (b = false → wAll K i Wout D r cls d σ H)
inductive ClsOk (X : Cx) (n : Str) : List ExceptHandler → List Cl → Prop
  | nil : ClsOk X n [] []
  | cons {x : Str} {c : Value} {ts : Addr → Value → Option Addr → TS} {st : Stmt} {suite : List Stmt} {np pos' : Pos} {hds : List ExceptHandler} {l : List Cl} (hc : Names X x c)
      (hsu : ∀ (a : Addr) (oe : Obj) (cls : Value) (d : Option Addr) (pn : List (Addr × Obj)), Zc cls d oe → (∃ vs, oe.data = .fields vs) → PSs (X.suite a ((a, oe) :: pn)) (st :: suite) (ts a cls d)) (r : ClsOk X n hds l) :
      ClsOk X n (.ExceptHandler (some (.Name x np)) (some n) (st :: suite) pos' :: hds) ((c, ts) :: l)
/-- the error a has landed ahead of the clauses, in the state s; s0 is the state without it -/
structure Lies (X : Cx) (pins : List (Addr × Obj)) (σ : L2.St) (H : Hp) (a : Addr) (cls : Value) (d : Option Addr) (s : Shared) : Prop where
  from0 : ∃ (B : Heap) (s0 : Shared), Inv X pins σ H s0 ∧ (∀ b o, s0.heap.get? b = some o → b ∉ frs X.stack → B.get? b = some o) ∧ s0.heap.UpToSlots s.heap ∧ s.os = s0.os ∧ AllBare s.gens ∧
    HandSPX.FlyingZ B X.stack a (Zc cls d) s.heap
  new : H a = none
section
variable {X : Cx} {pins : List (Addr × Obj)} {σ : L2.St} {H : Hp} {a : Addr} {cls : Value} {d : Option Addr} {s : Shared}
theorem Lies.inv (y : Lies X pins σ H a cls d s) : Inv X pins σ H s :=
  let ⟨_, _, J, nb, up, os, ag, fl⟩ := y.from0
  J.landed nb fl.1 up os ag
theorem Lies.obj (y : Lies X pins σ H a cls d s) : ∃ oe, s.heap.get? a = some oe ∧ Zc cls d oe ∧ ∃ vs, oe.data = .fields vs :=
  let ⟨_, _, _, _, _, _, _, fl⟩ := y.from0
  let ⟨oe, vs, e, z, q⟩ := fl.there
  ⟨oe, e, z, vs, q⟩
/-- no frame lies there -/
theorem Lies.noFrame (y : Lies X pins σ H a cls d s) : a ∉ frs X.stack := by
  intro z
  obtain ⟨_, _, _, _, _, _, _, fl⟩ := y.from0
  obtain ⟨oe, e, _, vs, q⟩ := y.obj
  obtain ⟨_, o', e', no⟩ := fl.2.2.1.mem z
  exact no vs (by rw [← q, show o' = oe from Option.some.inj (e'.symm.trans e)])
theorem Lies.suite (y : Lies X pins σ H a cls d s) (hs : X.stack = X.env :: X.outer) (hf : X.env.frame = some X.env.locals) {oe : Obj} (e : s.heap.get? a = some oe) {vs : Array Value} (q : oe.data = .fields vs) :
    Inv (X.suite a ((a, oe) :: (X.pn ++ pins))) [] σ H s := by
  have off := y.noFrame
  rw [hs] at off
  have two : frs (X.env :: X.outer) = X.env.locals :: X.fs := by simp [frs, Cx.fs, hf]
  rw [two, List.mem_cons, not_or] at off
  exact y.inv.suite e q y.new off.1 off.2
/-- its flight is set to none once more -/
theorem Lies.again {M : Model} {A : Around} {E : Value → Shared → Prop} {Q : Unit → Shared → Prop} (y : Lies X pins σ H a cls d s) (h : ∀ s', Lies X pins σ H a cls d s' → Q () s') :
    wpAny M A (setFlight (.ref a) none) Q E s :=
  let ⟨B, s0, J, nb, up, os, ag, fl⟩ := y.from0
  HandSPX.lands_againZ fl fun _ fl2 up2 => h _ ⟨⟨B, s0, J, nb, up.trans up2, os, ag, fl2⟩, y.new⟩
/-- no clause takes it: it flies on -/
theorem Lies.on {W : WX} {α : Type} {Q : α → Shared → Prop} (y : Lies X pins σ H a cls d s) (hf : X.env.frame = some X.env.locals) (tk : Takes X W) (w : W cls d σ H) :
    wpAny (model X.prog X.w) X.A (passOn "try.no-clause-matches" (.ref a) X.env) Q X.xe s := by
  obtain ⟨B, s0, J, nb, up, os, ag, fl⟩ := y.from0
  obtain ⟨_, _, _, oe, vs, T, _, _, e, _, q, tr, _⟩ := id fl
  unfold PySem.passOn
  refine wpAny_bind (wpAny_field e q tr ?_)
  have live : (Value.ref T == Value.none) = false := by simp
  simp only [live, Bool.false_eq_true, if_false, pure_bind]
  refine wpAny_bind ?_
  rw [hf]
  exact HandSPX.setFlight_upZ fl fun h2 fl2 up2 => wpAny_throw (tk _ _ ⟨a, B, s0, pins, σ, H, cls, d, rfl, J, nb, up.trans up2, .inr (.inr fl2), y.new, os, ag, w⟩)
/-- a clause's class is read -/
theorem Lies.named {x : Str} {c : Value} {np : Pos} {A : Around} {E : Value → Shared → Prop} {Q : Value → Shared → Prop} (y : Lies X pins σ H a cls d s) (hs : X.stack = X.env :: X.outer) (hf : X.env.frame = some X.env.locals)
    (hc : Names X x c) (q : Q c s) : wpAny (model X.prog X.w) (X.A.mark (some (.ref a))) (eval (.Name x np) X.env) Q E s := by
  obtain ⟨oe, e, _, vs, ed⟩ := y.obj
  have S := y.suite hs hf e ed
  rcases hc with ⟨g, dbg, own | ⟨blt, v, ne⟩⟩
  · exact ld_glob (X := X.suite a ((a, oe) :: (X.pn ++ pins))) S g own q dbg
  · exact ld_blt (X := X.suite a ((a, oe) :: (X.pn ++ pins))) S g blt v q ne dbg
theorem Lies.asked {c : Value} {b : Bool} {A : Around} {E : Value → Shared → Prop} {Q : Bool → Shared → Prop} (y : Lies X pins σ H a cls d s) (hb : PySem.W.exmOne X.K cls c = some b) (q : Q b s) :
    wpAny (model X.prog X.w) A (excMatches (.ref a) c) Q E s := by
  obtain ⟨oe, e, z, _⟩ := y.obj
  refine (PySem.W.exm_one (M := model X.prog X.w) y.inv.kIn (fun A Q E s2 k q2 => ?_) hb).here q
  exact wpAny_typeOf_ref (k _ _ e) (by rw [z.1]; exact q2)
/-- behind an end of a suite: its name goes, the ends of the whole statement are met -/
theorem suite_ends {oe : Obj} {i : Nat} {n : Str} {pos : Pos} {D : Ends} {f : Flow} {s6 : Shared} (ok : X.Ok) (hN : X.N.Nodup) (hi : X.N[i]? = some n) (hln : X.env.kindOf n = some .local)
    (h : SP (X.suite a ((a, oe) :: (X.pn ++ pins))) [] (gone i D) f s6) : wpAny (model X.prog X.w) X.A (do bindName X.env n .none; unbindBehindTheSuite X.env n pos) (fun _ s7 => SP X pins D f s7) X.xe s6 := by
  cases f with
  | ret u => exact let ⟨v, _, _, S, r, q⟩ := h; gone_ok (S.unsuite ok) hN hi hln fun _ J => ⟨v, _, _, J, r, q⟩
  | next => exact let ⟨_, _, S, q⟩ := h; gone_ok (S.unsuite ok) hN hi hln fun _ J => ⟨_, _, J, q⟩
  | brk => exact let ⟨_, _, S, q⟩ := h; gone_ok (S.unsuite ok) hN hi hln fun _ J => ⟨_, _, J, q⟩
  | cont => exact let ⟨_, _, S, q⟩ := h; gone_ok (S.unsuite ok) hN hi hln fun _ J => ⟨_, _, J, q⟩
/-- all clauses, one after the other -/
theorem Lies.clauses {n : Str} {i : Nat} {Wout : WX} {D : Ends} (hs : X.stack = X.env :: X.outer) (hf : X.env.frame = some X.env.locals) (hN : X.N.Nodup) (hi : X.N[i]? = some n) (hln : X.env.kindOf n = some .local) (tk : Takes X Wout)
    (y : Lies X pins σ H a cls d s) : ∀ {hds : List ExceptHandler} {l : List Cl}, ClsOk X n hds l → wAll X.K i Wout D l cls d σ H → wpAny (model X.prog X.w) X.A (handleBy (.ref a) X.env hds) (SP X pins D) X.xe s
  | _, _, .nil, w => wpAny_handleBy_nil (y.on hf tk w)
  | _, _, .cons (suite := suite) (st := st) hc hsu r, ⟨b, hb, yes, no⟩ => by
    refine wpAny_handleBy_cons (codeAny_handlers_test (y.named (A := X.A) hs hf hc (y.asked hb ?_))) nofun
    cases b with
    | false => exact y.clauses hs hf hN hi hln tk r (no rfl)
    | true =>
      refine codeAny_handlers_suite_as (y.again fun s4 y4 => ?_)
      obtain ⟨oe, e, z, vs, ed⟩ := y4.obj
      refine store_ok (X := X.suite a _) (v := .ref a) (y4.suite hs hf e ed) hN hi (.inl hln) rfl (fun s5 S5 => ?_) (.inr hln)
      exact wpAny_mono ((hsu a oe cls d (X.pn ++ pins) z ⟨vs, ed⟩).run [] s5 _ H _ S5 (yes rfl a y.new)) (fun f s6 h => suite_ends y.inv.ok hN hi hln h) fun _ _ => False.elim
/-- an error of the body lands -/
theorem lands {xe : Value → Shared → Prop} {W : WX} {u : Value} (hs : X.stack = X.env :: X.outer) (hf : X.env.frame = some X.env.locals) (ok : X.Ok) (h : XE (X.tr (X.pn ++ pins) xe) W u s) :
    ∃ a cls d σ H, u = .ref a ∧ W cls d σ H ∧ ∀ {Q : Unit → Shared → Prop} {E : Value → Shared → Prop}, (∀ s', Lies X pins σ H a cls d s' → Q () s') →
      wpAny (model X.prog X.w) X.A (noteFrame u X.env) (fun _ s₂ => wpAny (model X.prog X.w) X.A (setFlight u none) Q E s₂) E s := by
  obtain ⟨a, B, s0, pins', σ, H, cls, d, rfl, J, nb, up, sky, na, os, ag, w⟩ := h
  refine ⟨a, cls, d, σ, H, rfl, w, fun {Q E} q => ?_⟩
  rw [show (X.tr (X.pn ++ pins) xe).stack = X.env :: X.outer from hs] at sky
  refine Sky.land Zc.steady (by rw [J.ok.frames]; exact congrArg some hs) hf sky fun h3 fl up3 => q _ ⟨⟨B, s0, J.ofTry ok, nb, up.trans up3, os, ag, ?_⟩, na⟩
  rw [hs]
  exact fl
/-- an end of the body is one of the whole statement -/
theorem body_ends {xe : Value → Shared → Prop} {D : Ends} {f : Flow} (ok : X.Ok) (h : SP (X.tr (X.pn ++ pins) xe) [] D f s) : SP X pins D f s := by
  cases f with
  | ret u => exact let ⟨v, σ', H', J, r, q⟩ := h; ⟨v, σ', H', J.ofTry ok, r, q⟩
  | next => exact let ⟨σ', H', J, q⟩ := h; ⟨σ', H', J.ofTry ok, q⟩
  | brk => exact let ⟨σ', H', J, q⟩ := h; ⟨σ', H', J.ofTry ok, q⟩
  | cont => exact let ⟨σ', H', J, q⟩ := h; ⟨σ', H', J.ofTry ok, q⟩
end
theorem ps_try_all {X : Cx} {body : List Stmt} {h0 : ExceptHandler} {hds : List ExceptHandler} {l : List Cl} {pos : Pos} {tb : WX → TS} {Wout : WX} {n : Str} {i : Nat}
    (hs : X.stack = X.env :: X.outer) (hf : X.env.frame = some X.env.locals) (hN : X.N.Nodup) (hi : X.N[i]? = some n) (hln : X.env.kindOf n = some .local) (tk : Takes X Wout)
    (hb : ∀ (W : WX) (pn : List (Addr × Obj)) (xe : Value → Shared → Prop), Takes (X.tr pn xe) W → PassesOwn (model X.prog X.w) X.A X.env xe → PSs (X.tr pn xe) body (tb W))
    (hh : ClsOk X n (h0 :: hds) l) : PS X (.Try body (h0 :: hds) [] [] pos) (fun D σ H => tb (wAll X.K i Wout D l) D σ H) := by
  refine ⟨fun pins s σ H D I h => wpAny_Try_except ?_⟩
  refine wpAny_mono ((hb _ (X.pn ++ pins) _ (fun u s1 x => ?_) PassesOwn.looking).run [] s σ H D (I.toTry _) h) (fun f s1 q => ?_) fun _ _ q => q
  · obtain ⟨a, cls, d, σ1, H1, rfl, w, go⟩ := lands hs hf I.ok x
    exact go fun s2 y => y.clauses hs hf hN hi hln tk hh w
  · have q := body_ends I.ok q
    cases f with
    | next => exact wpAny_execs_nil q
    | ret u => exact q
    | brk => exact q
    | cont => exact q
end Fw
set_option Elab.async false
set_option linter.all false
set_option maxRecDepth 100000
set_option maxHeartbeats 2000000
set_option autoImplicit false
namespace Fw
open PySem PySem.Spec PyProof.Rows L2
/-- no error leaves -/
abbrev NoW : WX := fun _ _ _ _ => False
abbrev XFS := Nat → List Str → List D → FS
abbrev XFE := Nat → List Str → List D → FE
/-- behind a suite: the name is gone -/
def goneR (i : Nat) : SR → SR
  | .nx ρ μ => .nx (ρ.set i none) μ
  | .rt d μ => .rt d μ
  | .bk ρ μ => .bk (ρ.set i none) μ
  | .ct ρ μ => .ct (ρ.set i none) μ
  | _ => .stuck
def hdl (i : Nat) : List ((Nat → Bool) × XFS) → XFS
  | [] => fun k ns ds ρ μ => .er k ns ds ρ μ
  | (t, f) :: r => fun k ns ds ρ μ => if t k = true then (if i < ρ.length then goneR i (f k ns ds (ρ.set i none) μ) else .stuck) else hdl i r k ns ds ρ μ
def sTryAs (i : Nat) (fb : FS) (hs : List ((Nat → Bool) × XFS)) : FS := fun ρ μ => match fb ρ μ with
  | .er k ns ds ρ1 μ1 => hdl i hs k ns ds ρ1 μ1
  | r => r
@[simp] theorem sTryAs_ev {i : Nat} {fb : FS} {hs : List ((Nat → Bool) × XFS)} {ρ : Env} {μ : Store} : sTryAs i fb hs ρ μ = match fb ρ μ with
  | .er k ns ds ρ1 μ1 => hdl i hs k ns ds ρ1 μ1
  | r => r := (rfl)
section
variable {X : Cx} {W : WX} {cls : Nat → Option Addr} {i : Nat}
/-- a suite, the error known -/
def SSX (X : Cx) (cls : Nat → Option Addr) (i : Nat) (suite : List Stmt) (f : XFS) : Prop := ∀ (a : Addr) (oe : Obj) (cv : Value) (d : Option Addr) (pn : List (Addr × Obj)), Zc cv d oe → (∃ vs, oe.data = .fields vs) →
  ∃ t, PSs (X.suite a ((a, oe) :: pn)) suite t ∧ ∀ (D : Ends) (σ : L2.St) (w : Wd) (ρ : Env) (μ : Store) (k : Nat) (ns : List Str) (ds : List Fw.D), RelS X.K cls w μ → RelE X.K cls w ρ σ → RErr X.K cls w k ns ds cv d → σ[i]? = some (some (.ref a)) → w.H a = none →
    PostS X.K cls w NoW D (f k ns ds ρ μ) → t D σ w.H
def SEX (X : Cx) (cls : Nat → Option Addr) (i : Nat) (e : Expr) (f : XFE) : Prop := ∀ (a : Addr) (oe : Obj) (cv : Value) (d : Option Addr) (pn : List (Addr × Obj)), Zc cv d oe → (∃ vs, oe.data = .fields vs) →
  ∃ t, PE (X.suite a ((a, oe) :: pn)) e t ∧ ∀ (σ : L2.St) (Q : VK) (w : Wd) (ρ : Env) (μ : Store) (k : Nat) (ns : List Str) (ds : List Fw.D), RelS X.K cls w μ → RelE X.K cls w ρ σ → RErr X.K cls w k ns ds cv d → σ[i]? = some (some (.ref a)) →
    PostR X.K cls w (fun _ _ _ => False) (fun w' d => ∀ v, RV X.K cls w' d v → Q v w'.H) (f k ns ds ρ μ) → t σ w.H Q
/-- the wish of a suite, whatever the error -/
def tsOf (K : PySem.W.Frag) (cls : Nat → Option Addr) (i : Nat) (f : XFS) (a : Addr) (cv : Value) (d : Option Addr) : TS := fun D σ H => ∃ (w : Wd) (ρ : Env) (μ : Store) (k : Nat) (ns : List Str) (ds : List Fw.D), w.H = H ∧ RelS K cls w μ ∧ RelE K cls w ρ σ ∧
  RErr K cls w k ns ds cv d ∧ σ[i]? = some (some (.ref a)) ∧ w.H a = none ∧ PostS K cls w NoW D (f k ns ds ρ μ)
/-- a clause: the class that it names, the errors that it takes, its suite -/
structure Clause where
  c : Value
  t : Nat → Bool
  f : XFS
inductive CsOk (X : Cx) (cls : Nat → Option Addr) (n : Str) (i : Nat) : List ExceptHandler → List Clause → Prop
  | nil : CsOk X cls n i [] []
  | cons {x : Str} {q : Clause} {st : Stmt} {suite : List Stmt} {np pos' : Pos} {hds : List ExceptHandler} {l : List Clause} (hc : Names X x q.c) (ht : ∀ k C, 100 ≤ k → cls k = some C → PySem.W.exmOne X.K (.ref C) q.c = some (q.t k))
      (hsu : SSX X cls i (st :: suite) q.f) (r : CsOk X cls n i hds l) : CsOk X cls n i (.ExceptHandler (some (.Name x np)) (some n) (st :: suite) pos' :: hds) (q :: l)
theorem CsOk.ok {n : Str} {hds : List ExceptHandler} {l : List Clause} (h : CsOk X cls n i hds l) : ClsOk X n hds (l.map fun q => (q.c, tsOf X.K cls i q.f)) := by
  induction h with
  | nil => exact .nil
  | @cons x q st suite np pos' hds l hc ht hsu r ih =>
    refine .cons hc (fun a oe cv d pn hz hf => ⟨fun pins s σ H D I hw => ?_⟩) ih
    obtain ⟨t, p, imp⟩ := hsu a oe cv d pn hz hf
    obtain ⟨w, ρ, μ, k, ns, ds, rfl, S, E, R, hi, na, q⟩ := hw
    exact p.run pins s σ _ D I (imp D σ w ρ μ k ns ds S E R hi na q)
theorem relE_set {K : PySem.W.Frag} {w : Wd} {ρ : Env} {σ : L2.St} {v : Option V} (E : RelE K cls w ρ σ) : RelE K cls w (ρ.set i none) (σ.set i v) := by
  refine ⟨by rw [List.length_set, List.length_set]; exact E.1, fun j d h => ?_⟩
  by_cases hj : i = j
  · subst hj
    rw [List.getElem?_set] at h
    split at h
    · split at h <;> cases h
    · rename_i z; exact absurd rfl z
  · rw [List.getElem?_set_ne hj] at h ⊢
    exact E.2 j d h
theorem hdl_ok {n : Str} {hds : List ExceptHandler} {l : List Clause} (h : CsOk X cls n i hds l) {D : Ends} {w : Wd} {σ : L2.St} {ρ : Env} {μ : Store} {k : Nat} {ns : List Str} {ds : List Fw.D} {cv : Value} {d : Option Addr} (S : RelS X.K cls w μ) (E : RelE X.K cls w ρ σ) (R : RErr X.K cls w k ns ds cv d)
    (q : PostS X.K cls w W D (hdl i (l.map fun q => (q.t, q.f)) k ns ds ρ μ)) : wAll X.K i W D (l.map fun q => (q.c, tsOf X.K cls i q.f)) cv d σ w.H := by
  induction h with
  | nil => exact q w σ cv d Step.refl S E R
  | @cons x c st suite np pos' hds l hc ht hsu r ih =>
    obtain ⟨C, ⟨h1, h2⟩, hcv, hr⟩ := id R
    subst hcv
    refine ⟨c.t k, ht k C h1 h2, fun hb a ha => ?_, fun hb => ih ?_⟩
    · have q' : PostS X.K cls w W D (if c.t k = true then (if i < ρ.length then goneR i (c.f k ns ds (ρ.set i none) μ) else .stuck) else hdl i (l.map fun q => (q.t, q.f)) k ns ds ρ μ) := q
      rw [if_pos hb] at q'
      split at q'
      rotate_left
      · exact q'.elim
      rename_i hi
      rw [← E.1] at hi
      refine ⟨w, ρ.set i none, μ, k, ns, ds, rfl, S, relE_set E, R, by rw [List.getElem?_set_self hi], ha, ?_⟩
      cases hf : c.f k ns ds (ρ.set i none) μ with
      | nx ρ2 μ2 => rw [hf] at q'; exact fun w2 σ2 s2 S2 E2 => q' w2 _ s2 S2 (relE_set E2)
      | rt e μ2 => rw [hf] at q'; exact q'
      | bk ρ2 μ2 => rw [hf] at q'; exact fun w2 σ2 s2 S2 E2 => q' w2 _ s2 S2 (relE_set E2)
      | ct ρ2 μ2 => rw [hf] at q'; exact fun w2 σ2 s2 S2 E2 => q' w2 _ s2 S2 (relE_set E2)
      | er => rw [hf] at q'; exact q'.elim
      | stuck => rw [hf] at q'; exact q'.elim
    · have q' : PostS X.K cls w W D (if c.t k = true then (if i < ρ.length then goneR i (c.f k ns ds (ρ.set i none) μ) else .stuck) else hdl i (l.map fun q => (q.t, q.f)) k ns ds ρ μ) := q
      rw [if_neg (by rw [hb]; exact Bool.false_ne_true)] at q'
      exact q'
theorem ss_try {body : List Stmt} {h0 : ExceptHandler} {hds : List ExceptHandler} {l : List Clause} {pos : Pos} {n : Str} {fb : FS} (hs : X.stack = X.env :: X.outer) (hf : X.env.frame = some X.env.locals) (hN : X.N.Nodup) (hi : X.N[i]? = some n) (hln : X.env.kindOf n = some .local)
    (tk : Takes X W) (hb : ∀ (W' : WX) (pn : List (Addr × Obj)) (xe : Value → Shared → Prop), Takes (X.tr pn xe) W' → PassesOwn (model X.prog X.w) X.A X.env xe → SSs (X.tr pn xe) W' cls body fb) (hh : CsOk X cls n i (h0 :: hds) l) :
    SS X W cls (.Try body (h0 :: hds) [] [] pos) (sTryAs i fb (l.map fun q => (q.t, q.f))) := by
  refine ⟨_, ps_try_all (tb := fun W' D σ H => ∃ (w : Wd) (ρ : Env) (μ : Store), w.H = H ∧ RelS X.K cls w μ ∧ RelE X.K cls w ρ σ ∧ PostS X.K cls w W' D (fb ρ μ)) hs hf hN hi hln tk (fun W' pn xe tk' hp => ⟨fun pins s σ H D I hw => ?_⟩) hh.ok, fun D σ w ρ μ S E h => ?_⟩
  · obtain ⟨t, p, imp⟩ := hb W' pn xe tk' hp
    obtain ⟨w, ρ, μ, rfl, S, E, q⟩ := hw
    exact p.run pins s σ _ D I (imp D σ w ρ μ S E q)
  · refine ⟨w, ρ, μ, rfl, S, E, ?_⟩
    rw [sTryAs_ev] at h
    cases hf : fb ρ μ with
    | er k ns ds ρ1 μ1 =>
      rw [hf] at h
      intro w2 σ2 cv d s2 S2 E2 R2
      exact hdl_ok hh S2 E2 R2 (PostS.step s2 h)
    | nx => rw [hf] at h; exact h
    | rt => rw [hf] at h; exact h
    | bk => rw [hf] at h; exact h
    | ct => rw [hf] at h; exact h
    | stuck => rw [hf] at h; exact h.elim
end
end Fw
set_option Elab.async false
set_option linter.all false
set_option maxRecDepth 100000
set_option maxHeartbeats 2000000
set_option autoImplicit false
namespace Fw
open PySem PySem.Spec PyProof.Rows L2
theorem relO_lookup {A B : Type} {R : A → B → Prop} {f : Str} : ∀ {ns : List Str} {ds : List A} {vs : List B}, ns.length = vs.length → (∀ (j : Nat) (d : A), ds[j]? = some d → ∃ v, vs[j]? = some v ∧ R d v) → ∀ {d : A}, (ns.zip ds).lookup f = some d → ∃ v, (ns.zip vs).lookup f = some v ∧ R d v
  | [], _, _, _, _, _, h => by simp at h
  | n :: ns, [], _, _, _, _, h => by simp at h
  | n :: ns, d0 :: ds, [], hl, _, _, _ => by simp at hl
  | n :: ns, d0 :: ds, v0 :: vs, hl, hr, d, h => by
    rw [List.zip_cons_cons, List.lookup_cons] at h ⊢
    cases e : f == n with
    | true =>
      rw [e] at h
      obtain ⟨v, hv, r⟩ := hr 0 d0 rfl
      cases hv
      cases h
      exact ⟨_, rfl, r⟩
    | false =>
      rw [e] at h
      exact relO_lookup (by simpa using hl) (fun j d hd => by
        obtain ⟨v, hv, r⟩ := hr (j + 1) d (by simpa using hd)
        exact ⟨v, by simpa using hv, r⟩) h
theorem rvs_at {K : PySem.W.Frag} {cls : Nat → Option Addr} {w : Wd} : ∀ {ds : List D} {vs : List V}, RVs K cls w ds vs → ∀ (j : Nat) (d : D), ds[j]? = some d → ∃ v, vs[j]? = some v ∧ RV K cls w d v
  | [], _, _, _, _, h => by simp at h
  | d0 :: ds, vs, ⟨v, rest, e, r, t⟩, 0, d, h => by
    cases h
    exact ⟨v, by rw [e]; rfl, r⟩
  | d0 :: ds, vs, ⟨v, rest, e, r, t⟩, j + 1, d, h => by
    obtain ⟨u, hu, ru⟩ := rvs_at t j d (by simpa using h)
    exact ⟨u, by rw [e]; simpa using hu, ru⟩
section
variable {X : Cx} {cls : Nat → Option Addr} {i : Nat} {e : Expr} {f : Str} {n : Str} {p pos : Pos}
/-- e.f, e the error -/
def eXf (ks : List Nat) (f : Str) : XFE := fun k ns ds _ μ => if k ∈ ks then match (ns.zip ds).lookup f with
  | some d => .ok d μ
  | none => .stuck
  else .stuck
theorem sex_f (ks : List Nat) (hX : ∀ k ∈ ks, ∀ C, cls k = some C → XfC X.K C ∧ PySem.W.findIn X.K (.ref C) f = some none) (hN : X.N[i]? = some n) (hv : Vis X.env.scope n) (hd : (n == ("__debug__" : Str)) = false := by decide +kernel) (hcd : (n == ("__classdict__" : Str)) = false := by decide +kernel)
    (hb : attributeBase (.Name n p) f X.env (eval (.Name n p) X.env) = eval (.Name n p) X.env := by rfl) : SEX X cls i (.Attribute (.Name n p) f pos) (eXf ks f) := by
  intro a oe cv d pn hz hf
  by_cases hc : ∃ k ∈ ks, ∃ C, cls k = some C ∧ cv = .ref C
  · obtain ⟨k0, hk0, C, hC, rfl⟩ := hc
    obtain ⟨T, hno⟩ := hX k0 hk0 C hC
    refine ⟨_, pe_xf T hno hz hf (pe_var (X := X.suite a ((a, oe) :: pn)) (i := i) hN hv hd hcd) hb, fun σ Q w ρ μ k ns ds S E R hi q => ?_⟩
    refine ⟨.ref a, hi, rfl, rfl, ?_⟩
    unfold eXf at q
    split at q
    · split at q
      · rename_i d0 hl
        obtain ⟨C', ⟨_, _⟩, _, hr⟩ := R
        rcases hr with ⟨rfl, rfl, _⟩ | ⟨dd, vs, hd', ⟨hH, _, _⟩, hln, rv⟩
        · simp at hl
        · obtain ⟨v, hv2, rd⟩ := relO_lookup hln (rvs_at rv) hl
          exact ⟨dd, _, v, hd', hH, hv2, q w Step.refl S v rd⟩
      · exact q.elim
    · exact q.elim
  · refine ⟨fun _ _ _ => False, ⟨fun _ _ _ _ _ _ h => h.elim⟩, fun σ Q w ρ μ k ns ds S E R hi q => ?_⟩
    unfold eXf at q
    split at q
    · rename_i hk
      obtain ⟨C', ⟨_, h2⟩, h3, _⟩ := R
      exact hc ⟨k, hk, C', h2, h3⟩
    · exact q.elim
def SAX (X : Cx) (cls : Nat → Option Addr) (i : Nat) (es : List Expr) (f : Nat → List Str → List D → FA) : Prop := ∀ (a : Addr) (oe : Obj) (cv : Value) (d : Option Addr) (pn : List (Addr × Obj)), Zc cv d oe → (∃ vs, oe.data = .fields vs) →
  ∃ t, PA (X.suite a ((a, oe) :: pn)) es t ∧ ∀ (σ : L2.St) (Q : List V → Hp → Prop) (w : Wd) (ρ : Env) (μ : Store) (k : Nat) (ns : List Str) (ds : List D), RelS X.K cls w μ → RelE X.K cls w ρ σ → RErr X.K cls w k ns ds cv d → σ[i]? = some (some (.ref a)) →
    PostR X.K cls w (fun _ _ _ => False) (fun w' d => ∀ v, RVs X.K cls w' d v → Q v w'.H) (f k ns ds ρ μ) → t σ w.H Q
theorem sax_nil : SAX X cls i [] (fun _ _ _ => aNil) := fun a oe cv d pn hz hf => ⟨_, pa_nil, fun σ Q w ρ μ k ns ds S E R hi h => h w Step.refl S _ rfl⟩
def xCons (fe : XFE) (fr : Nat → List Str → List D → FA) : Nat → List Str → List D → FA := fun k ns ds => aCons (fe k ns ds) (fr k ns ds)
theorem sax_cons {es : List Expr} {fe : XFE} {fr : Nat → List Str → List D → FA} (h1 : SEX X cls i e fe) (h2 : SAX X cls i es fr) (hs : starEach (e :: es) X.env = (false, eval e X.env) :: starEach es X.env := by rfl) : SAX X cls i (e :: es) (xCons fe fr) := fun a oe cv d pn hz hf => by
  obtain ⟨t1, p1, i1⟩ := h1 a oe cv d pn hz hf
  obtain ⟨t2, p2, i2⟩ := h2 a oe cv d pn hz hf
  refine ⟨_, pa_cons p1 p2 hs, fun σ Q w ρ μ k ns ds S E R hi h => ?_⟩
  refine i1 σ _ w ρ μ k ns ds S E R hi ((PostR.bind h).imp fun w1 d1 s1 ⟨μ1, S1, q1⟩ v r1 => ?_)
  refine i2 σ _ w1 ρ μ1 k ns ds S1 (E.mono s1.kp) (R.mono s1.kp) hi ((PostR.bind q1).imp fun w2 d2 s2 ⟨μ2, S2, q2⟩ u r2 => ?_)
  exact q2 w2 Step.refl S2 _ (.cons (r1.mono s2.kp) r2)
def xTup (fr : Nat → List Str → List D → FA) : XFE := fun k ns ds => eTup (fr k ns ds)
theorem sex_tup {es : List Expr} {fr : Nat → List Str → List D → FA} {x1} (h : SAX X cls i es fr) : SEX X cls i (.Tuple es x1 pos) (xTup fr) := fun a oe cv d pn hz hf => by
  obtain ⟨t1, p1, i1⟩ := h a oe cv d pn hz hf
  refine ⟨_, pe_tup p1, fun σ Q w ρ μ k ns ds S E R hi h => ?_⟩
  refine i1 σ _ w ρ μ k ns ds S E R hi ((PostR.bind h).imp fun w1 d1 s1 ⟨μ1, S1, q1⟩ v r1 => ?_)
  by_cases hl : d1.length ≤ LIM
  · rw [if_pos hl] at q1
    exact ⟨by rw [r1.length]; exact lim_le hl, fun p hp => q1 (w1.up p (.tup v)) (step_new hp) (S1.new hp) _ (new_tup S1 hp r1)⟩
  · rw [if_neg hl] at q1
    exact q1.elim
/-- return e, the only statement -/
def xRet (fe : XFE) : XFS := fun k ns ds => sRet (fe k ns ds)
theorem ssx_ret {fe : XFE} (h : SEX X cls i e fe) : SSX X cls i [.Return (some e) pos] (xRet fe) := fun a oe cv d pn hz hf => by
  obtain ⟨t1, p1, i1⟩ := h a oe cv d pn hz hf
  refine ⟨_, pss_one (ps_ret p1), fun D σ w ρ μ k ns ds S E R hi na h => ?_⟩
  exact i1 σ _ w ρ μ k ns ds S E R hi ((PostS.bind E h).imp fun w1 d1 s1 ⟨μ1, S1, q1⟩ v r1 => q1 w1 v Step.refl S1 r1)
end
end Fw
set_option Elab.async false
set_option linter.all false
set_option maxRecDepth 100000
set_option maxHeartbeats 2000000
set_option autoImplicit false
namespace Fw
open PySem PySem.Spec PyProof.Rows L2
/-- what clauses wish, one after the other, each with what its suite wishes -/
def wG (K : PySem.W.Frag) (Wout : WX) (D : Ends) : List Cl → WX
  | [] => Wout
  | (c, ts) :: r => fun cls d σ H => ∃ b, PySem.W.exmOne K cls c = some b ∧ (b = true → ∀ a, H a = none → ts a cls d D σ H) ∧ (b = false → wG K Wout D r cls d σ H)
/-- a suite that names the error -/
abbrev tsN (i : Nat) (ts : Addr → Value → Option Addr → TS) (a : Addr) (cls : Value) (d : Option Addr) : TS := fun D σ H => ts a cls d (gone i D) (σ.set i (some (.ref a))) H
inductive ClG (X : Cx) : List ExceptHandler → List Cl → Prop
  | nil : ClG X [] []
  | named {x n : Str} {i : Nat} {c : Value} {ts : Addr → Value → Option Addr → TS} {st : Stmt} {suite : List Stmt} {np pos' : Pos} {hds : List ExceptHandler} {l : List Cl} (hi : X.N[i]? = some n) (hln : X.env.kindOf n = some .local) (hc : Names X x c)
      (hsu : ∀ (a : Addr) (oe : Obj) (cls : Value) (d : Option Addr) (pn : List (Addr × Obj)), Zc cls d oe → (∃ vs, oe.data = .fields vs) → PSs (X.suite a ((a, oe) :: pn)) (st :: suite) (ts a cls d)) (r : ClG X hds l) :
      ClG X (.ExceptHandler (some (.Name x np)) (some n) (st :: suite) pos' :: hds) ((c, tsN i ts) :: l)
  | bare {x : Str} {c : Value} {ts : Addr → Value → Option Addr → TS} {st : Stmt} {suite : List Stmt} {np pos' : Pos} {hds : List ExceptHandler} {l : List Cl} (hc : Names X x c)
      (hsu : ∀ (a : Addr) (oe : Obj) (cls : Value) (d : Option Addr) (pn : List (Addr × Obj)), Zc cls d oe → (∃ vs, oe.data = .fields vs) → PSs (X.suite a ((a, oe) :: pn)) (st :: suite) (ts a cls d)) (r : ClG X hds l) :
      ClG X (.ExceptHandler (some (.Name x np)) none (st :: suite) pos' :: hds) ((c, ts) :: l)
/-- a clause's suite that names the error at i, or does not name it -/
def nmd (i : Nat) (f : XFS) : XFS := fun k ns ds ρ μ => if i < ρ.length then goneR i (f k ns ds (ρ.set i none) μ) else .stuck
def hdlG : List ((Nat → Bool) × XFS) → XFS
  | [] => fun k ns ds ρ μ => .er k ns ds ρ μ
  | (t, f) :: r => fun k ns ds ρ μ => if t k = true then f k ns ds ρ μ else hdlG r k ns ds ρ μ
def sTry (fb : FS) (hs : List ((Nat → Bool) × XFS)) : FS := fun ρ μ => match fb ρ μ with
  | .er k ns ds ρ1 μ1 => hdlG hs k ns ds ρ1 μ1
  | r => r
@[simp] theorem sTry_ev {fb : FS} {hs : List ((Nat → Bool) × XFS)} {ρ : Env} {μ : Store} : sTry fb hs ρ μ = match fb ρ μ with
  | .er k ns ds ρ1 μ1 => hdlG hs k ns ds ρ1 μ1
  | r => r := (rfl)
/-- a suite may not raise -/
def noEr : SR → SR
  | .er _ _ _ _ _ => .stuck
  | r => r
section
variable {X : Cx} {W : WX} {cls : Nat → Option Addr}
inductive CsG (X : Cx) (cls : Nat → Option Addr) : List ExceptHandler → List Clause → Prop
  | nil : CsG X cls [] []
  | named {x n : Str} {i : Nat} {c : Value} {t : Nat → Bool} {f : XFS} {st : Stmt} {suite : List Stmt} {np pos' : Pos} {hds : List ExceptHandler} {l : List Clause} (hi : X.N[i]? = some n) (hln : X.env.kindOf n = some .local) (hc : Names X x c)
      (ht : ∀ k C, 100 ≤ k → cls k = some C → PySem.W.exmOne X.K (.ref C) c = some (t k)) (hsu : SSX X cls i (st :: suite) f) (r : CsG X cls hds l) : CsG X cls (.ExceptHandler (some (.Name x np)) (some n) (st :: suite) pos' :: hds) (⟨c, t, nmd i f⟩ :: l)
  | bare {x : Str} {c : Value} {t : Nat → Bool} {f : FS} {st : Stmt} {suite : List Stmt} {np pos' : Pos} {hds : List ExceptHandler} {l : List Clause} (hc : Names X x c) (ht : ∀ k C, 100 ≤ k → cls k = some C → PySem.W.exmOne X.K (.ref C) c = some (t k))
      (hsu : ∀ (a : Addr) (oe : Obj) (pn : List (Addr × Obj)), SSs (X.suite a ((a, oe) :: pn)) NoW cls (st :: suite) f) (r : CsG X cls hds l) : CsG X cls (.ExceptHandler (some (.Name x np)) none (st :: suite) pos' :: hds) (⟨c, t, fun _ _ _ ρ μ => noEr (f ρ μ)⟩ :: l)
theorem gone_post {K : PySem.W.Frag} {i : Nat} {w : Wd} {D : Ends} {r : SR} (h : PostS K cls w W D (goneR i r)) : PostS K cls w NoW (gone i D) r := by
  cases r with
  | nx ρ2 μ2 => exact fun w2 σ2 s2 S2 E2 => h w2 _ s2 S2 (relE_set E2)
  | rt e μ2 => exact h
  | bk ρ2 μ2 => exact fun w2 σ2 s2 S2 E2 => h w2 _ s2 S2 (relE_set E2)
  | ct ρ2 μ2 => exact fun w2 σ2 s2 S2 E2 => h w2 _ s2 S2 (relE_set E2)
  | er => exact h.elim
  | stuck => exact h.elim
theorem noEr_post {K : PySem.W.Frag} {w : Wd} {D : Ends} {r : SR} (h : PostS K cls w W D (noEr r)) : PostS K cls w NoW D r := by
  cases r <;> first | exact h | exact h.elim
/-- the wish of a suite that does not name the error -/
def tsB (K : PySem.W.Frag) (cls : Nat → Option Addr) (f : FS) : TS := fun D σ H => ∃ (w : Wd) (ρ : Env) (μ : Store), w.H = H ∧ RelS K cls w μ ∧ RelE K cls w ρ σ ∧ PostS K cls w NoW D (f ρ μ)
theorem CsG.ok {hds : List ExceptHandler} {l : List Clause} (h : CsG X cls hds l) : ∃ l', ClG X hds l' ∧ ∀ {D : Ends} {w : Wd} {σ : L2.St} {ρ : Env} {μ : Store} {k : Nat} {ns : List Str} {ds : List Fw.D} {cv : Value} {d : Option Addr}, RelS X.K cls w μ → RelE X.K cls w ρ σ → RErr X.K cls w k ns ds cv d →
    PostS X.K cls w W D (hdlG (l.map fun q => (q.t, q.f)) k ns ds ρ μ) → wG X.K W D l' cv d σ w.H := by
  induction h with
  | nil => exact ⟨[], .nil, fun S E R q => q _ _ _ _ Step.refl S E R⟩
  | @named x n i c t f st suite np pos' hds l hi hln hc ht hsu r ih =>
    obtain ⟨l', h1, h2⟩ := ih
    refine ⟨_, .named hi hln hc (ts := tsOf X.K cls i f) (fun a oe cv d pn hz hf => ⟨fun pins s σ H D I hw => ?_⟩) h1, fun {D w σ ρ μ k ns ds cv d} S E R q => ?_⟩
    · obtain ⟨t', p, imp⟩ := hsu a oe cv d pn hz hf
      obtain ⟨w, ρ, μ, k, ns, ds, rfl, S, E, R, hi, na, q⟩ := hw
      exact p.run pins s σ _ D I (imp D σ w ρ μ k ns ds S E R hi na q)
    · obtain ⟨C, ⟨k1, k2⟩, rfl, _⟩ := id R
      refine ⟨t k, ht k C k1 k2, fun hb a ha => ?_, fun hb => h2 S E R ?_⟩
      · have q : PostS X.K cls w W D (if t k = true then nmd i f k ns ds ρ μ else hdlG (l.map fun q => (q.t, q.f)) k ns ds ρ μ) := q
        rw [if_pos hb] at q
        unfold nmd at q
        split at q
        · rename_i lt
          rw [← E.1] at lt
          exact ⟨w, ρ.set i none, μ, k, ns, ds, rfl, S, relE_set E, R, by rw [List.getElem?_set_self lt], ha, gone_post q⟩
        · exact q.elim
      · have q : PostS X.K cls w W D (if t k = true then nmd i f k ns ds ρ μ else hdlG (l.map fun q => (q.t, q.f)) k ns ds ρ μ) := q
        rw [if_neg (by rw [hb]; exact Bool.false_ne_true)] at q
        exact q
  | @bare x c t f st suite np pos' hds l hc ht hsu r ih =>
    obtain ⟨l', h1, h2⟩ := ih
    refine ⟨_, .bare hc (ts := fun _ _ _ => tsB X.K cls f) (fun a oe cv d pn hz hf => ⟨fun pins s σ H D I hw => ?_⟩) h1, fun {D w σ ρ μ k ns ds cv d} S E R q => ?_⟩
    · obtain ⟨t', p, imp⟩ := hsu a oe pn
      obtain ⟨w, ρ, μ, rfl, S, E, q⟩ := hw
      exact p.run pins s σ _ D I (imp D σ w ρ μ S E q)
    · obtain ⟨C, ⟨k1, k2⟩, rfl, _⟩ := id R
      have q : PostS X.K cls w W D (if t k = true then noEr (f ρ μ) else hdlG (l.map fun q => (q.t, q.f)) k ns ds ρ μ) := q
      refine ⟨t k, ht k C k1 k2, fun hb a ha => ?_, fun hb => h2 S E R ?_⟩
      · rw [if_pos hb] at q
        exact ⟨w, ρ, μ, rfl, S, E, noEr_post q⟩
      · rw [if_neg (by rw [hb]; exact Bool.false_ne_true)] at q
        exact q
end
end Fw
set_option Elab.async false
set_option linter.all false
set_option maxRecDepth 100000
set_option maxHeartbeats 2000000
set_option autoImplicit false
namespace Fw
open PySem PySem.Spec PyProof.Rows L2 LamX
end Fw
set_option Elab.async false
set_option linter.all false
set_option maxRecDepth 100000
set_option maxHeartbeats 2000000
set_option autoImplicit false
namespace Fw
open PySem PySem.Spec PyProof.Rows L2
end Fw
set_option Elab.async false
set_option linter.all false
set_option maxRecDepth 100000
set_option maxHeartbeats 2000000
set_option autoImplicit false
namespace Fw
open PySem PySem.Spec PySem.Calls PyProof.Rows L2
section
variable (X : Cx) (cls : Nat → Option Addr) (J : Wd → L2.St → Prop)
def JT (e : Expr) (f : FT) : Prop := ∃ t, PT X e t ∧ ∀ (σ : L2.St) (Q : Bool → Hp → Prop) (w : Wd) (ρ : Env) (μ : Store), RelS X.K cls w μ → RelE X.K cls w ρ σ → J w σ → PostR X.K cls w E00 (fun w' b => Q b w'.H) (f ρ μ) → t σ w.H Q
def JW (e : Expr) (f : FT) : Prop := ∃ t, PW X e t ∧ ∀ (σ : L2.St) (Q : Bool → Hp → Prop) (w : Wd) (ρ : Env) (μ : Store), RelS X.K cls w μ → RelE X.K cls w ρ σ → J w σ → PostR X.K cls w E00 (fun w' b => Q b w'.H) (f ρ μ) → t σ w.H Q
def PostJ (w : Wd) (D : Ends) : SR → Prop
  | .nx ρ μ => ∀ w' σ, Step w w' → RelS X.K cls w' μ → RelE X.K cls w' ρ σ → J w' σ → D.nx σ w'.H
  | .rt d μ => ∀ w' v, Step w w' → RelS X.K cls w' μ → RV X.K cls w' d v → D.rt v w'.H
  | _ => False
end
section
variable {X : Cx} {cls : Nat → Option Addr} {J : Wd → L2.St → Prop} {i : Nat} {a b c e : Expr} {fa fb fe : FE} {es : List Expr} {fr : FA} {ta tb : FT} {pos : Pos}
theorem JW.t (ha : JW X cls J a ta) : JT X cls J a ta := let ⟨_, p, k⟩ := ha; ⟨_, p.pt, k⟩
variable {st : Stmt} {rest sa sb : List Stmt} {f g : FS} {D : Ends} {w w' : Wd} {r : SR}
theorem PostJ.step (s : Step w w') (h : PostJ X cls J w D r) : PostJ X cls J w' D r := by
  cases r with
  | nx ρ μ => exact fun w2 σ s2 => h w2 σ (s.trans s2)
  | rt ρ μ => exact fun w2 σ s2 => h w2 σ (s.trans s2)
  | _ => exact h
theorem PostJ.bind {α : Type} {ρ : Env} {r : Res α} {k : α → Store → SR} (h : PostJ X cls J w D (rS ρ r k)) : PostR X.K cls w E00 (fun w' a => ∃ μ', RelS X.K cls w' μ' ∧ PostJ X cls J w' D (k a μ')) r := by
  cases r with
  | ok a μ => exact fun w' s S => ⟨μ, S, PostJ.step s h⟩
  | err k ns ds μ => exact h.elim
  | stuck => exact h
end
/-- a clause ends or returns -/
def only : SR → SR
  | .nx ρ μ => .nx ρ μ
  | .rt d μ => .rt d μ
  | _ => .stuck
end Fw
namespace Fw
theorem mem_at {B : Type} {k : Nat} {b : B} : ∀ {l : List (Nat × B)}, l.lookup k = some b → (k, b) ∈ l
  | [], h => by cases h
  | (j, c) :: l, h => by
    rw [List.lookup_cons] at h
    cases e : k == j with
    | true =>
      rw [e] at h
      cases h
      cases beq_iff_eq.mp e
      exact List.mem_cons_self
    | false =>
      rw [e] at h
      exact List.mem_cons_of_mem _ (mem_at h)
/-- what holds of each error class in the table -/
theorem cls_all {tbl : List (Nat × PySem.Addr)} {P : Nat → PySem.Addr → Prop} (h : ∀ p ∈ tbl, 100 ≤ p.1 → P p.1 p.2) : ∀ k C, 100 ≤ k → tbl.lookup k = some C → P k C := fun k C h1 h2 => h (k, C) (mem_at h2) h1
/-- the tables among the numbered places -/
def isTab (p : Nat × PySem.Addr) : Bool := decide (50 ≤ p.1 ∧ p.1 < 100)
theorem tab_all {tbl ts : List (Nat × PySem.Addr)} (h : tbl.filter isTab = ts) : ∀ k P, 50 ≤ k → k < 100 → tbl.lookup k = some P → (k, P) ∈ ts := fun k P h1 h2 h3 => by
  rw [← h, List.mem_filter]
  exact ⟨mem_at h3, decide_eq_true ⟨h1, h2⟩⟩
theorem no_tab {tbl : List (Nat × PySem.Addr)} (h : tbl.filter isTab = []) : ∀ k, 50 ≤ k → k < 100 → tbl.lookup k = none := fun k h1 h2 => by
  cases e : tbl.lookup k with
  | none => rfl
  | some P => exact absurd (tab_all h k P h1 h2 e) List.not_mem_nil
end Fw
set_option Elab.async false
set_option linter.all false
set_option maxRecDepth 100000
set_option maxHeartbeats 2000000
set_option autoImplicit false
namespace Fw
open PySem PySem.Spec PyProof.Rows L2
/-- a, b = a list -/
def gUnl (n : Nat) (h : List D → Env → Store → Res Env) : D → Env → Store → Res Env := fun d ρ μ => match d with
  | .lst ds => if ds.length = n then h ds ρ μ else .stuck
  | _ => .stuck
@[simp] theorem gUnl_ev {n : Nat} {ρ : Env} {μ : Store} {h : List D → Env → Store → Res Env} {ds : List D} : gUnl n h (.lst ds) ρ μ = if ds.length = n then h ds ρ μ else .stuck := (rfl)
end Fw
set_option Elab.async false
set_option linter.all false
set_option maxRecDepth 100000
set_option maxHeartbeats 2000000
set_option autoImplicit false
namespace Fw
open PySem PySem.Spec PyProof.Rows L2
/-- whether a field bears the name -/
def hasN (m : Str) (ns : List Str) : Bool := ns.any fun k => m == k
/-- o.m(..) -/
def eMeth (c n : Nat) (m : Str) (F : List D → Store → Res D) (fo : FE) (fs : FA) : FE := fun ρ μ => (fo ρ μ).bind fun d μ1 => match insOf c μ1 d with
  | some (ns, _) => if hasN m ns = true then .stuck else (fs ρ μ1).bind fun ds μ2 => if ds.length + 1 = n then F (d :: ds) μ2 else .stuck
  | none => .stuck
@[simp] theorem eMeth_ev {c n : Nat} {m : Str} {F : List D → Store → Res D} {fo : FE} {fs : FA} {ρ : Env} {μ : Store} : eMeth c n m F fo fs ρ μ = (fo ρ μ).bind fun d μ1 => match insOf c μ1 d with
  | some (ns, _) => if hasN m ns = true then .stuck else (fs ρ μ1).bind fun ds μ2 => if ds.length + 1 = n then F (d :: ds) μ2 else .stuck
  | none => .stuck := (rfl)
section
variable {X : Cx} {W : WX} {cls : Nat → Option Addr} {e o : Expr} {es : List Expr} {fo : FE} {fs : FA} {c k n : Nat} {C g : Addr} {m : Str} {apos pos : Pos} {F : List D → Store → Res D} {look : Sem Bool}
/-- C(..), the object staying a place -/
def eMakeM (c n : Nat) (F : List D → Store → Res D) (fs : FA) : FE := fun ρ μ => (fs ρ μ).bind fun ds μ1 => if ds.length + 1 = n then match F (.loc μ1.length :: ds) (μ1 ++ [.ins c [] []]) with
    | .ok .non μ2 => .ok (.loc μ1.length) μ2
    | .err k ns es μ2 => .err k ns es μ2
    | _ => .stuck
  else .stuck
@[simp] theorem eMakeM_ev {c n : Nat} {F : List D → Store → Res D} {fs : FA} {ρ : Env} {μ : Store} : eMakeM c n F fs ρ μ = (fs ρ μ).bind fun ds μ1 => if ds.length + 1 = n then match F (.loc μ1.length :: ds) (μ1 ++ [.ins c [] []]) with
    | .ok .non μ2 => .ok (.loc μ1.length) μ2
    | .err k ns es μ2 => .err k ns es μ2
    | _ => .stuck
  else .stuck := (rfl)
end
end Fw
set_option Elab.async false
set_option linter.all false
set_option maxRecDepth 100000
set_option autoImplicit false
set_option maxHeartbeats 2000000
namespace Fw
open PySem PySem.Spec PyProof.Rows PySem.W PyProof L2
end Fw
set_option Elab.async false
set_option linter.all false
set_option maxRecDepth 100000
set_option autoImplicit false
set_option maxHeartbeats 2000000
namespace Fw
open PySem PySem.Spec PyProof.Rows PySem.W PyProof L2
def splitL (c : Nat) (s : List Nat) : List (List Nat) := (Txt.split ⟨s.toArray⟩ ⟨#[c]⟩).map fun y => y.cps.toList
def eSplit (fo fe : FE) : FE := fun ρ μ => (fo ρ μ).bind fun d μ1 => match d with
  | .str s => (fe ρ μ1).bind fun e μ2 => match e with
    | .str [c] => if s.length ≤ LIM then .ok (.lst ((splitL c s).map D.str)) μ2 else .stuck
    | _ => .stuck
  | _ => .stuck
section
variable {X : Cx} {W : WX} {cls : Nat → Option Addr}
theorem rvs_split {K : PySem.W.Frag} {w : Wd} : ∀ {ys : List Str}, RVs K cls w ((ys.map fun y => y.cps.toList).map D.str) (ys.map V.str)
  | [] => rfl
  | y :: ys => ⟨V.str y, ys.map V.str, rfl, (by show V.str y = V.str ⟨y.cps.toList.toArray⟩; rw [Array.toArray_toList]), rvs_split⟩
theorem se_split {o e : Expr} {fo fe : FE} {apos pos : Pos} (ho : SE X W cls o fo) (he : SE X W cls e fe) (hs : starEach [e] X.env = [(false, eval e X.env)] := by rfl) (hbase : attributeBase o "split" X.env (eval o X.env) = eval o X.env := by rfl) (hline : (apos.endLine == pos.line) = true := by rfl) :
    SE X W cls (.Call (.Attribute o "split" apos) [e] [] pos) (eSplit fo fe) := by
  obtain ⟨t1, p1, h1⟩ := ho
  obtain ⟨t2, p2, h2⟩ := he
  refine ⟨_, pe_split p1 p2 hs hbase hline, fun σ Q w ρ μ S E h => ?_⟩
  refine h1 σ _ w ρ μ S E ((PostR.bind h).imp fun w1 d s1 ⟨μ1, S1, q1⟩ v r1 => ?_)
  cases d with
  | str s =>
    refine ⟨⟨_, r1⟩, h2 σ _ w1 ρ μ1 S1 (E.mono s1.kp) ((PostR.bind q1).imp fun w2 e s2 ⟨μ2, S2, q2⟩ u r2 => ?_)⟩
    split at q2
    · rename_i c
      split at q2
      · rename_i hl
        refine ⟨_, _, r1, congrArg (fun z => [z]) r2, rfl, ?_, fun p hp => ?_⟩
        · rw [strLen]
          have := lim_le (n := LIM) (Nat.le_refl _)
          have h3 : LIM + 2 ≤ sizeLine := by rw [sizeLine_eq]; decide
          omega
        · exact q2 _ (step_new hp) (S2.new hp) _ (new_lst S2 hp rvs_split)
      · exact q2.elim
    · exact q2.elim
  | _ => exact q1.elim
end
end Fw
set_option Elab.async false
set_option linter.all false
set_option maxRecDepth 100000
set_option autoImplicit false
set_option maxHeartbeats 2000000
namespace Fw
open PySem L2 PyProof.Rows
theorem type_called {M : Model} {A : Around} {E : Value → Shared → Prop} {s : Shared} {at_ : Pos} {T : String} {args : List (Bool × Sem Value)} {kws : List (Option Str × Sem Value)} {Q : Value → Shared → Prop} (star : (args.any (·.1) || kws.any (·.1.isNone)) = false)
    (run : wpAny M A (evalArgs (.type T) true args kws) (fun a s1 => wpAny M A (call (.type T) a.pos a.kw) Q E s1) E s) : wpAny M A (callWith at_ (.type T) [] args kws) Q E s := by
  unfold callWith
  refine wpAny_bind (wpAny_holding (wpAny_mono run (fun a s1 go => wpAny_bind (wpAny_standAt ?_)) fun _ _ z => z))
  have mach : keeperOf (.type T) = pure .machine := rfl
  rw [mach, star]
  refine wpAny_bind (wpAny_pure ?_)
  refine wpAny_bind (wpAny_mono go (fun r s2 hr => ?_) fun _ _ z => z)
  exact wpAny_bind (wpAny_holding (wpAny_point (wpAny_pure hr)))
/-- enumerate's object e counts i from c on; its iterator it stands at place i of the list at a -/
structure EnC (e it a : Addr) (c : Int) (i : Nat) (h : Heap) : Prop where
  en : ∃ old, IsEnum h e it (c + (i : Nat)) old
  on : h.IsListIter it a i
  two : e ≠ it
section
variable {e it a : Addr} {c : Int} {i : Nat} {h h' : Heap}
theorem EnC.keep (y : EnC e it a c i h) (k : ∀ b ∈ [e, it], ∀ o, h.get? b = some o → h'.get? b = some o) : EnC e it a c i h' :=
  ⟨y.en.imp fun _ q => k e (.head _) _ q, y.on.at (k it (.tail _ (.head _))), y.two⟩
theorem EnC.obj (y : EnC e it a c i h) {b : Addr} (hb : b ∈ [e, it]) : ∃ o vs, h.get? b = some o ∧ o.data = .fields vs := by
  rw [List.mem_cons, List.mem_singleton] at hb
  rcases hb with rfl | rfl
  · exact let ⟨_, q⟩ := y.en; ⟨_, _, q, rfl⟩
  · exact let ⟨o, q, _, d⟩ := y.on; ⟨o, _, q, d⟩
theorem EnC.old (y : EnC e it a c i h) {b : Addr} (hb : b ∈ [e, it]) : b < h.objs.size := let ⟨_, _, q, _⟩ := y.obj hb; Heap.lt_size q
theorem EnC.off {items : Array Value} (y : EnC e it a c i h) (p : h.IsList a items) : a ≠ it ∧ a ≠ e := by
  obtain ⟨o, q, d, _⟩ := p
  obtain ⟨o2, q2, d2, _⟩ := y.on
  obtain ⟨_, q3⟩ := y.en
  exact ⟨cls_apart q q2 d d2 (by decide), cls_apart q q3 d rfl (by decide)⟩
end
theorem enC_item {X : Cx} {pins : List (Addr × Obj)} {σ : L2.St} {H : Hp} {s : Shared} {E : Value → Shared → Prop} {elts : List Expr} {kk : Nat} {tpos : Pos} {e it a : Addr} {c : Int} {i : Nat} {xs : List V} {x : V} (hc : X.calm = true) (I : Inv X pins σ H s)
    (own : ∀ b ∈ [e, it], FpOk X pins H b) (y : EnC e it a c i s.heap) (hq : SqL X.K H a xs) (hx : xs[i]? = some x) :
    wpAny (model X.prog X.w) X.A (pyNext (.ref e)) (fun r s1 => ∃ u, r = some u ∧ wpAny (model X.prog X.w) X.A (letOwnedTupleGo (.Tuple elts kk tpos) (.ref e) u)
      (fun _ s2 => ∃ T, u = .ref T ∧ s.heap.objs.size ≤ T ∧ Inv X pins σ (upd H T (.tup [.int (c + (i : Nat)), x])) s2 ∧ EnC e it a c (i + 1) s2.heap) E s1) E s := by
  obtain ⟨its, rv, lp, _⟩ := I.list hq
  have p := lp.isList
  have ⟨u, hu, ru⟩ := rv.get hx
  obtain ⟨ai, ae⟩ := y.off p
  obtain ⟨_, en⟩ := y.en
  have room : i < its.toArray.size := by rw [List.size_toArray]; exact (List.getElem?_eq_some_iff.mp hu).1
  have e_old : e ≠ s.heap.objs.size := Nat.ne_of_lt (y.old (.head _))
  refine wpAny_pyNext_enum_itemC (Draws.list (A := X.A.in1) (I.ok.hd hc) it a ai its.toArray) en ⟨y.on, p⟩ room y.two (by simp [y.two, Ne.symm ae]) fun x1 h1 tk got out st pair _ k1 => ⟨_, rfl, ?_⟩
  obtain rfl : u = x1 := Option.some.inj (hu.symm.trans (by rw [← got, List.getElem?_toArray]))
  refine wpAny_letOwnedTupleGo_enum out fun h2 en2 same => ⟨s.heap.objs.size, rfl, Nat.le_refl _, ?_, ⟨⟨_, by rw [show c + ((i + 1 : Nat) : Int) = c + (i : Nat) + 1 by omega]; exact en2⟩, st.1.at fun _ q => (same.2 it y.two.symm).trans q, y.two⟩⟩
  refine I.turnedNew (ch := [e, it]) (fun b o nb q => ?_) own (Nat.le_refl _) ⟨by show 2 ≤ sizeLine; decide, [.int (c + (i : Nat)) tk, u], .cons ⟨_, rfl⟩ (.cons ru .nil), _, (same.2 _ e_old.symm).trans pair, rfl, _, rfl⟩
  simp only [List.mem_cons, List.not_mem_nil, or_false, not_or] at nb
  exact (same.2 b nb.1).trans (k1 b o nb.1 nb.2 q)
theorem enC_end {X : Cx} {pins : List (Addr × Obj)} {σ : L2.St} {H : Hp} {s : Shared} {E : Value → Shared → Prop} {e it a : Addr} {c : Int} {i : Nat} {xs : List V} (hc : X.calm = true) (I : Inv X pins σ H s)
    (own : FpOk X pins H it) (y : EnC e it a c i s.heap) (hq : SqL X.K H a xs) (hx : xs.length ≤ i) : wpAny (model X.prog X.w) X.A (pyNext (.ref e)) (fun r s1 => r = none ∧ Inv X pins σ H s1) E s := by
  obtain ⟨its, rv, lp, _⟩ := I.list hq
  have p := lp.isList
  have none_ : its.toArray[i]? = none := by
    rw [List.getElem?_toArray, List.getElem?_eq_none_iff]
    exact rv.length ▸ hx
  have D : Draws X.prog X.w X.A.in1 it [it, a] i (fun i v => its.toArray[i]? = some v) (fun k h => k = i ∧ h.IsListIter it a i ∧ h.IsList a its.toArray) := {
    live := fun _ _ st => st.2.1.imp fun _ q => q.1
    frame := fun _ _ _ st k => ⟨st.1, st.2.1.at (k it (.head _)), st.2.2.at (k a (.tail _ (.head _)))⟩
    item := fun j _ _ _ lt st => absurd (st.1 ▸ lt) (Nat.lt_irrefl _)
    done := fun _ _ _ st out => wpAny_nextOf_list_end (I.ok.hd hc) st.2.1 st.2.2 none_ out }
  obtain ⟨_, en⟩ := y.en
  obtain ⟨n1, n2, _, n4, n5, n6⟩ := own
  exact wpAny_pyNext_enum_endD D en ⟨rfl, y.on, p⟩ fun h' ext => ⟨rfl, I.turned (t' := s.toks) ext n1 n2 n4 n5 n6⟩
/-- the list at a, each item in a new pair with its number, from c on -/
def ItC (K : PySem.W.Frag) (a : Addr) (c : Int) : It where
  go i H := ∃ (xs : List V) (x : V), SqL K H a xs ∧ xs[i]? = some x
  yld i H v H' := ∃ T x, v = .ref T ∧ H T = none ∧ H' = upd H T (.tup [.int (c + (i : Nat)), x]) ∧ ∀ xs, SqL K H a xs → xs[i]? = some x
  stop i H := ∃ xs : List V, SqL K H a xs ∧ xs.length ≤ i
theorem turn_enC {P : Program} {w : World} {K : PySem.W.Frag} {elts : List Expr} {kk : Nat} {tpos : Pos} (a e it : Addr) (c : Int) : Turn P w K (.Tuple elts kk tpos) (ItC K a c) [e, it] e (EnC e it a c) where
  mem := .head _
  obj := fun _ _ y b hb => let ⟨o, _, q, d⟩ := y.obj hb; ⟨o, q, fun v => by rw [d]; exact nofun⟩
  keep := fun _ _ _ y k => y.keep k
  item := fun X hP hw hK hc i pins s σ H E I own y ⟨xs, x, hq, hx⟩ => by
    subst hP hw hK
    refine wpAny_mono (enC_item (elts := elts) (kk := kk) (tpos := tpos) hc I own y hq hx) (fun r s1 ⟨u, hr, more⟩ => ⟨u, hr, ?_⟩) fun _ _ q => q
    refine wpAny_mono more (fun _ s2 ⟨T, hu, new, J, y2⟩ => ⟨.ref T, _, J, hu, ⟨T, x, rfl, I.hok.fresh new, rfl, fun ys hy => ?_⟩, y2, fun b hb => ?_⟩) fun _ _ q => q
    · rw [I.list_inj hy hq]
      exact hx
    · rw [upd_ne (Nat.ne_of_lt (Nat.lt_of_lt_of_le (y.old hb) new))]
      exact (own b hb).1
  done := fun X hP hw hK hc i pins s σ H E I own y ⟨xs, hq, hx⟩ => by
    subst hP hw hK
    exact enC_end hc I (own it (.tail _ (.head _))) y hq hx
  self := fun A i s Q E y q => let ⟨_, en⟩ := y.en; wpAny_pyIter_enum en q
def iEnumC (K : PySem.W.Frag) (c : Int) (ta : TA) : TI := fun σ H R => ta σ H fun vs H1 => ∃ a xs, vs = [.ref a] ∧ SqL K H1 a xs ∧ R (ItC K a c) H1
theorem pi_enumC {X : Cx} {e : Expr} {ta : TA} {p pos tpos p2 kp : Pos} {elts : List Expr} {kk j : Nat} {c : Int} (hg : Gl X "enumerate") (hm : X.mg "enumerate" = none) (ha : PA X [e] ta) (c0 : -(2 ^ 63) ≤ c) (c1 : c < 2 ^ 63)
    (hs : starEach [e] X.env = [(false, eval e X.env)] := by rfl) :
    PI X (.Tuple elts kk tpos) (.Call (.Name "enumerate" p) [e] [⟨some (Str.ofString "start"), .Constant (.int c) j p2, kp⟩] pos) (iEnumC X.K c ta) where
  run pins s σ H R I h := by
    refine wpAny_Call_Name_kw (ld_blt I hg hm boot_enumerate (type_called ?_ ?_))
    · rw [hs]
      rfl
    have run := ha.run pos pins s σ H _ I h
    rw [hs] at run ⊢
    refine evalArgs_kwB rfl (thn run fun us s1 q => ?_)
    obtain ⟨_, H1, J, rr, a, xs, rfl, hq, go⟩ := q
    obtain rfl := Vals.ref1 rr
    refine kws_cons (thn ((pe_int (X := X)).run pins s1 σ H1 (fun v H2 => v = .int c ∧ H2 = H1) J ⟨rfl, rfl⟩) fun v s2 q2 => kws_nil ?_)
    obtain ⟨w', H2, J2, rw', hw, hH⟩ := q2
    subst hw hH
    obtain ⟨tk, rfl⟩ := rw'
    obtain ⟨its, _, lp, _⟩ := J2.list hq
    refine enum_begins_start (begins_list a its.toArray) lp.isList c0 c1 fun h' en it_ sz keeps => wpAny_pyIter_enum en ⟨_, [_, s2.heap.objs.size], _, _, H2, rfl, J2.kept (t' := s2.toks) keeps, turn_enC a _ _ c, ⟨⟨_, by simpa using en⟩, ⟨_, it_, rfl, rfl⟩, Nat.succ_ne_self _⟩, fun b hb => ?_, go⟩
    have le : s2.heap.objs.size ≤ b := by
      rw [List.mem_cons, List.mem_singleton] at hb
      exact hb.elim (fun z => z ▸ Nat.le_succ _) fun z => z ▸ Nat.le_refl _
    exact J2.fpOk le (J2.hok.fresh le)
/-- what enumerate gives, counted from c -/
def enumC (c : Int) (ds : List D) : List D := (ds.zipIdx).map fun p => .tup [.int (c + (p.2 : Nat)), p.1]
def iEnumFrom (c : Int) (fe : FE) : FI := fun ρ μ => (fe ρ μ).bind fun d μ1 => match d with
  | .lst ds => .ok (enumC c ds, none) μ1
  | _ => .stuck
theorem enumC_get {c : Int} {ds : List D} {i : Nat} {d : D} (h : (enumC c ds)[i]? = some d) : ∃ e, ds[i]? = some e ∧ d = .tup [.int (c + (i : Nat)), e] := by
  unfold enumC at h
  rw [List.getElem?_map, Option.map_eq_some_iff] at h
  obtain ⟨⟨e, j⟩, h1, rfl⟩ := h
  rw [List.getElem?_zipIdx, Option.map_eq_some_iff] at h1
  obtain ⟨e', h2, h3⟩ := h1
  simp at h3
  obtain ⟨rfl, rfl⟩ := h3
  exact ⟨_, h2, by simp⟩
theorem wk_enumC {K : PySem.W.Frag} {cls : Nat → Option Addr} {w : Wd} {c : Int} {a : Addr} {ds : List D} (h : ∀ (w' : Wd), Kp w w' → ∃ vs, RVs K cls w' ds vs ∧ SqL K w'.H a vs) : Wk K cls (ItC K a c) w (enumC c ds) none := by
  intro i w' μ' k S' so
  obtain ⟨vs, h1, hL⟩ := h w' k
  refine ⟨fun d hd => ?_, fun hi => ⟨vs, hL, by rw [h1.length]; simpa [enumC] using hi⟩⟩
  obtain ⟨e, he, rfl⟩ := enumC_get hd
  obtain ⟨v, hv, rv⟩ := h1.get he
  refine ⟨⟨vs, v, hL, hv⟩, fun x H2 y => ?_⟩
  obtain ⟨T, x', rfl, hT, rfl, hx⟩ := y
  obtain rfl : v = x' := Option.some.inj (hv.symm.trans (hx vs hL))
  exact ⟨w'.up T (.tup [.int (c + (i : Nat)), v]), rfl, step_new hT, S'.new hT, new_tup S' hT (.cons rfl (.cons rv .nil))⟩
theorem si_enumC {X : Cx} {W : WX} {cls : Nat → Option Addr} {e : Expr} {fe : FE} {p pos tpos p2 kp : Pos} {elts : List Expr} {kk j : Nat} {c : Int} (hg : Gl X "enumerate") (hm : X.mg "enumerate" = none) (he : SE X W cls e fe) (hs : starEach [e] X.env = [(false, eval e X.env)] := by rfl)
    (c0 : -(2 ^ 63) ≤ c := by decide) (c1 : c < 2 ^ 63 := by decide) :
    SI X W cls (.Tuple elts kk tpos) (.Call (.Name "enumerate" p) [e] [⟨some (Str.ofString "start"), .Constant (.int c) j p2, kp⟩] pos) (iEnumFrom c fe) := by
  obtain ⟨t, p1, k⟩ := he
  refine ⟨_, pi_enumC hg hm (pa_cons p1 pa_nil hs) c0 c1 hs, fun σ R w ρ μ S E h => ?_⟩
  refine k σ _ w ρ μ S E ((PostR.bind h).imp fun w1 d s1 ⟨μ1, S1, q1⟩ v r1 => ?_)
  cases d with
  | lst ds =>
    obtain ⟨a, vs, e1, h1, h2⟩ := r1
    refine ⟨a, vs, congrArg (fun z => [z]) e1, .inl (.inl h1.1), q1 w1 Step.refl S1 _ (wk_enumC fun w' kp => ?_)⟩
    exact ⟨vs, h2.mono kp, .inl (.inl (kp.at_ a _ h1.2.1 h1.2.2 h1.1).1)⟩
  | _ => exact q1.elim
def eTxt (f : Str → Bool) (fo : FE) : FE := fun ρ μ => (fo ρ μ).bind fun d μ1 => match d with
  | .str s => .ok (.bl (f ⟨s.toArray⟩)) μ1
  | _ => .stuck
section
variable {X : Cx} {W : WX} {cls : Nat → Option Addr} {o : Expr} {fo : FE} {apos pos : Pos}
theorem se_txt {id : String} {name : Str} {f : Str → Bool} (slot : Slot "str" name id) (ty : typeOf (.builtin id) = pure (.type "method_descriptor")) (rule : MtR X id (fun x xs H Q => ∃ a, x = .str a ∧ xs = [] ∧ True ∧ Q (.bl (f a)) H)) (ho : SE X W cls o fo)
    (hbase : attributeBase o name X.env (eval o X.env) = eval o X.env := by rfl) (hline : (apos.endLine == pos.line) = true := by rfl) : SE X W cls (.Call (.Attribute o name apos) [] [] pos) (eTxt f fo) := by
  obtain ⟨t1, p1, h1⟩ := ho
  refine ⟨_, pe_m0 slot ty rule p1 hbase hline, fun σ Q w ρ μ S E h => ?_⟩
  refine h1 σ _ w ρ μ S E ((PostR.bind h).imp fun w1 d s1 ⟨μ1, S1, q1⟩ v r1 => ?_)
  cases d with
  | str s => exact ⟨⟨_, r1⟩, _, r1, rfl, trivial, q1 w1 Step.refl S1 _ rfl⟩
  | _ => exact q1.elim
end
def aStar (fe : FE) (fs : FA) : FA := fun ρ μ => (fe ρ μ).bind fun d μ1 => match d with
  | .lst ds => (fs ρ μ1).bind fun es μ2 => .ok (ds ++ es) μ2
  | _ => .stuck
theorem sa_star {X : Cx} {W : WX} {cls : Nat → Option Addr} {e : Expr} {es : List Expr} {fe : FE} {fs : FA} {p : Pos} (he : SE X W cls e fe) (hr : SA X W cls es fs) (hs : starEach (.Starred e p :: es) X.env = (true, eval e X.env) :: starEach es X.env := by rfl) : SA X W cls (.Starred e p :: es) (aStar fe fs) := by
  obtain ⟨t1, p1, h1⟩ := he
  obtain ⟨t2, p2, h2⟩ := hr
  refine ⟨_, StX.pa_star p1 p2 hs, fun σ Q w ρ μ S E h => ?_⟩
  refine h1 σ _ w ρ μ S E ((PostR.bind h).imp fun w1 d s1 ⟨μ1, S1, q1⟩ v r1 => ?_)
  cases d with
  | lst ds =>
    obtain ⟨a, vs, e1, l1, l2⟩ := r1
    refine ⟨a, vs, e1, .inr (.inl (.inl l1.1)), ?_⟩
    refine h2 σ _ w1 ρ μ1 S1 (E.mono s1.kp) ((PostR.bind q1).imp fun w2 ds2 s2 ⟨μ2, S2, q2⟩ us r2 => ?_)
    exact q2 w2 Step.refl S2 _ ((l2.mono s2.kp).append r2)
  | _ => exact q1.elim
end Fw
set_option Elab.async false
set_option linter.all false
set_option maxRecDepth 100000
set_option maxHeartbeats 4000000
set_option autoImplicit false
namespace Fw
open PySem PySem.Spec PyProof.Rows L2 NdefX
/-- the promise of such an __init__ -/
def spE2 (C : Addr) (f1 f2 : Str) : Sp := fun vs H Q _ => ∃ (a : Addr) (y y' : V), vs = [.ref a, y, y'] ∧ H a = some (exo a C none) ∧ okF y ∧ okF y' ∧
  ∀ dx, H dx = none → dx ≠ a → Q .non (upd (upd (upd H dx (exd dx [(f1, y)])) a (exo a C (some dx))) dx (exd dx [(f2, y'), (f1, y)]))
section
variable {CX : CXT} {P : Program} {w : World} {K : PySem.W.Frag} {mg : Str → Option Value} {base : Heap} {k : Nat} {f C cc : Addr} {slf x1 x2 f1 f2 z z2 : Str} {F : NF} {dV kV doc pm ct oc : Value} {an od : Option Addr} {osl : Array (Option Value)}
  {p0 p1 p2 p3 p4 p5 p6 p7 p8 p9 q1 q2 q3 q4 q5 q6 q7 q8 pos pos2 : Pos} {j j2 : Nat}
theorem init2 (lk : K.lookup f = some ⟨oc, od, .func (PySem.W.fnX F.name F.qual F.params F.body F.scope F.cl dV kV doc pm an (.ref F.c) ct), osl⟩) (hcd : PySem.W.codeIn K (.ref F.c) F.qual = true) (S : NScope [slf, x1, x2, "__class__"] [slf, x1, x2] ["__class__"] F.scope)
    (hcl : F.cl = [(("__class__" : Str), cc)]) (T : Sup P K mg C f F.c cc slf)
    (hb : F.body = [.Expr (.Call (.Attribute (.Call (.Name "super" p0) [] [] p1) "__init__" p2) [.JoinedStr [.Constant (.str z) j p3, .FormattedValue (.Name x1 p4) (-1) none p5, .Constant (.str z2) j2 q2, .FormattedValue (.Name x2 q3) (-1) none q4] p6] [] pos) pos2,
      .Assign [.Attribute (.Name slf p7) f1 p8] (.Name x1 p9) q1, .Assign [.Attribute (.Name slf q5) f2 q6] (.Name x2 q7) q8])
    (hks : F.scope.names.lookup ("super" : Str) = some .globalImplicit) (hdb : (slf == ("__debug__" : Str)) = false) (hdb1 : (x1 == ("__debug__" : Str)) = false) (hdb2 : (x2 == ("__debug__" : Str)) = false) (hcd0 : (slf == ("__classdict__" : Str)) = false) (hcd1 : (x1 == ("__classdict__" : Str)) = false) (hcd2 : (x2 == ("__classdict__" : Str)) = false) (hz : z.length ≤ 1000) (hz2 : z2.length ≤ 1000)
    (hne : (f1 == f2) = false) (hno : PySem.W.findIn K (.ref C) f1 = some none) (hno2 : PySem.W.findIn K (.ref C) f2 = some none) {pl : PySem.Env → Sem Bool}
    (hev : ∀ env : PySem.Env, eval (.Call (.Attribute (.Call (.Name "super" p0) [] [] p1) "__init__" p2) [.JoinedStr [.Constant (.str z) j p3, .FormattedValue (.Name x1 p4) (-1) none p5, .Constant (.str z2) j2 q2, .FormattedValue (.Name x2 q3) (-1) none q4] p6] [] pos) env = (do
      let ov ← attributeBase (.Call (.Name "super" p0) [] [] p1) "__init__" env (eval (.Call (.Name "super" p0) [] [] p1) env)
      standAt p2.atName
      let (f, first) ← holding [ov] (getMethod ov "__init__" (pl env))
      callWith pos f first (backTo pos (starEach [.JoinedStr [.Constant (.str z) j p3, .FormattedValue (.Name x1 p4) (-1) none p5, .Constant (.str z2) j2 q2, .FormattedValue (.Name x2 q3) (-1) none q4] p6] env)) [])) :
    FnOk P w K mg base CX (k + 1) f (PySem.W.fnX F.name F.qual F.params F.body F.scope F.cl dV kV doc pm an (.ref F.c) ct) [slf, x1, x2] (spE2 C f1 f2) := by
  refine fn_init (ps' := [x1, x2]) lk hcd S hcl T hb hks hdb (fun vs H Q E q => ?_) hev (fun env => rfl) (fun env => rfl) (fun env => rfl) ?_
  · obtain ⟨a, y, y', rfl, _⟩ := q
    rfl
  · rintro A outer s H vs Q E ⟨a, y, y', rfl, ea, hy, hy', q⟩
    have vs0 : Vis F.scope slf := .inl (S.par _ (by simp))
    have vs1 : Vis F.scope x1 := .inl (S.par _ (by simp))
    have vs2 : Vis F.scope x2 := .inl (S.par _ (by simp))
    refine ⟨a, [y, y'], rfl, ea, ⟨_, pe_joined (.cons pe_str (.cons (pe_fmt (pe_var (i := 1) rfl vs1 hdb1 hcd1)) (.cons pe_str (.cons (pe_fmt (pe_var (i := 2) rfl vs2 hdb2 hcd2)) .nil)))), fun Q' h => ?_⟩, _,
      pss_cons (ps_ost (pe_var (i := 0) rfl vs0 hdb hcd0) (pe_var (i := 1) rfl vs1 hdb1 hcd1)) (pss_one (ps_ost (pe_var (i := 0) rfl vs0 hdb hcd0) (pe_var (i := 2) rfl vs2 hdb2 hcd2))), ?_⟩
    · refine js_const (by show 0 + z.length ≤ 20000; omega) (js_var hy rfl (by rw [str_app_len]; show 0 + z.length ≤ 10000; omega) fun t ht => js_const ?_ (js_var hy' rfl ?_ fun t2 _ => h _))
      · rw [str_app_len, str_app_len]
        show 0 + z.length + t.length + z2.length ≤ 20000
        omega
      · rw [str_app_len, str_app_len, str_app_len]
        show 0 + z.length + t.length + z2.length ≤ 10000
        omega
    · refine ⟨y, rfl, .ref a, rfl, a, C, rfl, T.oex, hno, .inl ⟨ea, fun dx h1 h2 => ?_⟩⟩
      exact ⟨y', rfl, .ref a, rfl, a, C, rfl, T.oex, hno2, .inr ⟨dx, [(f1, y)], upd_same, by rw [upd_ne h2, upd_same], by simp, q dx h1 h2⟩⟩
end
structure EkI2 (P : Program) (W : World) (K : PySem.W.Frag) (cls : Nat → Option Addr) (mgl : Str → Option Value) (base : Heap) (j : Nat) (x : Str) (k : Nat) (C : Addr) (f1 f2 : Str) : Prop extends Ek K cls mgl x k C where
  oex : OexC K C
  init : ∃ (fI : Addr) (fd : FuncData) (ps : List Str), PySem.W.findIn K (.ref C) "__init__" = some (some (.ref fI)) ∧ PySem.W.typeIn K (.ref fI) = some (.type "function") ∧ FnOk P W K mgl base (CX P W) j fI fd ps (spE2 C f1 f2) ∧ Binds K fd ps []
/-- raise X(e, e2) -/
def sRaise2 (k : Nat) (f1 f2 : Str) (fe fe2 : FE) : FS := fun ρ μ => rS ρ (fe ρ μ) fun d μ1 => rS ρ (fe2 ρ μ1) fun d2 μ2 => if okE d = true ∧ okE d2 = true then .er k [f2, f1] [d2, d] ρ μ2 else .stuck
theorem sRaise2_ev {k : Nat} {f1 f2 : Str} {fe fe2 : FE} {ρ : Env} {μ : Store} : sRaise2 k f1 f2 fe fe2 ρ μ = rS ρ (fe ρ μ) fun d μ1 => rS ρ (fe2 ρ μ1) fun d2 μ2 => if okE d = true ∧ okE d2 = true then .er k [f2, f1] [d2, d] ρ μ2 else .stuck := (rfl)
section
variable {X : Cx} {W : WX} {cls : Nat → Option Addr} {x f1 f2 : Str} {j k : Nat} {C : Addr} {p pos rpos : Pos} {e e2 : Expr} {fe fe2 : FE}
theorem ss_raise2 (hc : X.calm = true) (tk : Takes X W) (T : EkI2 X.prog X.w X.K cls X.mg X.base j x k C f1 f2) (hr : Room (j + 1) X.A) (hg : Gl X x) (he : SE X W cls e fe) (he2 : SE X W cls e2 fe2) (hdb : (x == ("__debug__" : Str)) = false := by decide +kernel)
    (hs : starEach (e :: [e2]) X.env = (false, eval e X.env) :: starEach [e2] X.env := by rfl) (hs2 : starEach (e2 :: []) X.env = (false, eval e2 X.env) :: starEach [] X.env := by rfl) (hpl : (backTo pos (starEach [e2] X.env)).any (·.1) = false := by rfl) :
    SS X W cls (.Raise (some (.Call (.Name x p) [e, e2] [] pos)) none rpos) (sRaise2 k f1 f2 fe fe2) := by
  obtain ⟨fI, fd, ps, iC, tI, F1, hb⟩ := T.init
  obtain ⟨t1, p1, h1⟩ := sa_cons he (sa_cons he2 sa_nil hs2) hs
  refine ⟨_, ps_raise hc tk (pmk_oex T.oex iC tI F1 hr hb (dvs := []) .nil noPass hg T.mg p1 hdb hs hpl), fun D σ w ρ μ S E h => ?_⟩
  refine h1 σ _ w ρ μ S E ?_
  have both : PostS X.K cls w W D (rS ρ ((aCons fe (aCons fe2 aNil)) ρ μ) fun ds μ1 => match ds with | [d, d2] => if okE d = true ∧ okE d2 = true then .er k [f2, f1] [d2, d] ρ μ1 else .stuck | _ => .stuck) := by
    rw [sRaise2_ev] at h
    rw [aCons_ev]
    cases hf : fe ρ μ with
    | ok d μ1 =>
      rw [hf] at h
      rw [bok, aCons_ev]
      have h : PostS X.K cls w W D (rS ρ (fe2 ρ μ1) fun d2 μ2 => if okE d = true ∧ okE d2 = true then .er k [f2, f1] [d2, d] ρ μ2 else .stuck) := h
      cases hf2 : fe2 ρ μ1 with
      | ok d2 μ2 => rw [hf2] at h; exact h
      | err => rw [hf2] at h; exact h
      | stuck => rw [hf2] at h; exact h
    | err => rw [hf] at h; exact h
    | stuck => rw [hf] at h; exact h
  refine (PostS.bind E both).imp fun w1 ds s1 ⟨μ1, S1, q1⟩ vs r1 => ?_
  split at q1
  · rename_i d d2
    split at q1
    · rename_i ok
      obtain ⟨v, _, rfl, rd, v2, rest, rfl, rd2, rn⟩ := r1
      obtain rfl : rest = [] := rn
      refine ⟨by simp, fun a ha => ⟨a, v, v2, rfl, upd_same, okE_rv ok.1 rd, okE_rv ok.2 rd2, fun dx hdx hne => ?_⟩⟩
      have free : w1.H dx = none := by rwa [upd_ne hne] at hdx
      refine ⟨rfl, dx, [(f2, v2), (f1, v)], ?_, upd_same, free, ?_⟩
      · rw [upd_ne (Ne.symm hne), upd_same]
      have same : upd (del (upd (upd (upd (upd w1.H a (exo a C none)) dx (exd dx [(f1, v)])) a (exo a C (some dx))) dx (exd dx [(f2, v2), (f1, v)])) a) dx (.xd [(f2, v2), (f1, v)]) = (w1.up dx (.xd [(f2, v2), (f1, v)])).H := by
        funext b
        show _ = upd w1.H dx (.xd [(f2, v2), (f1, v)]) b
        by_cases b1 : b = dx
        · rw [b1, upd_same, upd_same]
        · rw [upd_ne b1, upd_ne b1]
          by_cases b2 : b = a
          · rw [b2, del_same, ha]
          · rw [del_ne b2, upd_ne b1, upd_ne b2, upd_ne b1, upd_ne b2]
      rw [same]
      have fr := S1.free free
      have kp := (step_new (o := .xd [(f2, v2), (f1, v)]) free).kp
      exact q1 (w1.up dx (.xd [(f2, v2), (f1, v)])) σ (.ref C) (some dx) (step_new free) (S1.new free) ((E.mono s1.kp).mono kp) ⟨C, T.at_, rfl, .inr ⟨dx, [v2, v], rfl, ⟨upd_same, fr.1, fr.2⟩, rfl, ⟨v2, [v], rfl, rd2.mono kp, v, [], rfl, rd.mono kp, rfl⟩⟩⟩
    · exact q1.elim
  · exact q1.elim
end
section
variable {P : Program} {W : World} {K : PySem.W.Frag} {cls : Nat → Option Addr} {mg : Str → Option Value} {base : Heap} {x f1 f2 qual slf x1 x2 z z2 : Str} {k : Nat} {C fI cda cc : Addr} {st : Stmt}
  {od an : Option Addr} {osl : Array (Option Value)} {oc kV doc pm ct : Value}
  {nm q : Str} {N : Addr} {bs bm : List Value} {sn : List Str} {sub : List Value} {ab : Bool} {col : Option Bool} {dd : Option Addr} {k0 k1 k2 k3 k5 : Option Value}
  {ccl : Value} {cdd : Option Addr} {vs : Array Value} {ccs : Array (Option Value)} {file : Str} {tf : Tok} {cl : Value} {cld : Option Addr} {csl : Array (Option Value)}
  {p0 p1 p2 p3 p4 p5 p6 p7 p8 p9 q1 q2 q3 q4 q5 q6 q7 q8 pos pos2 ap0 ap1 ap2 : Pos} {j j2 : Nat}
theorem eki2_mk (at_ : 100 ≤ k ∧ cls k = some C) (hm : mg x = some (.ref C)) (kc : PySem.W.keepIn K (.ref C) = true) (sb : PySem.W.subIn K (.ref C) (.type "BaseException") = some true) (ty : PySem.W.typeIn K (.ref C) = some (.type "type"))
    (lo : K.lookup C = some (excClassObj nm q C N bs bm true sn sub ab col dd k0 k1 k2 k3 k5 "ValueError.__new__")) (rf : PySem.HandSPX.refsVE bm = true)
    (sa : PySem.W.findIn K (.ref C) "__setattr__" = some (some (.builtin "object.__setattr__"))) (ia : PySem.W.findIn K (.ref C) "__init__" = some (some (.ref fI))) (it : PySem.W.typeIn K (.ref fI) = some (.type "function"))
    (li : K.lookup fI = some ⟨oc, od, .func (PySem.W.fnX "__init__" qual (defArgs st) (defBody st) (defScope st) [(("__class__" : Str), cc)] .none kV doc pm an (.ref cda) ct), osl⟩) (ci : PySem.W.codeIn K (.ref cda) qual = true)
    (sv : PySem.W.subIn K (.ref C) (.type "ValueError") = some true) (mr : PySem.W.mroIn K C (.ref C) = some true) (su : PySem.W.ks_superIn K C C "__init__" = some (some (.builtin "ValueError.__init__")))
    (lk : K.lookup cda = some ⟨ccl, cdd, .fields vs, ccs⟩) (vf : vs[2]? = some (.str file tf)) (ff : ((P.main.file : Str) == file) = true) (lc : K.lookup cc = some ⟨cl, cld, .cell (some (.ref C)), csl⟩)
    (nf : PySem.W.findIn K (.ref C) f1 = some none) (nf2 : PySem.W.findIn K (.ref C) f2 = some none) (any : PySem.W.nsIn K cStatics "thirdparty.any" = some none) (sup : mg "super" = none) (top : (P.main.scope.names.lookup ("super" : Str)).isSome = false)
    (hargs : defArgs st = ⟨[], [⟨slf, none, ap0⟩, ⟨x1, none, ap1⟩, ⟨x2, none, ap2⟩], none, [], [], none, []⟩)
    (hb : defBody st = [.Expr (.Call (.Attribute (.Call (.Name "super" p0) [] [] p1) "__init__" p2) [.JoinedStr [.Constant (.str z) j p3, .FormattedValue (.Name x1 p4) (-1) none p5, .Constant (.str z2) j2 q2, .FormattedValue (.Name x2 q3) (-1) none q4] p6] [] pos) pos2, .Assign [.Attribute (.Name slf p7) f1 p8] (.Name x1 p9) q1, .Assign [.Attribute (.Name slf q5) f2 q6] (.Name x2 q7) q8])
    (S : nscB [slf, x1, x2, "__class__"] [slf, x1, x2] ["__class__"] (defScope st) = true) (hks : (defScope st).names.lookup ("super" : Str) = some .globalImplicit)
    (hw : ((slf == ("__debug__" : Str)) || (x1 == ("__debug__" : Str)) || (x2 == ("__debug__" : Str)) || (slf == ("__classdict__" : Str)) || (x1 == ("__classdict__" : Str)) || (x2 == ("__classdict__" : Str)) || f1 == f2) = false) (hz : z.length ≤ 1000) (hz2 : z2.length ≤ 1000) {pl : PySem.Env → Sem Bool}
    (hev : ∀ env : PySem.Env, eval (.Call (.Attribute (.Call (.Name "super" p0) [] [] p1) "__init__" p2) [.JoinedStr [.Constant (.str z) j p3, .FormattedValue (.Name x1 p4) (-1) none p5, .Constant (.str z2) j2 q2, .FormattedValue (.Name x2 q3) (-1) none q4] p6] [] pos) env = (do
      let ov ← attributeBase (.Call (.Name "super" p0) [] [] p1) "__init__" env (eval (.Call (.Name "super" p0) [] [] p1) env)
      standAt p2.atName
      let (f, first) ← holding [ov] (getMethod ov "__init__" (pl env))
      callWith pos f first (backTo pos (starEach [.JoinedStr [.Constant (.str z) j p3, .FormattedValue (.Name x1 p4) (-1) none p5, .Constant (.str z2) j2 q2, .FormattedValue (.Name x2 q3) (-1) none q4] p6] env)) []))
    (hbi : ∀ us : List Value, us.length = [slf, x1, x2].length → bindArgs (PySem.W.fnX "__init__" qual (defArgs st) (defBody st) (defScope st) [(("__class__" : Str), cc)] .none kV doc pm an (.ref cda) ct) ⟨us, []⟩ = pure ([slf, x1, x2].zip us)) :
    EkI2 P W K cls mg base 1 x k C f1 f2 := by
  simp only [Bool.or_eq_false_iff] at hw
  obtain ⟨⟨⟨⟨⟨⟨w1, w2⟩, w3⟩, w4⟩, w5⟩, w6⟩, w7⟩ := hw
  have ox : OexC K C := ⟨⟨nm, q, N, bs, bm, sn, sub, ab, col, dd, k0, k1, k2, k3, k5, lo, rf⟩, sa, sb, ty, kc⟩
  have T : Sup P K mg C fI cda cc slf := ⟨ox, any, su, sv, mr, ⟨_, _, _, _, ⟨slf, none, ap0⟩, li, by show (_ : List Arg).head? = _; rw [show (defArgs st).posonlyargs = [] by rw [hargs], show (defArgs st).args = _ by rw [hargs]] <;> rfl, rfl⟩, ⟨_, _, _, _, _, _, lk, vf, ff⟩, ⟨_, _, _, lc⟩, sup, top⟩
  refine ⟨⟨at_, hm, kc, sb, ty⟩, ox, fI, _, [slf, x1, x2], ia, it, init2 (F := ⟨"__init__", qual, defArgs st, defBody st, defScope st, [(("__class__" : Str), cc)], cda⟩) li ci (nscope_by S) rfl T hb hks w1 w2 w3 w4 w5 w6 hz hz2 w7 nf nf2 hev, .all hbi⟩
end
end Fw
set_option Elab.async false
set_option linter.all false
set_option maxRecDepth 100000
set_option maxHeartbeats 2000000
set_option autoImplicit false
namespace Fw
open PySem PySem.Spec PyProof.Rows L2
abbrev KTb := List (List Nat × Int)
def Ent : List DictEntry → KTb → Prop
  | [], [] => True
  | e :: l, p :: t => (∃ tk, e.key = .str ⟨p.1.toArray⟩ tk) ∧ (∃ tk, e.val = .int p.2 tk) ∧ Ent l t
  | _, _ => False
structure Kdi (K : PySem.W.Frag) (W : World) (mg : Str → Option Value) (x : Str) (tbl : KTb) : Prop where
  ex : ∃ (d : Addr) (es : Array DictEntry) (n : Nat), mg x = some (.ref d) ∧ KDict K W d es n ∧ Ent es.toList tbl
def found (tbl : KTb) (z : List Nat) : Option Int := (tbl.find? fun p => p.1 == z).map (·.2)
theorem ent_find {z : List Nat} : ∀ {l : List DictEntry} {t : KTb}, Ent l t → (∀ e ∈ l, e.refKey = false) ∧
    ((∃ e v tk, l.find? (·.key.isStr ⟨z.toArray⟩) = some e ∧ e.val = .int v tk ∧ found t z = some v) ∨ (l.find? (·.key.isStr ⟨z.toArray⟩) = none ∧ found t z = none))
  | [], [], _ => ⟨by simp, .inr ⟨rfl, rfl⟩⟩
  | e :: l, p :: t, ⟨⟨tk, hk⟩, ⟨tv, hv⟩, h⟩ => by
    obtain ⟨h1, h2⟩ := ent_find (z := z) h
    have hs : e.key.isStr ⟨z.toArray⟩ = (p.1 == z) := by
      rw [hk]
      show ((⟨p.1.toArray⟩ : Str) == (⟨z.toArray⟩ : Str)) = _
      exact str_beq
    refine ⟨fun e' he' => ?_, ?_⟩
    · rcases List.mem_cons.mp he' with rfl | he'
      · unfold DictEntry.refKey
        rw [hk]
      · exact h1 e' he'
    · cases q : (p.1 == z) with
      | true =>
        left
        refine ⟨e, p.2, tv, ?_, hv, ?_⟩
        · rw [List.find?_cons, hs, q]
        · unfold found
          rw [List.find?_cons, q]
          rfl
      | false =>
        have e1 : (e :: l).find? (·.key.isStr ⟨z.toArray⟩) = l.find? (·.key.isStr ⟨z.toArray⟩) := by rw [List.find?_cons, hs, q]
        have e2 : found (p :: t) z = found t z := by
          unfold found
          rw [List.find?_cons, q]
        rw [e1, e2]
        exact h2
theorem ns_found {K : PySem.W.Frag} {W : World} {d : Addr} {es : Array DictEntry} {n : Nat} {t : KTb} (D : KDict K W d es n) (h : Ent es.toList t) (z : List Nat) :
    (∃ v tk, PySem.W.nsIn K d ⟨z.toArray⟩ = some (some (.int v tk)) ∧ found t z = some v) ∨ (PySem.W.nsIn K d ⟨z.toArray⟩ = some none ∧ found t z = none) := by
  obtain ⟨h1, h2⟩ := ent_find (z := z) h
  unfold PySem.W.nsIn
  rw [D.at_]
  dsimp only
  rcases h2 with ⟨e, v, tk, a, b, c⟩ | ⟨a, b⟩
  · left
    refine ⟨v, tk, ?_, c⟩
    rw [a]
    dsimp only
    rw [b]
  · right
    refine ⟨?_, b⟩
    rw [a]
    have : es.toList.any (·.refKey) = false := by
      rw [List.any_eq_false]
      intro e he
      rw [h1 e he]
      decide
    dsimp only
    rw [this]
    rfl
/-- x in d -/
def eDin (neg : Bool) (t : KTb) (fe : FE) : FE := fun ρ μ => (fe ρ μ).bind fun d μ1 => match d with
  | .str s => .ok (.bl (if neg then !(found t s).isSome else (found t s).isSome)) μ1
  | _ => .stuck
/-- d[x] -/
def eDix (t : KTb) (fe : FE) : FE := fun ρ μ => (fe ρ μ).bind fun d μ1 => match d with
  | .str s => match found t s with
    | some v => .ok (.int v) μ1
    | none => .stuck
  | _ => .stuck
section
variable {X : Cx} {W : WX} {cls : Nat → Option Addr} {a : Expr} {fa : FE} {x : Str} {t : KTb} {p pos : Pos}
theorem se_dIx (hg : Gl X x) (T : Kdi X.K X.w X.mg x t) (ha : SE X W cls a fa) (hd : (x == ("__debug__" : Str)) = false := by decide +kernel) (hs : PlainIx a := by exact fun _ _ => rfl) : SE X W cls (.Subscript (.Name x p) a pos) (eDix t fa) := by
  obtain ⟨d, es, n, mg, D, en⟩ := T.ex
  obtain ⟨t1, p1, h1⟩ := ha
  refine ⟨_, pe_ix ix_kdict (pe_glob (v := .ref d) hg mg rfl hd) p1 hs, fun σ Q w ρ μ S E h => ?_⟩
  refine h1 σ _ w ρ μ S E ((PostR.bind h).imp fun w1 e s1 ⟨μ1, S1, q1⟩ v r1 => ?_)
  cases e with
  | str s =>
    dsimp only at q1
    rcases ns_found D en s with ⟨k, tk, e1, e2⟩ | ⟨e1, e2⟩
    · refine ⟨d, _, .int k, rfl, r1, ⟨es, n, _, D.at_, D.lit, e1, ⟨tk, rfl⟩⟩, ?_⟩
      rw [e2] at q1
      exact q1 w1 Step.refl S1 _ rfl
    · rw [e2] at q1
      exact q1.elim
  | _ => exact q1.elim
end
end Fw
set_option Elab.async false
set_option linter.all false
set_option maxRecDepth 100000
set_option autoImplicit false
namespace Fw
open PySem PySem.Spec PyProof.Rows L2
theorem ent_cons {s : String} {t u : Tok} {hh i : Int} {es : List DictEntry} {tbl : KTb} (r : Ent es tbl) : Ent (⟨hh, .str (PySem.Str.ofString s) t, .int i u⟩ :: es) ((lit s, i) :: tbl) :=
  ⟨⟨t, by
    show Value.str _ t = Value.str ⟨(PySem.Str.ofString s).cps.toList.toArray⟩ t
    rw [Array.toArray_toList]⟩, ⟨u, rfl⟩, r⟩
theorem kdi_mk {K : PySem.W.Frag} {W : World} {mg : Str → Option Value} {h : Heap} {x : Str} {tbl : KTb} {p : Addr} {es : Array DictEntry} {z : Nat} (X : K.In h) (G : h.Ns mainGlobals mg) (a : PySem.W.nsIn K mainGlobals x = some (some (.ref p)))
    (l : K.lookup p = some ⟨.type "dict", none, .dict es z, #[]⟩) (lk : PySem.W.KeysLit W.params es.toList) (s : (p == sysModules) = false) (en : Ent es.toList tbl) : Kdi K W mg x tbl :=
  ⟨p, es, z, PySem.W.mg_of X G a, ⟨l, lk, s⟩, en⟩
section
variable {X : Cx} {W : WX} {cls : Nat → Option Addr} {a : Expr} {fa : FE} {x : Str} {t : KTb} {p pos : Pos}
theorem st_dNotIn (hg : Gl X x) (T : Kdi X.K X.w X.mg x t) (ha : SE X W cls a fa) (hd : (x == ("__debug__" : Str)) = false := by decide +kernel) (hm : behindInMarks .NotIn (.Name x p) = false := by first | exact nomark _ | rfl) : ST X W cls (.Compare a [.NotIn] [.Name x p] pos) (tB (eDin true t fa)) := by
  obtain ⟨d, es, n, mg, D, en⟩ := T.ex
  obtain ⟨t1, p1, h1⟩ := ha
  refine ⟨_, pt_cmpR (op_notIn_kd D) p1 (pe_glob (v := .ref d) hg mg rfl hd) hm, fun σ Q w ρ μ S E h => ?_⟩
  have h := PostR.bind h
  refine h1 σ _ w ρ μ S E ((PostR.bind h).imp fun w1 e s1 ⟨μ1, S1, q1⟩ v r1 => ?_)
  cases e with
  | str s =>
    obtain ⟨μ2, S2, q2⟩ := q1 w1 Step.refl S1
    have q := q2 w1 Step.refl S2
    rcases ns_found D en s with ⟨k, tk, e1, e2⟩ | ⟨e1, e2⟩
    · refine ⟨_, _, r1, rfl, e1, _, rfl, ?_⟩
      simpa [e2] using q
    · refine ⟨_, _, r1, rfl, e1, _, rfl, ?_⟩
      simpa [e2] using q
  | _ => exact q1.elim
theorem se_addT {b : Expr} {fb : FE} (ha : SE X W cls a fa) (hb : SE X W cls b fb) : SE X W cls (.BinOp a .Add b pos) (eThaw (eBin oAdd fa fb)) := by
  obtain ⟨t1, p1, h1⟩ := ha
  obtain ⟨t2, p2, h2⟩ := hb
  refine ⟨_, pe_op op_cat p1 p2, fun σ Q w ρ μ S E h => ?_⟩
  refine h1 σ _ w ρ μ S E ((PostR.thaw h).imp fun w1 d s1 ⟨μ1, S1, q1⟩ v r1 => ?_)
  refine h2 σ _ w1 ρ μ1 S1 (E.mono s1.kp) ((PostR.thaw q1).imp fun w2 e s2 ⟨μ2, S2, q2⟩ u r2 => ?_)
  have r1 := r1.mono s2.kp
  unfold oAdd at q2
  split at q2
  · exact q2.elim
  · split at q2 <;> exact q2.elim
  · split at q2 <;> exact q2.elim
  · split at q2
    · rename_i a b ha hb
      split at q2
      · rename_i hl
        obtain ⟨l, vs, e1, h1, h2⟩ := lstOf_at S2 r1 ha
        obtain ⟨m, us, e2, h3, h4⟩ := lstOf_at S2 r2 hb
        exact ⟨l, m, vs, us, e1, e2, h1, h3, by rw [h2.length, h4.length]; exact lim_le hl, fun p hp => thaw_new S2 (h2.append h4) q2 hp⟩
      · exact q2.elim
    · exact q2.elim
end
end Fw
set_option Elab.async false
set_option linter.all false
set_option maxRecDepth 100000
set_option maxHeartbeats 2000000
set_option autoImplicit false
namespace Fw
open PySem L2 PyProof.Rows
section
variable {X : Cx} {CX : CXT} {k : Nat} {g C : Addr} {fd : FuncData} {ps : List Str} {sp : Sp} {E : L2.St → XK} {x : Str} {p pos : Pos} {a : Expr} {es : List Expr} {t : TA}
theorem made_at {pins : List (Addr × Obj)} {σ : L2.St} {H : Hp} {s : Shared} {Q : VK} {us : List Value} {vs : List V} {E : XK} (M : Mk X.K C g) (F : FnOk X.prog X.w X.K X.mg X.base CX k g fd ps sp) (room : Room (k + 1) X.A) (bs : Binds X.K fd ps []) (out : PassesAt CX X σ E) (I : Inv X pins σ H s) (rel : Vals vs us)
    (wish : ∀ y dy, H y = none → H dy = none → dy ≠ y → sp (.ref y :: vs) (upd (upd H dy (.own y)) y (.ins C dy [])) (fun v H2 => v = .non ∧ Q (.ref y) H2) E) : wpAny (model X.prog X.w) X.A (call (.ref C) us) (EP X pins σ Q) X.xe s := by
  obtain ⟨n, hn⟩ : ∃ n, n = s.heap.objs.size := ⟨_, rfl⟩
  have J : Inv X pins σ _ _ := Inv.made (C := C) I
  have all : Vals (V.ref (n + 1) :: vs) (Value.ref (n + 1) :: us) := .cons rfl rel
  have todo := wish (n + 1) n (I.hok.fresh (hn ▸ Nat.le_succ _)) (I.hok.fresh (hn ▸ Nat.le_refl _)) (Nat.ne_of_lt (Nat.lt_succ_self n))
  have many := (F.len _ _ _ _ todo).symm.trans all.length
  subst hn
  have body := F.run _ X.stack _ _ ⟨_ :: us, []⟩ _ _ _ E (room.make C us []) (J.env0.make C us []) (by simpa using bs _ _ J.kIn (by simpa using many.symm)) all todo
  refine wpAny_call (make_map (f := g) I.kIn M.makes M.init (beq_iff_eq.mp M.fn) (codeAny_mono body fun r s' got => ?_))
  match r, got with
  | .error e, got => exact out pins _ _ e s' J got
  | .ok (.ret u), got => exact (let ⟨v, H', J', rv, ev, q⟩ := J.after got; by subst ev; exact ⟨rv, .ref _, H', J', rfl, q⟩)
  | .ok .next, got => exact got.elim
  | .ok .brk, got => exact got.elim
  | .ok .cont, got => exact got.elim
theorem pe_makeS (M : Mk X.K C g) (F : FnOk X.prog X.w X.K X.mg X.base CX k g fd ps sp) (hr : Room (k + 1) X.A) (hg : Gl X x) (hm : X.mg x = some (.ref C)) (hb : Binds X.K fd ps []) (hx : ∀ σ, PassesAt CX X σ (E σ)) (ha : PA X (a :: es) t)
    (hdb : (x == ("__debug__" : Str)) = false) (he : starEach (a :: es) X.env = (false, eval a X.env) :: starEach es X.env) (hpl : (backTo pos (starEach es X.env)).any (·.1) = false) : PE X (.Call (.Name x p) (a :: es) [] pos) (fun σ => tMake C sp [] (E σ) t σ) := by
  constructor
  intro pins s σ H Q I h
  have args := thn (ha.run pos pins s σ H _ I h) fun us s1 ⟨vs, H1, I1, r, q⟩ => (⟨I1.kIn, made_at M F hr hb (hx σ) I1 r (by simpa using q)⟩ : _ ∧ _)
  exact wpAny_Call_Name_kw (ld_glob I hg hm (PySem.W.callWith_K (h₀ := X.base) I.ok.mod.kin M.kp args he hpl) hdb)
end
section
variable {X : Cx} {W : WX} {cls : Nat → Option Addr} {c : Nat} {C : Addr} {pos : Pos}
theorem se_makeS (tk : Takes X W) {k n : Nat} {g : Addr} {x : Str} {p : Pos} {a : Expr} {es : List Expr} {fs : FA} {F : List D → Store → Res D} (T : Kl1 X.K cls c C) (M : Mk X.K C g) (G : Dm X.prog X.w X.K cls X.mg X.base k g n F) (hr : Room (k + 1) X.A) (hg : Gl X x) (hm : X.mg x = some (.ref C)) (ha : SA X W cls (a :: es) fs)
    (hdb : (x == ("__debug__" : Str)) = false := by decide +kernel) (he : starEach (a :: es) X.env = (false, eval a X.env) :: starEach es X.env := by rfl) (hpl : (backTo pos (starEach es X.env)).any (·.1) = false := by rfl) :
    SE X W cls (.Call (.Name x p) (a :: es) [] pos) (eMake c n F fs) := by
  obtain ⟨t1, p1, h1⟩ := ha
  obtain ⟨fd, ps, hf, hbd, hl⟩ := G.ex
  refine ⟨_, pe_makeS (E := WE W) M hf hr hg hm hbd (passAt tk) p1 hdb he hpl, fun σ Q w ρ μ S E h => ?_⟩
  refine h1 σ _ w ρ μ S E ((PostR.bind h).imp fun w1 ds s1 ⟨μ1, S1, q1⟩ vs r1 => ?_)
  split at q1
  · rename_i hn
    intro y dy hy hdy hne
    rw [List.append_nil]
    have hy2 : (w1.up dy (.own y)).H y = none := by
      show upd w1.H dy _ y = none
      rw [upd_ne (Ne.symm hne)]
      exact hy
    have S2 := (S1.new (o := .own y) hdy).add (c := .ins c [] []) (o := .ins C dy []) hy2 ⟨C, dy, [], T.at_, upd_same, rfl, rfl⟩
    have st : Step w1 ⟨w1.x, w1.ι ++ [y], w1.B, upd (upd w1.H dy (.own y)) y (.ins C dy [])⟩ := (step_new hdy).trans (step_add hy2)
    refine ⟨_, .loc μ1.length :: ds, μ1 ++ [.ins c [] []], rfl, hn, S2, ⟨.ref y, vs, rfl, ⟨y, rfl, ?_⟩, r1.mono st.kp⟩, ?_⟩
    · show (w1.ι ++ [y])[μ1.length]? = some y
      rw [List.getElem?_append_right (by rw [S1.len]; omega), S1.len, Nat.sub_self]
      rfl
    · cases hF : F (.loc μ1.length :: ds) (μ1 ++ [.ins c [] []]) with
      | stuck => rw [hF] at q1; exact q1.elim
      | err k' ns es μ2 =>
        rw [hF] at q1
        simp only at q1
        split at q1
        · rename_i hcond
          rw [Bool.and_eq_true] at hcond
          intro w' cv d s' S' x
          have stt := st.trans s'
          have hk := kl_cut stt
          rw [S1.len] at hk
          obtain ⟨C', e1, e2, e3⟩ := x
          refine q1 ⟨w1.x, w1.ι, w'.B, w'.H⟩ cv d (step_cut stt) (S1.cut stt S' hcond.2) ⟨C', e1, e2, ?_⟩
          rcases e3 with e3 | ⟨dd, vs, e3, ⟨e4, e5, e6⟩, e7, e8⟩
          · exact .inl e3
          · exact .inr ⟨dd, vs, e3, hk.at_ dd _ e5 e6 e4, e7, RVs.low hk hcond.1 e8⟩
        · exact q1.elim
      | ok d μ2 =>
        rw [hF] at q1
        cases d with
        | non =>
          simp only at q1
          split at q1
          · rename_i c' ns es hm2
            split at q1
            · rename_i hcond
              simp only [Bool.and_eq_true, decide_eq_true_eq] at hcond
              obtain ⟨⟨⟨hcc, hlen⟩, hlow⟩, hall⟩ := hcond
              subst hcc
              intro w' s' S' v rv
              have stt := st.trans s'
              obtain ⟨a', h3, C', dx, us, e2, e3, e4, e5⟩ := S'.cell μ1.length _ hm2
              have hy3 : w'.ι[μ1.length]? = some y := s'.loc (by
                show (w1.ι ++ [y])[μ1.length]? = some y
                rw [List.getElem?_append_right (by rw [S1.len]; omega), S1.len, Nat.sub_self]
                rfl)
              rw [hy3] at h3
              cases h3
              rw [T.at_] at e2
              cases e2
              have hk := kl_cut stt
              rw [S1.len] at hk
              refine ⟨rv, q1 ⟨w1.x, w1.ι, w'.B, w'.H⟩ (step_cut stt) (S1.cut stt S' hall) _ ⟨y, C, dx, us, rfl, T.at_, ⟨e3, (S1.free hy).1, ?_⟩, e4, RVs.low hk hlow e5⟩⟩
              show y ∉ w'.B
              rw [stt.ban]
              exact (S1.free hy).2
            · exact q1.elim
          · exact q1.elim
        | _ => exact q1.elim
  · exact q1.elim
end
end Fw
set_option Elab.async false
set_option linter.all false
set_option maxRecDepth 100000
set_option autoImplicit false
namespace Pg
open PySem L2 Fw
def B_Negativedd__lendd_ : FS :=
  sRet (eCall cLen (aCons (eFld 0 "figures" (eVar 0)) (aNil)))
def M_Negativedd__lendd_ : List D → Store → Res D := mD 1 B_Negativedd__lendd_
def B_Negative_densities : FS :=
  sRet (eFld 0 "figures" (eVar 0))
def M_Negative_densities : List D → Store → Res D := mD 1 B_Negative_densities
def B_Negative_width : FS :=
  sRet (eFld 0 "columns" (eVar 0))
def M_Negative_width : List D → Store → Res D := mD 1 B_Negative_width
def B_is_number : FS :=
  sRet (eAnd (eIsi "int" (eVar 0)) (eAnd (eNot (eIsi "bool" (eVar 0))) (eChain oLe oLe (eVar 1) (eVar 0) (eVar 2))))
def M_is_number : List D → Store → Res D := mD 3 B_is_number
def B_wrong_side : FS :=
  sSeq (sIf (tNot (tB (eCallD 3 M_is_number (aCons (eVar 0) (aCons (eC (.int 1)) (aCons (eC (.int 4)) (aNil))))))) (
  sRet (eC (.str (lit "width")))) (
  sNext)) (
  sSeq (sIf (tOr (tNot (tB (eCallD 3 M_is_number (aCons (eVar 1) (aCons (eC (.int 1)) (aCons (eC (.int 4)) (aNil))))))) (tB (eBin oGt (eBin oMul (eVar 0) (eVar 1)) (eC (.int 9))))) (
  sRet (eC (.str (lit "height")))) (
  sNext)) (
  sRet (eC .non)))
def M_wrong_side : List D → Store → Res D := mD 2 B_wrong_side
def B_wrong_part : FS :=
  sSeq (sAsg (gVar 3) (eCallD 2 M_wrong_side (aCons (eVar 0) (aCons (eVar 1) (aNil))))) (
  sSeq (sIf (tB (eBin oNotN (eVar 3) (eC .non))) (
  sRet (eVar 3)) (
  sNext)) (
  sSeq (sIf (tOr (tB (eBin oNe (eCall (cLenO 0 M_Negativedd__lendd_) (aCons (eVar 2) (aNil))) (eBin oMul (eVar 0) (eVar 1)))) (tNot (tB (eCall cAll (aCons (eLc [4] (iOf (eVar 2)) (gVar 4) (fun _ μ => .ok true μ) (eBin (oIn false) (eVar 4) (eC (.str (lit "01234"))))) (aNil)))))) (
  sRet (eC (.str (lit "densities")))) (
  sNext)) (
  sRet (eC .non))))
def M_wrong_part : List D → Store → Res D := mD 5 B_wrong_part
def B_Negativedd__initdd_ : FS :=
  sSeq (sAsg (gVar 4) (eCallD 3 M_wrong_part (aCons (eVar 1) (aCons (eVar 2) (aCons (eVar 3) (aNil)))))) (
  sSeq (sIf (tB (eBin oNotN (eVar 4) (eC .non))) (
  sNever) (
  sNext)) (
  sSeq (sFld 0 "columns" (eVar 0) (eVar 1)) (
  sSeq (sFld 0 "lines" (eVar 0) (eVar 2)) (
  sFld 0 "figures" (eVar 0) (eVar 3)))))
def M_Negativedd__initdd_ : List D → Store → Res D := mD 5 B_Negativedd__initdd_
def B_l_taken : FS :=
  sSeq (sIf (tB (eBin oGt (eBin oIx (eVar 0) (eC (.int 3))) (eC (.int 0)))) (
  sSeq (sAsg (gVar 2) (eBin oMod (eCall cInt (aCons (eBin oIx (eVar 0) (eC (.int 3))) (aNil))) (eVar 1))) (
  sSeq (sAsg (gIx (eVar 0) (eC (.int 3))) (eBin oFdv (eBin oIx (eVar 0) (eC (.int 3))) (eVar 1))) (
  sRet (eVar 2)))) (
  sNext)) (
  sSeq (sAsg (gIx (eVar 0) (eC (.int 1))) (eBin oAdd (eBin oIx (eVar 0) (eC (.int 1))) (eC (.int 1)))) (
  sSeq (sIf (tB (eBin oGt (eBin oIx (eVar 0) (eC (.int 1))) (eCall (cLenO 0 M_Negativedd__lendd_) (aCons (eBin oIx (eVar 0) (eC (.int 0))) (aNil))))) (
  sSeq (sAsg (gIx (eVar 0) (eC (.int 2))) (eBin oMod (eCall cInt (aCons (eBin oAdd (eBin oMul (eBin oIx (eVar 0) (eC (.int 2))) (eC (.int 48271))) (eC (.int 11))) (aNil))) (eC (.int 2147483647)))) (
  sRet (eBin oMod (eCall cInt (aCons (eBin oFdv (eBin oIx (eVar 0) (eC (.int 2))) (eC (.int 7))) (aNil))) (eVar 1)))) (
  sNext)) (
  sSeq (sAsg (gVar 3) (eBin oIx (eBin oIx (eVar 0) (eC (.int 0))) (eBin oSub (eBin oIx (eVar 0) (eC (.int 1))) (eC (.int 1))))) (
  sSeq (sAsg (gIx (eVar 0) (eC (.int 2))) (eBin oMod (eCall cInt (aCons (eBin oAdd (eBin oAdd (eBin oMul (eBin oIx (eVar 0) (eC (.int 2))) (eC (.int 48271))) (eVar 3)) (eC (.int 11))) (aNil))) (eC (.int 2147483647)))) (
  sSeq (sIf (tB (eBin oGe (eVar 3) (eBin oPow (eC (.int 10)) (eC (.int 18))))) (
  sAsg (gIx (eVar 0) (eC (.int 3))) (eBin oFdv (eVar 3) (eVar 1))) (
  sNext)) (
  sRet (eBin oMod (eCall cInt (aCons (eVar 3) (aNil))) (eVar 1))))))))
def M_l_taken : List D → Store → Res D := mD 4 B_l_taken
end Pg
set_option Elab.async false
set_option linter.all false
set_option maxRecDepth 100000
set_option autoImplicit false
namespace Pg
open PySem L2 Fw
end Pg
set_option Elab.async false
set_option linter.all false
set_option maxRecDepth 100000
set_option autoImplicit false
namespace Pg
open PySem L2 Fw
def B_Negative_height : FS :=
  sRet (eFld 0 "lines" (eVar 0))
def M_Negative_height : List D → Store → Res D := mD 1 B_Negative_height
end Pg
set_option Elab.async false
set_option linter.all false
set_option maxRecDepth 100000
set_option autoImplicit false
namespace Pg
open PySem L2 Fw
def B_l_checked : FS :=
  sSeq (sAsg (gVar 1) (eC (.int 11))) (
  sSeq (sFor (iOf (eVar 0)) (gVar 2) (
  sAsg (gVar 1) (eBin oMod (eCall cInt (aCons (eBin oAdd (eBin oMul (eC (.int 19)) (eVar 1)) (eVar 2)) (aNil))) (eC (.int 223))))) (
  sRet (eBin oAdd (eVar 0) (eLst (aCons (eVar 1) (aNil))))))
def M_l_checked : List D → Store → Res D := mD 3 B_l_checked
def B_checksum : FS :=
  sSeq (sAsg (gVar 1) (eC (.int 11))) (
  sSeq (sFor (iOf (eVar 0)) (gVar 2) (
  sAsg (gVar 1) (eBin oMod (eBin oAdd (eBin oMul (eC (.int 19)) (eVar 1)) (eVar 2)) (eC (.int 223))))) (
  sRet (eVar 1)))
def M_checksum : List D → Store → Res D := mD 3 B_checksum
def B_encode_negative : FS :=
  sSeq (sAsg (gVar 1) (eBin oAdd (eLst (aCons (eC (.int 107)) (aCons (eProp 0 M_Negative_width (eVar 0)) (aCons (eProp 0 M_Negative_height (eVar 0)) (aNil))))) (eLc [2] (iOf (eProp 0 M_Negative_densities (eVar 0))) (gVar 2) (fun _ μ => .ok true μ) (eCall cInt (aCons (eVar 2) (aNil)))))) (
  sRet (eBin oAdd (eVar 1) (eLst (aCons (eCallD 1 M_checksum (aCons (eVar 1) (aNil))) (aNil)))))
def M_encode_negative : List D → Store → Res D := mD 3 B_encode_negative
end Pg
set_option Elab.async false
set_option linter.all false
set_option maxRecDepth 100000
set_option autoImplicit false
namespace Pg
open PySem L2 Fw
def B_Negativedd__initdd__2 : FS :=
  sSeq (sAsg (gVar 4) (eCallD 3 M_wrong_part (aCons (eVar 1) (aCons (eVar 2) (aCons (eVar 3) (aNil)))))) (
  sSeq (sIf (tB (eBin oNotN (eVar 4) (eC .non))) (
  sRaise1 101 "part" (eVar 4)) (
  sNext)) (
  sSeq (sFld 0 "columns" (eVar 0) (eVar 1)) (
  sSeq (sFld 0 "lines" (eVar 0) (eVar 2)) (
  sFld 0 "figures" (eVar 0) (eVar 3)))))
def M_Negativedd__initdd__2 : List D → Store → Res D := mD 5 B_Negativedd__initdd__2
def B_l_negative_3 : FS :=
  sSeq (sPar 2 3 (eBin oAdd (eC (.int 1)) (eCallD 2 M_l_taken (aCons (eVar 0) (aCons (eC (.int 3)) (aNil))))) (eBin oAdd (eC (.int 1)) (eCallD 2 M_l_taken (aCons (eVar 0) (aCons (eVar 1) (aNil)))))) (
  sRet (eMake 0 4 M_Negativedd__initdd__2 (aCons (eVar 2) (aCons (eVar 3) (aCons (eJoin (eC (.str (lit ""))) (eLc [4] (iRange1 (eBin oMul (eVar 2) (eVar 3))) (gVar 4) (fun _ μ => .ok true μ) (eBin oIx (eC (.str (lit "01234"))) (eCallD 2 M_l_taken (aCons (eVar 0) (aCons (eC (.int 5)) (aNil))))))) (aNil))))))
def M_l_negative_3 : List D → Store → Res D := mD 5 B_l_negative_3
def B_check_item_2 : FS :=
  sIf (tOr (tB (eBin oGe (eVar 1) (eCall (cLenO 0 M_Negativedd__lendd_) (aCons (eVar 0) (aNil))))) (tNot (tB (eCallD 3 M_is_number (aCons (eBin oIx (eVar 0) (eVar 1)) (aCons (eVar 2) (aCons (eVar 3) (aNil)))))))) (
  sRaise1 118 "offset" (eVar 1)) (
  sNext)
def M_check_item_2 : List D → Store → Res D := mD 4 B_check_item_2
def B_decode_negative_2 : FS :=
  sSeq (sExpr (eCallD 4 M_check_item_2 (aCons (eVar 0) (aCons (eC (.int 0)) (aCons (eC (.int 107)) (aCons (eC (.int 107)) (aNil))))))) (
  sSeq (sExpr (eCallD 4 M_check_item_2 (aCons (eVar 0) (aCons (eC (.int 1)) (aCons (eC (.int 1)) (aCons (eC (.int 4)) (aNil))))))) (
  sSeq (sExpr (eCallD 4 M_check_item_2 (aCons (eVar 0) (aCons (eC (.int 2)) (aCons (eC (.int 1)) (aCons (eC (.int 4)) (aNil))))))) (
  sSeq (sPar 1 2 (eBin oIx (eVar 0) (eC (.int 1))) (eBin oIx (eVar 0) (eC (.int 2)))) (
  sSeq (sAsg (gVar 3) (eBin oAdd (eC (.int 3)) (eBin oMul (eVar 1) (eVar 2)))) (
  sSeq (sFor (iRange2 (eC (.int 3)) (eVar 3)) (gVar 4) (
  sExpr (eCallD 4 M_check_item_2 (aCons (eVar 0) (aCons (eVar 4) (aCons (eC (.int 0)) (aCons (eC (.int 4)) (aNil)))))))) (
  sSeq (sAsg (gVar 5) (eCallD 1 M_checksum (aCons (eCut (eVar 0) (oNone) (oSome (eVar 3))) (aNil)))) (
  sSeq (sExpr (eCallD 4 M_check_item_2 (aCons (eVar 0) (aCons (eVar 3) (aCons (eVar 5) (aCons (eVar 5) (aNil))))))) (
  sSeq (sIf (tB (eBin oGt (eCall (cLenO 0 M_Negativedd__lendd_) (aCons (eVar 0) (aNil))) (eBin oAdd (eVar 3) (eC (.int 1))))) (
  sRaise1 118 "offset" (eBin oAdd (eVar 3) (eC (.int 1)))) (
  sNext)) (
  sRet (eMake 0 4 M_Negativedd__initdd__2 (aCons (eVar 1) (aCons (eVar 2) (aCons (eJoin (eC (.str (lit ""))) (eLc [6] (iOf (eCut (eVar 0) (oSome (eC (.int 3))) (oSome (eVar 3)))) (gVar 6) (fun _ μ => .ok true μ) (eCall cStr (aCons (eVar 6) (aNil))))) (aNil))))))))))))))
def M_decode_negative_2 : List D → Store → Res D := mD 7 B_decode_negative_2
def B_l_offset : FS :=
  sSeq (sTryAs 1 (sExpr (eCallD 1 M_decode_negative_2 (aCons (eVar 0) (aNil)))) [((fun k => decide (k ∈ [118])), xRet (eXf [118] "offset")), ((fun k => decide (k ∈ [101])), xRet (xTup (xCons ((fun _ _ _ => eC (.str (lit "negative")))) (xCons (eXf [101] "part") ((fun _ _ _ => aNil))))))]) (
  sRet (eC .non))
def M_l_offset : List D → Store → Res D := mD 2 B_l_offset
end Pg
namespace K45
open PySem L2 Fw Pg
def B_law : FS :=
  sSeq (sAsg (gVar 1) (eThaw (eLst (aCons (eVar 0) (aCons (eC (.int 0)) (aCons (eC (.int 0)) (aCons (eC (.int 0)) (aNil)))))))) (
  sSeq (sFor (iRange1 (eC (.int 3))) (gVar 2) (
  sSeq (sAsg (gVar 3) (eCallD 1 M_encode_negative (aCons (eCallD 2 M_l_negative_3 (aCons (eVar 1) (aCons (eC (.int 3)) (aNil)))) (aNil)))) (
  sSeq (sPar 4 5 (eCallD 2 M_l_taken (aCons (eVar 1) (aCons (eCall (cLenO 0 M_Negativedd__lendd_) (aCons (eVar 3) (aNil))) (aNil)))) (eBin oSub (eCall (cLenO 0 M_Negativedd__lendd_) (aCons (eVar 3) (aNil))) (eC (.int 1)))) (
  sSeq (sIf (tOr (tB (eBin oNe (eCallD 1 M_l_offset (aCons (eCut (eVar 3) (oNone) (oSome (eVar 4))) (aNil))) (eVar 4))) (tB (eBin oNe (eCallD 1 M_l_offset (aCons (eBin oAdd (eVar 3) (eLst (aCons (eCallD 2 M_l_taken (aCons (eVar 1) (aCons (eC (.int 256)) (aNil)))) (aNil)))) (aNil))) (eCall (cLenO 0 M_Negativedd__lendd_) (aCons (eVar 3) (aNil)))))) (
  sRet (eC (.bl false))) (
  sNext)) (
  sSeq (sAsg (gVar 6) (eBin oIx (eLst (aCons (eC (.int 256)) (aCons (eBin oSub (eC (.int 0)) (eC (.int 1))) (aCons (eC (.bl true)) (aCons (eC (.bl false)) (aNil)))))) (eCallD 2 M_l_taken (aCons (eVar 1) (aCons (eC (.int 4)) (aNil)))))) (
  sSeq (sIf (tB (eBin oNe (eCallD 1 M_l_offset (aCons (eBin oAdd (eBin oAdd (eCut (eVar 3) (oNone) (oSome (eVar 4))) (eLst (aCons (eVar 6) (aNil)))) (eCut (eVar 3) (oSome (eBin oAdd (eVar 4) (eC (.int 1)))) (oNone))) (aNil))) (eVar 4))) (
  sRet (eC (.bl false))) (
  sNext)) (
  sIf (tB (eBin oNe (eCallD 1 M_l_offset (aCons (eBin oAdd (eCut (eVar 3) (oNone) (oSome (eVar 5))) (eLst (aCons (eBin oMod (eCall cInt (aCons (eBin oAdd (eBin oAdd (eBin oIx (eVar 3) (eVar 5)) (eC (.int 1))) (eCallD 2 M_l_taken (aCons (eVar 1) (aCons (eC (.int 222)) (aNil))))) (aNil))) (eC (.int 223))) (aNil)))) (aNil))) (eVar 5))) (
  sRet (eC (.bl false))) (
  sNext)))))))) (
  sSeq (sAsg (gVar 7) (eLst (aCons (eC (.int 107)) (aCons (eC (.int 2)) (aCons (eC (.int 2)) (aCons (eC (.int 0)) (aCons (eC (.int 4)) (aCons (eC (.int 1)) (aCons (eC (.int 0)) (aNil)))))))))) (
  sSeq (sIf (tB (eBin oNotN (eCallD 1 M_l_offset (aCons (eCallD 1 M_l_checked (aCons (eVar 7) (aNil))) (aNil))) (eC .non))) (
  sRet (eC (.bl false))) (
  sNext)) (
  sSeq (sFor (iOf (eLst (aCons (eTup (aCons (eC (.int 106)) (aCons (eC (.int 0)) (aNil)))) (aCons (eTup (aCons (eC (.int 0)) (aCons (eC (.int 1)) (aNil)))) (aCons (eTup (aCons (eC (.int 5)) (aCons (eC (.int 1)) (aNil)))) (aCons (eTup (aCons (eC (.int 0)) (aCons (eC (.int 2)) (aNil)))) (aCons (eTup (aCons (eC (.int 5)) (aCons (eC (.int 2)) (aNil)))) (aCons (eTup (aCons (eC (.int 5)) (aCons (eC (.int 3)) (aNil)))) (aCons (eTup (aCons (eC (.int 5)) (aCons (eC (.int 6)) (aNil)))) (aCons (eTup (aCons (eC (.int 255)) (aCons (eC (.int 4)) (aNil)))) (aNil))))))))))) (gTup 2 (gCons (gVar 8) (gCons (gVar 9) (gNil)))) (
  sIf (tB (eBin oNe (eCallD 1 M_l_offset (aCons (eCallD 1 M_l_checked (aCons (eBin oAdd (eBin oAdd (eBin oAdd (eCut (eVar 7) (oNone) (oSome (eVar 9))) (eLst (aCons (eVar 8) (aNil)))) (eCut (eVar 7) (oSome (eBin oAdd (eVar 9) (eC (.int 1)))) (oNone))) (eLst (aCons (eC (.int 0)) (aNil)))) (aNil))) (aNil))) (eVar 9))) (
  sRet (eC (.bl false))) (
  sNext))) (
  sRet (eBin oEq (eCallD 1 M_l_offset (aCons (eCallD 1 M_l_checked (aCons (eBin oAdd (eLst (aCons (eC (.int 107)) (aCons (eC (.int 4)) (aCons (eC (.int 3)) (aNil))))) (eBin oMul (eLst (aCons (eC (.int 0)) (aNil))) (eC (.int 12)))) (aNil))) (aNil))) (eTup (aCons (eC (.str (lit "negative"))) (aCons (eC (.str (lit "height"))) (aNil))))))))))
def M_law : List D → Store → Res D := mDf 10 B_law
end K45
set_option Elab.async false
set_option linter.all false
set_option maxRecDepth 100000
set_option autoImplicit false
namespace Pg
open PySem L2 Fw
def B_deed_of : FS :=
  sSeq (sAsg (gVar 1) (eLc [2] (iOf (eCut (eVar 0) (oSome (eC (.int 1))) (oNone))) (gVar 2) (fun _ μ => .ok true μ) (eCall cInt (aCons (eVar 2) (aNil))))) (
  sSeq (sIf (tB (eBin oEq (eBin oIx (eVar 0) (eC (.int 0))) (eC (.str (lit "expose"))))) (
  sRet (eTup (aCons (eC (.str (lit "expose"))) (aCons (eBin oIx (eVar 1) (eC (.int 0))) (aCons (eCall cTuple (aCons (eCut (eVar 1) (oSome (eC (.int 1))) (oNone)) (aNil))) (aNil)))))) (
  sNext)) (
  sRet (eTup (aCons (eBin oIx (eVar 0) (eC (.int 0))) (aStar (eVar 1) (aNil))))))
def M_deed_of : List D → Store → Res D := mD 3 B_deed_of
def B_worded_rows : FS :=
  sSeq (sIf (tB (eBin oEq (eVar 0) (eC (.str (lit ""))))) (
  sRet (eLst (aNil))) (
  sNext)) (
  sRet (eLc [1] (iOf (eSplit (eVar 0) (eC (.str (lit "\n"))))) (gVar 1) (fun _ μ => .ok true μ) (eSplit (eVar 1) (eC (.str (lit " "))))))
def M_worded_rows : List D → Store → Res D := mD 2 B_worded_rows
def B_number_of : FS :=
  sSeq (sIf (tOr (tB (eBin oGt (eCall (cLenO 0 M_Negativedd__lendd_) (aCons (eVar 0) (aNil))) (eC (.int 2)))) (tOr (tNot (tB (eTxt Txt.isascii (eVar 0)))) (tNot (tB (eTxt Txt.isdigit (eVar 0)))))) (
  sRet (eC .non)) (
  sNext)) (
  sSeq (sAsg (gVar 1) (eCall cInt (aCons (eVar 0) (aNil)))) (
  sRet (eIf (tB (eBin oEq (eCall cStr (aCons (eVar 1) (aNil))) (eVar 0))) (eVar 1) (eC .non))))
def M_number_of : List D → Store → Res D := mD 2 B_number_of
def B_wrong_cell : FS :=
  sSeq (sAsg (gVar 3) (eC (.int 0))) (
  sSeq (sFor (iRange2 (eVar 1) (eCall (cLenO 0 M_Negativedd__lendd_) (aCons (eVar 0) (aNil)))) (gVar 4) (
  sSeq (sAsg (gVar 5) (eCallD 1 M_number_of (aCons (eBin oIx (eVar 0) (eVar 4)) (aNil)))) (
  sSeq (sIf (tNot (tB (eCallD 3 M_is_number (aCons (eVar 5) (aCons (eVar 3) (aCons (eBin oSub (eVar 2) (eC (.int 1))) (aNil))))))) (
  sRet (eVar 4)) (
  sNext)) (
  sAsg (gVar 3) (eBin oAdd (eVar 5) (eC (.int 1))))))) (
  sRet (eC .non)))
def M_wrong_cell : List D → Store → Res D := mD 6 B_wrong_cell
def B_wrong_word : FS :=
  sSeq (sIf (tB (eDin true [(lit "expose", 1), (lit "draw", 2), (lit "flip", 0)] (eBin oIx (eVar 0) (eC (.int 0))))) (
  sRet (eC (.int 0))) (
  sNext)) (
  sSeq (sAsg (gVar 2) (eBin oAdd (eC (.int 1)) (eDix [(lit "expose", 1), (lit "draw", 2), (lit "flip", 0)] (eBin oIx (eVar 0) (eC (.int 0)))))) (
  sSeq (sFor (iEnumFrom 1 (eCut (eVar 0) (oSome (eC (.int 1))) (oSome (eVar 2)))) (gTup 2 (gCons (gVar 3) (gCons (gVar 4) (gNil)))) (
  sIf (tNot (tB (eCallD 3 M_is_number (aCons (eCallD 1 M_number_of (aCons (eVar 4) (aNil))) (aCons (eC (.int 1)) (aCons (eC (.int 99)) (aNil))))))) (
  sRet (eVar 3)) (
  sNext))) (
  sSeq (sIf (tB (eBin oLt (eCall (cLenO 0 M_Negativedd__lendd_) (aCons (eVar 0) (aNil))) (eVar 2))) (
  sRet (eCall (cLenO 0 M_Negativedd__lendd_) (aCons (eVar 0) (aNil)))) (
  sNext)) (
  sSeq (sIf (tB (eBin oEq (eBin oIx (eVar 0) (eC (.int 0))) (eC (.str (lit "expose"))))) (
  sRet (eCallD 3 M_wrong_cell (aCons (eVar 0) (aCons (eVar 2) (aCons (eVar 1) (aNil)))))) (
  sNext)) (
  sRet (eIf (tB (eBin oGt (eCall (cLenO 0 M_Negativedd__lendd_) (aCons (eVar 0) (aNil))) (eVar 2))) (eVar 2) (eC .non)))))))
def M_wrong_word : List D → Store → Res D := mD 5 B_wrong_word
def B_read_recipe : FS :=
  sSeq (sAsg (gVar 2) (eThaw (eLst (aNil)))) (
  sSeq (sFor (iEnumD (eCallD 1 M_worded_rows (aCons (eVar 1) (aNil)))) (gTup 2 (gCons (gVar 3) (gCons (gVar 4) (gNil)))) (
  sSeq (sAsg (gVar 5) (eIf (tB (eBin oEq (eVar 3) (eC (.int 8)))) (eC (.int 0)) (eCallD 2 M_wrong_word (aCons (eVar 4) (aCons (eCall (cLenO 0 M_Negativedd__lendd_) (aCons (eVar 0) (aNil))) (aNil)))))) (
  sSeq (sIf (tB (eBin oNotN (eVar 5) (eC .non))) (
  sRaise2 117 "row" "word" (eVar 3) (eVar 5)) (
  sNext)) (
  sExpr (eLm oApp (eVar 2) (eCallD 1 M_deed_of (aCons (eVar 4) (aNil)))))))) (
  sRet (eCall cTuple (aCons (eVar 2) (aNil)))))
def M_read_recipe : List D → Store → Res D := mDf 6 B_read_recipe
def B_l_place : FS :=
  sSeq (sTryAs 1 (sExpr (eCallD 2 M_read_recipe (aCons (eMake 0 4 M_Negativedd__initdd__2 (aCons (eC (.int 3)) (aCons (eC (.int 2)) (aCons (eC (.str (lit "012340"))) (aNil))))) (aCons (eJoin (eC (.str (lit "\n"))) (eVar 0)) (aNil))))) [((fun k => decide (k ∈ [117])), xRet (xTup (xCons (eXf [117] "row") (xCons (eXf [117] "word") ((fun _ _ _ => aNil))))))]) (
  sRet (eC .non))
def M_l_place : List D → Store → Res D := mD 2 B_l_place
end Pg
namespace K43
open PySem L2 Fw Pg
def B_law : FS :=
  sSeq (sAsg (gVar 1) (eThaw (eLst (aCons (eVar 0) (aCons (eC (.int 0)) (aCons (eC (.int 0)) (aCons (eC (.int 0)) (aNil)))))))) (
  sSeq (sAsg (gVar 2) (eLst (aCons (eC (.str (lit "expose 99 0 2 5"))) (aCons (eC (.str (lit "draw 1 99"))) (aCons (eC (.str (lit "flip"))) (aCons (eC (.str (lit "expose 1"))) (aCons (eC (.str (lit "draw 20 3"))) (aNil)))))))) (
  sSeq (sIf (tB (eBin oNotN (eCallD 1 M_l_place (aCons (eVar 2) (aNil))) (eC .non))) (
  sRet (eC (.bl false))) (
  sNext)) (
  sSeq (sAsg (gVar 3) (eThaw (eLst (aCons (eTup (aCons (eC (.str (lit ""))) (aCons (eC (.int 0)) (aNil)))) (aCons (eTup (aCons (eC (.str (lit "exposes 5"))) (aCons (eC (.int 0)) (aNil)))) (aCons (eTup (aCons (eC (.str (lit "expose"))) (aCons (eC (.int 1)) (aNil)))) (aCons (eTup (aCons (eC (.str (lit "expose 0"))) (aCons (eC (.int 1)) (aNil)))) (aCons (eTup (aCons (eC (.str (lit "expose 100"))) (aCons (eC (.int 1)) (aNil)))) (aCons (eTup (aCons (eC (.str (lit "expose 05"))) (aCons (eC (.int 1)) (aNil)))) (aNil)))))))))) (
  sSeq (sExpr (eLm oApp (eVar 3) (eTup (aCons (eC (.str (lit "expose 5 6"))) (aCons (eC (.int 2)) (aNil)))))) (
  sSeq (sAsg (gVar 3) (eThaw (eBin oAdd (eVar 3) (eLst (aCons (eTup (aCons (eC (.str (lit "expose 5 1 1"))) (aCons (eC (.int 3)) (aNil)))) (aCons (eTup (aCons (eC (.str (lit "expose 5 2 1"))) (aCons (eC (.int 3)) (aNil)))) (aCons (eTup (aCons (eC (.str (lit "expose 5 0 "))) (aCons (eC (.int 3)) (aNil)))) (aCons (eTup (aCons (eC (.str (lit "expose  5"))) (aCons (eC (.int 1)) (aNil)))) (aCons (eTup (aCons (eC (.str (lit "expose 5 x"))) (aCons (eC (.int 2)) (aNil)))) (aNil)))))))))) (
  sSeq (sAsg (gVar 3) (eThaw (eBin oAdd (eVar 3) (eLst (aCons (eTup (aCons (eC (.str (lit "expose 5 -1"))) (aCons (eC (.int 2)) (aNil)))) (aCons (eTup (aCons (eC (.str (lit "expose 5 0 2 9"))) (aCons (eC (.int 4)) (aNil)))) (aCons (eTup (aCons (eC (.str (lit "draw"))) (aCons (eC (.int 1)) (aNil)))) (aCons (eTup (aCons (eC (.str (lit "draw 5"))) (aCons (eC (.int 2)) (aNil)))) (aNil))))))))) (
  sSeq (sAsg (gVar 3) (eThaw (eBin oAdd (eVar 3) (eLst (aCons (eTup (aCons (eC (.str (lit "draw 0 5"))) (aCons (eC (.int 1)) (aNil)))) (aCons (eTup (aCons (eC (.str (lit "draw 5 0"))) (aCons (eC (.int 2)) (aNil)))) (aNil))))))) (
  sSeq (sAsg (gVar 3) (eThaw (eBin oAdd (eVar 3) (eLst (aCons (eTup (aCons (eC (.str (lit "draw 5 5 5"))) (aCons (eC (.int 3)) (aNil)))) (aCons (eTup (aCons (eC (.str (lit "draw 5 100"))) (aCons (eC (.int 2)) (aNil)))) (aCons (eTup (aCons (eC (.str (lit "draw 5 05"))) (aCons (eC (.int 2)) (aNil)))) (aCons (eTup (aCons (eC (.str (lit "flip 1"))) (aCons (eC (.int 1)) (aNil)))) (aCons (eTup (aCons (eC (.str (lit "flip "))) (aCons (eC (.int 1)) (aNil)))) (aCons (eTup (aCons (eC (.str (lit " flip"))) (aCons (eC (.int 0)) (aNil)))) (aNil))))))))))) (
  sSeq (sAsg (gVar 3) (eThaw (eBin oAdd (eVar 3) (eLst (aCons (eTup (aCons (eC (.str (lit "Flip"))) (aCons (eC (.int 0)) (aNil)))) (aCons (eTup (aCons (eC (.str (lit "expose 5 00"))) (aCons (eC (.int 2)) (aNil)))) (aCons (eTup (aCons (eC (.str (lit "draw x 5"))) (aCons (eC (.int 1)) (aNil)))) (aCons (eTup (aCons (eC (.str (lit "draw 5 5 "))) (aCons (eC (.int 3)) (aNil)))) (aNil))))))))) (
  sSeq (sFor (iRange1 (eC (.int 10))) (gVar 4) (
  sSeq (sAsg (gVar 5) (eCallD 2 M_l_taken (aCons (eVar 1) (aCons (eC (.int 6)) (aNil))))) (
  sSeq (sAsg (gTup 2 (gCons (gVar 6) (gCons (gVar 7) (gNil)))) (eBin oIx (eVar 3) (eCallD 2 M_l_taken (aCons (eVar 1) (aCons (eCall (cLenO 0 M_Negativedd__lendd_) (aCons (eVar 3) (aNil))) (aNil)))))) (
  sSeq (sIf (tB (eBin oNe (eCallD 1 M_l_place (aCons (eBin oAdd (eBin oAdd (eCut (eVar 2) (oNone) (oSome (eVar 5))) (eLst (aCons (eVar 6) (aNil)))) (eCut (eVar 2) (oSome (eVar 5)) (oNone))) (aNil))) (eTup (aCons (eVar 5) (aCons (eVar 7) (aNil)))))) (
  sRet (eC (.bl false))) (
  sNext)) (
  sSeq (sAsg (gVar 8) (eBin oAdd (eC (.int 5)) (eCallD 2 M_l_taken (aCons (eVar 1) (aCons (eC (.int 7)) (aNil)))))) (
  sIf (tB (eBin oNe (eCallD 1 M_l_place (aCons (eBin oMul (eLst (aCons (eBin oIx (eVar 2) (eCallD 2 M_l_taken (aCons (eVar 1) (aCons (eC (.int 5)) (aNil))))) (aNil))) (eVar 8)) (aNil))) (eIf (tB (eBin oGt (eVar 8) (eC (.int 8)))) (eTup (aCons (eC (.int 8)) (aCons (eC (.int 0)) (aNil)))) (eC .non)))) (
  sRet (eC (.bl false))) (
  sNext))))))) (
  sRet (eC (.bl true)))))))))))))
def M_law : List D → Store → Res D := mDf 9 B_law
end K43
set_option Elab.async false
set_option linter.all false
set_option maxRecDepth 100000
set_option autoImplicit false
namespace Pg
open PySem L2 Fw
theorem cLenO_ev {F : List D → Store → Res D} {d : D} {μ : Store} (h : insOf 0 μ d = none) : cLenO 0 F [d] μ = cLen [d] μ := by simp [cLenO, h]
def Row0 (c : Cell) : Prop := ∃ (ns : List Int) (a b d : Int), ns.length ≤ 63 ∧ c = .lst [.flst ns, .int a, .int b, .int d] ∧ 0 ≤ a
theorem ixN_in {n : Nat} {i : Int} (h : 0 ≤ i) (h2 : i < n) : ixN n i = some i.toNat := by simp [ixN, h, h2]
theorem atI_in {α : Type} {xs : List α} {i : Int} (h : 0 ≤ i) (h2 : i < xs.length) : atI xs i = xs[i.toNat]? := by simp [atI, ixN_in h h2]
theorem oPow18 {μ : Store} : oPow (.int 10) (.int 18) μ = .ok (.int 1000000000000000000) μ := by rfl
structure Sz (w h n : Nat) : Prop where
  w1 : 1 ≤ w
  w4 : w ≤ 4
  h1 : 1 ≤ h
  h4 : h ≤ 4
  n1 : 1 ≤ n
  n9 : n ≤ 9
  e : w * h = n
theorem mulN {w h n : Nat} (s : Sz w h n) {μ : Store} : oMul (.int (w : Nat)) (.int (h : Nat)) μ = .ok (.int (n : Nat)) μ := by
  rw [oMul_int, ← s.e]
  · simp
  · have := s.w4
    have : Sm (w : Nat) = true := by simp [Sm]; omega
    simp [this]
@[simp] theorem l01234 : lit "01234" = [48, 49, 50, 51, 52] := by decide +kernel
@[simp] theorem l02 : lit "02" = [48, 50] := by decide +kernel
@[simp] theorem l4 : lit "4" = [52] := by decide +kernel
@[simp] theorem l0 : lit "0" = [48] := by decide +kernel
@[simp] theorem lE : lit "" = [] := by decide +kernel
def OkT (n : Nat) (T : List Nat) : Prop := T.length = n ∧ ∀ c ∈ T, 48 ≤ c ∧ c ≤ 52
theorem len_rg {n : Nat} : (rg n).length = n := by simp [rg]
inductive Deed where
  | flip
  | draw (t s : Int)
  | expo (t : Int) (m : List Nat)
@[simp] theorem len_flip : lit "flip" = [102, 108, 105, 112] := by decide +kernel
@[simp] theorem len_draw : lit "draw" = [100, 114, 97, 119] := by decide +kernel
@[simp] theorem len_expo : lit "expose" = [101, 120, 112, 111, 115, 101] := by decide +kernel
def encD : Deed → D
  | .flip => .tup [.str [102, 108, 105, 112]]
  | .draw t s => .tup [.str [100, 114, 97, 119], .int t, .int s]
  | .expo t m => .tup [.str [101, 120, 112, 111, 115, 101], .int t, .tup (m.map fun k => .int (k : Nat))]
def isF : Deed → Bool
  | .flip => true
  | _ => false
def tk (w c : Nat) : Deed → Int
  | .flip => 0
  | .draw t s => if t - s * ((c % w : Nat) : Int) > 0 then t - s * ((c % w : Nat) : Int) else 0
  | .expo t m => if c ∈ m then 0 else t
def stp (w c : Nat) (q : Bool × Int × Int) (d : Deed) : Bool × Int × Int :=
  if (q.1 != isF d) = true then (true, q.2.1, q.2.2 + tk w c d) else (false, q.2.1 + tk w c d, q.2.2)
def op (w : Nat) (R : List Deed) (c : Nat) : Bool × Int × Int := R.foldl (stp w c) (false, 0, 0)
theorem d1 {t s : Int} {μ : Store} : oIx (encD (.draw t s)) (.int 1) μ = .ok (.int t) μ := (rfl)
theorem d2 {t s : Int} {μ : Store} : oIx (encD (.draw t s)) (.int 2) μ = .ok (.int s) μ := (rfl)
theorem x1 {t : Int} {m : List Nat} {μ : Store} : oIx (encD (.expo t m)) (.int 1) μ = .ok (.int t) μ := (rfl)
theorem x2 {t : Int} {m : List Nat} {μ : Store} : oIx (encD (.expo t m)) (.int 2) μ = .ok (.tup (m.map fun k => .int (k : Nat))) μ := (rfl)
def mir (w c : Nat) : Nat := c / w * w + w - 1 - c % w
def wt (ch : Nat) : Int := if ch = 48 then 16 else if ch = 49 then 8 else if ch = 50 then 4 else if ch = 51 then 2 else 1
def W (T : List Nat) (c : Nat) : Int := wt (T.getD c 48)
def lt (w : Nat) (T : List Nat) (R : List Deed) (c : Nat) : Int := (op w R c).2.1 * W T c + (op w R c).2.2 * W T (mir w c)
theorem is_number {v a b : Int} {μ : Store} : M_is_number [.int v, .int a, .int b] μ = .ok (.bl (decide (a ≤ v) && decide (v ≤ b))) μ := by
  have e1 : ∀ (ρ : Fw.Env) μ, eIsi "int" (eVar 0) (some (.int v) :: ρ) μ = .ok (.bl true) μ := fun ρ μ => by rfl
  have e2 : ∀ (ρ : Fw.Env) μ, eIsi "bool" (eVar 0) (some (.int v) :: ρ) μ = .ok (.bl false) μ := fun ρ μ => by rfl
  unfold M_is_number B_is_number
  by_cases h : a ≤ v
  all_goals simp_arith [e1, e2, Bool.not_false, eChain_ev, oLe_int, h, decide_true, decide_false, Bool.false_eq_true, if_false, Bool.true_and, Bool.false_and]
theorem wrong_side {w h n : Nat} (hs : Sz w h n) {μ : Store} : M_wrong_side [.int (w : Nat), .int (h : Nat)] μ = .ok .non μ := by
  have := hs.w1
  have := hs.w4
  have := hs.h1
  have := hs.h4
  have := hs.n9
  unfold M_wrong_side B_wrong_side
  simp_arith [is_number, show (1 : Int) ≤ (w : Nat) from by omega, show ((w : Nat) : Int) ≤ 4 from by omega, show (1 : Int) ≤ (h : Nat) from by omega, show ((h : Nat) : Int) ≤ 4 from by omega, decide_true, Bool.and_self, Bool.not_true, Bool.false_eq_true, if_false, mulN hs, oGt_int, show ¬ (9 : Int) < (n : Nat) from by omega, decide_false]
def neg (w h : Nat) (T : List Nat) : D := .obj 0 ["columns", "lines", "figures"] [.int (w : Nat), .int (h : Nat), .str T]
theorem fig {w h : Nat} {T : List Nat} : ((["columns", "lines", "figures"] : List Str).zip [D.int (w : Nat), D.int (h : Nat), D.str T]).lookup ("figures" : Str) = some (.str T) := by rfl
theorem col {w h : Nat} {T : List Nat} : ((["columns", "lines", "figures"] : List Str).zip [D.int (w : Nat), D.int (h : Nat), D.str T]).lookup ("columns" : Str) = some (.int (w : Nat)) := by rfl
theorem lenT {n : Nat} {T : List Nat} (ok : OkT n T) (h : n ≤ 9) {μ : Store} : cLen [.str T] μ = .ok (.int (n : Nat)) μ := by
  have hL : T.length ≤ LIM := by rw [ok.1]; show _ ≤ 1000000; omega
  rw [ok.1] at hL
  simp only [cLen, ok.1, hL, if_true]
theorem blsAll : ∀ {T : List Nat} {p : Nat → Bool}, (∀ c ∈ T, p c = true) → blsOf (T.map fun c => D.bl (p c)) = some (T.map p) ∧ (T.map p).all id = true
  | [], p, _ => ⟨rfl, rfl⟩
  | c :: T, p, h => by
    have := blsAll (T := T) (p := p) (fun c hc => h c (by simp [hc]))
    simp [blsOf, this.1, h c (by simp)]
    simpa using this.2
theorem lc_map {items : List D} {v : Nat} {fe : FE} {ρ : Fw.Env} {μ : Store} {ds : List D} {f : D → D} (hn : ds.length ≤ 1000000) (hv : v < ρ.length) (h : ∀ d ∈ ds, fe (ρ.set v (some d)) μ = .ok (f d) μ) :
    lcL items none (gVar v) (fun _ μ => .ok true μ) fe ρ ds μ [] = .ok (.lst (ds.map f)) μ := by
  have := lc_pure (items := items) (g := gVar v) (ft := fun _ μ => .ok true μ) (fe := fe) (ρ := ρ) (μ := μ) (fun _ => true) f (ds := ds) (acc := [])
    (fun d hd => ⟨_, by rw [gVar_ev, if_pos hv], rfl, fun _ => h d hd⟩)
    (by exact (Nat.zero_add _).symm ▸ hn)
  rw [this]
  have e : ds.filter (fun _ => true) = ds := List.filter_eq_self.mpr (fun _ _ => rfl)
  rw [e]; rfl
theorem wrong_part {w h n : Nat} (hs : Sz w h n) {T : List Nat} (ok : OkT n T) {μ : Store} : M_wrong_part [.int (w : Nat), .int (h : Nat), .str T] μ = .ok .non μ := by
  have e := lc_map (items := T.map fun c => D.str [c]) (v := 4) (fe := eBin (oIn false) (eVar 4) (eC (.str (lit "01234")))) (ρ := [some (.int (w : Nat)), some (.int (h : Nat)), some (.str T), some .non, none]) (μ := μ) (ds := T.map fun c => D.str [c]) (f := fun _ => .bl true)
    (by have := ok.1; have := hs.n9; simp; omega) (by simp) (fun d hd => by
      obtain ⟨c, hc, rfl⟩ := List.mem_map.mp hd
      have := ok.2 c hc
      have : c ∈ [48, 49, 50, 51, 52] := by simp; omega
      simp_arith [l01234]
      simp only [oIn, this, decide_true, Bool.false_eq_true, if_false])
  have e3 : ∀ μ, cAll [.lst ((T.map fun c => D.str [c]).map fun _ => D.bl true)] μ = .ok (.bl true) μ := fun μ => by
    have := blsAll (T := T) (p := fun _ => true) (fun _ _ => rfl)
    simp only [List.map_map, Function.comp_def, cAll, lstOf, this]
  have e4 : ∀ μ, cLenO 0 M_Negativedd__lendd_ [.str T] μ = .ok (.int (n : Nat)) μ := fun μ => by
    rw [cLenO_ev rfl]; exact lenT ok hs.n9
  unfold M_wrong_part B_wrong_part
  simp_arith [wrong_side hs, oNotN_ev, D.isNon, Bool.not_true, Bool.false_eq_true, if_false, e4, mulN hs, oNe_int, decide_true, e, e3]
theorem make {w h n : Nat} (hs : Sz w h n) {T : List Nat} (ok : OkT n T) {ρ : Fw.Env} {μ : Store} {fs : FA} (hμ : μ.all (lowC μ.length) = true) (hf : fs ρ μ = .ok [.int (w : Nat), .int (h : Nat), .str T] μ) :
    eMake 0 4 M_Negativedd__initdd_ fs ρ μ = .ok (neg w h T) μ := by
  have e : M_Negativedd__initdd_ [.loc μ.length, .int (w : Nat), .int (h : Nat), .str T] (μ ++ [.ins 0 [] []]) = .ok .non (μ ++ [.ins 0 ["columns", "lines", "figures"] [.int (w : Nat), .int (h : Nat), .str T]]) := by
    have p1 : ∀ e, putNs ("columns" : Str) [] = (["columns"] : List Str) ∧ putXs (α := D) ("columns" : Str) e [] [] = [e] := fun e => ⟨rfl, rfl⟩
    have p2 : ∀ a e, putNs ("lines" : Str) ["columns"] = (["columns", "lines"] : List Str) ∧ putXs (α := D) ("lines" : Str) e ["columns"] [a] = [a, e] := fun a e => ⟨rfl, rfl⟩
    have p3 : ∀ a b e, putNs ("figures" : Str) ["columns", "lines"] = (["columns", "lines", "figures"] : List Str) ∧ putXs (α := D) ("figures" : Str) e ["columns", "lines"] [a, b] = [a, b, e] := fun a b e => ⟨rfl, rfl⟩
    unfold M_Negativedd__initdd_ B_Negativedd__initdd_
    simp_arith [wrong_part hs ok, oNotN_ev, D.isNon, Bool.not_true, Bool.false_eq_true, if_false, sFld_ev, getElem?_mid, set_mid, (p1 .non).1, (p1 _).2, (p2 .non .non).1, (p2 _ _).2, (p3 .non .non .non).1, (p3 _ _ _).2, true_and]
  rw [eMake_ev, hf]
  have t : (μ ++ [Cell.ins 0 ["columns", "lines", "figures"] [D.int (w : Nat), D.int (h : Nat), D.str T]]).take μ.length = μ := by simp
  simp_arith [e, getElem?_mid, t, hμ, lows, low, Bool.and_self, decide_true, List.length_append]
  rfl
abbrev nI (L : List Nat) : List D := L.map fun k => .int (k : Nat)
def tn (S : List Nat) (L : Int) : Nat := (S.filter fun s : Nat => decide ((s : Int) ≤ L)).length
end Pg
set_option Elab.async false
set_option linter.all false
set_option maxRecDepth 100000
set_option autoImplicit false
namespace Pg
open PySem L2 Fw
theorem for_step {items ds : List D} {g : D → Fw.Env → Store → Res Fw.Env} {body : FS} {d : D} {ρ ρ1 ρ2 : Fw.Env} {μ μ1 μ2 : Store} (hg : g d ρ μ = .ok ρ1 μ1) (hb : body ρ1 μ1 = .nx ρ2 μ2) : forL items none g body (d :: ds) ρ μ = forL items none g body ds ρ2 μ2 := by
  rw [for_cons, hg, rS_ok, hb]
theorem taken {c : Cell} {r : Store} {m : Int} (hc : Row0 c) (h0 : 0 < m) (hm : m < 1073741824) : ∃ (k : Int) (c' : Cell), M_l_taken [.loc 0, .int m] (c :: r) = .ok (.int k) (c' :: r) ∧ Row0 c' ∧ 0 ≤ k ∧ k < m := by
  obtain ⟨ns, a, b, d, hn, rfl, ha⟩ := hc
  unfold M_l_taken B_l_taken
  by_cases h : 0 < d
  · refine ⟨d % m, .lst [.flst ns, .int a, .int b, .int (d / m)], ?_, ⟨ns, a, b, _, hn, rfl, ha⟩, Int.emod_nonneg _ (by omega), Int.emod_lt_of_pos _ h0⟩
    simp [oIx, seqOf, ixN, atI, h, oMod_int h0, oFdv_int h0 hm, List.replicate]
  · by_cases h2 : (ns.length : Int) < a + 1
    · refine ⟨(b * 48271 + 11) % 2147483647 / 7 % m, .lst [.flst ns, .int (a + 1), .int ((b * 48271 + 11) % 2147483647), .int d], ?_, ⟨ns, _, _, _, hn, rfl, by omega⟩, Int.emod_nonneg _ (by omega), Int.emod_lt_of_pos _ h0⟩
      simp [oIx, seqOf, ixN, atI, h, oMod_int, oFdv_int, List.replicate, cLenO, insOf, cLen, h2, oMul_int, Sm, h0]
    · have hi : ∃ x, ns[a.toNat]? = some x := by
        rw [List.getElem?_eq_getElem (by omega)]; exact ⟨_, rfl⟩
      obtain ⟨x, hx⟩ := hi
      refine ⟨x % m, .lst [.flst ns, .int (a + 1), .int ((b * 48271 + x + 11) % 2147483647), .int (if 1000000000000000000 ≤ x then x / m else d)], ?_, ⟨ns, _, _, _, hn, rfl, by omega⟩, Int.emod_nonneg _ (by omega), Int.emod_lt_of_pos _ h0⟩
      have e : atI (ns.map D.int) a = some (.int x) := by
        rw [atI_in (by omega) (by simp; omega)]; simp [hx]
      by_cases h4 : 1000000000000000000 ≤ x
      all_goals simp [oIx, seqOf, ixN, h, oMod_int, oFdv_int h0 hm, List.replicate, cLenO, insOf, cLen, h2, oMul_int, Sm, h0, oPow18, h4, e, show ∀ (a b c d : D) , atI [a, b, c, d] 0 = some a from fun _ _ _ _ => rfl, show ∀ (a b c d : D) , atI [a, b, c, d] 1 = some b from fun _ _ _ _ => rfl, show ∀ (a b c d : D) , atI [a, b, c, d] 2 = some c from fun _ _ _ _ => rfl, show ∀ (a b c d : D) , atI [a, b, c, d] 3 = some d from fun _ _ _ _ => rfl]
end Pg
set_option Elab.async false
set_option linter.all false
set_option maxRecDepth 100000
set_option autoImplicit false
namespace Pg
open PySem L2 Fw
end Pg
set_option Elab.async false
set_option linter.all false
set_option maxRecDepth 100000
set_option autoImplicit false
namespace Pg
open PySem L2 Fw
end Pg
set_option Elab.async false
set_option linter.all false
set_option maxRecDepth 100000
set_option autoImplicit false
namespace Pg
open PySem L2 Fw
def add (w : Nat) (T : List Nat) (b : Bool) (d : Deed) (c : Nat) : Int := tk w c d * W T (if b = true then mir w c else c)
def val (w : Nat) (T : List Nat) (c : Nat) (q : Bool × Int × Int) : Int := q.2.1 * W T c + q.2.2 * W T (mir w c)
end Pg
set_option Elab.async false
set_option linter.all false
set_option maxRecDepth 100000
set_option autoImplicit false
namespace Pg
open PySem L2 Fw
def Go (Q : SR → Prop) (r : SR) : Prop := Q r
def NxQ (I : Fw.Env → Store → Prop) (r : SR) : Prop := ∃ ρ μ, r = .nx ρ μ ∧ I ρ μ
def thenQ (b : FS) (Q : SR → Prop) (r : SR) : Prop := match r with
  | .nx ρ μ => Go Q (b ρ μ)
  | r => Q r
def toR (r : SR) : Res D := match r with
  | .rt d μ' => .ok d μ'
  | .nx _ μ' => .ok .non μ'
  | .er k ns es _ μ' => .err k ns es μ'
  | _ => .stuck
section
variable {Q : SR → Prop} {items : List D} {g : D → Fw.Env → Store → Res Fw.Env} {body a b : FS} {ρ ρ1 : Fw.Env} {μ μ1 : Store} {n : Nat} {ds : List D} {res : Res D} {fe : FE} {c : FT} {fi : FI} {I : Fw.Env → Store → Prop} {d : D}
theorem mD_P {P : Res D → Prop} (h : Go (fun r => P (toR r)) (a (ds.map some ++ List.replicate (n - ds.length) none) μ)) : P (mD n a ds μ) := by
  rw [mD_ev]
  exact h
theorem go_seq (h : a ρ μ = .nx ρ1 μ1) (k : Go Q (b ρ1 μ1)) : Go Q (sSeq a b ρ μ) := by
  show Q _
  rw [sSeq_ev, h]; exact k
theorem go_seqC (h : Go (thenQ b Q) (a ρ μ)) : Go Q (sSeq a b ρ μ) := by
  show Q _
  rw [sSeq_ev]
  unfold Go thenQ at h
  split <;> simp_all [Go]
theorem go_then (k : Go Q (b ρ μ)) : thenQ b Q (.nx ρ μ) := k
theorem go_ret (h : fe ρ μ = .ok d μ1) (k : Q (.rt d μ1)) : Go Q (sRet fe ρ μ) := by
  show Q _
  rw [sRet_ev, h]; exact k
theorem go_for {it : List D} {src : Option Nat} (h : fi ρ μ = .ok (it, src) μ1) (k : Go Q (forL it src g body it ρ μ1)) : Go Q (sFor fi g body ρ μ) := by
  show Q _
  rw [sFor_ev, h]; exact k
theorem nxq (h : I ρ μ) : NxQ I (.nx ρ μ) := ⟨_, _, rfl, h⟩
theorem go_ix (J : Nat → Fw.Env → Store → Prop) (hJ : J 0 ρ μ)
    (h : ∀ (i : Nat) (d : D), ds[i]? = some d → ∀ ρ μ, J i ρ μ → ∃ ρ1 μ1, g d ρ μ = .ok ρ1 μ1 ∧ Go (NxQ (J (i + 1))) (body ρ1 μ1))
    (k : ∀ ρ' μ', J ds.length ρ' μ' → Q (.nx ρ' μ')) : Go Q (forL items none g body ds ρ μ) := by
  show Q _
  induction ds generalizing J ρ μ with
  | nil => rw [for_nil]; exact k _ _ hJ
  | cons d ds ih =>
    obtain ⟨ρ1, μ1, h1, ρ2, μ2, h2, h3⟩ := h 0 d rfl ρ μ hJ
    rw [for_step h1 h2]
    exact ih (fun i => J (i + 1)) h3 (fun i d' hd ρ μ hj => h (i + 1) d' (by simpa using hd) ρ μ hj) (fun ρ' μ' hj => k ρ' μ' (by simpa using hj))
theorem rg_get {n i : Nat} {d : D} (h : (rg n)[i]? = some d) : i < n ∧ d = .int (i : Nat) := by
  have hi : i < (rg n).length := (List.getElem?_eq_some_iff.mp h).1
  rw [len_rg] at hi
  refine ⟨hi, ?_⟩
  simp [rg, List.getElem?_range hi] at h
  exact h.symm
theorem go_rg {n : Nat} (J : Nat → Fw.Env → Store → Prop) (hJ : J 0 ρ μ)
    (h : ∀ i : Nat, i < n → ∀ ρ μ, J i ρ μ → ∃ ρ1 μ1, g (.int (i : Nat)) ρ μ = .ok ρ1 μ1 ∧ Go (NxQ (J (i + 1))) (body ρ1 μ1))
    (k : ∀ ρ' μ', J n ρ' μ' → Q (.nx ρ' μ')) : Go Q (forL items none g body (rg n) ρ μ) :=
  go_ix J hJ (fun i d hd ρ μ hj => by obtain ⟨h1, rfl⟩ := rg_get hd; exact h i h1 ρ μ hj) (fun ρ' μ' hj => k ρ' μ' (by rwa [len_rg] at hj))
/-- one more draw -/
theorem takenI {c : Cell} {r : Store} {m : Int} (hc : Row0 c) (h0 : 0 < m) (hm : m < 1000000000) : ∃ (k : Nat) (c' : Cell), M_l_taken [.loc 0, .int m] (c :: r) = .ok (.int (k : Nat)) (c' :: r) ∧ Row0 c' ∧ (k : Int) < m := by
  obtain ⟨k, c', e, h, h2, h3⟩ := taken (r := r) hc h0 (by omega)
  exact ⟨k.toNat, c', by rw [e]; congr 2; omega, h, by omega⟩
end
theorem go_not {Q : SR → Prop} {a b : FS} {c : FT} {ρ : Fw.Env} {μ μ1 : Store} (h : c ρ μ = .ok false μ1) (k : Go Q (b ρ μ1)) : Go Q (sSeq (sIf c a sNext) b ρ μ) := by
  show Q _
  rw [sSeq_ev, sIf_ev, h]
  exact k
theorem go_not1 {Q : SR → Prop} {a : FS} {c : FT} {ρ : Fw.Env} {μ μ1 : Store} (h : c ρ μ = .ok false μ1) (k : Q (.nx ρ μ1)) : Go Q (sIf c a sNext ρ μ) := by
  show Q _
  rw [sIf_ev, h]
  exact k
theorem go_forS {Q : SR → Prop} {a b : FS} {fi : FI} {g : D → Fw.Env → Store → Res Fw.Env} {it : List D} {src : Option Nat} {ρ : Fw.Env} {μ μ1 : Store} (h : fi ρ μ = .ok (it, src) μ1) (k : Go (thenQ b Q) (forL it src g a it ρ μ1)) : Go Q (sSeq (sFor fi g a) b ρ μ) := go_seqC (go_for h k)
end Pg
set_option Elab.async false
set_option linter.all false
set_option maxRecDepth 100000
set_option autoImplicit false
namespace Pg
open PySem L2 Fw
end Pg
set_option Elab.async false
set_option linter.all false
set_option maxRecDepth 100000
set_option autoImplicit false
namespace Pg
open PySem L2 Fw
theorem there {w h n c : Nat} (hs : Sz w h n) : ((c : Nat) : Int) + (w : Nat) - 1 - 2 * ((c % w : Nat) : Int) = ((mir w c : Nat) : Int) := by
  have h1 := Nat.div_add_mod c w
  have h2 := Nat.mod_lt c (show w > 0 from hs.w1)
  rw [Nat.mul_comm] at h1
  unfold mir
  generalize c / w * w = q at *
  generalize c % w = m at *
  omega
end Pg
set_option Elab.async false
set_option linter.all false
set_option maxRecDepth 100000
set_option autoImplicit false
namespace Pg
open PySem L2 Fw
def snd (w : Nat) (T : List Nat) (R : List Deed) (c : Nat) : Int := lt w T (R ++ R) c - lt w T R c
/-- the light behind k times, f at odd ones, s at even ones -/
def lk (f s : Int) (k : Int) : Int := (k + 1) / 2 * f + k / 2 * s
end Pg
set_option Elab.async false
set_option linter.all false
set_option maxRecDepth 100000
set_option autoImplicit false
namespace Pg
open PySem L2 Fw
end Pg
set_option Elab.async false
set_option linter.all false
set_option maxRecDepth 100000
set_option autoImplicit false
namespace Pg
open PySem L2 Fw
def lkc (w : Nat) (T : List Nat) (R : List Deed) (c : Nat) (k : Int) : Int := lk (lt w T R c) (snd w T R c) k
def tv (w n : Nat) (T S : List Nat) (R : List Deed) (k : Int) : List Nat := (List.range n).map fun c => tn S (lkc w T R c k)
end Pg
set_option Elab.async false
set_option linter.all false
set_option maxRecDepth 100000
set_option autoImplicit false
namespace Pg
open PySem L2 Fw
theorem wk_tup {L : List D} {μ : Store} : oWalk (.tup L) μ = .ok (L, none) μ := (rfl)
end Pg
set_option Elab.async false
set_option linter.all false
set_option maxRecDepth 100000
set_option autoImplicit false
namespace Pg
open PySem L2 Fw
end Pg
set_option Elab.async false
set_option linter.all false
set_option maxRecDepth 100000
set_option autoImplicit false
set_option Elab.async false
set_option linter.all false
set_option maxRecDepth 100000
set_option autoImplicit false
namespace Pg
open PySem L2 Fw
end Pg
set_option Elab.async false
set_option linter.all false
set_option maxRecDepth 100000
set_option autoImplicit false
namespace Pg
open PySem L2 Fw
end Pg
set_option Elab.async false
set_option linter.all false
set_option maxRecDepth 100000
set_option autoImplicit false
namespace Pg
open PySem L2 Fw
def chk (L : List Nat) : Nat := L.foldl (fun c v => (19 * c + v) % 223) 11
end Pg
set_option Elab.async false
set_option linter.all false
set_option maxRecDepth 100000
set_option autoImplicit false
namespace K45
open PySem L2 Fw Pg
def num (d : D) (a b : Int) : Bool := match d with
  | .int i => decide (a ≤ i) && decide (i ≤ b)
  | _ => false
def itm (L : List D) (k : Nat) (a b : Int) : Bool := decide (k < L.length) && num (L.getD k .non) a b
/-- what the law hears -/
inductive Off (L : List D) : D → Prop
  | a0 : itm L 0 107 107 = false → Off L (.int 0)
  | a1 : itm L 0 107 107 = true → itm L 1 1 4 = false → Off L (.int 1)
  | a2 : itm L 0 107 107 = true → itm L 1 1 4 = true → itm L 2 1 4 = false → Off L (.int 2)
  | fig (w h c : Nat) : itm L 0 107 107 = true → itm L 1 1 4 = true → itm L 2 1 4 = true → L.getD 1 .non = .int (w : Nat) → L.getD 2 .non = .int (h : Nat) → c < w * h → (∀ j, j < c → itm L (3 + j) 0 4 = true) → itm L (3 + c) 0 4 = false → Off L (.int ((3 + c : Nat) : Int))
  | sum (w h : Nat) (M : List Nat) : itm L 0 107 107 = true → itm L 1 1 4 = true → itm L 2 1 4 = true → L.getD 1 .non = .int (w : Nat) → L.getD 2 .non = .int (h : Nat) → (∀ j, j < w * h → itm L (3 + j) 0 4 = true) → L.take (3 + w * h) = nI M → itm L (3 + w * h) (chk M : Nat) (chk M : Nat) = false → Off L (.int ((3 + w * h : Nat) : Int))
  | long (w h : Nat) (M : List Nat) : itm L 0 107 107 = true → itm L 1 1 4 = true → itm L 2 1 4 = true → L.getD 1 .non = .int (w : Nat) → L.getD 2 .non = .int (h : Nat) → (∀ j, j < w * h → itm L (3 + j) 0 4 = true) → L.take (3 + w * h) = nI M → itm L (3 + w * h) (chk M : Nat) (chk M : Nat) = true → 3 + w * h + 1 < L.length → Off L (.int ((3 + w * h + 1 : Nat) : Int))
end K45
set_option Elab.async false
set_option linter.all false
set_option maxRecDepth 100000
set_option autoImplicit false
set_option maxHeartbeats 8000000
namespace K43
open PySem L2 Fw Pg K45
def good : List D := [.str (lit "expose 99 0 2 5"), .str (lit "draw 1 99"), .str (lit "flip"), .str (lit "expose 1"), .str (lit "draw 20 3")]
def ws : List (D × D) := [(.str (lit ""), .int 0), (.str (lit "exposes 5"), .int 0), (.str (lit "expose"), .int 1), (.str (lit "expose 0"), .int 1), (.str (lit "expose 100"), .int 1), (.str (lit "expose 05"), .int 1), (.str (lit "expose 5 6"), .int 2), (.str (lit "expose 5 1 1"), .int 3), (.str (lit "expose 5 2 1"), .int 3), (.str (lit "expose 5 0 "), .int 3), (.str (lit "expose  5"), .int 1), (.str (lit "expose 5 x"), .int 2), (.str (lit "expose 5 -1"), .int 2), (.str (lit "expose 5 0 2 9"), .int 4), (.str (lit "draw"), .int 1), (.str (lit "draw 5"), .int 2), (.str (lit "draw 0 5"), .int 1), (.str (lit "draw 5 0"), .int 2), (.str (lit "draw 5 5 5"), .int 3), (.str (lit "draw 5 100"), .int 2), (.str (lit "draw 5 05"), .int 2), (.str (lit "flip 1"), .int 1), (.str (lit "flip "), .int 1), (.str (lit " flip"), .int 0), (.str (lit "Flip"), .int 0), (.str (lit "expose 5 00"), .int 2), (.str (lit "draw x 5"), .int 1), (.str (lit "draw 5 5 "), .int 3)]
def wd (p : D × D) : D := .tup [p.1, p.2]
def rest : Store := [.lst ((ws.take 7).map wd), .lst ((ws.take 12).map wd), .lst ((ws.take 16).map wd), .lst ((ws.take 18).map wd), .lst ((ws.take 24).map wd), .lst (ws.map wd)]
def wl (j : Nat) : D := (ws.getD j (.non, .non)).1
def ww (j : Nat) : D := (ws.getD j (.non, .non)).2
def condA : FT := tB (eBin oNe (eCallD 1 M_l_place (aCons (eBin oAdd (eBin oAdd (eCut (eVar 2) (oNone) (oSome (eVar 5))) (eLst (aCons (eVar 6) (aNil)))) (eCut (eVar 2) (oSome (eVar 5)) (oNone))) (aNil))) (eTup (aCons (eVar 5) (aCons (eVar 7) (aNil)))))
section
variable {ns ms : List Int} {a b d : Int} {t x8 : Option D}
theorem at_0 {j : Nat} (h : j < 28) : condA [some (.flst ns), some (.loc 0), some (.lst good), some (.loc 6), t, some (.int ((0 : Nat) : Int)), some (wl j), some (ww j), x8] (.lst [.flst ms, .int a, .int b, .int d] :: rest) = .ok false (.lst [.flst ms, .int a, .int b, .int d] :: rest) := by
  obtain rfl | rfl | rfl | rfl | rfl | rfl | rfl | rfl | rfl | rfl | rfl | rfl | rfl | rfl | rfl | rfl | rfl | rfl | rfl | rfl | rfl | rfl | rfl | rfl | rfl | rfl | rfl | rfl : j = 0 ∨ j = 1 ∨ j = 2 ∨ j = 3 ∨ j = 4 ∨ j = 5 ∨ j = 6 ∨ j = 7 ∨ j = 8 ∨ j = 9 ∨ j = 10 ∨ j = 11 ∨ j = 12 ∨ j = 13 ∨ j = 14 ∨ j = 15 ∨ j = 16 ∨ j = 17 ∨ j = 18 ∨ j = 19 ∨ j = 20 ∨ j = 21 ∨ j = 22 ∨ j = 23 ∨ j = 24 ∨ j = 25 ∨ j = 26 ∨ j = 27 := by omega
  all_goals kernel_rfl
theorem at_1 {j : Nat} (h : j < 28) : condA [some (.flst ns), some (.loc 0), some (.lst good), some (.loc 6), t, some (.int ((1 : Nat) : Int)), some (wl j), some (ww j), x8] (.lst [.flst ms, .int a, .int b, .int d] :: rest) = .ok false (.lst [.flst ms, .int a, .int b, .int d] :: rest) := by
  obtain rfl | rfl | rfl | rfl | rfl | rfl | rfl | rfl | rfl | rfl | rfl | rfl | rfl | rfl | rfl | rfl | rfl | rfl | rfl | rfl | rfl | rfl | rfl | rfl | rfl | rfl | rfl | rfl : j = 0 ∨ j = 1 ∨ j = 2 ∨ j = 3 ∨ j = 4 ∨ j = 5 ∨ j = 6 ∨ j = 7 ∨ j = 8 ∨ j = 9 ∨ j = 10 ∨ j = 11 ∨ j = 12 ∨ j = 13 ∨ j = 14 ∨ j = 15 ∨ j = 16 ∨ j = 17 ∨ j = 18 ∨ j = 19 ∨ j = 20 ∨ j = 21 ∨ j = 22 ∨ j = 23 ∨ j = 24 ∨ j = 25 ∨ j = 26 ∨ j = 27 := by omega
  all_goals kernel_rfl
theorem at_2 {j : Nat} (h : j < 28) : condA [some (.flst ns), some (.loc 0), some (.lst good), some (.loc 6), t, some (.int ((2 : Nat) : Int)), some (wl j), some (ww j), x8] (.lst [.flst ms, .int a, .int b, .int d] :: rest) = .ok false (.lst [.flst ms, .int a, .int b, .int d] :: rest) := by
  obtain rfl | rfl | rfl | rfl | rfl | rfl | rfl | rfl | rfl | rfl | rfl | rfl | rfl | rfl | rfl | rfl | rfl | rfl | rfl | rfl | rfl | rfl | rfl | rfl | rfl | rfl | rfl | rfl : j = 0 ∨ j = 1 ∨ j = 2 ∨ j = 3 ∨ j = 4 ∨ j = 5 ∨ j = 6 ∨ j = 7 ∨ j = 8 ∨ j = 9 ∨ j = 10 ∨ j = 11 ∨ j = 12 ∨ j = 13 ∨ j = 14 ∨ j = 15 ∨ j = 16 ∨ j = 17 ∨ j = 18 ∨ j = 19 ∨ j = 20 ∨ j = 21 ∨ j = 22 ∨ j = 23 ∨ j = 24 ∨ j = 25 ∨ j = 26 ∨ j = 27 := by omega
  all_goals kernel_rfl
theorem at_3 {j : Nat} (h : j < 28) : condA [some (.flst ns), some (.loc 0), some (.lst good), some (.loc 6), t, some (.int ((3 : Nat) : Int)), some (wl j), some (ww j), x8] (.lst [.flst ms, .int a, .int b, .int d] :: rest) = .ok false (.lst [.flst ms, .int a, .int b, .int d] :: rest) := by
  obtain rfl | rfl | rfl | rfl | rfl | rfl | rfl | rfl | rfl | rfl | rfl | rfl | rfl | rfl | rfl | rfl | rfl | rfl | rfl | rfl | rfl | rfl | rfl | rfl | rfl | rfl | rfl | rfl : j = 0 ∨ j = 1 ∨ j = 2 ∨ j = 3 ∨ j = 4 ∨ j = 5 ∨ j = 6 ∨ j = 7 ∨ j = 8 ∨ j = 9 ∨ j = 10 ∨ j = 11 ∨ j = 12 ∨ j = 13 ∨ j = 14 ∨ j = 15 ∨ j = 16 ∨ j = 17 ∨ j = 18 ∨ j = 19 ∨ j = 20 ∨ j = 21 ∨ j = 22 ∨ j = 23 ∨ j = 24 ∨ j = 25 ∨ j = 26 ∨ j = 27 := by omega
  all_goals kernel_rfl
theorem at_4 {j : Nat} (h : j < 28) : condA [some (.flst ns), some (.loc 0), some (.lst good), some (.loc 6), t, some (.int ((4 : Nat) : Int)), some (wl j), some (ww j), x8] (.lst [.flst ms, .int a, .int b, .int d] :: rest) = .ok false (.lst [.flst ms, .int a, .int b, .int d] :: rest) := by
  obtain rfl | rfl | rfl | rfl | rfl | rfl | rfl | rfl | rfl | rfl | rfl | rfl | rfl | rfl | rfl | rfl | rfl | rfl | rfl | rfl | rfl | rfl | rfl | rfl | rfl | rfl | rfl | rfl : j = 0 ∨ j = 1 ∨ j = 2 ∨ j = 3 ∨ j = 4 ∨ j = 5 ∨ j = 6 ∨ j = 7 ∨ j = 8 ∨ j = 9 ∨ j = 10 ∨ j = 11 ∨ j = 12 ∨ j = 13 ∨ j = 14 ∨ j = 15 ∨ j = 16 ∨ j = 17 ∨ j = 18 ∨ j = 19 ∨ j = 20 ∨ j = 21 ∨ j = 22 ∨ j = 23 ∨ j = 24 ∨ j = 25 ∨ j = 26 ∨ j = 27 := by omega
  all_goals kernel_rfl
theorem at_5 {j : Nat} (h : j < 28) : condA [some (.flst ns), some (.loc 0), some (.lst good), some (.loc 6), t, some (.int ((5 : Nat) : Int)), some (wl j), some (ww j), x8] (.lst [.flst ms, .int a, .int b, .int d] :: rest) = .ok false (.lst [.flst ms, .int a, .int b, .int d] :: rest) := by
  obtain rfl | rfl | rfl | rfl | rfl | rfl | rfl | rfl | rfl | rfl | rfl | rfl | rfl | rfl | rfl | rfl | rfl | rfl | rfl | rfl | rfl | rfl | rfl | rfl | rfl | rfl | rfl | rfl : j = 0 ∨ j = 1 ∨ j = 2 ∨ j = 3 ∨ j = 4 ∨ j = 5 ∨ j = 6 ∨ j = 7 ∨ j = 8 ∨ j = 9 ∨ j = 10 ∨ j = 11 ∨ j = 12 ∨ j = 13 ∨ j = 14 ∨ j = 15 ∨ j = 16 ∨ j = 17 ∨ j = 18 ∨ j = 19 ∨ j = 20 ∨ j = 21 ∨ j = 22 ∨ j = 23 ∨ j = 24 ∨ j = 25 ∨ j = 26 ∨ j = 27 := by omega
  all_goals kernel_rfl
theorem not_A {c : Cell} {k j : Nat} (hc : Row0 c) (hk : k < 6) (hj : j < 28) : condA [some (.flst ns), some (.loc 0), some (.lst good), some (.loc 6), t, some (.int (k : Nat)), some (wl j), some (ww j), x8] (c :: rest) = .ok false (c :: rest) := by
  obtain ⟨ms, a, b, d, _, rfl, _⟩ := hc
  obtain rfl | rfl | rfl | rfl | rfl | rfl : k = 0 ∨ k = 1 ∨ k = 2 ∨ k = 3 ∨ k = 4 ∨ k = 5 := by omega
  · exact at_0 hj
  · exact at_1 hj
  · exact at_2 hj
  · exact at_3 hj
  · exact at_4 hj
  · exact at_5 hj
def resM (m : Nat) : D := if 8 < m then .tup [.int 8, .int 0] else .non
theorem many_0 {m : Nat} (h5 : 5 ≤ m) (h : m < 12) : M_l_place [.lst (List.replicate m (good.getD 0 .non))] (.lst [.flst ms, .int a, .int b, .int d] :: rest) = .ok (resM m) (.lst [.flst ms, .int a, .int b, .int d] :: rest) := by
  obtain rfl | rfl | rfl | rfl | rfl | rfl | rfl : m = 5 ∨ m = 6 ∨ m = 7 ∨ m = 8 ∨ m = 9 ∨ m = 10 ∨ m = 11 := by omega
  all_goals kernel_rfl
theorem many_1 {m : Nat} (h5 : 5 ≤ m) (h : m < 12) : M_l_place [.lst (List.replicate m (good.getD 1 .non))] (.lst [.flst ms, .int a, .int b, .int d] :: rest) = .ok (resM m) (.lst [.flst ms, .int a, .int b, .int d] :: rest) := by
  obtain rfl | rfl | rfl | rfl | rfl | rfl | rfl : m = 5 ∨ m = 6 ∨ m = 7 ∨ m = 8 ∨ m = 9 ∨ m = 10 ∨ m = 11 := by omega
  all_goals kernel_rfl
theorem many_2 {m : Nat} (h5 : 5 ≤ m) (h : m < 12) : M_l_place [.lst (List.replicate m (good.getD 2 .non))] (.lst [.flst ms, .int a, .int b, .int d] :: rest) = .ok (resM m) (.lst [.flst ms, .int a, .int b, .int d] :: rest) := by
  obtain rfl | rfl | rfl | rfl | rfl | rfl | rfl : m = 5 ∨ m = 6 ∨ m = 7 ∨ m = 8 ∨ m = 9 ∨ m = 10 ∨ m = 11 := by omega
  all_goals kernel_rfl
theorem many_3 {m : Nat} (h5 : 5 ≤ m) (h : m < 12) : M_l_place [.lst (List.replicate m (good.getD 3 .non))] (.lst [.flst ms, .int a, .int b, .int d] :: rest) = .ok (resM m) (.lst [.flst ms, .int a, .int b, .int d] :: rest) := by
  obtain rfl | rfl | rfl | rfl | rfl | rfl | rfl : m = 5 ∨ m = 6 ∨ m = 7 ∨ m = 8 ∨ m = 9 ∨ m = 10 ∨ m = 11 := by omega
  all_goals kernel_rfl
theorem many_4 {m : Nat} (h5 : 5 ≤ m) (h : m < 12) : M_l_place [.lst (List.replicate m (good.getD 4 .non))] (.lst [.flst ms, .int a, .int b, .int d] :: rest) = .ok (resM m) (.lst [.flst ms, .int a, .int b, .int d] :: rest) := by
  obtain rfl | rfl | rfl | rfl | rfl | rfl | rfl : m = 5 ∨ m = 6 ∨ m = 7 ∨ m = 8 ∨ m = 9 ∨ m = 10 ∨ m = 11 := by omega
  all_goals kernel_rfl
theorem many {c : Cell} {g m : Nat} (hc : Row0 c) (hg : g < 5) (h5 : 5 ≤ m) (h : m < 12) : M_l_place [.lst (List.replicate m (good.getD g .non))] (c :: rest) = .ok (resM m) (c :: rest) := by
  obtain ⟨ms, a, b, d, _, rfl, _⟩ := hc
  obtain rfl | rfl | rfl | rfl | rfl : g = 0 ∨ g = 1 ∨ g = 2 ∨ g = 3 ∨ g = 4 := by omega
  · exact many_0 h5 h
  · exact many_1 h5 h
  · exact many_2 h5 h
  · exact many_3 h5 h
  · exact many_4 h5 h
theorem ix_wrong {c : Cell} {j : Nat} (h : j < 28) : oIx (.loc 6) (.int (j : Nat)) (c :: rest) = .ok (.tup [wl j, ww j]) (c :: rest) := by
  obtain rfl | rfl | rfl | rfl | rfl | rfl | rfl | rfl | rfl | rfl | rfl | rfl | rfl | rfl | rfl | rfl | rfl | rfl | rfl | rfl | rfl | rfl | rfl | rfl | rfl | rfl | rfl | rfl : j = 0 ∨ j = 1 ∨ j = 2 ∨ j = 3 ∨ j = 4 ∨ j = 5 ∨ j = 6 ∨ j = 7 ∨ j = 8 ∨ j = 9 ∨ j = 10 ∨ j = 11 ∨ j = 12 ∨ j = 13 ∨ j = 14 ∨ j = 15 ∨ j = 16 ∨ j = 17 ∨ j = 18 ∨ j = 19 ∨ j = 20 ∨ j = 21 ∨ j = 22 ∨ j = 23 ∨ j = 24 ∨ j = 25 ∨ j = 26 ∨ j = 27 := by omega
  all_goals rfl
theorem len_wrong {c : Cell} : cLenO 0 M_Negativedd__lendd_ [.loc 6] (c :: rest) = .ok (.int 28) (c :: rest) := by rfl
theorem ix_good {g : Nat} (h : g < 5) {μ : Store} : oIx (.lst good) (.int (g : Nat)) μ = .ok (good.getD g .non) μ := by
  obtain rfl | rfl | rfl | rfl | rfl : g = 0 ∨ g = 1 ∨ g = 2 ∨ g = 3 ∨ g = 4 := by omega
  all_goals rfl
theorem so_many {x : D} {m : Nat} (h : m ≤ 1000) {μ : Store} : oMul (.lst [x]) (.int (m : Nat)) μ = .ok (.lst (List.replicate m x)) μ := by
  have e : (List.replicate m [x]).flatten = List.replicate m x := by simp
  simp only [oMul, lstOf, List.length_cons, List.length_nil, Int.toNat_natCast, e]
  rw [if_pos ⟨by omega, by omega, by omega⟩]
end
end K43
set_option Elab.async false
set_option linter.all false
set_option maxRecDepth 100000
set_option autoImplicit false
set_option maxHeartbeats 8000000
namespace K43
open PySem L2 Fw Pg K45
/-- what a turn keeps -/
def Kept (ns : List Int) (ρ : Fw.Env) (μ : Store) : Prop := ∃ (x4 x5 x6 x7 x8 : Option D) (c : Cell), Row0 c ∧ ρ = [some (.flst ns), some (.loc 0), some (.lst good), some (.loc 6), x4, x5, x6, x7, x8] ∧ μ = c :: rest
theorem law_true {ns : List Int} (hn : ns.length ≤ 63) : ∃ μ, M_law [.flst ns] [] = .ok (.bl true) μ := by
  have q : ∃ μ', mD 9 B_law [.flst ns] [] = .ok (.bl true) μ' := by
    have hL1 : 1 ≤ LIM := by decide
    have hL2 : 2 ≤ LIM := by decide
    have c0 : Row0 (.lst [.flst ns, .int 0, .int 0, .int 0]) := ⟨ns, 0, 0, 0, hn, rfl, Int.le_refl 0⟩
    unfold B_law
    refine mD_P (P := fun r => ∃ μ', r = .ok (.bl true) μ') ?_
    refine go_seq (ρ1 := [some (.flst ns), some (.loc 0), none, none, none, none, none, none, none]) (μ1 := [.lst [.flst ns, .int 0, .int 0, .int 0]]) (by kernel_rfl) ?_
    refine go_seq (ρ1 := [some (.flst ns), some (.loc 0), some (.lst good), none, none, none, none, none, none]) (μ1 := [.lst [.flst ns, .int 0, .int 0, .int 0]]) (by kernel_rfl) ?_
    refine go_not (μ1 := [.lst [.flst ns, .int 0, .int 0, .int 0]]) (by kernel_rfl) ?_
    refine go_seq (ρ1 := [some (.flst ns), some (.loc 0), some (.lst good), some (.loc 1), none, none, none, none, none]) (μ1 := [.lst [.flst ns, .int 0, .int 0, .int 0], .lst ((ws.take 6).map wd)]) (by kernel_rfl) ?_
    refine go_seq (ρ1 := [some (.flst ns), some (.loc 0), some (.lst good), some (.loc 1), none, none, none, none, none]) (μ1 := [.lst [.flst ns, .int 0, .int 0, .int 0], .lst ((ws.take 7).map wd)]) (by kernel_rfl) ?_
    refine go_seq (ρ1 := [some (.flst ns), some (.loc 0), some (.lst good), some (.loc 2), none, none, none, none, none]) (μ1 := [.lst [.flst ns, .int 0, .int 0, .int 0], .lst ((ws.take 7).map wd), .lst ((ws.take 12).map wd)]) (by kernel_rfl) ?_
    refine go_seq (ρ1 := [some (.flst ns), some (.loc 0), some (.lst good), some (.loc 3), none, none, none, none, none]) (μ1 := [.lst [.flst ns, .int 0, .int 0, .int 0], .lst ((ws.take 7).map wd), .lst ((ws.take 12).map wd), .lst ((ws.take 16).map wd)]) (by kernel_rfl) ?_
    refine go_seq (ρ1 := [some (.flst ns), some (.loc 0), some (.lst good), some (.loc 4), none, none, none, none, none]) (μ1 := [.lst [.flst ns, .int 0, .int 0, .int 0], .lst ((ws.take 7).map wd), .lst ((ws.take 12).map wd), .lst ((ws.take 16).map wd), .lst ((ws.take 18).map wd)]) (by kernel_rfl) ?_
    refine go_seq (ρ1 := [some (.flst ns), some (.loc 0), some (.lst good), some (.loc 5), none, none, none, none, none]) (μ1 := [.lst [.flst ns, .int 0, .int 0, .int 0], .lst ((ws.take 7).map wd), .lst ((ws.take 12).map wd), .lst ((ws.take 16).map wd), .lst ((ws.take 18).map wd), .lst ((ws.take 24).map wd)]) (by kernel_rfl) ?_
    refine go_seq (ρ1 := [some (.flst ns), some (.loc 0), some (.lst good), some (.loc 6), none, none, none, none, none]) (μ1 := [.lst [.flst ns, .int 0, .int 0, .int 0], .lst ((ws.take 7).map wd), .lst ((ws.take 12).map wd), .lst ((ws.take 16).map wd), .lst ((ws.take 18).map wd), .lst ((ws.take 24).map wd), .lst (ws.map wd)]) (by kernel_rfl) ?_
    refine go_forS (it := rg 10) (src := none) (μ1 := .lst [.flst ns, .int 0, .int 0, .int 0] :: rest) (by kernel_rfl) ?_
    refine go_rg (J := fun _ ρ μ => Kept ns ρ μ) ⟨_, _, _, _, _, _, c0, rfl, rfl⟩ ?_ ?_
    · rintro i hi _ _ ⟨x4, x5, x6, x7, x8, c, hc, rfl, rfl⟩
      refine ⟨[some (.flst ns), some (.loc 0), some (.lst good), some (.loc 6), some (.int (i : Nat)), x5, x6, x7, x8], c :: rest, rfl, ?_⟩
      obtain ⟨k, c1, e1, h1, hk⟩ := takenI (r := rest) (m := 6) hc (by decide) (by decide)
      obtain ⟨j, c2, e2, h2, hj⟩ := takenI (r := rest) (m := 28) h1 (by decide) (by decide)
      obtain ⟨u, c3, e3, h3, hu⟩ := takenI (r := rest) (m := 7) h2 (by decide) (by decide)
      obtain ⟨g, c4, e4, h4, hg⟩ := takenI (r := rest) (m := 5) h3 (by decide) (by decide)
      have hk : k < 6 := by omega
      have hj : j < 28 := by omega
      have hg : g < 5 := by omega
      obtain ⟨m, hm⟩ : ∃ m : Nat, m = 5 + u := ⟨_, rfl⟩
      have em : (5 : Int) + (u : Nat) = (m : Nat) := by omega
      have h5 : 5 ≤ m := by omega
      have h12 : m < 12 := by omega
      have lw := len_wrong (c := c1)
      have iw := ix_wrong (c := c2) hj
      have nA := not_A (ns := ns) (t := some (.int (i : Nat))) (x8 := x8) h2 hk hj
      have ig := fun μ => ix_good hg (μ := μ)
      have mu := fun μ => so_many (x := good.getD g .non) (m := m) (by omega) (μ := μ)
      have pl := many h4 hg h5 h12
      have n8 : ∀ μ, oNe (.tup [.int 8, .int 0]) (.tup [.int 8, .int 0]) μ = .ok (.bl false) μ := fun μ => by rfl
      have nn : ∀ μ, oNe .non .non μ = .ok (.bl false) μ := fun μ => by rfl
      refine go_seq (ρ1 := [some (.flst ns), some (.loc 0), some (.lst good), some (.loc 6), some (.int (i : Nat)), some (.int (k : Nat)), x6, x7, x8]) (μ1 := c1 :: rest) ?_ ?_
      · generalize good = gg at *
        generalize rest = rr at *
        simp_arith [e1]
      refine go_seq (ρ1 := [some (.flst ns), some (.loc 0), some (.lst good), some (.loc 6), some (.int (i : Nat)), some (.int (k : Nat)), some (wl j), some (ww j), x8]) (μ1 := c2 :: rest) ?_ ?_
      · generalize good = gg at *
        generalize rest = rr at *
        generalize wl j = w1 at *
        generalize ww j = w2 at *
        simp_arith [lw, e2, iw]
      refine go_not (μ1 := c2 :: rest) nA ?_
      refine go_seq (ρ1 := [some (.flst ns), some (.loc 0), some (.lst good), some (.loc 6), some (.int (i : Nat)), some (.int (k : Nat)), some (wl j), some (ww j), some (.int (m : Nat))]) (μ1 := c3 :: rest) ?_ ?_
      · generalize good = gg at *
        generalize rest = rr at *
        generalize wl j = w1 at *
        generalize ww j = w2 at *
        simp_arith [e3, oAdd_int, em]
      refine go_not1 (μ1 := c4 :: rest) ?_ (nxq ⟨_, _, _, _, _, _, h4, rfl, rfl⟩)
      generalize good.getD g .non = gd at *
      generalize List.replicate m gd = ml at *
      generalize good = gg at *
      generalize rest = rr at *
      generalize wl j = w1 at *
      generalize ww j = w2 at *
      unfold resM at pl
      by_cases h8 : 8 < m
      · rw [if_pos h8] at pl
        simp_arith [e4, ig, mu, pl, hL1, hL2, oGt_int, show (8 : Int) < (m : Nat) by omega, decide_true, n8]
      · rw [if_neg h8] at pl
        simp_arith [e4, ig, mu, pl, hL1, hL2, oGt_int, show ¬ (8 : Int) < (m : Nat) by omega, decide_false, Bool.false_eq_true, if_false, nn]
    · rintro _ _ ⟨x4, x5, x6, x7, x8, c, hc, rfl, rfl⟩
      refine go_then ?_
      exact go_ret (d := .bl true) (μ1 := c :: rest) rfl ⟨_, rfl⟩
  obtain ⟨μ', e⟩ := q
  exact ⟨[], by unfold M_law; rw [mDf_ev, e]; rfl⟩
end K43
set_option Elab.async false
set_option linter.all false
set_option maxRecDepth 100000
set_option autoImplicit false
namespace K43
open PySem L2 Fw Pg
def top (i : Nat) : Stmt := PySem.Challenge.pw_maskedprints_k43_lines_rejected.main.body.getD i (.Pass ⟨0, 0, 0, 0⟩)
abbrev s_Negativedd__lendd_ : Stmt := inClass (top 22) 4
abbrev s_is_number : Stmt := top 10
abbrev s_wrong_side : Stmt := top 11
abbrev s_wrong_part : Stmt := top 23
abbrev s_Negativedd__initdd_ : Stmt := inClass (top 22) 0
abbrev s_deed_of : Stmt := top 16
abbrev s_worded_rows : Stmt := top 17
abbrev s_number_of : Stmt := top 18
abbrev s_wrong_cell : Stmt := top 20
abbrev s_wrong_word : Stmt := top 19
abbrev s_read_recipe : Stmt := top 15
abbrev s_l_place : Stmt := top 26
abbrev s_l_taken : Stmt := top 25
abbrev s_law : Stmt := top 27
structure Tx (P : Program) (W : World) (K : PySem.W.Frag) (cls : Nat → Option Addr) (mg : Str → Option Value) (C_Negative : Addr) (C_InvalidLine : Addr) (C_InvalidNegative : Addr) : Prop where
  n_all : mg "all" = none
  n_bool : mg "bool" = none
  n_enumerate : mg "enumerate" = none
  n_int : mg "int" = none
  n_isinstance : mg "isinstance" = none
  n_len : mg "len" = none
  n_range : mg "range" = none
  n_str : mg "str" = none
  n_tuple : mg "tuple" = none
  c_DENSITIES : Gv K cls mg "DENSITIES" (.str (lit "01234"))
  c_LONGEST_NUMBER : Gv K cls mg "LONGEST_NUMBER" (.int 2)
  c_MOST_CELLS : Gv K cls mg "MOST_CELLS" (.int 9)
  c_MOST_DEEDS : Gv K cls mg "MOST_DEEDS" (.int 8)
  c_MOST_SIDE : Gv K cls mg "MOST_SIDE" (.int 4)
  c_MOST_TICKS : Gv K cls mg "MOST_TICKS" (.int 99)
  d_TIMES : Kdi K W mg "TIMES" [(lit "expose", 1), (lit "draw", 2), (lit "flip", 0)]
  k_Negative : Kl1 K cls 0 C_Negative
  m_Negative : mg "Negative" = some (.ref C_Negative)
  f_Negative_columns : NoAttr K C_Negative "columns"
  f_Negative_figures : NoAttr K C_Negative "figures"
  f_Negative_lines : NoAttr K C_Negative "lines"
  q_InvalidLine : Ek K cls mg "InvalidLine" 117 C_InvalidLine
  q_InvalidNegative : Ek K cls mg "InvalidNegative" 101 C_InvalidNegative
  xm_InvalidLine : ∀ k C, 100 ≤ k → cls k = some C → PySem.W.exmOne K (.ref C) (.ref C_InvalidLine) = some (decide (k ∈ [117]))
  xk_row : ∀ k ∈ [117], ∀ C, cls k = some C → XfC K C ∧ PySem.W.findIn K (.ref C) "row" = some none
  xk_word : ∀ k ∈ [117], ∀ C, cls k = some C → XfC K C ∧ PySem.W.findIn K (.ref C) "word" = some none
abbrev si_InvalidLine : Stmt := inClass (top 3) 0
abbrev si_InvalidNegative : Stmt := inClass (top 2) 0
section
variable {P : Program} {W : World} {K : PySem.W.Frag} {cls : Nat → Option Addr} {mg : Str → Option Value} {base : Heap} {C_Negative : Addr} {C_InvalidLine : Addr} {C_InvalidNegative : Addr} {f : Addr} {fd : FuncData}
theorem sc_Negativedd__lendd_ : FnScope ["self"] ["self"] (defScope s_Negativedd__lendd_) := ⟨rfl, rfl, rfl, by decide +kernel, rfl, by decide +kernel, by decide +kernel⟩
theorem dm_Negativedd__lendd_ (F : Fun K "__len__" "Negative.__len__" s_Negativedd__lendd_ f fd) (b : Binds K fd ["self"] []) (T : Tx P W K cls mg C_Negative C_InvalidLine C_InvalidNegative) : Dm P W K cls mg base 1 f 1 M_Negativedd__lendd_ :=
  dm_mk (N := ["self"]) (ps := ["self"]) (g := B_Negativedd__lendd_) F b sc_Negativedd__lendd_ (fun cdv A outer s H E hr tk => (
  sss_one (ss_ret (se_callB cv_len rfl T.n_len (by decide +kernel) (sa_cons (se_fld T.k_Negative T.f_Negative_figures (se_var 0)) (sa_nil))))))
theorem sc_is_number : FnScope ["value", "least", "most"] ["value", "least", "most"] (defScope s_is_number) := ⟨rfl, rfl, rfl, by decide +kernel, rfl, by decide +kernel, by decide +kernel⟩
theorem df_is_number (F : Fun K "is_number" "is_number" s_is_number f fd) (b : Binds K fd ["value", "least", "most"] []) (hm : mg "is_number" = some (.ref f)) (T : Tx P W K cls mg C_Negative C_InvalidLine C_InvalidNegative) : Df P W K cls mg base 1 "is_number" 3 M_is_number :=
  (df_mk (N := ["value", "least", "most"]) (ps := ["value", "least", "most"]) (g := B_is_number) F b hm sc_is_number (fun cdv A outer s H E hr tk => (
  sss_one (ss_ret (se_and (se_isi (T := "int") (se_var 0) rfl T.n_isinstance (by decide +kernel) rfl T.n_int (by decide +kernel)) (se_and (se_not (se_isi (T := "bool") (se_var 0) rfl T.n_isinstance (by decide +kernel) rfl T.n_bool (by decide +kernel))) (se_one (se_chain ov_le ov_le (se_var 1) (se_var 0) (se_var 2)))))))))
theorem sc_wrong_side : FnScope ["width", "height"] ["width", "height"] (defScope s_wrong_side) := ⟨rfl, rfl, rfl, by decide +kernel, rfl, by decide +kernel, by decide +kernel⟩
theorem df_wrong_side (F : Fun K "wrong_side" "wrong_side" s_wrong_side f fd) (b : Binds K fd ["width", "height"] []) (hm : mg "wrong_side" = some (.ref f)) (T : Tx P W K cls mg C_Negative C_InvalidLine C_InvalidNegative) (G_is_number : Df P W K cls mg base 1 "is_number" 3 M_is_number) : Df P W K cls mg base 2 "wrong_side" 2 M_wrong_side :=
  (df_mk (N := ["width", "height"]) (ps := ["width", "height"]) (g := B_wrong_side) F b hm sc_wrong_side (fun cdv A outer s H E hr tk => (
  sss_cons (ss_if (st_not (st_val (se_call tk G_is_number (hr.mono (by decide)) rfl (sa_cons (se_var 0) (sa_cons (se_int) (sa_cons (se_globG (by exact rfl) T.c_MOST_SIDE) (sa_nil))))))) (
  sss_one (ss_ret (se_str))) (
  sss_nil)) (
  sss_cons (ss_if (SW.st (sw_or (st_not (st_val (se_call tk G_is_number (hr.mono (by decide)) rfl (sa_cons (se_var 1) (sa_cons (se_int) (sa_cons (se_globG (by exact rfl) T.c_MOST_SIDE) (sa_nil))))))) (sw_or1 (st_cmp ov_gt (se_bin ov_mul (se_var 0) (se_var 1)) (se_globG (by exact rfl) T.c_MOST_CELLS))))) (
  sss_one (ss_ret (se_str))) (
  sss_nil)) (
  sss_one (ss_ret (se_non)))))))
theorem sc_wrong_part : FnScope ["width", "height", "densities", "side", "figure"] ["width", "height", "densities"] (defScope s_wrong_part) := ⟨rfl, rfl, rfl, by decide +kernel, rfl, by decide +kernel, by decide +kernel⟩
theorem df_wrong_part (F : Fun K "wrong_part" "wrong_part" s_wrong_part f fd) (b : Binds K fd ["width", "height", "densities"] []) (hm : mg "wrong_part" = some (.ref f)) (T : Tx P W K cls mg C_Negative C_InvalidLine C_InvalidNegative) (G_wrong_side : Df P W K cls mg base 2 "wrong_side" 2 M_wrong_side) {f_Negativedd__lendd_ : Addr} (g_Negativedd__lendd_ : Dm P W K cls mg base 1 f_Negativedd__lendd_ 1 M_Negativedd__lendd_) (len_at : PySem.W.findIn K (.ref C_Negative) "__len__" = some (some (.ref f_Negativedd__lendd_))) (len_fn : PySem.W.isFn K (.ref f_Negativedd__lendd_) = true) : Df P W K cls mg base 3 "wrong_part" 3 M_wrong_part :=
  (df_mk (N := ["width", "height", "densities", "side", "figure"]) (ps := ["width", "height", "densities"]) (g := B_wrong_part) F b hm sc_wrong_part (fun cdv A outer s H E hr tk => (
  sss_cons (ss_set 3 sc_wrong_part.nd (se_call tk G_wrong_side (hr.mono (by decide)) rfl (sa_cons (se_var 0) (sa_cons (se_var 1) (sa_nil))))) (
  sss_cons (ss_if (st_cmp ov_notN (se_var 3) (se_non)) (
  sss_one (ss_ret (se_var 3))) (
  sss_nil)) (
  sss_cons (ss_if (SW.st (sw_or (st_cmp (ov_ne hr.units) (se_callB (cv_lenO T.k_Negative len_at len_fn g_Negativedd__lendd_ (hr.mono (by decide))) (by exact rfl) T.n_len (by decide +kernel) (sa_cons (se_var 2) (sa_nil))) (se_bin ov_mul (se_var 0) (se_var 1))) (sw_or1 (st_not (st_val (se_callB (cv_all rfl) (by exact rfl) T.n_all (by decide +kernel) (sa_cons (se_lc (own := [("figure", 4)]) rfl sc_wrong_part.nd (si_of (se_var 2)) (blkOk_by (N := ["width", "height", "densities", "side", "figure"]) (sc := defScope s_wrong_part) (own := [("figure", 4)]) (by decide +kernel)) (fun _ _ _ _ _ => sg_var 4 sc_wrong_part.nd) (fun _ _ _ _ _ => sts_nil) (fun _ _ _ _ _ => se_cmp ov_in (se_var 4) (se_globG (by exact rfl) T.c_DENSITIES))) (sa_nil)))))))) (
  sss_one (ss_ret (se_str))) (
  sss_nil)) (
  sss_one (ss_ret (se_non))))))))
theorem sc_Negativedd__initdd_ : FnScope ["self", "width", "height", "densities", "part"] ["self", "width", "height", "densities"] (defScope s_Negativedd__initdd_) := ⟨rfl, rfl, rfl, by decide +kernel, rfl, by decide +kernel, by decide +kernel⟩
theorem dm_Negativedd__initdd_ (F : Fun K "__init__" "Negative.__init__" s_Negativedd__initdd_ f fd) (b : Binds K fd ["self", "width", "height", "densities"] []) (T : Tx P W K cls mg C_Negative C_InvalidLine C_InvalidNegative) (G_wrong_part : Df P W K cls mg base 3 "wrong_part" 3 M_wrong_part) (I_InvalidNegative : EkI P W K cls mg base 1 "InvalidNegative" 101 C_InvalidNegative "part") : Dm P W K cls mg base 4 f 4 M_Negativedd__initdd__2 :=
  dm_mk (N := ["self", "width", "height", "densities", "part"]) (ps := ["self", "width", "height", "densities"]) (g := B_Negativedd__initdd__2) F b sc_Negativedd__initdd_ (fun cdv A outer s H E hr tk => (
  sss_cons (ss_set 4 sc_Negativedd__initdd_.nd (se_call tk G_wrong_part (hr.mono (by decide)) rfl (sa_cons (se_var 1) (sa_cons (se_var 2) (sa_cons (se_var 3) (sa_nil)))))) (
  sss_cons (ss_if (st_cmp ov_notN (se_var 4) (se_non)) (
  sss_one (ss_raise1 rfl tk I_InvalidNegative (hr.mono (by decide)) rfl (se_var 4))) (
  sss_nil)) (
  sss_cons (ss_fld T.k_Negative T.f_Negative_columns (se_var 0) (se_var 1)) (
  sss_cons (ss_fld T.k_Negative T.f_Negative_lines (se_var 0) (se_var 2)) (
  sss_one (ss_fld T.k_Negative T.f_Negative_figures (se_var 0) (se_var 3))))))))
theorem sc_deed_of : FnScope ["words", "numbers", "word"] ["words"] (defScope s_deed_of) := ⟨rfl, rfl, rfl, by decide +kernel, rfl, by decide +kernel, by decide +kernel⟩
theorem df_deed_of (F : Fun K "deed_of" "deed_of" s_deed_of f fd) (b : Binds K fd ["words"] []) (hm : mg "deed_of" = some (.ref f)) (T : Tx P W K cls mg C_Negative C_InvalidLine C_InvalidNegative) : Df P W K cls mg base 1 "deed_of" 1 M_deed_of :=
  (df_mk (N := ["words", "numbers", "word"]) (ps := ["words"]) (g := B_deed_of) F b hm sc_deed_of (fun cdv A outer s H E hr tk => (
  sss_cons (ss_setLc (i := 1) (own := [("word", 2)]) rfl sc_deed_of.nd rfl rfl (sw_true rfl rfl rfl (by decide +kernel)) (si_of (se_cut (se_var 0) (so_some (se_int)) (so_none))) (blkOk_by (N := ["words", "numbers", "word"]) (sc := defScope s_deed_of) (own := [("word", 2)]) (by decide +kernel)) (fun _ _ _ _ _ => sg_var 2 sc_deed_of.nd) (fun _ _ _ _ _ => sts_nil) (fun _ _ _ _ _ => se_callTy cv_int (by exact rfl) T.n_int (by decide +kernel) (sa_cons (se_var 2) (sa_nil)))) (
  sss_cons (ss_if (st_cmp (ov_eq hr.units) (se_ix (se_var 0) (se_int)) (se_str)) (
  sss_one (ss_ret (se_tup (sa_cons (se_str) (sa_cons (se_ix (se_var 1) (se_int)) (sa_cons (se_callTy cv_tuple (by exact rfl) T.n_tuple (by decide +kernel) (sa_cons (se_cut (se_var 1) (so_some (se_int)) (so_none)) (sa_nil))) (sa_nil))))))) (
  sss_nil)) (
  sss_one (ss_ret (se_tup (sa_cons (se_ix (se_var 0) (se_int)) (sa_star (se_var 1) (sa_nil))))))))))
theorem sc_worded_rows : FnScope ["text", "row"] ["text"] (defScope s_worded_rows) := ⟨rfl, rfl, rfl, by decide +kernel, rfl, by decide +kernel, by decide +kernel⟩
theorem df_worded_rows (F : Fun K "worded_rows" "worded_rows" s_worded_rows f fd) (b : Binds K fd ["text"] []) (hm : mg "worded_rows" = some (.ref f)) (T : Tx P W K cls mg C_Negative C_InvalidLine C_InvalidNegative) : Df P W K cls mg base 1 "worded_rows" 1 M_worded_rows :=
  (df_mk (N := ["text", "row"]) (ps := ["text"]) (g := B_worded_rows) F b hm sc_worded_rows (fun cdv A outer s H E hr tk => (
  sss_cons (ss_if (st_cmp (ov_eq hr.units) (se_var 0) (se_str)) (
  sss_one (ss_ret (se_lst (sa_nil)))) (
  sss_nil)) (
  sss_one (ss_ret (se_lc (own := [("row", 1)]) rfl sc_worded_rows.nd (si_of (se_split (se_var 0) (se_str))) (blkOk_by (N := ["text", "row"]) (sc := defScope s_worded_rows) (own := [("row", 1)]) (by decide +kernel)) (fun _ _ _ _ _ => sg_var 1 sc_worded_rows.nd) (fun _ _ _ _ _ => sts_nil) (fun _ _ _ _ _ => se_split (se_var 1) (se_str))))))))
theorem sc_number_of : FnScope ["word", "number"] ["word"] (defScope s_number_of) := ⟨rfl, rfl, rfl, by decide +kernel, rfl, by decide +kernel, by decide +kernel⟩
theorem df_number_of (F : Fun K "number_of" "number_of" s_number_of f fd) (b : Binds K fd ["word"] []) (hm : mg "number_of" = some (.ref f)) (T : Tx P W K cls mg C_Negative C_InvalidLine C_InvalidNegative) {f_Negativedd__lendd_ : Addr} (g_Negativedd__lendd_ : Dm P W K cls mg base 1 f_Negativedd__lendd_ 1 M_Negativedd__lendd_) (len_at : PySem.W.findIn K (.ref C_Negative) "__len__" = some (some (.ref f_Negativedd__lendd_))) (len_fn : PySem.W.isFn K (.ref f_Negativedd__lendd_) = true) : Df P W K cls mg base 3 "number_of" 1 M_number_of :=
  (df_mk (N := ["word", "number"]) (ps := ["word"]) (g := B_number_of) F b hm sc_number_of (fun cdv A outer s H E hr tk => (
  sss_cons (ss_if (SW.st (sw_or (st_cmp ov_gt (se_callB (cv_lenO T.k_Negative len_at len_fn g_Negativedd__lendd_ (hr.mono (by decide))) (by exact rfl) T.n_len (by decide +kernel) (sa_cons (se_var 0) (sa_nil))) (se_globG (by exact rfl) T.c_LONGEST_NUMBER)) (sw_or (st_not (st_val (se_txt PySem.F.slot_str_isascii PySem.F.type_str_isascii mt_isascii (se_var 0)))) (sw_or1 (st_not (st_val (se_txt PySem.F.slot_str_isdigit PySem.F.type_str_isdigit mt_isdigit (se_var 0)))))))) (
  sss_one (ss_ret (se_non))) (
  sss_nil)) (
  sss_cons (ss_set 1 sc_number_of.nd (se_callTy cv_int (by exact rfl) T.n_int (by decide +kernel) (sa_cons (se_var 0) (sa_nil)))) (
  sss_one (ss_ret (se_if (st_cmp (ov_eq hr.units) (se_callTy cv_str (by exact rfl) T.n_str (by decide +kernel) (sa_cons (se_var 1) (sa_nil))) (se_var 0)) (se_var 1) (se_non))))))))
theorem sc_wrong_cell : FnScope ["words", "first", "cells", "least", "index", "cell"] ["words", "first", "cells"] (defScope s_wrong_cell) := ⟨rfl, rfl, rfl, by decide +kernel, rfl, by decide +kernel, by decide +kernel⟩
theorem df_wrong_cell (F : Fun K "wrong_cell" "wrong_cell" s_wrong_cell f fd) (b : Binds K fd ["words", "first", "cells"] []) (hm : mg "wrong_cell" = some (.ref f)) (T : Tx P W K cls mg C_Negative C_InvalidLine C_InvalidNegative) (G_is_number : Df P W K cls mg base 1 "is_number" 3 M_is_number) (G_number_of : Df P W K cls mg base 3 "number_of" 1 M_number_of) {f_Negativedd__lendd_ : Addr} (g_Negativedd__lendd_ : Dm P W K cls mg base 1 f_Negativedd__lendd_ 1 M_Negativedd__lendd_) (len_at : PySem.W.findIn K (.ref C_Negative) "__len__" = some (some (.ref f_Negativedd__lendd_))) (len_fn : PySem.W.isFn K (.ref f_Negativedd__lendd_) = true) : Df P W K cls mg base 4 "wrong_cell" 3 M_wrong_cell :=
  (df_mk (N := ["words", "first", "cells", "least", "index", "cell"]) (ps := ["words", "first", "cells"]) (g := B_wrong_cell) F b hm sc_wrong_cell (fun cdv A outer s H E hr tk => (
  sss_cons (ss_set 3 sc_wrong_cell.nd (se_int)) (
  sss_cons (ss_for (passes_of rfl) rfl (si_range2 rfl T.n_range (se_var 1) (se_callB (cv_lenO T.k_Negative len_at len_fn g_Negativedd__lendd_ (hr.mono (by decide))) (by exact rfl) T.n_len (by decide +kernel) (sa_cons (se_var 0) (sa_nil)))) (sg_var 4 sc_wrong_cell.nd) (
  sss_cons (ss_set 5 sc_wrong_cell.nd (se_call tk G_number_of (hr.mono (by decide)) rfl (sa_cons (se_ix (se_var 0) (se_var 4)) (sa_nil)))) (
  sss_cons (ss_if (st_not (st_val (se_call tk G_is_number (hr.mono (by decide)) rfl (sa_cons (se_var 5) (sa_cons (se_var 3) (sa_cons (se_bin ov_sub (se_var 2) (se_int)) (sa_nil))))))) (
  sss_one (ss_ret (se_var 4))) (
  sss_nil)) (
  sss_one (ss_set 3 sc_wrong_cell.nd (se_bin ov_add (se_var 5) (se_int))))))) (
  sss_one (ss_ret (se_non)))))))
theorem sc_wrong_word : FnScope ["words", "cells", "wanted", "index", "word"] ["words", "cells"] (defScope s_wrong_word) := ⟨rfl, rfl, rfl, by decide +kernel, rfl, by decide +kernel, by decide +kernel⟩
theorem df_wrong_word (F : Fun K "wrong_word" "wrong_word" s_wrong_word f fd) (b : Binds K fd ["words", "cells"] []) (hm : mg "wrong_word" = some (.ref f)) (T : Tx P W K cls mg C_Negative C_InvalidLine C_InvalidNegative) (G_is_number : Df P W K cls mg base 1 "is_number" 3 M_is_number) (G_number_of : Df P W K cls mg base 3 "number_of" 1 M_number_of) (G_wrong_cell : Df P W K cls mg base 4 "wrong_cell" 3 M_wrong_cell) {f_Negativedd__lendd_ : Addr} (g_Negativedd__lendd_ : Dm P W K cls mg base 1 f_Negativedd__lendd_ 1 M_Negativedd__lendd_) (len_at : PySem.W.findIn K (.ref C_Negative) "__len__" = some (some (.ref f_Negativedd__lendd_))) (len_fn : PySem.W.isFn K (.ref f_Negativedd__lendd_) = true) : Df P W K cls mg base 5 "wrong_word" 2 M_wrong_word :=
  (df_mk (N := ["words", "cells", "wanted", "index", "word"]) (ps := ["words", "cells"]) (g := B_wrong_word) F b hm sc_wrong_word (fun cdv A outer s H E hr tk => (
  sss_cons (ss_if (st_dNotIn (by exact rfl) T.d_TIMES (se_ix (se_var 0) (se_int))) (
  sss_one (ss_ret (se_int))) (
  sss_nil)) (
  sss_cons (ss_set 2 sc_wrong_word.nd (se_bin ov_add (se_int) (se_dIx (by exact rfl) T.d_TIMES (se_ix (se_var 0) (se_int))))) (
  sss_cons (ss_for (passes_of rfl) rfl (si_enumC rfl T.n_enumerate (se_cut (se_var 0) (so_some (se_int)) (so_some (se_var 2)))) (sg_tup rfl (sgs_cons (sg_var 3 sc_wrong_word.nd) (sgs_cons (sg_var 4 sc_wrong_word.nd) (sgs_nil)))) (
  sss_one (ss_if (st_not (st_val (se_call tk G_is_number (hr.mono (by decide)) rfl (sa_cons (se_call tk G_number_of (hr.mono (by decide)) rfl (sa_cons (se_var 4) (sa_nil))) (sa_cons (se_int) (sa_cons (se_globG (by exact rfl) T.c_MOST_TICKS) (sa_nil))))))) (
  sss_one (ss_ret (se_var 3))) (
  sss_nil)))) (
  sss_cons (ss_if (st_cmp ov_lt (se_callB (cv_lenO T.k_Negative len_at len_fn g_Negativedd__lendd_ (hr.mono (by decide))) (by exact rfl) T.n_len (by decide +kernel) (sa_cons (se_var 0) (sa_nil))) (se_var 2)) (
  sss_one (ss_ret (se_callB (cv_lenO T.k_Negative len_at len_fn g_Negativedd__lendd_ (hr.mono (by decide))) (by exact rfl) T.n_len (by decide +kernel) (sa_cons (se_var 0) (sa_nil))))) (
  sss_nil)) (
  sss_cons (ss_if (st_cmp (ov_eq hr.units) (se_ix (se_var 0) (se_int)) (se_str)) (
  sss_one (ss_ret (se_call tk G_wrong_cell (hr.mono (by decide)) rfl (sa_cons (se_var 0) (sa_cons (se_var 2) (sa_cons (se_var 1) (sa_nil))))))) (
  sss_nil)) (
  sss_one (ss_ret (se_if (st_cmp ov_gt (se_callB (cv_lenO T.k_Negative len_at len_fn g_Negativedd__lendd_ (hr.mono (by decide))) (by exact rfl) T.n_len (by decide +kernel) (sa_cons (se_var 0) (sa_nil))) (se_var 2)) (se_var 2) (se_non)))))))))))
theorem sc_read_recipe : FnScope ["negative", "text", "deeds", "row", "words", "word"] ["negative", "text"] (defScope s_read_recipe) := ⟨rfl, rfl, rfl, by decide +kernel, rfl, by decide +kernel, by decide +kernel⟩
theorem df_read_recipe (F : Fun K "read_recipe" "read_recipe" s_read_recipe f fd) (b : Binds K fd ["negative", "text"] []) (hm : mg "read_recipe" = some (.ref f)) (T : Tx P W K cls mg C_Negative C_InvalidLine C_InvalidNegative) (G_deed_of : Df P W K cls mg base 1 "deed_of" 1 M_deed_of) (G_worded_rows : Df P W K cls mg base 1 "worded_rows" 1 M_worded_rows) (G_wrong_word : Df P W K cls mg base 5 "wrong_word" 2 M_wrong_word) {f_Negativedd__lendd_ : Addr} (g_Negativedd__lendd_ : Dm P W K cls mg base 1 f_Negativedd__lendd_ 1 M_Negativedd__lendd_) (len_at : PySem.W.findIn K (.ref C_Negative) "__len__" = some (some (.ref f_Negativedd__lendd_))) (len_fn : PySem.W.isFn K (.ref f_Negativedd__lendd_) = true) (I_InvalidLine : EkI2 P W K cls mg base 1 "InvalidLine" 117 C_InvalidLine "row" "word") : Df P W K cls mg base 6 "read_recipe" 2 M_read_recipe :=
  Df.fin (df_mk (N := ["negative", "text", "deeds", "row", "words", "word"]) (ps := ["negative", "text"]) (g := B_read_recipe) F b hm sc_read_recipe (fun cdv A outer s H E hr tk => (
  sss_cons (ss_set 2 sc_read_recipe.nd (se_lstT (sa_nil))) (
  sss_cons (ss_for (passes_of rfl) rfl (si_enum rfl T.n_enumerate (se_call tk G_worded_rows (hr.mono (by decide)) rfl (sa_cons (se_var 1) (sa_nil)))) (sg_tup rfl (sgs_cons (sg_var 3 sc_read_recipe.nd) (sgs_cons (sg_var 4 sc_read_recipe.nd) (sgs_nil)))) (
  sss_cons (ss_set 5 sc_read_recipe.nd (se_if (st_cmp (ov_eq hr.units) (se_var 3) (se_globG (by exact rfl) T.c_MOST_DEEDS)) (se_int) (se_call tk G_wrong_word (hr.mono (by decide)) rfl (sa_cons (se_var 4) (sa_cons (se_callB (cv_lenO T.k_Negative len_at len_fn g_Negativedd__lendd_ (hr.mono (by decide))) (by exact rfl) T.n_len (by decide +kernel) (sa_cons (se_var 0) (sa_nil))) (sa_nil)))))) (
  sss_cons (ss_if (st_cmp ov_notN (se_var 5) (se_non)) (
  sss_one (ss_raise2 rfl tk I_InvalidLine (hr.mono (by decide)) rfl (se_var 3) (se_var 5))) (
  sss_nil)) (
  sss_one (ss_expr (se_lm (se_var 2) (se_call tk G_deed_of (hr.mono (by decide)) rfl (sa_cons (se_var 4) (sa_nil))) (fun p1 p2 => pe_bm PySem.F.plainAttrs_list PySem.F.slot_list_append PySem.F.type_list_append mt_append p1 p2) (fun S r1 r2 q => app_val S r1 r2 q))))))) (
  sss_one (ss_ret (se_callTy cv_tuple (by exact rfl) T.n_tuple (by decide +kernel) (sa_cons (se_var 2) (sa_nil)))))))))
theorem sc_l_place : FnScope ["_law_rows", "e"] ["_law_rows"] (defScope s_l_place) := ⟨rfl, rfl, rfl, by decide +kernel, rfl, by decide +kernel, by decide +kernel⟩
theorem df_l_place (F : Fun K "_law_place" "_law_place" s_l_place f fd) (b : Binds K fd ["_law_rows"] []) (hm : mg "_law_place" = some (.ref f)) (T : Tx P W K cls mg C_Negative C_InvalidLine C_InvalidNegative) (G_read_recipe : Df P W K cls mg base 6 "read_recipe" 2 M_read_recipe) {f_Negativedd__initdd_ : Addr} (g_Negativedd__initdd_ : Dm P W K cls mg base 4 f_Negativedd__initdd_ 4 M_Negativedd__initdd__2) (mk_Negative : Mk K C_Negative f_Negativedd__initdd_) : Df P W K cls mg base 7 "_law_place" 1 M_l_place :=
  (df_mk (N := ["_law_rows", "e"]) (ps := ["_law_rows"]) (g := B_l_place) F b hm sc_l_place (fun cdv A outer s H E hr tk => (
  sss_cons (ss_try rfl rfl sc_l_place.nd rfl rfl tk (fun W' pn xe tk hp => (
  sss_one (ss_expr (se_call tk G_read_recipe (hr.mono (by decide)) rfl (sa_cons (se_makeS tk T.k_Negative mk_Negative g_Negativedd__initdd_ (hr.mono (by decide)) (by exact rfl) T.m_Negative (sa_cons (se_int) (sa_cons (se_int) (sa_cons (se_str) (sa_nil))))) (sa_cons (se_join (se_str) (se_var 0)) (sa_nil))))))) (.cons (q := ⟨.ref C_InvalidLine, (fun k => decide (k ∈ [117])), xRet (xTup (xCons (eXf [117] "row") (xCons (eXf [117] "word") ((fun _ _ _ => aNil)))))⟩) ⟨by exact rfl, by decide +kernel, .inl T.q_InvalidLine.mg⟩ T.xm_InvalidLine (ssx_ret (sex_tup (sax_cons (sex_f [117] T.xk_row rfl (.inl rfl)) (sax_cons (sex_f [117] T.xk_word rfl (.inl rfl)) (sax_nil))))) (.nil))) (
  sss_one (ss_ret (se_non))))))
theorem sc_l_taken : FnScope ["_law_row", "_law_many", "_law_found", "_law_cell"] ["_law_row", "_law_many"] (defScope s_l_taken) := ⟨rfl, rfl, rfl, by decide +kernel, rfl, by decide +kernel, by decide +kernel⟩
theorem df_l_taken (F : Fun K "_law_taken" "_law_taken" s_l_taken f fd) (b : Binds K fd ["_law_row", "_law_many"] []) (hm : mg "_law_taken" = some (.ref f)) (T : Tx P W K cls mg C_Negative C_InvalidLine C_InvalidNegative) {f_Negativedd__lendd_ : Addr} (g_Negativedd__lendd_ : Dm P W K cls mg base 1 f_Negativedd__lendd_ 1 M_Negativedd__lendd_) (len_at : PySem.W.findIn K (.ref C_Negative) "__len__" = some (some (.ref f_Negativedd__lendd_))) (len_fn : PySem.W.isFn K (.ref f_Negativedd__lendd_) = true) : Df P W K cls mg base 3 "_law_taken" 2 M_l_taken :=
  (df_mk (N := ["_law_row", "_law_many", "_law_found", "_law_cell"]) (ps := ["_law_row", "_law_many"]) (g := B_l_taken) F b hm sc_l_taken (fun cdv A outer s H E hr tk => (
  sss_cons (ss_if (st_cmp ov_gt (se_ix (se_var 0) (se_int)) (se_int)) (
  sss_cons (ss_set 2 sc_l_taken.nd (se_bin ov_mod (se_callTy cv_int (by exact rfl) T.n_int (by decide +kernel) (sa_cons (se_ix (se_var 0) (se_int)) (sa_nil))) (se_var 1))) (
  sss_cons (ss_asg (se_bin ov_fdv (se_ix (se_var 0) (se_int)) (se_var 1)) (sg_ix (W := W0) (se_var 0) (se_int))) (
  sss_one (ss_ret (se_var 2))))) (
  sss_nil)) (
  sss_cons (ss_asg (se_bin ov_add (se_ix (se_var 0) (se_int)) (se_int)) (sg_ix (W := W0) (se_var 0) (se_int))) (
  sss_cons (ss_if (st_cmp ov_gt (se_ix (se_var 0) (se_int)) (se_callB (cv_lenO T.k_Negative len_at len_fn g_Negativedd__lendd_ (hr.mono (by decide))) (by exact rfl) T.n_len (by decide +kernel) (sa_cons (se_ix (se_var 0) (se_int)) (sa_nil)))) (
  sss_cons (ss_asg (se_bin ov_mod (se_callTy cv_int (by exact rfl) T.n_int (by decide +kernel) (sa_cons (se_bin ov_add (se_bin ov_mul (se_ix (se_var 0) (se_int)) (se_int)) (se_int)) (sa_nil))) (se_int)) (sg_ix (W := W0) (se_var 0) (se_int))) (
  sss_one (ss_ret (se_bin ov_mod (se_callTy cv_int (by exact rfl) T.n_int (by decide +kernel) (sa_cons (se_bin ov_fdv (se_ix (se_var 0) (se_int)) (se_int)) (sa_nil))) (se_var 1))))) (
  sss_nil)) (
  sss_cons (ss_set 3 sc_l_taken.nd (se_ix (se_ix (se_var 0) (se_int)) (se_bin ov_sub (se_ix (se_var 0) (se_int)) (se_int)))) (
  sss_cons (ss_asg (se_bin ov_mod (se_callTy cv_int (by exact rfl) T.n_int (by decide +kernel) (sa_cons (se_bin ov_add (se_bin ov_add (se_bin ov_mul (se_ix (se_var 0) (se_int)) (se_int)) (se_var 3)) (se_int)) (sa_nil))) (se_int)) (sg_ix (W := W0) (se_var 0) (se_int))) (
  sss_cons (ss_if (st_cmp ov_ge (se_var 3) (se_bin ov_pow (se_int) (se_int))) (
  sss_one (ss_asg (se_bin ov_fdv (se_var 3) (se_var 1)) (sg_ix (W := W0) (se_var 0) (se_int)))) (
  sss_nil)) (
  sss_one (ss_ret (se_bin ov_mod (se_callTy cv_int (by exact rfl) T.n_int (by decide +kernel) (sa_cons (se_var 3) (sa_nil))) (se_var 1))))))))))))
theorem sc_law : FnScope ["_law_script", "_law_row", "_law_good", "_law_wrong", "_law_turn", "_law_k", "_law_line", "_law_word", "_law_many"] ["_law_script"] (defScope s_law) := ⟨rfl, rfl, rfl, by decide +kernel, rfl, by decide +kernel, by decide +kernel⟩
theorem fn_law (F : Fun K "law" "law" s_law f fd) (T : Tx P W K cls mg C_Negative C_InvalidLine C_InvalidNegative) (G_l_place : Df P W K cls mg base 7 "_law_place" 1 M_l_place) (G_l_taken : Df P W K cls mg base 3 "_law_taken" 2 M_l_taken) {f_Negativedd__lendd_ : Addr} (g_Negativedd__lendd_ : Dm P W K cls mg base 1 f_Negativedd__lendd_ 1 M_Negativedd__lendd_) (len_at : PySem.W.findIn K (.ref C_Negative) "__len__" = some (some (.ref f_Negativedd__lendd_))) (len_fn : PySem.W.isFn K (.ref f_Negativedd__lendd_) = true) : FnOk P W K mg base (CX P W) 8 f fd ["_law_script"] (spD K cls M_law 1) :=
  fn_fin (fn_mk (N := ["_law_script", "_law_row", "_law_good", "_law_wrong", "_law_turn", "_law_k", "_law_line", "_law_word", "_law_many"]) (ps := ["_law_script"]) (g := B_law) F sc_law (fun cdv A outer s H E hr tk => (
  sss_cons (ss_set 1 sc_law.nd (se_lstT (sa_cons (se_var 0) (sa_cons (se_int) (sa_cons (se_int) (sa_cons (se_int) (sa_nil))))))) (
  sss_cons (ss_set 2 sc_law.nd (se_lst (sa_cons (se_str) (sa_cons (se_str) (sa_cons (se_str) (sa_cons (se_str) (sa_cons (se_str) (sa_nil)))))))) (
  sss_cons (ss_if (st_cmp ov_notN (se_call tk G_l_place (hr.mono (by decide)) rfl (sa_cons (se_var 2) (sa_nil))) (se_non)) (
  sss_one (ss_ret (se_bl))) (
  sss_nil)) (
  sss_cons (ss_set 3 sc_law.nd (se_lstT (sa_cons (se_tup (sa_cons (se_str) (sa_cons (se_int) (sa_nil)))) (sa_cons (se_tup (sa_cons (se_str) (sa_cons (se_int) (sa_nil)))) (sa_cons (se_tup (sa_cons (se_str) (sa_cons (se_int) (sa_nil)))) (sa_cons (se_tup (sa_cons (se_str) (sa_cons (se_int) (sa_nil)))) (sa_cons (se_tup (sa_cons (se_str) (sa_cons (se_int) (sa_nil)))) (sa_cons (se_tup (sa_cons (se_str) (sa_cons (se_int) (sa_nil)))) (sa_nil))))))))) (
  sss_cons (ss_expr (se_lm (se_var 3) (se_tup (sa_cons (se_str) (sa_cons (se_int) (sa_nil)))) (fun p1 p2 => pe_bm PySem.F.plainAttrs_list PySem.F.slot_list_append PySem.F.type_list_append mt_append p1 p2) (fun S r1 r2 q => app_val S r1 r2 q))) (
  sss_cons (ss_set 3 sc_law.nd (se_addT (se_var 3) (se_lst (sa_cons (se_tup (sa_cons (se_str) (sa_cons (se_int) (sa_nil)))) (sa_cons (se_tup (sa_cons (se_str) (sa_cons (se_int) (sa_nil)))) (sa_cons (se_tup (sa_cons (se_str) (sa_cons (se_int) (sa_nil)))) (sa_cons (se_tup (sa_cons (se_str) (sa_cons (se_int) (sa_nil)))) (sa_cons (se_tup (sa_cons (se_str) (sa_cons (se_int) (sa_nil)))) (sa_nil))))))))) (
  sss_cons (ss_set 3 sc_law.nd (se_addT (se_var 3) (se_lst (sa_cons (se_tup (sa_cons (se_str) (sa_cons (se_int) (sa_nil)))) (sa_cons (se_tup (sa_cons (se_str) (sa_cons (se_int) (sa_nil)))) (sa_cons (se_tup (sa_cons (se_str) (sa_cons (se_int) (sa_nil)))) (sa_cons (se_tup (sa_cons (se_str) (sa_cons (se_int) (sa_nil)))) (sa_nil)))))))) (
  sss_cons (ss_set 3 sc_law.nd (se_addT (se_var 3) (se_lst (sa_cons (se_tup (sa_cons (se_str) (sa_cons (se_int) (sa_nil)))) (sa_cons (se_tup (sa_cons (se_str) (sa_cons (se_int) (sa_nil)))) (sa_nil)))))) (
  sss_cons (ss_set 3 sc_law.nd (se_addT (se_var 3) (se_lst (sa_cons (se_tup (sa_cons (se_str) (sa_cons (se_int) (sa_nil)))) (sa_cons (se_tup (sa_cons (se_str) (sa_cons (se_int) (sa_nil)))) (sa_cons (se_tup (sa_cons (se_str) (sa_cons (se_int) (sa_nil)))) (sa_cons (se_tup (sa_cons (se_str) (sa_cons (se_int) (sa_nil)))) (sa_cons (se_tup (sa_cons (se_str) (sa_cons (se_int) (sa_nil)))) (sa_cons (se_tup (sa_cons (se_str) (sa_cons (se_int) (sa_nil)))) (sa_nil)))))))))) (
  sss_cons (ss_set 3 sc_law.nd (se_addT (se_var 3) (se_lst (sa_cons (se_tup (sa_cons (se_str) (sa_cons (se_int) (sa_nil)))) (sa_cons (se_tup (sa_cons (se_str) (sa_cons (se_int) (sa_nil)))) (sa_cons (se_tup (sa_cons (se_str) (sa_cons (se_int) (sa_nil)))) (sa_cons (se_tup (sa_cons (se_str) (sa_cons (se_int) (sa_nil)))) (sa_nil)))))))) (
  sss_cons (ss_for (passes_of rfl) rfl (si_range1 rfl T.n_range (se_int)) (sg_var 4 sc_law.nd) (
  sss_cons (ss_set 5 sc_law.nd (se_call tk G_l_taken (hr.mono (by decide)) rfl (sa_cons (se_var 1) (sa_cons (se_int) (sa_nil))))) (
  sss_cons (ss_asg (se_ix (se_var 3) (se_call tk G_l_taken (hr.mono (by decide)) rfl (sa_cons (se_var 1) (sa_cons (se_callB (cv_lenO T.k_Negative len_at len_fn g_Negativedd__lendd_ (hr.mono (by decide))) (by exact rfl) T.n_len (by decide +kernel) (sa_cons (se_var 3) (sa_nil))) (sa_nil))))) (sg_tup rfl (sgs_cons (sg_var 6 sc_law.nd) (sgs_cons (sg_var 7 sc_law.nd) (sgs_nil))))) (
  sss_cons (ss_if (st_cmp (ov_ne hr.units) (se_call tk G_l_place (hr.mono (by decide)) rfl (sa_cons (se_bin ov_add (se_bin ov_add (se_cut (se_var 2) (so_none) (so_some (se_var 5))) (se_lst (sa_cons (se_var 6) (sa_nil)))) (se_cut (se_var 2) (so_some (se_var 5)) (so_none))) (sa_nil))) (se_tup (sa_cons (se_var 5) (sa_cons (se_var 7) (sa_nil))))) (
  sss_one (ss_ret (se_bl))) (
  sss_nil)) (
  sss_cons (ss_set 8 sc_law.nd (se_bin ov_add (se_int) (se_call tk G_l_taken (hr.mono (by decide)) rfl (sa_cons (se_var 1) (sa_cons (se_int) (sa_nil)))))) (
  sss_one (ss_if (st_cmp (ov_ne hr.units) (se_call tk G_l_place (hr.mono (by decide)) rfl (sa_cons (se_bin ov_mul (se_lst (sa_cons (se_ix (se_var 2) (se_call tk G_l_taken (hr.mono (by decide)) rfl (sa_cons (se_var 1) (sa_cons (se_int) (sa_nil))))) (sa_nil))) (se_var 8)) (sa_nil))) (se_if (st_cmp ov_gt (se_var 8) (se_int)) (se_tup (sa_cons (se_int) (sa_cons (se_int) (sa_nil)))) (se_non))) (
  sss_one (ss_ret (se_bl))) (
  sss_nil)))))))) (
  sss_one (ss_ret (se_bl))))))))))))))))
end
end K43
set_option Elab.async false
set_option linter.all false
set_option maxRecDepth 100000
namespace K43
open PySem L2 Fw Pg
set_option maxHeartbeats 8000000 in
theorem all_mk {l : PySem.W.OpenLaw} {w : World} {K : PySem.W.Frag} {h : Heap} {mg : Str → Option Value} {fa : Addr} (X : K.In h) (G : h.Ns mainGlobals mg) (hfa : mg "law" = some (.ref fa))
    {C_InvalidNegative : Addr}
    {C_InvalidLine : Addr}
    {C_Negative : Addr}
    {f_Negativedd__lendd_ : Addr} {od_Negativedd__lendd_ an_Negativedd__lendd_ : Option Addr} {sl_Negativedd__lendd_ : Array (Option Value)} {oc_Negativedd__lendd_ kV_Negativedd__lendd_ dc_Negativedd__lendd_ pm_Negativedd__lendd_ cd_Negativedd__lendd_ ct_Negativedd__lendd_ : Value}
    {f_is_number : Addr} {od_is_number an_is_number : Option Addr} {sl_is_number : Array (Option Value)} {oc_is_number kV_is_number dc_is_number pm_is_number cd_is_number ct_is_number : Value}
    {f_wrong_side : Addr} {od_wrong_side an_wrong_side : Option Addr} {sl_wrong_side : Array (Option Value)} {oc_wrong_side kV_wrong_side dc_wrong_side pm_wrong_side cd_wrong_side ct_wrong_side : Value}
    {f_wrong_part : Addr} {od_wrong_part an_wrong_part : Option Addr} {sl_wrong_part : Array (Option Value)} {oc_wrong_part kV_wrong_part dc_wrong_part pm_wrong_part cd_wrong_part ct_wrong_part : Value}
    {f_Negativedd__initdd_ : Addr} {od_Negativedd__initdd_ an_Negativedd__initdd_ : Option Addr} {sl_Negativedd__initdd_ : Array (Option Value)} {oc_Negativedd__initdd_ kV_Negativedd__initdd_ dc_Negativedd__initdd_ pm_Negativedd__initdd_ cd_Negativedd__initdd_ ct_Negativedd__initdd_ : Value}
    {f_deed_of : Addr} {od_deed_of an_deed_of : Option Addr} {sl_deed_of : Array (Option Value)} {oc_deed_of kV_deed_of dc_deed_of pm_deed_of cd_deed_of ct_deed_of : Value}
    {f_worded_rows : Addr} {od_worded_rows an_worded_rows : Option Addr} {sl_worded_rows : Array (Option Value)} {oc_worded_rows kV_worded_rows dc_worded_rows pm_worded_rows cd_worded_rows ct_worded_rows : Value}
    {f_number_of : Addr} {od_number_of an_number_of : Option Addr} {sl_number_of : Array (Option Value)} {oc_number_of kV_number_of dc_number_of pm_number_of cd_number_of ct_number_of : Value}
    {f_wrong_cell : Addr} {od_wrong_cell an_wrong_cell : Option Addr} {sl_wrong_cell : Array (Option Value)} {oc_wrong_cell kV_wrong_cell dc_wrong_cell pm_wrong_cell cd_wrong_cell ct_wrong_cell : Value}
    {f_wrong_word : Addr} {od_wrong_word an_wrong_word : Option Addr} {sl_wrong_word : Array (Option Value)} {oc_wrong_word kV_wrong_word dc_wrong_word pm_wrong_word cd_wrong_word ct_wrong_word : Value}
    {f_read_recipe : Addr} {od_read_recipe an_read_recipe : Option Addr} {sl_read_recipe : Array (Option Value)} {oc_read_recipe kV_read_recipe dc_read_recipe pm_read_recipe cd_read_recipe ct_read_recipe : Value}
    {f_l_place : Addr} {od_l_place an_l_place : Option Addr} {sl_l_place : Array (Option Value)} {oc_l_place kV_l_place dc_l_place pm_l_place cd_l_place ct_l_place : Value}
    {f_l_taken : Addr} {od_l_taken an_l_taken : Option Addr} {sl_l_taken : Array (Option Value)} {oc_l_taken kV_l_taken dc_l_taken pm_l_taken cd_l_taken ct_l_taken : Value}
    {f_law : Addr} {od_law an_law : Option Addr} {sl_law : Array (Option Value)} {oc_law kV_law dc_law pm_law cd_law ct_law : Value}
    {fi_InvalidLine cc_InvalidLine ca_InvalidLine N_InvalidLine : Addr} {od_InvalidLine an_InvalidLine dd_InvalidLine cdd_InvalidLine cld_InvalidLine : Option Addr} {sl_InvalidLine ccs_InvalidLine csl_InvalidLine : Array (Option Value)} {oc_InvalidLine kV_InvalidLine dc_InvalidLine pm_InvalidLine ct_InvalidLine ccl_InvalidLine cl_InvalidLine : Value} {nm_InvalidLine qn_InvalidLine fl_InvalidLine : Str} {bs_InvalidLine bm_InvalidLine sub_InvalidLine : List Value} {sn_InvalidLine : List Str} {ab_InvalidLine : Bool} {col_InvalidLine : Option Bool} {k0_InvalidLine k1_InvalidLine k2_InvalidLine k3_InvalidLine k5_InvalidLine : Option Value} {vs_InvalidLine : Array Value} {tf_InvalidLine : Tok}
    {fi_InvalidNegative cc_InvalidNegative ca_InvalidNegative N_InvalidNegative : Addr} {od_InvalidNegative an_InvalidNegative dd_InvalidNegative cdd_InvalidNegative cld_InvalidNegative : Option Addr} {sl_InvalidNegative ccs_InvalidNegative csl_InvalidNegative : Array (Option Value)} {oc_InvalidNegative kV_InvalidNegative dc_InvalidNegative pm_InvalidNegative ct_InvalidNegative ccl_InvalidNegative cl_InvalidNegative : Value} {nm_InvalidNegative qn_InvalidNegative fl_InvalidNegative : Str} {bs_InvalidNegative bm_InvalidNegative sub_InvalidNegative : List Value} {sn_InvalidNegative : List Str} {ab_InvalidNegative : Bool} {col_InvalidNegative : Option Bool} {k0_InvalidNegative k1_InvalidNegative k2_InvalidNegative k3_InvalidNegative k5_InvalidNegative : Option Value} {vs_InvalidNegative : Array Value} {tf_InvalidNegative : Tok}
    {t_DENSITIES : Tok}
    {t_LONGEST_NUMBER : Tok}
    {t_MOST_CELLS : Tok}
    {t_MOST_DEEDS : Tok}
    {t_MOST_SIDE : Tok}
    {t_MOST_TICKS : Tok}
    {p_TIMES : Addr} {z_TIMES : Nat} {t_TIMES_0 u_TIMES_0 : Tok} {h_TIMES_0 : Int} {t_TIMES_1 u_TIMES_1 : Tok} {h_TIMES_1 : Int} {t_TIMES_2 u_TIMES_2 : Tok} {h_TIMES_2 : Int}
    (aC_Negative : PySem.W.nsIn K mainGlobals "Negative" = some (some (.ref C_Negative)))
    (pg_Negative : PySem.W.plainGet K C_Negative Str.empty = true)
    (hd_Negative : PySem.W.hasDictIn K C_Negative = true)
    (po_Negative : PySem.W.plainOver K C_Negative = true)
    (sa_Negative : PySem.W.findIn K (.ref C_Negative) "__setattr__" = some (some (.builtin "object.__setattr__")))
    (mk_Negative : PySem.W.makesIn K C_Negative = true)
    (kc_Negative : PySem.W.keepIn K (.ref C_Negative) = true)
    (nf_Negative_columns : PySem.W.findIn K (.ref C_Negative) "columns" = some none)
    (nf_Negative_figures : PySem.W.findIn K (.ref C_Negative) "figures" = some none)
    (nf_Negative_lines : PySem.W.findIn K (.ref C_Negative) "lines" = some none)
    (aC_InvalidLine : PySem.W.nsIn K mainGlobals "InvalidLine" = some (some (.ref C_InvalidLine)))
    (kc_InvalidLine : PySem.W.keepIn K (.ref C_InvalidLine) = true)
    (sb_InvalidLine : PySem.W.subIn K (.ref C_InvalidLine) (.type "BaseException") = some true)
    (ty_InvalidLine : PySem.W.typeIn K (.ref C_InvalidLine) = some (.type "type"))
    (aC_InvalidNegative : PySem.W.nsIn K mainGlobals "InvalidNegative" = some (some (.ref C_InvalidNegative)))
    (kc_InvalidNegative : PySem.W.keepIn K (.ref C_InvalidNegative) = true)
    (sb_InvalidNegative : PySem.W.subIn K (.ref C_InvalidNegative) (.type "BaseException") = some true)
    (ty_InvalidNegative : PySem.W.typeIn K (.ref C_InvalidNegative) = some (.type "type"))
    (any_ : PySem.W.nsIn K cStatics "thirdparty.any" = some none)
    (n_super : PySem.W.nsIn K mainGlobals "super" = some none)
    (tp_super : (l.prog.main.scope.names.lookup ("super" : Str)).isSome = false)
    (lo_InvalidLine : K.lookup C_InvalidLine = some (excClassObj nm_InvalidLine qn_InvalidLine C_InvalidLine N_InvalidLine bs_InvalidLine bm_InvalidLine true sn_InvalidLine sub_InvalidLine ab_InvalidLine col_InvalidLine dd_InvalidLine k0_InvalidLine k1_InvalidLine k2_InvalidLine k3_InvalidLine k5_InvalidLine "ValueError.__new__"))
    (rf_InvalidLine : PySem.HandSPX.refsVE bm_InvalidLine = true)
    (sa_InvalidLine : PySem.W.findIn K (.ref C_InvalidLine) "__setattr__" = some (some (.builtin "object.__setattr__")))
    (ia_InvalidLine : PySem.W.findIn K (.ref C_InvalidLine) "__init__" = some (some (.ref fi_InvalidLine)))
    (it_InvalidLine : PySem.W.typeIn K (.ref fi_InvalidLine) = some (.type "function"))
    (li_InvalidLine : K.lookup fi_InvalidLine = some ⟨oc_InvalidLine, od_InvalidLine, .func (PySem.W.fnX "__init__" "InvalidLine.__init__" (defArgs si_InvalidLine) (defBody si_InvalidLine) (defScope si_InvalidLine) [(("__class__" : Str), cc_InvalidLine)] .none kV_InvalidLine dc_InvalidLine pm_InvalidLine an_InvalidLine (.ref ca_InvalidLine) ct_InvalidLine), sl_InvalidLine⟩)
    (ci_InvalidLine : PySem.W.codeIn K (.ref ca_InvalidLine) "InvalidLine.__init__" = true)
    (sv_InvalidLine : PySem.W.subIn K (.ref C_InvalidLine) (.type "ValueError") = some true)
    (mr_InvalidLine : PySem.W.mroIn K C_InvalidLine (.ref C_InvalidLine) = some true)
    (su_InvalidLine : PySem.W.ks_superIn K C_InvalidLine C_InvalidLine "__init__" = some (some (.builtin "ValueError.__init__")))
    (lk_InvalidLine : K.lookup ca_InvalidLine = some ⟨ccl_InvalidLine, cdd_InvalidLine, .fields vs_InvalidLine, ccs_InvalidLine⟩)
    (vf_InvalidLine : vs_InvalidLine[2]? = some (.str fl_InvalidLine tf_InvalidLine))
    (ff_InvalidLine : ((l.prog.main.file : Str) == fl_InvalidLine) = true)
    (lc_InvalidLine : K.lookup cc_InvalidLine = some ⟨cl_InvalidLine, cld_InvalidLine, .cell (some (.ref C_InvalidLine)), csl_InvalidLine⟩)
    (lo_InvalidNegative : K.lookup C_InvalidNegative = some (excClassObj nm_InvalidNegative qn_InvalidNegative C_InvalidNegative N_InvalidNegative bs_InvalidNegative bm_InvalidNegative true sn_InvalidNegative sub_InvalidNegative ab_InvalidNegative col_InvalidNegative dd_InvalidNegative k0_InvalidNegative k1_InvalidNegative k2_InvalidNegative k3_InvalidNegative k5_InvalidNegative "ValueError.__new__"))
    (rf_InvalidNegative : PySem.HandSPX.refsVE bm_InvalidNegative = true)
    (sa_InvalidNegative : PySem.W.findIn K (.ref C_InvalidNegative) "__setattr__" = some (some (.builtin "object.__setattr__")))
    (ia_InvalidNegative : PySem.W.findIn K (.ref C_InvalidNegative) "__init__" = some (some (.ref fi_InvalidNegative)))
    (it_InvalidNegative : PySem.W.typeIn K (.ref fi_InvalidNegative) = some (.type "function"))
    (li_InvalidNegative : K.lookup fi_InvalidNegative = some ⟨oc_InvalidNegative, od_InvalidNegative, .func (PySem.W.fnX "__init__" "InvalidNegative.__init__" (defArgs si_InvalidNegative) (defBody si_InvalidNegative) (defScope si_InvalidNegative) [(("__class__" : Str), cc_InvalidNegative)] .none kV_InvalidNegative dc_InvalidNegative pm_InvalidNegative an_InvalidNegative (.ref ca_InvalidNegative) ct_InvalidNegative), sl_InvalidNegative⟩)
    (ci_InvalidNegative : PySem.W.codeIn K (.ref ca_InvalidNegative) "InvalidNegative.__init__" = true)
    (sv_InvalidNegative : PySem.W.subIn K (.ref C_InvalidNegative) (.type "ValueError") = some true)
    (mr_InvalidNegative : PySem.W.mroIn K C_InvalidNegative (.ref C_InvalidNegative) = some true)
    (su_InvalidNegative : PySem.W.ks_superIn K C_InvalidNegative C_InvalidNegative "__init__" = some (some (.builtin "ValueError.__init__")))
    (lk_InvalidNegative : K.lookup ca_InvalidNegative = some ⟨ccl_InvalidNegative, cdd_InvalidNegative, .fields vs_InvalidNegative, ccs_InvalidNegative⟩)
    (vf_InvalidNegative : vs_InvalidNegative[2]? = some (.str fl_InvalidNegative tf_InvalidNegative))
    (ff_InvalidNegative : ((l.prog.main.file : Str) == fl_InvalidNegative) = true)
    (lc_InvalidNegative : K.lookup cc_InvalidNegative = some ⟨cl_InvalidNegative, cld_InvalidNegative, .cell (some (.ref C_InvalidNegative)), csl_InvalidNegative⟩)
    (nf_InvalidLine : PySem.W.findIn K (.ref C_InvalidLine) "row" = some none)
    (nf2_InvalidLine : PySem.W.findIn K (.ref C_InvalidLine) "word" = some none)
    (ga_InvalidLine : PySem.W.findIn K (.ref C_InvalidLine) "__getattribute__" = some (some (.builtin "BaseException.__getattribute__")))
    (gg_InvalidLine : PySem.W.findIn K (.ref C_InvalidLine) "__getattr__" = some none)
    (hx_InvalidLine : PySem.W.hasDictIn K C_InvalidLine = true)
    (nf_InvalidNegative : PySem.W.findIn K (.ref C_InvalidNegative) "part" = some none)
    (xm_InvalidLine_InvalidLine : PySem.W.exmOne K (.ref C_InvalidLine) (.ref C_InvalidLine) = some true)
    (xm_InvalidLine_InvalidNegative : PySem.W.exmOne K (.ref C_InvalidNegative) (.ref C_InvalidLine) = some false)
    (n_all : PySem.W.nsIn K mainGlobals "all" = some none)
    (n_bool : PySem.W.nsIn K mainGlobals "bool" = some none)
    (n_enumerate : PySem.W.nsIn K mainGlobals "enumerate" = some none)
    (n_int : PySem.W.nsIn K mainGlobals "int" = some none)
    (n_isinstance : PySem.W.nsIn K mainGlobals "isinstance" = some none)
    (n_len : PySem.W.nsIn K mainGlobals "len" = some none)
    (n_range : PySem.W.nsIn K mainGlobals "range" = some none)
    (n_str : PySem.W.nsIn K mainGlobals "str" = some none)
    (n_tuple : PySem.W.nsIn K mainGlobals "tuple" = some none)
    (g_DENSITIES : PySem.W.nsIn K mainGlobals "DENSITIES" = some (some (.str (PySem.Str.ofString "01234") t_DENSITIES)))
    (g_LONGEST_NUMBER : PySem.W.nsIn K mainGlobals "LONGEST_NUMBER" = some (some (.int 2 t_LONGEST_NUMBER)))
    (g_MOST_CELLS : PySem.W.nsIn K mainGlobals "MOST_CELLS" = some (some (.int 9 t_MOST_CELLS)))
    (g_MOST_DEEDS : PySem.W.nsIn K mainGlobals "MOST_DEEDS" = some (some (.int 8 t_MOST_DEEDS)))
    (g_MOST_SIDE : PySem.W.nsIn K mainGlobals "MOST_SIDE" = some (some (.int 4 t_MOST_SIDE)))
    (g_MOST_TICKS : PySem.W.nsIn K mainGlobals "MOST_TICKS" = some (some (.int 99 t_MOST_TICKS)))
    (g_TIMES : PySem.W.nsIn K mainGlobals "TIMES" = some (some (.ref p_TIMES)))
    (gl_TIMES : K.lookup p_TIMES = some ⟨.type "dict", none, .dict #[⟨h_TIMES_0, .str (PySem.Str.ofString "expose") t_TIMES_0, .int 1 u_TIMES_0⟩, ⟨h_TIMES_1, .str (PySem.Str.ofString "draw") t_TIMES_1, .int 2 u_TIMES_1⟩, ⟨h_TIMES_2, .str (PySem.Str.ofString "flip") t_TIMES_2, .int 0 u_TIMES_2⟩] z_TIMES, #[]⟩)
    (dh_TIMES_0 : h_TIMES_0 = PyData.keyHash w.params (PySem.Str.ofString "expose"))
    (dh_TIMES_1 : h_TIMES_1 = PyData.keyHash w.params (PySem.Str.ofString "draw"))
    (dh_TIMES_2 : h_TIMES_2 = PyData.keyHash w.params (PySem.Str.ofString "flip"))
    (ds_TIMES : (p_TIMES == sysModules) = false)
    (a_Negativedd__lendd_ : PySem.W.findIn K (.ref C_Negative) "__len__" = some (some (.ref f_Negativedd__lendd_)))
    (i_Negativedd__lendd_ : PySem.W.isFn K (.ref f_Negativedd__lendd_) = true)
    (l_Negativedd__lendd_ : K.lookup f_Negativedd__lendd_ = some ⟨oc_Negativedd__lendd_, od_Negativedd__lendd_, .func (PySem.W.fnOf "__len__" "Negative.__len__" (defArgs s_Negativedd__lendd_) (defBody s_Negativedd__lendd_) (defScope s_Negativedd__lendd_) .none kV_Negativedd__lendd_ dc_Negativedd__lendd_ pm_Negativedd__lendd_ an_Negativedd__lendd_ cd_Negativedd__lendd_ ct_Negativedd__lendd_), sl_Negativedd__lendd_⟩)
    (c_Negativedd__lendd_ : PySem.W.codeIn K cd_Negativedd__lendd_ "Negative.__len__" = true)
    (k_Negativedd__lendd_ : PySem.W.keepIn K (.ref f_Negativedd__lendd_) = true)
    (a_is_number : PySem.W.nsIn K mainGlobals "is_number" = some (some (.ref f_is_number)))
    (l_is_number : K.lookup f_is_number = some ⟨oc_is_number, od_is_number, .func (PySem.W.fnOf "is_number" "is_number" (defArgs s_is_number) (defBody s_is_number) (defScope s_is_number) .none kV_is_number dc_is_number pm_is_number an_is_number cd_is_number ct_is_number), sl_is_number⟩)
    (c_is_number : PySem.W.codeIn K cd_is_number "is_number" = true)
    (k_is_number : PySem.W.keepIn K (.ref f_is_number) = true)
    (a_wrong_side : PySem.W.nsIn K mainGlobals "wrong_side" = some (some (.ref f_wrong_side)))
    (l_wrong_side : K.lookup f_wrong_side = some ⟨oc_wrong_side, od_wrong_side, .func (PySem.W.fnOf "wrong_side" "wrong_side" (defArgs s_wrong_side) (defBody s_wrong_side) (defScope s_wrong_side) .none kV_wrong_side dc_wrong_side pm_wrong_side an_wrong_side cd_wrong_side ct_wrong_side), sl_wrong_side⟩)
    (c_wrong_side : PySem.W.codeIn K cd_wrong_side "wrong_side" = true)
    (k_wrong_side : PySem.W.keepIn K (.ref f_wrong_side) = true)
    (a_wrong_part : PySem.W.nsIn K mainGlobals "wrong_part" = some (some (.ref f_wrong_part)))
    (l_wrong_part : K.lookup f_wrong_part = some ⟨oc_wrong_part, od_wrong_part, .func (PySem.W.fnOf "wrong_part" "wrong_part" (defArgs s_wrong_part) (defBody s_wrong_part) (defScope s_wrong_part) .none kV_wrong_part dc_wrong_part pm_wrong_part an_wrong_part cd_wrong_part ct_wrong_part), sl_wrong_part⟩)
    (c_wrong_part : PySem.W.codeIn K cd_wrong_part "wrong_part" = true)
    (k_wrong_part : PySem.W.keepIn K (.ref f_wrong_part) = true)
    (a_Negativedd__initdd_ : PySem.W.findIn K (.ref C_Negative) "__init__" = some (some (.ref f_Negativedd__initdd_)))
    (i_Negativedd__initdd_ : PySem.W.isFn K (.ref f_Negativedd__initdd_) = true)
    (l_Negativedd__initdd_ : K.lookup f_Negativedd__initdd_ = some ⟨oc_Negativedd__initdd_, od_Negativedd__initdd_, .func (PySem.W.fnOf "__init__" "Negative.__init__" (defArgs s_Negativedd__initdd_) (defBody s_Negativedd__initdd_) (defScope s_Negativedd__initdd_) .none kV_Negativedd__initdd_ dc_Negativedd__initdd_ pm_Negativedd__initdd_ an_Negativedd__initdd_ cd_Negativedd__initdd_ ct_Negativedd__initdd_), sl_Negativedd__initdd_⟩)
    (c_Negativedd__initdd_ : PySem.W.codeIn K cd_Negativedd__initdd_ "Negative.__init__" = true)
    (k_Negativedd__initdd_ : PySem.W.keepIn K (.ref f_Negativedd__initdd_) = true)
    (a_deed_of : PySem.W.nsIn K mainGlobals "deed_of" = some (some (.ref f_deed_of)))
    (l_deed_of : K.lookup f_deed_of = some ⟨oc_deed_of, od_deed_of, .func (PySem.W.fnOf "deed_of" "deed_of" (defArgs s_deed_of) (defBody s_deed_of) (defScope s_deed_of) .none kV_deed_of dc_deed_of pm_deed_of an_deed_of cd_deed_of ct_deed_of), sl_deed_of⟩)
    (c_deed_of : PySem.W.codeIn K cd_deed_of "deed_of" = true)
    (k_deed_of : PySem.W.keepIn K (.ref f_deed_of) = true)
    (a_worded_rows : PySem.W.nsIn K mainGlobals "worded_rows" = some (some (.ref f_worded_rows)))
    (l_worded_rows : K.lookup f_worded_rows = some ⟨oc_worded_rows, od_worded_rows, .func (PySem.W.fnOf "worded_rows" "worded_rows" (defArgs s_worded_rows) (defBody s_worded_rows) (defScope s_worded_rows) .none kV_worded_rows dc_worded_rows pm_worded_rows an_worded_rows cd_worded_rows ct_worded_rows), sl_worded_rows⟩)
    (c_worded_rows : PySem.W.codeIn K cd_worded_rows "worded_rows" = true)
    (k_worded_rows : PySem.W.keepIn K (.ref f_worded_rows) = true)
    (a_number_of : PySem.W.nsIn K mainGlobals "number_of" = some (some (.ref f_number_of)))
    (l_number_of : K.lookup f_number_of = some ⟨oc_number_of, od_number_of, .func (PySem.W.fnOf "number_of" "number_of" (defArgs s_number_of) (defBody s_number_of) (defScope s_number_of) .none kV_number_of dc_number_of pm_number_of an_number_of cd_number_of ct_number_of), sl_number_of⟩)
    (c_number_of : PySem.W.codeIn K cd_number_of "number_of" = true)
    (k_number_of : PySem.W.keepIn K (.ref f_number_of) = true)
    (a_wrong_cell : PySem.W.nsIn K mainGlobals "wrong_cell" = some (some (.ref f_wrong_cell)))
    (l_wrong_cell : K.lookup f_wrong_cell = some ⟨oc_wrong_cell, od_wrong_cell, .func (PySem.W.fnOf "wrong_cell" "wrong_cell" (defArgs s_wrong_cell) (defBody s_wrong_cell) (defScope s_wrong_cell) .none kV_wrong_cell dc_wrong_cell pm_wrong_cell an_wrong_cell cd_wrong_cell ct_wrong_cell), sl_wrong_cell⟩)
    (c_wrong_cell : PySem.W.codeIn K cd_wrong_cell "wrong_cell" = true)
    (k_wrong_cell : PySem.W.keepIn K (.ref f_wrong_cell) = true)
    (a_wrong_word : PySem.W.nsIn K mainGlobals "wrong_word" = some (some (.ref f_wrong_word)))
    (l_wrong_word : K.lookup f_wrong_word = some ⟨oc_wrong_word, od_wrong_word, .func (PySem.W.fnOf "wrong_word" "wrong_word" (defArgs s_wrong_word) (defBody s_wrong_word) (defScope s_wrong_word) .none kV_wrong_word dc_wrong_word pm_wrong_word an_wrong_word cd_wrong_word ct_wrong_word), sl_wrong_word⟩)
    (c_wrong_word : PySem.W.codeIn K cd_wrong_word "wrong_word" = true)
    (k_wrong_word : PySem.W.keepIn K (.ref f_wrong_word) = true)
    (a_read_recipe : PySem.W.nsIn K mainGlobals "read_recipe" = some (some (.ref f_read_recipe)))
    (l_read_recipe : K.lookup f_read_recipe = some ⟨oc_read_recipe, od_read_recipe, .func (PySem.W.fnOf "read_recipe" "read_recipe" (defArgs s_read_recipe) (defBody s_read_recipe) (defScope s_read_recipe) .none kV_read_recipe dc_read_recipe pm_read_recipe an_read_recipe cd_read_recipe ct_read_recipe), sl_read_recipe⟩)
    (c_read_recipe : PySem.W.codeIn K cd_read_recipe "read_recipe" = true)
    (k_read_recipe : PySem.W.keepIn K (.ref f_read_recipe) = true)
    (a_l_place : PySem.W.nsIn K mainGlobals "_law_place" = some (some (.ref f_l_place)))
    (l_l_place : K.lookup f_l_place = some ⟨oc_l_place, od_l_place, .func (PySem.W.fnOf "_law_place" "_law_place" (defArgs s_l_place) (defBody s_l_place) (defScope s_l_place) .none kV_l_place dc_l_place pm_l_place an_l_place cd_l_place ct_l_place), sl_l_place⟩)
    (c_l_place : PySem.W.codeIn K cd_l_place "_law_place" = true)
    (k_l_place : PySem.W.keepIn K (.ref f_l_place) = true)
    (a_l_taken : PySem.W.nsIn K mainGlobals "_law_taken" = some (some (.ref f_l_taken)))
    (l_l_taken : K.lookup f_l_taken = some ⟨oc_l_taken, od_l_taken, .func (PySem.W.fnOf "_law_taken" "_law_taken" (defArgs s_l_taken) (defBody s_l_taken) (defScope s_l_taken) .none kV_l_taken dc_l_taken pm_l_taken an_l_taken cd_l_taken ct_l_taken), sl_l_taken⟩)
    (c_l_taken : PySem.W.codeIn K cd_l_taken "_law_taken" = true)
    (k_l_taken : PySem.W.keepIn K (.ref f_l_taken) = true)
    (a_law : PySem.W.nsIn K mainGlobals "law" = some (some (.ref f_law)))
    (l_law : K.lookup f_law = some ⟨oc_law, od_law, .func (PySem.W.fnOf "law" "law" (defArgs s_law) (defBody s_law) (defScope s_law) .none kV_law dc_law pm_law an_law cd_law ct_law), sl_law⟩)
    (c_law : PySem.W.codeIn K cd_law "law" = true)
    (k_law : PySem.W.keepIn K (.ref f_law) = true) :
    ∃ fd : FuncData, (∀ (s : Shared) (v : Value), BindsTo s fd ⟨[v], []⟩ [("_law_script", v)]) ∧ ∀ base : Heap, K.In base → base.Ns mainGlobals mg → FnOk l.prog w K mg base (CX l.prog w) 8 fa fd ["_law_script"] (spA K M_law) := by
  have e := hfa.symm.trans (PySem.W.mg_of X G a_law)
  cases e
  let cls : Nat → Option Addr := fun c => List.lookup c [(0, C_Negative), (117, C_InvalidLine), (101, C_InvalidNegative)]
  have F_Negativedd__lendd_ := fun_mk (st := s_Negativedd__lendd_) l_Negativedd__lendd_ c_Negativedd__lendd_ k_Negativedd__lendd_
  have F_is_number := fun_mk (st := s_is_number) l_is_number c_is_number k_is_number
  have F_wrong_side := fun_mk (st := s_wrong_side) l_wrong_side c_wrong_side k_wrong_side
  have F_wrong_part := fun_mk (st := s_wrong_part) l_wrong_part c_wrong_part k_wrong_part
  have F_Negativedd__initdd_ := fun_mk (st := s_Negativedd__initdd_) l_Negativedd__initdd_ c_Negativedd__initdd_ k_Negativedd__initdd_
  have F_deed_of := fun_mk (st := s_deed_of) l_deed_of c_deed_of k_deed_of
  have F_worded_rows := fun_mk (st := s_worded_rows) l_worded_rows c_worded_rows k_worded_rows
  have F_number_of := fun_mk (st := s_number_of) l_number_of c_number_of k_number_of
  have F_wrong_cell := fun_mk (st := s_wrong_cell) l_wrong_cell c_wrong_cell k_wrong_cell
  have F_wrong_word := fun_mk (st := s_wrong_word) l_wrong_word c_wrong_word k_wrong_word
  have F_read_recipe := fun_mk (st := s_read_recipe) l_read_recipe c_read_recipe k_read_recipe
  have F_l_place := fun_mk (st := s_l_place) l_l_place c_l_place k_l_place
  have F_l_taken := fun_mk (st := s_l_taken) l_l_taken c_l_taken k_l_taken
  have F_law := fun_mk (st := s_law) l_law c_law k_law
  have b_Negativedd__lendd_ := F_Negativedd__lendd_.binds (ps := ["self"]) fun _ _ _ _ _ _ us hl => match us, hl with | [_], _ => rfl
  have b_is_number := F_is_number.binds (ps := ["value", "least", "most"]) fun _ _ _ _ _ _ us hl => match us, hl with | [_, _, _], _ => rfl
  have b_wrong_side := F_wrong_side.binds (ps := ["width", "height"]) fun _ _ _ _ _ _ us hl => match us, hl with | [_, _], _ => rfl
  have b_wrong_part := F_wrong_part.binds (ps := ["width", "height", "densities"]) fun _ _ _ _ _ _ us hl => match us, hl with | [_, _, _], _ => rfl
  have b_Negativedd__initdd_ := F_Negativedd__initdd_.binds (ps := ["self", "width", "height", "densities"]) fun _ _ _ _ _ _ us hl => match us, hl with | [_, _, _, _], _ => rfl
  have b_deed_of := F_deed_of.binds (ps := ["words"]) fun _ _ _ _ _ _ us hl => match us, hl with | [_], _ => rfl
  have b_worded_rows := F_worded_rows.binds (ps := ["text"]) fun _ _ _ _ _ _ us hl => match us, hl with | [_], _ => rfl
  have b_number_of := F_number_of.binds (ps := ["word"]) fun _ _ _ _ _ _ us hl => match us, hl with | [_], _ => rfl
  have b_wrong_cell := F_wrong_cell.binds (ps := ["words", "first", "cells"]) fun _ _ _ _ _ _ us hl => match us, hl with | [_, _, _], _ => rfl
  have b_wrong_word := F_wrong_word.binds (ps := ["words", "cells"]) fun _ _ _ _ _ _ us hl => match us, hl with | [_, _], _ => rfl
  have b_read_recipe := F_read_recipe.binds (ps := ["negative", "text"]) fun _ _ _ _ _ _ us hl => match us, hl with | [_, _], _ => rfl
  have b_l_place := F_l_place.binds (ps := ["_law_rows"]) fun _ _ _ _ _ _ us hl => match us, hl with | [_], _ => rfl
  have b_l_taken := F_l_taken.binds (ps := ["_law_row", "_law_many"]) fun _ _ _ _ _ _ us hl => match us, hl with | [_, _], _ => rfl
  have T : Tx l.prog w K cls mg C_Negative C_InvalidLine C_InvalidNegative := {
    n_all := PySem.W.mg_none_of X G n_all
    n_bool := PySem.W.mg_none_of X G n_bool
    n_enumerate := PySem.W.mg_none_of X G n_enumerate
    n_int := PySem.W.mg_none_of X G n_int
    n_isinstance := PySem.W.mg_none_of X G n_isinstance
    n_len := PySem.W.mg_none_of X G n_len
    n_range := PySem.W.mg_none_of X G n_range
    n_str := PySem.W.mg_none_of X G n_str
    n_tuple := PySem.W.mg_none_of X G n_tuple
    c_DENSITIES := gv_str X G g_DENSITIES
    c_LONGEST_NUMBER := gv_int X G g_LONGEST_NUMBER
    c_MOST_CELLS := gv_int X G g_MOST_CELLS
    c_MOST_DEEDS := gv_int X G g_MOST_DEEDS
    c_MOST_SIDE := gv_int X G g_MOST_SIDE
    c_MOST_TICKS := gv_int X G g_MOST_TICKS
    d_TIMES := kdi_mk X G g_TIMES gl_TIMES ⟨⟨_, _, rfl, dh_TIMES_0⟩, ⟨_, _, rfl, dh_TIMES_1⟩, ⟨_, _, rfl, dh_TIMES_2⟩, trivial⟩ ds_TIMES (ent_cons (ent_cons (ent_cons (trivial))))
    k_Negative := ⟨by rfl, ⟨pg_Negative, hd_Negative, po_Negative, sa_Negative⟩⟩
    m_Negative := PySem.W.mg_of X G aC_Negative
    f_Negative_columns := nf_Negative_columns
    f_Negative_figures := nf_Negative_figures
    f_Negative_lines := nf_Negative_lines
    q_InvalidLine := ⟨⟨by decide, by rfl⟩, PySem.W.mg_of X G aC_InvalidLine, kc_InvalidLine, sb_InvalidLine, ty_InvalidLine⟩
    q_InvalidNegative := ⟨⟨by decide, by rfl⟩, PySem.W.mg_of X G aC_InvalidNegative, kc_InvalidNegative, sb_InvalidNegative, ty_InvalidNegative⟩
    xm_InvalidLine := cls_all (List.forall_mem_cons.mpr ⟨fun h => absurd h (show ¬ 100 ≤ 0 by decide), List.forall_mem_cons.mpr ⟨fun _ => xm_InvalidLine_InvalidLine, List.forall_mem_cons.mpr ⟨fun _ => xm_InvalidLine_InvalidNegative, fun _ z => absurd z List.not_mem_nil⟩⟩⟩)
    xk_row := fun k hk C h => (cls_all (P := fun k C => k ∈ [117] → XfC K C ∧ PySem.W.findIn K (.ref C) "row" = some none) (List.forall_mem_cons.mpr ⟨fun h => absurd h (show ¬ 100 ≤ 0 by decide), List.forall_mem_cons.mpr ⟨fun _ _ => ⟨⟨ga_InvalidLine, gg_InvalidLine, sb_InvalidLine, hx_InvalidLine⟩, nf_InvalidLine⟩, List.forall_mem_cons.mpr ⟨fun _ h => absurd h (show ¬ 101 ∈ [117] by decide), fun _ z => absurd z List.not_mem_nil⟩⟩⟩)) k C ((show ∀ k ∈ [117], 100 ≤ k by decide) k hk) h hk
    xk_word := fun k hk C h => (cls_all (P := fun k C => k ∈ [117] → XfC K C ∧ PySem.W.findIn K (.ref C) "word" = some none) (List.forall_mem_cons.mpr ⟨fun h => absurd h (show ¬ 100 ≤ 0 by decide), List.forall_mem_cons.mpr ⟨fun _ _ => ⟨⟨ga_InvalidLine, gg_InvalidLine, sb_InvalidLine, hx_InvalidLine⟩, nf2_InvalidLine⟩, List.forall_mem_cons.mpr ⟨fun _ h => absurd h (show ¬ 101 ∈ [117] by decide), fun _ z => absurd z List.not_mem_nil⟩⟩⟩)) k C ((show ∀ k ∈ [117], 100 ≤ k by decide) k hk) h hk
  }
  refine ⟨PySem.W.fnOf "law" "law" (defArgs s_law) (defBody s_law) (defScope s_law) .none kV_law dc_law pm_law an_law cd_law ct_law, fun s v => .of_eq rfl, fun base hb1 hb2 => ?_⟩
  have I_InvalidLine : EkI2 l.prog w K cls mg base 1 "InvalidLine" 117 C_InvalidLine "row" "word" := eki2_mk (st := si_InvalidLine) ⟨by decide, by rfl⟩ (PySem.W.mg_of X G aC_InvalidLine) kc_InvalidLine sb_InvalidLine ty_InvalidLine lo_InvalidLine rf_InvalidLine sa_InvalidLine ia_InvalidLine it_InvalidLine li_InvalidLine ci_InvalidLine sv_InvalidLine mr_InvalidLine su_InvalidLine lk_InvalidLine vf_InvalidLine ff_InvalidLine lc_InvalidLine nf_InvalidLine nf2_InvalidLine any_ (PySem.W.mg_none_of X G n_super) tp_super rfl rfl (by decide +kernel) rfl (by decide +kernel) (by decide +kernel) (by decide +kernel) (fun _ => rfl) (fun us hl => match us, hl with | [_, _, _], _ => rfl)
  have I_InvalidNegative : EkI l.prog w K cls mg base 1 "InvalidNegative" 101 C_InvalidNegative "part" := eki_mk (st := si_InvalidNegative) ⟨by decide, by rfl⟩ (PySem.W.mg_of X G aC_InvalidNegative) kc_InvalidNegative sb_InvalidNegative ty_InvalidNegative lo_InvalidNegative rf_InvalidNegative sa_InvalidNegative ia_InvalidNegative it_InvalidNegative li_InvalidNegative ci_InvalidNegative sv_InvalidNegative mr_InvalidNegative su_InvalidNegative lk_InvalidNegative vf_InvalidNegative ff_InvalidNegative lc_InvalidNegative nf_InvalidNegative any_ (PySem.W.mg_none_of X G n_super) tp_super rfl rfl (by decide +kernel) rfl (by decide +kernel) (by decide +kernel) (fun _ => rfl) (fun us hl => match us, hl with | [_, _], _ => rfl)
  have g_Negativedd__lendd_ := dm_Negativedd__lendd_ (base := base) F_Negativedd__lendd_ b_Negativedd__lendd_ T 
  have G_is_number := df_is_number (base := base) F_is_number b_is_number (PySem.W.mg_of X G a_is_number) T 
  have G_wrong_side := df_wrong_side (base := base) F_wrong_side b_wrong_side (PySem.W.mg_of X G a_wrong_side) T G_is_number
  have G_wrong_part := df_wrong_part (base := base) F_wrong_part b_wrong_part (PySem.W.mg_of X G a_wrong_part) T G_wrong_side g_Negativedd__lendd_ a_Negativedd__lendd_ i_Negativedd__lendd_
  have g_Negativedd__initdd_ := dm_Negativedd__initdd_ (base := base) F_Negativedd__initdd_ b_Negativedd__initdd_ T G_wrong_part I_InvalidNegative
  have G_deed_of := df_deed_of (base := base) F_deed_of b_deed_of (PySem.W.mg_of X G a_deed_of) T 
  have G_worded_rows := df_worded_rows (base := base) F_worded_rows b_worded_rows (PySem.W.mg_of X G a_worded_rows) T 
  have G_number_of := df_number_of (base := base) F_number_of b_number_of (PySem.W.mg_of X G a_number_of) T  g_Negativedd__lendd_ a_Negativedd__lendd_ i_Negativedd__lendd_
  have G_wrong_cell := df_wrong_cell (base := base) F_wrong_cell b_wrong_cell (PySem.W.mg_of X G a_wrong_cell) T G_is_number G_number_of g_Negativedd__lendd_ a_Negativedd__lendd_ i_Negativedd__lendd_
  have G_wrong_word := df_wrong_word (base := base) F_wrong_word b_wrong_word (PySem.W.mg_of X G a_wrong_word) T G_is_number G_number_of G_wrong_cell g_Negativedd__lendd_ a_Negativedd__lendd_ i_Negativedd__lendd_
  have G_read_recipe := df_read_recipe (base := base) F_read_recipe b_read_recipe (PySem.W.mg_of X G a_read_recipe) T G_deed_of G_worded_rows G_wrong_word g_Negativedd__lendd_ a_Negativedd__lendd_ i_Negativedd__lendd_ I_InvalidLine
  have G_l_place := df_l_place (base := base) F_l_place b_l_place (PySem.W.mg_of X G a_l_place) T G_read_recipe g_Negativedd__initdd_ ⟨mk_Negative, a_Negativedd__initdd_, i_Negativedd__initdd_, kc_Negative⟩
  have G_l_taken := df_l_taken (base := base) F_l_taken b_l_taken (PySem.W.mg_of X G a_l_taken) T  g_Negativedd__lendd_ a_Negativedd__lendd_ i_Negativedd__lendd_
  exact fn_any (fn_law F_law T G_l_place G_l_taken g_Negativedd__lendd_ a_Negativedd__lendd_ i_Negativedd__lendd_) (no_tab (by rfl))
end K43
set_option Elab.async false
set_option maxRecDepth 100000
open PySem PySem.W PyProof.Rows
set_option maxHeartbeats 0 in
theorem PySem.Challenge.cw_maskedprints_k43_lines_rejected_holds : PySem.Challenge.rw_maskedprints_k43_lines_rejected.Holds := by
  w_on; o_law; k_head; (case hw => w_witness2)
  k_fill
  refine L2.walk_of (l := PySem.Challenge.rw_maskedprints_k43_lines_rejected) (n := 63) (k := 8) (x := "_law_script") (CX := fun w => L2.CX PySem.Challenge.rw_maskedprints_k43_lines_rejected.prog w) (sp := fun w => Fw.spA _ K43.M_law) rfl (by decide) rfl ⟨rfl, by decide, by decide⟩ (fun w h Y => PySem.W.kIn_of Y) ?F (fun w H a ns hl hO hS => Fw.law_spA (fun _ => K43.law_true) hl hO hS) (fun _ _ _ _ _ ⟨_, _, _, _, _, _, _, _, _, _, _, _, e⟩ => e)
  case F =>
    intro w mg fa h KX G hmg
    refine' K43.all_mk KX G hmg ?aC_Negative ?pg_Negative ?hd_Negative ?po_Negative ?sa_Negative ?mk_Negative ?kc_Negative ?nf_Negative_columns ?nf_Negative_figures ?nf_Negative_lines ?aC_InvalidLine ?kc_InvalidLine ?sb_InvalidLine ?ty_InvalidLine ?aC_InvalidNegative ?kc_InvalidNegative ?sb_InvalidNegative ?ty_InvalidNegative ?any_ ?n_super ?tp_super ?lo_InvalidLine ?rf_InvalidLine ?sa_InvalidLine ?ia_InvalidLine ?it_InvalidLine ?li_InvalidLine ?ci_InvalidLine ?sv_InvalidLine ?mr_InvalidLine ?su_InvalidLine ?lk_InvalidLine ?vf_InvalidLine ?ff_InvalidLine ?lc_InvalidLine ?lo_InvalidNegative ?rf_InvalidNegative ?sa_InvalidNegative ?ia_InvalidNegative ?it_InvalidNegative ?li_InvalidNegative ?ci_InvalidNegative ?sv_InvalidNegative ?mr_InvalidNegative ?su_InvalidNegative ?lk_InvalidNegative ?vf_InvalidNegative ?ff_InvalidNegative ?lc_InvalidNegative ?nf_InvalidLine ?nf2_InvalidLine ?ga_InvalidLine ?gg_InvalidLine ?hx_InvalidLine ?nf_InvalidNegative ?xm_InvalidLine_InvalidLine ?xm_InvalidLine_InvalidNegative ?n_all ?n_bool ?n_enumerate ?n_int ?n_isinstance ?n_len ?n_range ?n_str ?n_tuple ?g_DENSITIES ?g_LONGEST_NUMBER ?g_MOST_CELLS ?g_MOST_DEEDS ?g_MOST_SIDE ?g_MOST_TICKS ?g_TIMES ?gl_TIMES ?dh_TIMES_0 ?dh_TIMES_1 ?dh_TIMES_2 ?ds_TIMES ?a_Negativedd__lendd_ ?i_Negativedd__lendd_ ?l_Negativedd__lendd_ ?c_Negativedd__lendd_ ?k_Negativedd__lendd_ ?a_is_number ?l_is_number ?c_is_number ?k_is_number ?a_wrong_side ?l_wrong_side ?c_wrong_side ?k_wrong_side ?a_wrong_part ?l_wrong_part ?c_wrong_part ?k_wrong_part ?a_Negativedd__initdd_ ?i_Negativedd__initdd_ ?l_Negativedd__initdd_ ?c_Negativedd__initdd_ ?k_Negativedd__initdd_ ?a_deed_of ?l_deed_of ?c_deed_of ?k_deed_of ?a_worded_rows ?l_worded_rows ?c_worded_rows ?k_worded_rows ?a_number_of ?l_number_of ?c_number_of ?k_number_of ?a_wrong_cell ?l_wrong_cell ?c_wrong_cell ?k_wrong_cell ?a_wrong_word ?l_wrong_word ?c_wrong_word ?k_wrong_word ?a_read_recipe ?l_read_recipe ?c_read_recipe ?k_read_recipe ?a_l_place ?l_l_place ?c_l_place ?k_l_place ?a_l_taken ?l_l_taken ?c_l_taken ?k_l_taken ?a_law ?l_law ?c_law ?k_law
    (case aC_Negative => k_is)
    (case pg_Negative => k_is)
    (case hd_Negative => k_is)
    (case po_Negative => k_is)
    (case sa_Negative => k_is)
    (case mk_Negative => k_is)
    (case kc_Negative => k_is)
    (case nf_Negative_columns => k_is)
    (case nf_Negative_figures => k_is)
    (case nf_Negative_lines => k_is)
    (case aC_InvalidLine => k_is)
    (case kc_InvalidLine => k_is)
    (case sb_InvalidLine => k_is)
    (case ty_InvalidLine => k_is)
    (case aC_InvalidNegative => k_is)
    (case kc_InvalidNegative => k_is)
    (case sb_InvalidNegative => k_is)
    (case ty_InvalidNegative => k_is)
    (case any_ => k_is)
    (case n_super => k_is)
    (case tp_super => first | rfl | decide +kernel)
    (case lo_InvalidLine => k_is)
    (case rf_InvalidLine => first | rfl | decide +kernel)
    (case sa_InvalidLine => k_is)
    (case ia_InvalidLine => k_is)
    (case it_InvalidLine => k_is)
    (case li_InvalidLine => k_is)
    (case ci_InvalidLine => k_is)
    (case sv_InvalidLine => k_is)
    (case mr_InvalidLine => k_is)
    (case su_InvalidLine => ks_is)
    (case lk_InvalidLine => k_is)
    (case vf_InvalidLine => first | rfl | decide +kernel)
    (case ff_InvalidLine => first | rfl | decide +kernel)
    (case lc_InvalidLine => k_is)
    (case lo_InvalidNegative => k_is)
    (case rf_InvalidNegative => first | rfl | decide +kernel)
    (case sa_InvalidNegative => k_is)
    (case ia_InvalidNegative => k_is)
    (case it_InvalidNegative => k_is)
    (case li_InvalidNegative => k_is)
    (case ci_InvalidNegative => k_is)
    (case sv_InvalidNegative => k_is)
    (case mr_InvalidNegative => k_is)
    (case su_InvalidNegative => ks_is)
    (case lk_InvalidNegative => k_is)
    (case vf_InvalidNegative => first | rfl | decide +kernel)
    (case ff_InvalidNegative => first | rfl | decide +kernel)
    (case lc_InvalidNegative => k_is)
    (case nf_InvalidLine => k_is)
    (case nf2_InvalidLine => k_is)
    (case ga_InvalidLine => k_is)
    (case gg_InvalidLine => k_is)
    (case hx_InvalidLine => k_is)
    (case nf_InvalidNegative => k_is)
    (case xm_InvalidLine_InvalidLine => kts_exm)
    (case xm_InvalidLine_InvalidNegative => kts_exm)
    (case n_all => k_is)
    (case n_bool => k_is)
    (case n_enumerate => k_is)
    (case n_int => k_is)
    (case n_isinstance => k_is)
    (case n_len => k_is)
    (case n_range => k_is)
    (case n_str => k_is)
    (case n_tuple => k_is)
    (case g_DENSITIES => k_is)
    (case g_LONGEST_NUMBER => k_is)
    (case g_MOST_CELLS => k_is)
    (case g_MOST_DEEDS => k_is)
    (case g_MOST_SIDE => k_is)
    (case g_MOST_TICKS => k_is)
    (case g_TIMES => k_is)
    (case gl_TIMES => k_is)
    (case dh_TIMES_0 => first | rfl | decide +kernel)
    (case dh_TIMES_1 => first | rfl | decide +kernel)
    (case dh_TIMES_2 => first | rfl | decide +kernel)
    (case ds_TIMES => first | rfl | decide +kernel)
    (case a_Negativedd__lendd_ => k_is)
    (case i_Negativedd__lendd_ => k_is)
    (case l_Negativedd__lendd_ => k_is)
    (case c_Negativedd__lendd_ => k_is)
    (case k_Negativedd__lendd_ => k_is)
    (case a_is_number => k_is)
    (case l_is_number => k_is)
    (case c_is_number => k_is)
    (case k_is_number => k_is)
    (case a_wrong_side => k_is)
    (case l_wrong_side => k_is)
    (case c_wrong_side => k_is)
    (case k_wrong_side => k_is)
    (case a_wrong_part => k_is)
    (case l_wrong_part => k_is)
    (case c_wrong_part => k_is)
    (case k_wrong_part => k_is)
    (case a_Negativedd__initdd_ => k_is)
    (case i_Negativedd__initdd_ => k_is)
    (case l_Negativedd__initdd_ => k_is)
    (case c_Negativedd__initdd_ => k_is)
    (case k_Negativedd__initdd_ => k_is)
    (case a_deed_of => k_is)
    (case l_deed_of => k_is)
    (case c_deed_of => k_is)
    (case k_deed_of => k_is)
    (case a_worded_rows => k_is)
    (case l_worded_rows => k_is)
    (case c_worded_rows => k_is)
    (case k_worded_rows => k_is)
    (case a_number_of => k_is)
    (case l_number_of => k_is)
    (case c_number_of => k_is)
    (case k_number_of => k_is)
    (case a_wrong_cell => k_is)
    (case l_wrong_cell => k_is)
    (case c_wrong_cell => k_is)
    (case k_wrong_cell => k_is)
    (case a_wrong_word => k_is)
    (case l_wrong_word => k_is)
    (case c_wrong_word => k_is)
    (case k_wrong_word => k_is)
    (case a_read_recipe => k_is)
    (case l_read_recipe => k_is)
    (case c_read_recipe => k_is)
    (case k_read_recipe => k_is)
    (case a_l_place => k_is)
    (case l_l_place => k_is)
    (case c_l_place => k_is)
    (case k_l_place => k_is)
    (case a_l_taken => k_is)
    (case l_l_taken => k_is)
    (case c_l_taken => k_is)
    (case k_l_taken => k_is)
    (case a_law => k_is)
    (case l_law => k_is)
    (case c_law => k_is)
    (case k_law => k_is)
