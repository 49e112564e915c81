import PyProof.Rows.All
import Wide.All
import OpenK.AllK
import Wide.FinOn
import HandS.ForMost
import HandS.Lambda
import HandS.Flow
import HandS.Exc
import HandS.ExcOwn
import HandS.TupAny
import HandS.Wide
import HandS.IsInst
import HandS.SortInts
import HandS.Conv
import HandS.Style
import HandS.RaiseMore
import HandS.Property
import HandS.WordsExc
import KE.GoesEnum
import HandS.Iter
import HandS.SetFor
import HandS.Strs
import KE.DataMinMax
import PyProof.ListStr
import PyProof.ZipIter
import PyProof.StrWalks
import HandS.RevRange
import PyProof.GenRules
import PyProof.ForAny
import HandS.GenList
import HandS.Deep
import HandS.WideBits
import HandS.TryMany
import HandS.TryOnly
import HandS.TupSets
import HandS.Text
import HandS.Call
import HandS.Zip0
import PyProof.InstEq
import HandS.SortKw
import HandS.TupLe
import HandS.NamedTupSort
import HandS.ExcInit
import HandS.Nested
import HandS.FStr
import KE.KExcSuper
import HandS.ExcField
import HandS.EndTab
import KE.KNestM
import HandS.ExcIs
import KE.KLam
import PyProof.Rows.StrSplitCount
import PyProof.StrLawsChain
import KE.GoesEnumKw
import PyProof.Rows.CallKwBuiltin
import HandS.StrMore
import HandS.Star
import HandS.More
import KE.RegKTryMore
import KE.RegKSuper
import PySem.Challenge.RW_maskedprints_k42_pictures_texts_and_maps
set_option Elab.async false
set_option linter.all false
set_option maxRecDepth 100000
set_option autoImplicit false
namespace Fw
open PySem L2
inductive D where
  | non | bl (b : Bool) | int (i : Int) | str (s : List Nat) | tup (ds : List D) | lst (ds : List D)
  | flst (is : List Int) | obj (c : Nat) (ns : List Str) (ds : List D) | loc (n : Nat)
  | ptr (a : Addr) | dct (ks : List (Int ⊕ List Nat)) (ds : List D)
  deriving Inhabited
mutual
def D.deq : (x y : D) → Decidable (x = y)
  | .non, .non => Decidable.isTrue rfl
  | .ptr a, .ptr b => if h : a = b then Decidable.isTrue (by rw [h]) else Decidable.isFalse fun e => h (D.ptr.inj e)
  | .bl a, .bl b => if h : a = b then Decidable.isTrue (by rw [h]) else Decidable.isFalse fun e => h (D.bl.inj e)
  | .int a, .int b => if h : a = b then Decidable.isTrue (by rw [h]) else Decidable.isFalse fun e => h (D.int.inj e)
  | .str a, .str b => if h : a = b then Decidable.isTrue (by rw [h]) else Decidable.isFalse fun e => h (D.str.inj e)
  | .flst a, .flst b => if h : a = b then Decidable.isTrue (by rw [h]) else Decidable.isFalse fun e => h (D.flst.inj e)
  | .loc a, .loc b => if h : a = b then Decidable.isTrue (by rw [h]) else Decidable.isFalse fun e => h (D.loc.inj e)
  | .tup a, .tup b => match D.deqs a b with
    | Decidable.isTrue h => Decidable.isTrue (by rw [h])
    | Decidable.isFalse h => Decidable.isFalse fun e => h (D.tup.inj e)
  | .lst a, .lst b => match D.deqs a b with
    | Decidable.isTrue h => Decidable.isTrue (by rw [h])
    | Decidable.isFalse h => Decidable.isFalse fun e => h (D.lst.inj e)
  | .obj c ns a, .obj c' ns' b => if h : c = c' then if h2 : ns = ns' then match D.deqs a b with
      | Decidable.isTrue h3 => Decidable.isTrue (by rw [h, h2, h3])
      | Decidable.isFalse h3 => Decidable.isFalse fun e => h3 (D.obj.inj e).2.2
    else Decidable.isFalse fun e => h2 (D.obj.inj e).2.1
    else Decidable.isFalse fun e => h (D.obj.inj e).1
  | .dct ks a, .dct ks' b => if h2 : ks = ks' then match D.deqs a b with
      | Decidable.isTrue h3 => Decidable.isTrue (by rw [h2, h3])
      | Decidable.isFalse h3 => Decidable.isFalse fun e => h3 (D.dct.inj e).2
    else Decidable.isFalse fun e => h2 (D.dct.inj e).1
  | .non, .bl _ => Decidable.isFalse nofun | .non, .int _ => Decidable.isFalse nofun | .non, .str _ => Decidable.isFalse nofun | .non, .tup _ => Decidable.isFalse nofun | .non, .lst _ => Decidable.isFalse nofun | .non, .flst _ => Decidable.isFalse nofun | .non, .obj _ _ _ => Decidable.isFalse nofun | .non, .loc _ => Decidable.isFalse nofun | .non, .ptr _ => Decidable.isFalse nofun | .non, .dct _ _ => Decidable.isFalse nofun
  | .bl _, .non => Decidable.isFalse nofun | .bl _, .int _ => Decidable.isFalse nofun | .bl _, .str _ => Decidable.isFalse nofun | .bl _, .tup _ => Decidable.isFalse nofun | .bl _, .lst _ => Decidable.isFalse nofun | .bl _, .flst _ => Decidable.isFalse nofun | .bl _, .obj _ _ _ => Decidable.isFalse nofun | .bl _, .loc _ => Decidable.isFalse nofun | .bl _, .ptr _ => Decidable.isFalse nofun | .bl _, .dct _ _ => Decidable.isFalse nofun
  | .int _, .non => Decidable.isFalse nofun | .int _, .bl _ => Decidable.isFalse nofun | .int _, .str _ => Decidable.isFalse nofun | .int _, .tup _ => Decidable.isFalse nofun | .int _, .lst _ => Decidable.isFalse nofun | .int _, .flst _ => Decidable.isFalse nofun | .int _, .obj _ _ _ => Decidable.isFalse nofun | .int _, .loc _ => Decidable.isFalse nofun | .int _, .ptr _ => Decidable.isFalse nofun | .int _, .dct _ _ => Decidable.isFalse nofun
  | .str _, .non => Decidable.isFalse nofun | .str _, .bl _ => Decidable.isFalse nofun | .str _, .int _ => Decidable.isFalse nofun | .str _, .tup _ => Decidable.isFalse nofun | .str _, .lst _ => Decidable.isFalse nofun | .str _, .flst _ => Decidable.isFalse nofun | .str _, .obj _ _ _ => Decidable.isFalse nofun | .str _, .loc _ => Decidable.isFalse nofun | .str _, .ptr _ => Decidable.isFalse nofun | .str _, .dct _ _ => Decidable.isFalse nofun
  | .tup _, .non => Decidable.isFalse nofun | .tup _, .bl _ => Decidable.isFalse nofun | .tup _, .int _ => Decidable.isFalse nofun | .tup _, .str _ => Decidable.isFalse nofun | .tup _, .lst _ => Decidable.isFalse nofun | .tup _, .flst _ => Decidable.isFalse nofun | .tup _, .obj _ _ _ => Decidable.isFalse nofun | .tup _, .loc _ => Decidable.isFalse nofun | .tup _, .ptr _ => Decidable.isFalse nofun | .tup _, .dct _ _ => Decidable.isFalse nofun
  | .lst _, .non => Decidable.isFalse nofun | .lst _, .bl _ => Decidable.isFalse nofun | .lst _, .int _ => Decidable.isFalse nofun | .lst _, .str _ => Decidable.isFalse nofun | .lst _, .tup _ => Decidable.isFalse nofun | .lst _, .flst _ => Decidable.isFalse nofun | .lst _, .obj _ _ _ => Decidable.isFalse nofun | .lst _, .loc _ => Decidable.isFalse nofun | .lst _, .ptr _ => Decidable.isFalse nofun | .lst _, .dct _ _ => Decidable.isFalse nofun
  | .flst _, .non => Decidable.isFalse nofun | .flst _, .bl _ => Decidable.isFalse nofun | .flst _, .int _ => Decidable.isFalse nofun | .flst _, .str _ => Decidable.isFalse nofun | .flst _, .tup _ => Decidable.isFalse nofun | .flst _, .lst _ => Decidable.isFalse nofun | .flst _, .obj _ _ _ => Decidable.isFalse nofun | .flst _, .loc _ => Decidable.isFalse nofun | .flst _, .ptr _ => Decidable.isFalse nofun | .flst _, .dct _ _ => Decidable.isFalse nofun
  | .obj _ _ _, .non => Decidable.isFalse nofun | .obj _ _ _, .bl _ => Decidable.isFalse nofun | .obj _ _ _, .int _ => Decidable.isFalse nofun | .obj _ _ _, .str _ => Decidable.isFalse nofun | .obj _ _ _, .tup _ => Decidable.isFalse nofun | .obj _ _ _, .lst _ => Decidable.isFalse nofun | .obj _ _ _, .flst _ => Decidable.isFalse nofun | .obj _ _ _, .loc _ => Decidable.isFalse nofun | .obj _ _ _, .ptr _ => Decidable.isFalse nofun | .obj _ _ _, .dct _ _ => Decidable.isFalse nofun
  | .loc _, .non => Decidable.isFalse nofun | .loc _, .bl _ => Decidable.isFalse nofun | .loc _, .int _ => Decidable.isFalse nofun | .loc _, .str _ => Decidable.isFalse nofun | .loc _, .tup _ => Decidable.isFalse nofun | .loc _, .lst _ => Decidable.isFalse nofun | .loc _, .flst _ => Decidable.isFalse nofun | .loc _, .obj _ _ _ => Decidable.isFalse nofun | .loc _, .ptr _ => Decidable.isFalse nofun | .loc _, .dct _ _ => Decidable.isFalse nofun
  | .ptr _, .non => Decidable.isFalse nofun | .ptr _, .bl _ => Decidable.isFalse nofun | .ptr _, .int _ => Decidable.isFalse nofun | .ptr _, .str _ => Decidable.isFalse nofun | .ptr _, .tup _ => Decidable.isFalse nofun | .ptr _, .lst _ => Decidable.isFalse nofun | .ptr _, .flst _ => Decidable.isFalse nofun | .ptr _, .obj _ _ _ => Decidable.isFalse nofun | .ptr _, .loc _ => Decidable.isFalse nofun | .ptr _, .dct _ _ => Decidable.isFalse nofun
  | .dct _ _, .non => Decidable.isFalse nofun | .dct _ _, .bl _ => Decidable.isFalse nofun | .dct _ _, .int _ => Decidable.isFalse nofun | .dct _ _, .str _ => Decidable.isFalse nofun | .dct _ _, .tup _ => Decidable.isFalse nofun | .dct _ _, .lst _ => Decidable.isFalse nofun | .dct _ _, .flst _ => Decidable.isFalse nofun | .dct _ _, .obj _ _ _ => Decidable.isFalse nofun | .dct _ _, .loc _ => Decidable.isFalse nofun | .dct _ _, .ptr _ => Decidable.isFalse nofun
def D.deqs : (xs ys : List D) → Decidable (xs = ys)
  | [], [] => Decidable.isTrue rfl
  | [], _ :: _ => Decidable.isFalse nofun
  | _ :: _, [] => Decidable.isFalse nofun
  | x :: xs, y :: ys => match D.deq x y with
    | Decidable.isTrue h => match D.deqs xs ys with
      | Decidable.isTrue h2 => Decidable.isTrue (by rw [h, h2])
      | Decidable.isFalse h2 => Decidable.isFalse fun e => h2 (List.cons.inj e).2
    | Decidable.isFalse h => Decidable.isFalse fun e => h (List.cons.inj e).1
end
instance : DecidableEq D := D.deq
inductive Cell where
  | lst (ds : List D)
  | ins (c : Nat) (ns : List Str) (ds : List D)
  | dct (ks : List (Int ⊕ List Nat)) (ds : List D)
  deriving DecidableEq, Inhabited
abbrev Store := List Cell
abbrev Env := List (Option D)
inductive Res (α : Type) where
  | ok (a : α) (μ : Store)
  | err (k : Nat) (ns : List Str) (ds : List D) (μ : Store)
  | stuck
def Res.bind {α β : Type} (r : Res α) (f : α → Store → Res β) : Res β := match r with
  | .ok a μ => f a μ
  | .err k ns ds μ => .err k ns ds μ
  | .stuck => .stuck
@[simp] theorem Res.bind_err {α β : Type} {k : Nat} {ns : List Str} {ds : List D} {μ : Store} {f : α → Store → Res β} : (Res.err k ns ds μ : Res α).bind f = .err k ns ds μ := rfl
@[simp] theorem Res.bind_ok {α β : Type} {a : α} {μ : Store} {f : α → Store → Res β} : (Res.ok a μ).bind f = f a μ := rfl
@[simp] theorem Res.bind_stuck {α β : Type} {f : α → Store → Res β} : (Res.stuck : Res α).bind f = .stuck := rfl
/-- what may not raise -/
def Res.mute {α : Type} (r : Res α) : Res α := match r with
  | .ok a μ => .ok a μ
  | _ => .stuck
@[simp] theorem Res.mute_ok {α : Type} {a : α} {μ : Store} : (Res.ok a μ).mute = .ok a μ := rfl
/-- not a table of code objects -/
def NT (o : HO) : Prop := ∀ ps, o ≠ .tbl ps
/-- the places of the mutable things, the banned places, the heap -/
structure Wd where
  x : Option Addr
  ι : List Addr
  B : List Addr
  H : Hp
section
variable (K : PySem.W.Frag) (cls : Nat → Option Addr) (w : Wd)
def toKey : Int ⊕ List Nat → Key
  | .inl i => .inl i
  | .inr s => .inr ⟨s.toArray⟩
def TupAt (a : Addr) (vs : List V) : Prop := (w.H a = some (.tup vs) ∧ a ∉ w.ι ∧ a ∉ w.B) ∨ SqT K (fun _ => none) a vs
def FlsAt (a : Addr) (vs : List V) : Prop := ((∃ o, w.H a = some (.frz o (.lst vs))) ∧ a ∉ w.ι ∧ a ∉ w.B) ∨ SqL K (fun _ => none) a vs
mutual
def RV : D → V → Prop
  | .non, v => v = .non
  | .bl b, v => v = .bl b
  | .int i, v => v = .int i
  | .str s, v => v = .str ⟨s.toArray⟩
  | .tup ds, v => ∃ a vs, v = .ref a ∧ TupAt K w a vs ∧ RVs ds vs
  | .lst ds, v => ∃ a vs, v = .ref a ∧ (w.H a = some (.lst vs) ∧ a ∉ w.ι ∧ a ∉ w.B) ∧ RVs ds vs
  | .flst is, v => ∃ a, v = .ref a ∧ FlsAt K w a (is.map .int)
  | .obj c ns ds, v => ∃ a C dx vs, v = .ref a ∧ cls c = some C ∧ (w.H a = some (.ins C dx (ns.zip vs)) ∧ a ∉ w.ι ∧ a ∉ w.B) ∧ ns.length = vs.length ∧ RVs ds vs
  | .loc n, v => ∃ a, v = .ref a ∧ w.ι[n]? = some a
  | .ptr a, v => v = .ref a
  | .dct ks ds, v => ∃ a vs, v = .ref a ∧ (w.H a = some (.dK ((ks.map toKey).zip vs)) ∧ a ∉ w.ι ∧ a ∉ w.B) ∧ ks.length = vs.length ∧ RVs ds vs
def RVs : List D → List V → Prop
  | [], vs => vs = []
  | d :: ds, vs => ∃ v r, vs = v :: r ∧ RV d v ∧ RVs ds r
end
/-- the table at a: each code object in it bears the name q, and is no place -/
def TabC (a : Addr) (q : Str) : Prop := ∃ ps : Array Value, w.H a = some (.tbl ps) ∧ TriplesOk ps.toList ∧ ∀ (pos : Pos) (cv : Value), codeAmong pos ps.toList = some cv → ∃ c, cv = .ref c ∧ w.H c = some (LamX.CodeO c q) ∧ c ∉ w.ι ∧ c ∉ w.B
def CellOk (a : Addr) : Cell → Prop
  | .lst ds => ∃ vs, w.H a = some (.lst vs) ∧ RVs K cls w ds vs
  | .ins c ns ds => ∃ C dx vs, cls c = some C ∧ w.H a = some (.ins C dx (ns.zip vs)) ∧ ns.length = vs.length ∧ RVs K cls w ds vs
  | .dct ks ds => ∃ vs, w.H a = some (.dK ((ks.map toKey).zip vs)) ∧ ks.length = vs.length ∧ RVs K cls w ds vs
/-- the name that a def's lambdas bear -/
def lamQ (x : Str) : Str := x ++ (".<locals>." : Str) ++ ("<lambda>" : Str)
/-- the numbers 50 to 99 are of tables of code objects: whose lambdas -/
def tabName (k : Nat) : Str := lamQ (["law", "_law_are_strips", "_law_are_repeats", "_law_are_refused", "_law_calls", "_law_more"].getD (k - 50) "")
/-- an error that lies: its class, its fields -/
def RErr (k : Nat) (ns : List Str) (ds : List D) (cv : Value) (d : Option Addr) : Prop := ∃ C, (100 ≤ k ∧ cls k = some C) ∧ cv = .ref C ∧
  ((ns = [] ∧ ds = [] ∧ d = none) ∨ ∃ dd vs, d = some dd ∧ (w.H dd = some (.xd (ns.zip vs)) ∧ dd ∉ w.ι ∧ dd ∉ w.B) ∧ ns.length = vs.length ∧ RVs K cls w ds vs)
structure RelS (μ : Store) : Prop where
  len : w.ι.length = μ.length
  nd : w.ι.Nodup
  ban : ∀ b ∈ w.B, b ∉ w.ι ∧ ∃ vs, w.H b = some (.lst vs)
  cell : ∀ (n : Nat) (c : Cell), μ[n]? = some c → ∃ a, w.ι[n]? = some a ∧ CellOk K cls w a c
  tabs : ∀ (k : Nat) (P : Addr), 50 ≤ k → k < 100 → cls k = some P → TabC w P (tabName k) ∧ P ∉ w.ι ∧ P ∉ w.B
  tinj : ∀ (j k : Nat) (P : Addr), (50 ≤ j ∧ j < 100) → (50 ≤ k ∧ k < 100) → cls j = some P → cls k = some P → j = k
def RelE (ρ : Env) (σ : L2.St) : Prop := σ.length = ρ.length ∧ ∀ (i : Nat) (d : D), ρ[i]? = some (some d) → ∃ v, σ[i]? = some (some v) ∧ RV K cls w d v
end
structure Step (w w' : Wd) : Prop where
  keep : ∀ a o, a ∉ w.ι → w.H a = some o → (nt : NT o := by first | assumption | (intro _ z; cases z)) → w'.H a = some o
  pre : ∃ l, w'.ι = w.ι ++ l
  fresh : ∀ a ∈ w'.ι, a ∉ w.ι → ∀ o, NT o → w.H a ≠ some o
  ban : w'.B = w.B
  exn : w'.x = w.x
section
variable {K : PySem.W.Frag} {cls : Nat → Option Addr} {w w' w'' : Wd}
theorem Step.refl : Step w w := ⟨fun _ _ _ h _ => h, ⟨[], by simp⟩, fun a h n => absurd h n, rfl, rfl⟩
theorem Step.notin (s : Step w w') {a : Addr} {o : HO} (h : w.H a = some o) (n : a ∉ w.ι) (nt : NT o := by first | assumption | (intro _ z; cases z)) : a ∉ w'.ι := fun z => s.fresh a z n o nt h
theorem Step.trans (s : Step w w') (t : Step w' w'') : Step w w'' where
  keep := fun a o n h nt => t.keep a o (s.notin h n) (s.keep a o n h)
  pre := by
    obtain ⟨l, e⟩ := s.pre
    obtain ⟨l', e'⟩ := t.pre
    exact ⟨l ++ l', by rw [e', e, List.append_assoc]⟩
  fresh := fun a h n o nt e => by
    by_cases q : a ∈ w'.ι
    · exact s.fresh a q n o nt e
    · exact t.fresh a h q o nt (s.keep a o n e)
  ban := t.ban.trans s.ban
  exn := t.exn.trans s.exn
theorem Step.loc (s : Step w w') {n : Nat} {a : Addr} (h : w.ι[n]? = some a) : w'.ι[n]? = some a := by
  obtain ⟨l, e⟩ := s.pre
  rw [e]
  exact List.getElem?_append_left (List.getElem?_eq_some_iff.mp h).1 ▸ h
/-- what RV leans on is kept -/
structure Kp (w w' : Wd) : Prop where
  at_ : ∀ a o, a ∉ w.ι → a ∉ w.B → w.H a = some o → (nt : NT o := by first | assumption | (intro _ z; cases z)) → w'.H a = some o ∧ a ∉ w'.ι ∧ a ∉ w'.B
  loc : ∀ (n : Nat) (a : Addr), w.ι[n]? = some a → w'.ι[n]? = some a
  exn : w'.x = w.x
theorem Step.kp (s : Step w w') : Kp w w' := ⟨fun a o n b h nt => ⟨s.keep a o n h, s.notin h n, by rw [s.ban]; exact b⟩, fun n a h => s.loc h, s.exn⟩
theorem TupAt.mono (s : Kp w w') {a : Addr} {vs : List V} (h : TupAt K w a vs) : TupAt K w' a vs := by
  rcases h with ⟨h, n, b⟩ | h
  · exact .inl (s.at_ a _ n b h)
  · exact .inr h
theorem FlsAt.mono (s : Kp w w') {a : Addr} {vs : List V} (h : FlsAt K w a vs) : FlsAt K w' a vs := by
  rcases h with ⟨⟨o, h⟩, n, b⟩ | h
  · obtain ⟨h1, h2⟩ := s.at_ a _ n b h
    exact .inl ⟨⟨o, h1⟩, h2⟩
  · exact .inr h
mutual
theorem RV.mono (s : Kp w w') : ∀ {d : D} {v : V}, RV K cls w d v → RV K cls w' d v
  | .non, _, h => h
  | .bl _, _, h => h
  | .int _, _, h => h
  | .str _, _, h => h
  | .tup ds, _, ⟨a, vs, e, h, r⟩ => ⟨a, vs, e, h.mono s, RVs.mono s r⟩
  | .lst ds, _, ⟨a, vs, e, ⟨h, n, b⟩, r⟩ => ⟨a, vs, e, s.at_ a _ n b h, RVs.mono s r⟩
  | .flst _, _, ⟨a, e, h⟩ => ⟨a, e, h.mono s⟩
  | .obj _ _ ds, _, ⟨a, C, dx, vs, e, c, ⟨h, n, b⟩, l, r⟩ => ⟨a, C, dx, vs, e, c, s.at_ a _ n b h, l, RVs.mono s r⟩
  | .loc _, _, ⟨a, e, h⟩ => ⟨a, e, s.loc _ _ h⟩
  | .ptr _, _, h => h
  | .dct _ ds, _, ⟨a, vs, e, ⟨h, n, b⟩, l, r⟩ => ⟨a, vs, e, s.at_ a _ n b h, l, RVs.mono s r⟩
theorem RVs.mono (s : Kp w w') : ∀ {ds : List D} {vs : List V}, RVs K cls w ds vs → RVs K cls w' ds vs
  | [], _, h => h
  | _ :: _, _, ⟨v, r, e, h, t⟩ => ⟨v, r, e, RV.mono s h, RVs.mono s t⟩
end
theorem RelE.mono (s : Kp w w') {ρ : Env} {σ : L2.St} (h : RelE K cls w ρ σ) : RelE K cls w' ρ σ := ⟨h.1, fun i d e => by
  obtain ⟨v, e1, r⟩ := h.2 i d e
  exact ⟨v, e1, r.mono s⟩⟩
theorem RVs.length : ∀ {ds : List D} {vs : List V}, RVs K cls w ds vs → vs.length = ds.length
  | [], _, h => by rw [show _ = [] from h]; rfl
  | _ :: _, _, ⟨v, r, e, _, t⟩ => by rw [e, List.length_cons, List.length_cons, RVs.length t]
theorem RVs.get : ∀ {ds : List D} {vs : List V} {i : Nat} {d : D}, RVs K cls w ds vs → ds[i]? = some d → ∃ v, vs[i]? = some v ∧ RV K cls w d v
  | [], _, _, _, _, e => by simp at e
  | d :: ds, _, 0, d', ⟨v, r, e, h, t⟩, e' => by
    simp at e'
    subst e' e
    exact ⟨v, rfl, h⟩
  | d :: ds, _, i + 1, d', ⟨v, r, e, h, t⟩, e' => by
    subst e
    obtain ⟨u, h1, h2⟩ := RVs.get (i := i) t (by simpa using e')
    exact ⟨u, by simpa using h1, h2⟩
theorem RVs.append : ∀ {ds es : List D} {vs us : List V}, RVs K cls w ds vs → RVs K cls w es us → RVs K cls w (ds ++ es) (vs ++ us)
  | [], _, _, _, h, t => by rw [show _ = [] from h]; exact t
  | _ :: _, _, _, _, ⟨v, r, e, h, t⟩, t' => ⟨v, r ++ _, by rw [e]; rfl, h, RVs.append t t'⟩
theorem RVs.nil : RVs K cls w [] [] := rfl
theorem RVs.cons {d : D} {ds : List D} {v : V} {vs : List V} (h : RV K cls w d v) (t : RVs K cls w ds vs) : RVs K cls w (d :: ds) (v :: vs) := ⟨v, vs, rfl, h, t⟩
theorem RVs.set {e : D} {u : V} (h : RV K cls w e u) : ∀ {ds : List D} {vs : List V} (i : Nat), RVs K cls w ds vs → RVs K cls w (ds.set i e) (vs.set i u)
  | [], _, _, r => by rw [show _ = [] from r]; rfl
  | _ :: _, _, 0, ⟨v, r, q, _, t⟩ => by rw [q]; exact ⟨u, r, rfl, h, t⟩
  | _ :: _, _, i + 1, ⟨v, r, q, g, t⟩ => by rw [q]; exact ⟨v, _, rfl, g, RVs.set h i t⟩
theorem RVs.take : ∀ {ds : List D} {vs : List V} (n : Nat), RVs K cls w ds vs → RVs K cls w (ds.take n) (vs.take n)
  | _, _, 0, _ => by simp [RVs]
  | [], _, n + 1, r => by rw [show _ = [] from r]; rfl
  | _ :: _, _, n + 1, ⟨v, r, q, g, t⟩ => by rw [q]; exact ⟨v, _, rfl, g, RVs.take n t⟩
theorem RVs.drop : ∀ {ds : List D} {vs : List V} (n : Nat), RVs K cls w ds vs → RVs K cls w (ds.drop n) (vs.drop n)
  | _, _, 0, h => by simpa using h
  | [], _, n + 1, r => by rw [show _ = [] from r]; rfl
  | _ :: _, _, n + 1, ⟨v, r, q, g, t⟩ => by rw [q]; exact RVs.drop n t
theorem RVs.ints : ∀ {is : List Int}, RVs K cls w (is.map .int) (is.map .int)
  | [] => rfl
  | _ :: _ => ⟨_, _, rfl, rfl, RVs.ints⟩
theorem RVs.flatten : ∀ {dss : List (List D)} {vss : List (List V)}, Paired (RVs K cls w) dss vss → RVs K cls w dss.flatten vss.flatten
  | _, _, .nil => rfl
  | _, _, .cons h t => by
    rw [List.flatten_cons, List.flatten_cons]
    exact h.append (RVs.flatten t)
theorem RVs.rep {ds : List D} {vs : List V} (h : RVs K cls w ds vs) : ∀ n : Nat, RVs K cls w (List.replicate n ds).flatten (List.replicate n vs).flatten
  | 0 => rfl
  | n + 1 => by
    rw [List.replicate_succ, List.replicate_succ, List.flatten_cons, List.flatten_cons]
    exact h.append (RVs.rep h n)
theorem TupAt.sq {a : Addr} {vs : List V} (h : TupAt K w a vs) : SqT K w.H a vs := by
  rcases h with ⟨h, _⟩ | (h | h)
  · exact .inl (.inl h)
  · rcases h with h | ⟨o, h⟩ <;> cases h
  · exact .inr h
theorem FlsAt.sq {a : Addr} {vs : List V} (h : FlsAt K w a vs) : SqL K w.H a vs := by
  rcases h with ⟨⟨o, h⟩, _⟩ | (h | h)
  · exact .inl (.inr ⟨o, h⟩)
  · rcases h with h | ⟨o, h⟩ <;> cases h
  · exact .inr h
theorem RelS.tracked {μ : Store} (S : RelS K cls w μ) {a : Addr} (h : a ∈ w.ι) : ∃ o, w.H a = some o := by
  obtain ⟨n, hn, e⟩ := List.getElem_of_mem h
  have hm : n < μ.length := by rw [← S.len]; exact hn
  obtain ⟨a', e1, c⟩ := S.cell n μ[n] (List.getElem?_eq_getElem hm)
  have : a' = a := by
    rw [List.getElem?_eq_getElem hn, e] at e1
    exact (Option.some.inj e1).symm
  subst this
  generalize hc : μ[n] = cc at c
  cases cc with
  | lst ds => obtain ⟨vs, h, _⟩ := c; exact ⟨_, h⟩
  | ins cn ns ds => obtain ⟨C, dx, vs, _, h, _⟩ := c; exact ⟨_, h⟩
  | dct ks ds => obtain ⟨vs, h, _⟩ := c; exact ⟨_, h⟩
theorem RelS.free {μ : Store} (S : RelS K cls w μ) {p : Addr} (h : w.H p = none) : p ∉ w.ι ∧ p ∉ w.B := by
  refine ⟨fun z => ?_, fun z => ?_⟩
  · obtain ⟨o, e⟩ := S.tracked z
    rw [h] at e
    cases e
  · obtain ⟨_, o, e⟩ := S.ban p z
    rw [h] at e
    cases e
abbrev Wd.up (w : Wd) (p : Addr) (o : HO) : Wd := ⟨w.x, w.ι, w.B, upd w.H p o⟩
theorem step_new {p : Addr} {o : HO} (h : w.H p = none) : Step w (w.up p o) where
  keep := fun a u _ e _ => by
    show upd w.H p o a = some u
    rw [upd_ne (ne_of_none e h)]
    exact e
  pre := ⟨[], by simp⟩
  fresh := fun a h n => absurd h n
  ban := rfl
  exn := rfl
theorem TabC.mono {a : Addr} {q : Str} (s : Kp w w') (h : ∀ ps, w.H a = some (.tbl ps) → w'.H a = some (.tbl ps)) : TabC w a q → TabC w' a q := fun ⟨ps, e, t, r⟩ => ⟨ps, h _ e, t, fun pos cv z => let ⟨c, e1, e2, e3, e4⟩ := r pos cv z; ⟨c, e1, s.at_ c _ e3 e4 e2⟩⟩
/-- the tables are kept -/
theorem RelS.tabsK {μ : Store} (S : RelS K cls w μ) (s : Kp w w') (h : ∀ P ps, w.H P = some (.tbl ps) → P ∉ w.ι → P ∉ w.B → w'.H P = some (.tbl ps) ∧ P ∉ w'.ι ∧ P ∉ w'.B) (k : Nat) (P : Addr) (h1 : 50 ≤ k) (h2 : k < 100) (h3 : cls k = some P) : TabC w' P (tabName k) ∧ P ∉ w'.ι ∧ P ∉ w'.B := by
  obtain ⟨t, i, j⟩ := S.tabs k P h1 h2 h3
  obtain ⟨ps, e, _⟩ := id t
  exact ⟨t.mono s fun ps e => (h P ps e i j).1, (h P ps e i j).2⟩
theorem CellOk.mono {a : Addr} {c : Cell} (s : Kp w w') (h : ∀ o, w.H a = some o → w'.H a = some o) : CellOk K cls w a c → CellOk K cls w' a c := by
  cases c with
  | lst ds => exact fun ⟨vs, e, r⟩ => ⟨vs, h _ e, r.mono s⟩
  | ins cn ns ds => exact fun ⟨C, dx, vs, c, e, l, r⟩ => ⟨C, dx, vs, c, h _ e, l, r.mono s⟩
  | dct ks ds => exact fun ⟨vs, e, l, r⟩ => ⟨vs, h _ e, l, r.mono s⟩
theorem RErr.mono {k : Nat} {ns : List Str} {ds : List D} {cv : Value} {d : Option Addr} (s : Kp w w') : RErr K cls w k ns ds cv d → RErr K cls w' k ns ds cv d := fun ⟨C, c, e, h⟩ => ⟨C, c, e, h.imp id fun ⟨dd, vs, e1, ⟨h1, n, b⟩, l, r⟩ => ⟨dd, vs, e1, s.at_ dd _ n b h1, l, r.mono s⟩⟩
/-- a new thing is laid -/
theorem RelS.new {μ : Store} (S : RelS K cls w μ) {p : Addr} {o : HO} (h : w.H p = none) : RelS K cls (w.up p o) μ where
  len := S.len
  nd := S.nd
  ban := fun b hb => by
    obtain ⟨h1, u, h2⟩ := S.ban b hb
    exact ⟨h1, u, by show upd w.H p o b = some (.lst u); rw [upd_ne (ne_of_none h2 h)]; exact h2⟩
  cell := fun n c e => by
    obtain ⟨a, h1, h2⟩ := S.cell n c e
    refine ⟨a, h1, h2.mono (step_new h).kp fun u e => ?_⟩
    show upd w.H p o a = some u
    rw [upd_ne (ne_of_none e h)]
    exact e
  tabs := S.tabsK (step_new h).kp fun P ps e i j => ⟨by show upd w.H p o P = _; rw [upd_ne (ne_of_none e h)]; exact e, i, j⟩
  tinj := S.tinj
theorem new_tup {μ : Store} (S : RelS K cls w μ) {p : Addr} {ds : List D} {vs : List V} (h : w.H p = none) (r : RVs K cls w ds vs) : RV K cls (w.up p (.tup vs)) (.tup ds) (.ref p) :=
  ⟨p, vs, rfl, .inl ⟨upd_same, S.free h⟩, r.mono (step_new h).kp⟩
theorem new_lst {μ : Store} (S : RelS K cls w μ) {p : Addr} {ds : List D} {vs : List V} (h : w.H p = none) (r : RVs K cls w ds vs) : RV K cls (w.up p (.lst vs)) (.lst ds) (.ref p) :=
  ⟨p, vs, rfl, ⟨upd_same, S.free h⟩, r.mono (step_new h).kp⟩
/-- a frozen list that nothing else is becomes a place: p is fresh over w0 -/
abbrev Wd.add (w : Wd) (p : Addr) : Wd := ⟨w.x, w.ι ++ [p], w.B, w.H⟩
def PostR {α : Type} (K : PySem.W.Frag) (cls : Nat → Option Addr) (w : Wd) (Er : XK) (R : Wd → α → Prop) : Res α → Prop
  | .ok d μ' => ∀ w', Step w w' → RelS K cls w' μ' → R w' d
  | .err k ns ds μ' => ∀ w' cv d, Step w w' → RelS K cls w' μ' → RErr K cls w' k ns ds cv d → Er cv d w'.H
  | .stuck => False
theorem PostR.step {α : Type} {Er : XK} {R : Wd → α → Prop} {r : Res α} (s : Step w w') (h : PostR K cls w Er R r) : PostR K cls w' Er R r := by
  cases r with
  | ok d μ => exact fun w2 s2 => h w2 (s.trans s2)
  | err k ns ds μ => exact fun w2 cv d s2 => h w2 cv d (s.trans s2)
  | stuck => exact h
theorem PostR.mute {α : Type} {Er Er' : XK} {R : Wd → α → Prop} {r : Res α} (h : PostR K cls w Er R r.mute) : PostR K cls w Er' R r := by
  cases r with
  | ok d μ => exact h
  | err k ns ds μ => exact h.elim
  | stuck => exact h
end
end Fw
set_option Elab.async false
set_option linter.all false
set_option maxRecDepth 100000
set_option autoImplicit false
namespace Fw
open PySem L2
abbrev FE := Env → Store → Res D
abbrev FA := Env → Store → Res (List D)
abbrev FT := Env → Store → Res Bool
def LIM : Nat := 1000000
theorem lim_le {n : Nat} (h : n ≤ LIM) : n ≤ sizeLine := Nat.le_trans h (by rw [sizeLine_eq]; decide)
theorem lim_lt {n : Nat} (h : n < LIM) : n < sizeLine := Nat.lt_of_lt_of_le h (by rw [sizeLine_eq]; decide)
section
variable (X : Cx) (W : WX) (cls : Nat → Option Addr)
def SE (e : Expr) (f : FE) : Prop := ∃ t, PE X e t ∧ ∀ (σ : L2.St) (Q : VK) (w : Wd) (ρ : Env) (μ : Store), RelS X.K cls w μ → RelE X.K cls w ρ σ →
  PostR X.K cls w (WE W σ) (fun w' d => ∀ v, RV X.K cls w' d v → Q v w'.H) (f ρ μ) → t σ w.H Q
def SA (es : List Expr) (f : FA) : Prop := ∃ t, PA X es t ∧ ∀ (σ : L2.St) (Q : List V → Hp → Prop) (w : Wd) (ρ : Env) (μ : Store), RelS X.K cls w μ → RelE X.K cls w ρ σ →
  PostR X.K cls w (WE W σ) (fun w' d => ∀ v, RVs X.K cls w' d v → Q v w'.H) (f ρ μ) → t σ w.H Q
def ST (e : Expr) (f : FT) : Prop := ∃ t, PT X e t ∧ ∀ (σ : L2.St) (Q : Bool → Hp → Prop) (w : Wd) (ρ : Env) (μ : Store), RelS X.K cls w μ → RelE X.K cls w ρ σ →
  PostR X.K cls w (WE W σ) (fun w' b => Q b w'.H) (f ρ μ) → t σ w.H Q
def SW (e : Expr) (f : FT) : Prop := ∃ t, PW X e t ∧ ∀ (σ : L2.St) (Q : Bool → Hp → Prop) (w : Wd) (ρ : Env) (μ : Store), RelS X.K cls w μ → RelE X.K cls w ρ σ →
  PostR X.K cls w (WE W σ) (fun w' b => Q b w'.H) (f ρ μ) → t σ w.H Q
/-- an operator by values; a call; a method -/
def OV (op : Value → Value → Sem Value) (f : D → D → Store → Res D) : Prop := ∃ r, OpR X op r ∧ ∀ (w : Wd) (μ : Store) (Er : XK) (d e : D) (x y : V) (Q : VK), RelS X.K cls w μ → RV X.K cls w d x → RV X.K cls w e y →
  PostR X.K cls w Er (fun w' d => ∀ v, RV X.K cls w' d v → Q v w'.H) (f d e μ) → r x y w.H Q
def CV (c : Value) (f : List D → Store → Res D) : Prop := ∃ r, CallR X c r ∧ ∀ (w : Wd) (μ : Store) (Er : XK) (ds : List D) (xs : List V) (Q : VK), RelS X.K cls w μ → RVs X.K cls w ds xs →
  PostR X.K cls w Er (fun w' d => ∀ v, RV X.K cls w' d v → Q v w'.H) (f ds μ) → r xs w.H Q
end
def eVar (i : Nat) : FE := fun ρ μ => match ρ[i]? with
  | some (some d) => .ok d μ
  | _ => .stuck
def eC (d : D) : FE := fun _ μ => .ok d μ
def eBin (g : D → D → Store → Res D) (fa fb : FE) : FE := fun ρ μ => (fa ρ μ).bind fun x μ1 => (fb ρ μ1).bind fun y μ2 => g x y μ2
def aNil : FA := fun _ μ => .ok [] μ
def aCons (fa : FE) (fr : FA) : FA := fun ρ μ => (fa ρ μ).bind fun x μ1 => (fr ρ μ1).bind fun xs μ2 => .ok (x :: xs) μ2
def eTup (fs : FA) : FE := fun ρ μ => (fs ρ μ).bind fun ds μ1 => if ds.length ≤ LIM then .ok (.tup ds) μ1 else .stuck
def eLst (fs : FA) : FE := fun ρ μ => (fs ρ μ).bind fun ds μ1 => if ds.length ≤ LIM then .ok (.lst ds) μ1 else .stuck
def eCall (F : List D → Store → Res D) (fs : FA) : FE := fun ρ μ => (fs ρ μ).bind fun ds μ1 => F ds μ1
def tB (fa : FE) : FT := fun ρ μ => (fa ρ μ).bind fun x μ1 => match x with
  | .bl b => .ok b μ1
  | _ => .stuck
def tNot (fa : FT) : FT := fun ρ μ => (fa ρ μ).bind fun b μ1 => .ok (!b) μ1
def tAnd (fa fb : FT) : FT := fun ρ μ => (fa ρ μ).bind fun b μ1 => if b then fb ρ μ1 else .ok false μ1
def tOr (fa fb : FT) : FT := fun ρ μ => (fa ρ μ).bind fun b μ1 => if b then .ok true μ1 else fb ρ μ1
def eIf (c : FT) (fa fb : FE) : FE := fun ρ μ => (c ρ μ).bind fun b μ1 => if b then fa ρ μ1 else fb ρ μ1
def eNot (fa : FE) : FE := fun ρ μ => (fa ρ μ).bind fun x μ1 => match x with
  | .bl b => .ok (.bl (!b)) μ1
  | _ => .stuck
def eAnd (fa fb : FE) : FE := fun ρ μ => (fa ρ μ).bind fun x μ1 => match x with
  | .bl b => if b then fb ρ μ1 else .ok (.bl false) μ1
  | _ => .stuck
def eOr (fa fb : FE) : FE := fun ρ μ => (fa ρ μ).bind fun x μ1 => match x with
  | .bl b => if b then .ok (.bl true) μ1 else fb ρ μ1
  | _ => .stuck
/-- a op b op' c -/
def eChain (g g' : D → D → Store → Res D) (fa fb fc : FE) : FE := fun ρ μ => (fa ρ μ).bind fun x μ1 => (fb ρ μ1).bind fun y μ2 => (g x y μ2).bind fun z μ3 => match z with
  | .bl b => if b then (fc ρ μ3).bind fun u μ4 => (g' y u μ4).bind fun z' μ5 => match z' with
      | .bl b' => .ok (.bl b') μ5
      | _ => .stuck
    else .ok (.bl false) μ3
  | _ => .stuck
/-- a bound reading: what comes first, then the rest -/
theorem PostR.bind {α β : Type} {K : PySem.W.Frag} {cls : Nat → Option Addr} {w : Wd} {Er : XK} {R : Wd → β → Prop} {r : Res α} {f : α → Store → Res β}
    (h : PostR K cls w Er R (r.bind f)) : PostR K cls w Er (fun w' a => ∃ μ', RelS K cls w' μ' ∧ PostR K cls w' Er R (f a μ')) r := by
  cases r with
  | ok a μ => exact fun w' s S => ⟨μ, S, PostR.step s h⟩
  | err k ns ds μ => exact h
  | stuck => exact h
theorem PostR.imp {α : Type} {K : PySem.W.Frag} {cls : Nat → Option Addr} {w : Wd} {Er : XK} {R R' : Wd → α → Prop} {r : Res α} (h : PostR K cls w Er R r) (q : ∀ w' a, Step w w' → R w' a → R' w' a) : PostR K cls w Er R' r := by
  cases r with
  | ok a μ => exact fun w' s S => q w' a s (h w' s S)
  | err k ns ds μ => exact h
  | stuck => exact h
section
variable {X : Cx} {W : WX} {cls : Nat → Option Addr} {a b c : Expr} {fa fb fc : FE} {ta tb tc : FT} {pos : Pos}
theorem se_var (i : Nat) {x : Str} (hN : X.N[i]? = some x := by rfl) (hv : Vis X.env.scope x := by first | exact Or.inl rfl | exact Or.inr (Or.inl rfl) | exact Or.inr (Or.inr rfl)) (hd : (x == ("__debug__" : Str)) = false := by decide +kernel)
    (hcd : (x == ("__classdict__" : Str)) = false := by decide +kernel) : SE X W cls (.Name x pos) (eVar i) := by
  refine ⟨_, pe_var hN hv hd hcd, fun σ Q w ρ μ S E h => ?_⟩
  unfold eVar at h
  split at h
  · rename_i d hd
    obtain ⟨v, e, r⟩ := E.2 i d hd
    exact ⟨v, e, h w Step.refl S v r⟩
  · exact h.elim
theorem se_int {i : Int} {j pos} : SE X W cls (.Constant (.int i) j pos) (eC (.int i)) := ⟨_, pe_int, fun σ Q w ρ μ S E h => h w Step.refl S _ rfl⟩
theorem se_bl {i : Bool} {j pos} : SE X W cls (.Constant (.bool i) j pos) (eC (.bl i)) := ⟨_, pe_bl, fun σ Q w ρ μ S E h => h w Step.refl S _ rfl⟩
theorem se_non {j pos} : SE X W cls (.Constant .none j pos) (eC .non) := ⟨_, pe_non, fun σ Q w ρ μ S E h => h w Step.refl S _ rfl⟩
theorem se_str {x : Str} {j pos} : SE X W cls (.Constant (.str x) j pos) (eC (.str x.cps.toList)) := ⟨_, pe_str, fun σ Q w ρ μ S E h => h w Step.refl S _ (by
  show V.str x = V.str ⟨x.cps.toList.toArray⟩
  rw [Array.toArray_toList])⟩
/-- a module's constant -/
theorem se_glob {x : Str} {v : V} {u : Value} {d : D} (hg : Gl X x) (hm : X.mg x = some u) (r : RelV v u) (rd : ∀ w, RV X.K cls w d v) (hd : (x == ("__debug__" : Str)) = false := by decide +kernel) : SE X W cls (.Name x pos) (eC d) :=
  ⟨_, pe_glob hg hm r hd, fun σ Q w ρ μ S E h => h w Step.refl S _ (rd w)⟩
theorem se_bin {op : Operator} {g : D → D → Store → Res D} (ho : OV X cls (binaryOp op) g) (ha : SE X W cls a fa) (hb : SE X W cls b fb) : SE X W cls (.BinOp a op b pos) (eBin g fa fb) := by
  obtain ⟨r, o, ho⟩ := ho
  obtain ⟨t1, p1, h1⟩ := ha
  obtain ⟨t2, p2, h2⟩ := hb
  refine ⟨_, pe_op o p1 p2, fun σ Q w ρ μ S E h => ?_⟩
  refine h1 σ _ w ρ μ S E ((PostR.bind h).imp fun w1 d s1 ⟨μ1, S1, q1⟩ v r1 => ?_)
  refine h2 σ _ w1 ρ μ1 S1 (E.mono s1.kp) ((PostR.bind q1).imp fun w2 e s2 ⟨μ2, S2, q2⟩ u r2 => ?_)
  exact ho w2 μ2 _ d e v u Q S2 (r1.mono s2.kp) r2 q2
theorem se_cmp {op : CmpOp} {g : D → D → Store → Res D} (ho : OV X cls (compareOp op) g) (ha : SE X W cls a fa) (hb : SE X W cls b fb) (hm : behindInMarks op b = false := by first | exact nomark _ | rfl) : SE X W cls (.Compare a [op] [b] pos) (eBin g fa fb) := by
  obtain ⟨r, o, ho⟩ := ho
  obtain ⟨t1, p1, h1⟩ := ha
  obtain ⟨t2, p2, h2⟩ := hb
  refine ⟨_, pe_cmpR o p1 p2 hm, fun σ Q w ρ μ S E h => ?_⟩
  refine h1 σ _ w ρ μ S E ((PostR.bind h).imp fun w1 d s1 ⟨μ1, S1, q1⟩ v r1 => ?_)
  refine h2 σ _ w1 ρ μ1 S1 (E.mono s1.kp) ((PostR.bind q1).imp fun w2 e s2 ⟨μ2, S2, q2⟩ u r2 => ?_)
  exact ho w2 μ2 _ d e v u Q S2 (r1.mono s2.kp) r2 q2
/-- a comparison as a test -/
theorem st_cmp {op : CmpOp} {g : D → D → Store → Res D} (ho : OV X cls (compareOp op) g) (ha : SE X W cls a fa) (hb : SE X W cls b fb) (hm : behindInMarks op b = false := by first | exact nomark _ | rfl) : ST X W cls (.Compare a [op] [b] pos) (tB (eBin g fa fb)) := by
  obtain ⟨r, o, ho⟩ := ho
  obtain ⟨t1, p1, h1⟩ := ha
  obtain ⟨t2, p2, h2⟩ := hb
  refine ⟨_, pt_cmpR o p1 p2 hm, fun σ Q w ρ μ S E h => ?_⟩
  have h := PostR.bind h
  refine h1 σ _ w ρ μ S E ((PostR.bind h).imp fun w1 d s1 ⟨μ1, S1, q1⟩ v r1 => ?_)
  refine h2 σ _ w1 ρ μ1 S1 (E.mono s1.kp) ((PostR.bind q1).imp fun w2 e s2 ⟨μ2, S2, q2⟩ u r2 => ?_)
  refine ho w2 μ2 _ d e v u _ S2 (r1.mono s2.kp) r2 (q2.imp fun w3 z s3 ⟨μ3, S3, q3⟩ x rx => ?_)
  cases z with
  | bl k => exact ⟨k, rx, q3 w3 Step.refl S3⟩
  | _ => exact q3.elim
theorem se_chain {op op' : CmpOp} {g g' : D → D → Store → Res D} (ho : OV X cls (compareOp op) g) (ho' : OV X cls (compareOp op') g') (ha : SE X W cls a fa) (hb : SE X W cls b fb) (hc : SE X W cls c fc)
    (k : ∀ {r r' : R2} {t1 t2 t3 : TE}, OpR X (compareOp op) r → OpR X (compareOp op') r' → PE X a t1 → PE X b t2 → PE X c t3 → PE X (.Compare a [op, op'] [b, c] pos) (tChain r r' t1 t2 t3) := by exact fun o o' p1 p2 p3 => pe_chain o o' p1 p2 p3) :
    SE X W cls (.Compare a [op, op'] [b, c] pos) (eChain g g' fa fb fc) := by
  obtain ⟨r, o, ho⟩ := ho
  obtain ⟨r', o', ho'⟩ := ho'
  obtain ⟨t1, p1, h1⟩ := ha
  obtain ⟨t2, p2, h2⟩ := hb
  obtain ⟨t3, p3, h3⟩ := hc
  refine ⟨_, k o o' p1 p2 p3, fun σ Q w ρ μ S E h => ?_⟩
  refine h1 σ _ w ρ μ S E ((PostR.bind h).imp fun w1 d s1 ⟨μ1, S1, q1⟩ v r1 => ?_)
  refine h2 σ _ w1 ρ μ1 S1 (E.mono s1.kp) ((PostR.bind q1).imp fun w2 e s2 ⟨μ2, S2, q2⟩ u r2 => ?_)
  refine ho w2 μ2 _ d e v u _ S2 (r1.mono s2.kp) r2 ((PostR.bind q2).imp fun w3 z s3 ⟨μ3, S3, q3⟩ x rx => ?_)
  cases z with
  | bl k =>
    refine ⟨k, rx, ?_⟩
    cases k with
    | true =>
      refine h3 σ _ w3 ρ μ3 S3 (E.mono ((s1.trans s2).trans s3).kp) ((PostR.bind q3).imp fun w4 z4 s4 ⟨μ4, S4, q4⟩ x4 rx4 => ?_)
      refine ho' w4 μ4 _ e z4 u x4 _ S4 (r2.mono (s3.trans s4).kp) rx4 ((PostR.bind q4).imp fun w5 z5 s5 ⟨μ5, S5, q5⟩ x5 rx5 => ?_)
      cases z5 with
      | bl k' =>
        first
        | exact ⟨k', rx5, q5 w5 Step.refl S5 _ rfl⟩
        | exact q5 w5 Step.refl S5 _ rx5
      | _ => exact q5.elim
    | false => exact q3 w3 Step.refl S3 _ rfl
  | _ => exact q3.elim
theorem st_val (ha : SE X W cls a fa) (he : ∀ whole, isTrue a X.env whole = (do let v ← whole; standAt a.pos; holding [v] (truthy v)) := by intro _; rfl) : ST X W cls a (tB fa) := by
  obtain ⟨t1, p1, h1⟩ := ha
  refine ⟨_, pt_val p1 he, fun σ Q w ρ μ S E h => ?_⟩
  refine h1 σ _ w ρ μ S E ((PostR.bind h).imp fun w1 d s1 ⟨μ1, S1, q1⟩ v r1 => ?_)
  cases d with
  | bl k => exact ⟨k, r1, q1 w1 Step.refl S1⟩
  | _ => exact q1.elim
theorem st_not (ha : ST X W cls a ta) : ST X W cls (.UnaryOp .Not a pos) (tNot ta) := by
  obtain ⟨t1, p1, h1⟩ := ha
  refine ⟨_, pt_not p1, fun σ Q w ρ μ S E h => ?_⟩
  exact h1 σ _ w ρ μ S E ((PostR.bind h).imp fun w1 d s1 ⟨μ1, S1, q1⟩ => q1 w1 Step.refl S1)
theorem sw_or1 (ha : ST X W cls a ta) : SW X W cls (.BoolOp .Or [a] pos) ta := by
  obtain ⟨t1, p1, h1⟩ := ha
  exact ⟨_, pw_or1 p1, h1⟩
theorem sw_or {rest : List Expr} (ha : ST X W cls a ta) (hb : SW X W cls (.BoolOp .Or (b :: rest) pos) tb) : SW X W cls (.BoolOp .Or (a :: b :: rest) pos) (tOr ta tb) := by
  obtain ⟨t1, p1, h1⟩ := ha
  obtain ⟨t2, p2, h2⟩ := hb
  refine ⟨_, pw_or p1 p2, fun σ Q w ρ μ S E h => ?_⟩
  refine h1 σ _ w ρ μ S E ((PostR.bind h).imp fun w1 d s1 ⟨μ1, S1, q1⟩ => ?_)
  cases d with
  | false => exact h2 σ _ w1 ρ μ1 S1 (E.mono s1.kp) q1
  | true => exact q1 w1 Step.refl S1
theorem SW.st (ha : SW X W cls a ta) : ST X W cls a ta := by
  obtain ⟨t1, p1, h1⟩ := ha
  exact ⟨_, p1.pt, h1⟩
theorem se_if (hc : ST X W cls c tc) (ha : SE X W cls a fa) (hb : SE X W cls b fb) : SE X W cls (.IfExp c a b pos) (eIf tc fa fb) := by
  obtain ⟨t0, p0, h0⟩ := hc
  obtain ⟨t1, p1, h1⟩ := ha
  obtain ⟨t2, p2, h2⟩ := hb
  refine ⟨_, pe_ifExp p0 p1 p2, fun σ Q w ρ μ S E h => ?_⟩
  refine h0 σ _ w ρ μ S E ((PostR.bind h).imp fun w1 d s1 ⟨μ1, S1, q1⟩ => ?_)
  cases d with
  | true => exact h1 σ _ w1 ρ μ1 S1 (E.mono s1.kp) q1
  | false => exact h2 σ _ w1 ρ μ1 S1 (E.mono s1.kp) q1
theorem se_not (ha : SE X W cls a fa) : SE X W cls (.UnaryOp .Not a pos) (eNot fa) := by
  obtain ⟨t1, p1, h1⟩ := ha
  refine ⟨_, pe_not p1, fun σ Q w ρ μ S E h => ?_⟩
  refine h1 σ _ w ρ μ S E ((PostR.bind h).imp fun w1 d s1 ⟨μ1, S1, q1⟩ v r1 => ?_)
  cases d with
  | bl k => exact ⟨k, r1, q1 w1 Step.refl S1 _ rfl⟩
  | _ => exact q1.elim
theorem se_one {op} (ha : SE X W cls a fa) : SE X W cls (.BoolOp op [a] pos) fa := by
  obtain ⟨t1, p1, h1⟩ := ha
  exact ⟨_, pe_one p1, h1⟩
theorem se_and {rest : List Expr} (ha : SE X W cls a fa) (hb : SE X W cls (.BoolOp .And (b :: rest) pos) fb) : SE X W cls (.BoolOp .And (a :: b :: rest) pos) (eAnd fa fb) := by
  obtain ⟨t1, p1, h1⟩ := ha
  obtain ⟨t2, p2, h2⟩ := hb
  refine ⟨_, pe_and p1 p2, fun σ Q w ρ μ S E h => ?_⟩
  refine h1 σ _ w ρ μ S E ((PostR.bind h).imp fun w1 d s1 ⟨μ1, S1, q1⟩ v r1 => ?_)
  cases d with
  | bl k =>
    refine ⟨k, r1, ?_⟩
    cases k with
    | true => exact h2 σ _ w1 ρ μ1 S1 (E.mono s1.kp) q1
    | false => exact q1 w1 Step.refl S1 _ rfl
  | _ => exact q1.elim
theorem sa_nil : SA X W cls [] aNil := ⟨_, pa_nil, fun σ Q w ρ μ S E h => h w Step.refl S _ rfl⟩
theorem sa_cons {es : List Expr} {fr : FA} (ha : SE X W cls a fa) (hr : SA X W cls es fr) (hs : starEach (a :: es) X.env = (false, eval a X.env) :: starEach es X.env := by rfl) : SA X W cls (a :: es) (aCons fa fr) := by
  obtain ⟨t1, p1, h1⟩ := ha
  obtain ⟨t2, p2, h2⟩ := hr
  refine ⟨_, pa_cons p1 p2 hs, fun σ Q w ρ μ S E h => ?_⟩
  refine h1 σ _ w ρ μ S E ((PostR.bind h).imp fun w1 d s1 ⟨μ1, S1, q1⟩ v r1 => ?_)
  refine h2 σ _ w1 ρ μ1 S1 (E.mono s1.kp) ((PostR.bind q1).imp fun w2 e s2 ⟨μ2, S2, q2⟩ u r2 => ?_)
  exact q2 w2 Step.refl S2 _ (.cons (r1.mono s2.kp) r2)
theorem se_tup {es : List Expr} {fr : FA} {x1} (ha : SA X W cls es fr) : SE X W cls (.Tuple es x1 pos) (eTup fr) := by
  obtain ⟨t1, p1, h1⟩ := ha
  refine ⟨_, pe_tup p1, fun σ Q w ρ μ S E h => ?_⟩
  refine h1 σ _ w ρ μ S E ((PostR.bind h).imp fun w1 d s1 ⟨μ1, S1, q1⟩ v r1 => ?_)
  by_cases hl : d.length ≤ LIM
  · rw [if_pos hl] at q1
    exact ⟨by rw [r1.length]; exact lim_le hl, fun p hp => q1 (w1.up p (.tup v)) (step_new hp) (S1.new hp) _ (new_tup S1 hp r1)⟩
  · rw [if_neg hl] at q1
    exact q1.elim
theorem se_lst {es : List Expr} {fr : FA} (ha : SA X W cls es fr) : SE X W cls (.List es pos) (eLst fr) := by
  obtain ⟨t1, p1, h1⟩ := ha
  refine ⟨_, pe_lst p1, fun σ Q w ρ μ S E h => ?_⟩
  refine h1 σ _ w ρ μ S E ((PostR.bind h).imp fun w1 d s1 ⟨μ1, S1, q1⟩ v r1 => ?_)
  by_cases hl : d.length ≤ LIM
  · rw [if_pos hl] at q1
    exact ⟨by rw [r1.length]; exact lim_le hl, fun p hp => q1 (w1.up p (.lst v)) (step_new hp) (S1.new hp) _ (new_lst S1 hp r1)⟩
  · rw [if_neg hl] at q1
    exact q1.elim
/-- a built-in by its name -/
theorem se_callB {x : Str} {p : Pos} {es : List Expr} {fr : FA} {id : String} {F : List D → Store → Res D} (hc : CV X cls (.builtin id) F) (hg : Gl X x) (hm : X.mg x = none) (hv : bootBuiltins x = some (.builtin id)) (ha : SA X W cls (a :: es) fr)
    (hn : x ≠ "__name__" := by decide +kernel) (hdb : (x == ("__debug__" : Str)) = false := by decide +kernel)
    (he : starEach (a :: es) X.env = (false, eval a X.env) :: starEach es X.env := by rfl) (hpl : (backTo pos (starEach es X.env)).any (·.1) = false := by rfl) : SE X W cls (.Call (.Name x p) (a :: es) [] pos) (eCall F fr) := by
  obtain ⟨r, c, hc⟩ := hc
  obtain ⟨t1, p1, h1⟩ := ha
  refine ⟨_, pe_callB c hg hm hv p1 hn hdb he hpl, fun σ Q w ρ μ S E h => ?_⟩
  refine h1 σ _ w ρ μ S E ((PostR.bind h).imp fun w1 d s1 ⟨μ1, S1, q1⟩ v r1 => ?_)
  exact hc w1 μ1 _ d v Q S1 r1 q1
theorem se_callTy {x : Str} {p : Pos} {es : List Expr} {fr : FA} {T : String} {F : List D → Store → Res D} (hc : CV X cls (.type T) F) (hg : Gl X x) (hm : X.mg x = none) (hv : bootBuiltins x = some (.type T)) (ha : SA X W cls (a :: es) fr)
    (hn : x ≠ "__name__" := by decide +kernel) (hdb : (x == ("__debug__" : Str)) = false := by decide +kernel)
    (he : starEach (a :: es) X.env = (false, eval a X.env) :: starEach es X.env := by rfl) (hpl : (backTo pos (starEach es X.env)).any (·.1) = false := by rfl) : SE X W cls (.Call (.Name x p) (a :: es) [] pos) (eCall F fr) := by
  obtain ⟨r, c, hc⟩ := hc
  obtain ⟨t1, p1, h1⟩ := ha
  refine ⟨_, pe_callTy c hg hm hv p1 hn hdb he hpl, fun σ Q w ρ μ S E h => ?_⟩
  refine h1 σ _ w ρ μ S E ((PostR.bind h).imp fun w1 d s1 ⟨μ1, S1, q1⟩ v r1 => ?_)
  exact hc w1 μ1 _ d v Q S1 r1 q1
def spD (K : PySem.W.Frag) (cls : Nat → Option Addr) (F : List D → Store → Res D) (n : Nat) : Sp := fun vs H Q E => ∃ (w : Wd) (ds : List D) (μ : Store), w.H = H ∧ ds.length = n ∧ RelS K cls w μ ∧ RVs K cls w ds vs ∧
  PostR K cls w E (fun w' d => ∀ v, RV K cls w' d v → Q v w'.H) (F ds μ)
/-- a def as the top has left it, with what it reads as -/
structure Df (P : Program) (W : World) (K : PySem.W.Frag) (cls : Nat → Option Addr) (mg : Str → Option Value) (base : Heap) (k : Nat) (x : Str) (n : Nat) (F : List D → Store → Res D) : Prop where
  ex : ∃ (f : Addr) (fd : FuncData) (ps : List Str), FnOk P W K mg base (CX P W) k f fd ps (spD K cls F n) ∧ mg x = some (.ref f) ∧ PySem.W.keepIn K (.ref f) = true ∧ Binds K fd ps [] ∧ ps.length = n
def eCallD (n : Nat) (F : List D → Store → Res D) (fs : FA) : FE := fun ρ μ => (fs ρ μ).bind fun ds μ1 => if ds.length = n then F ds μ1 else .stuck
theorem se_call {k n : Nat} {x : Str} {p : Pos} {es : List Expr} {fr : FA} {F : List D → Store → Res D} (tk : Takes X W) (G : Df X.prog X.w X.K cls X.mg X.base k x n F) (hr : Room k X.A) (hg : Gl X x) (ha : SA X W cls (a :: es) fr)
    (hdb : (x == ("__debug__" : Str)) = false := by decide +kernel) (he : starEach (a :: es) X.env = (false, eval a X.env) :: starEach es X.env := by rfl) (hpl : (backTo pos (starEach es X.env)).any (·.1) = false := by rfl) :
    SE X W cls (.Call (.Name x p) (a :: es) [] pos) (eCallD n F fr) := by
  obtain ⟨f, fd, ps, hf, hm, hk, hb, hn⟩ := G.ex
  obtain ⟨t1, p1, h1⟩ := ha
  refine ⟨_, pe_callS (E := WE W) hf hr hg hm hk hb (passAt tk) p1 hdb he hpl, fun σ Q w ρ μ S E h => ?_⟩
  refine h1 σ _ w ρ μ S E ((PostR.bind h).imp fun w1 d s1 ⟨μ1, S1, q1⟩ v r1 => ?_)
  by_cases hl : d.length = n
  · rw [if_pos hl] at q1
    exact ⟨w1, d, μ1, rfl, hl, S1, r1, q1⟩
  · rw [if_neg hl] at q1
    exact q1.elim
end
end Fw
set_option Elab.async false
set_option linter.all false
set_option maxRecDepth 100000
set_option autoImplicit false
namespace Fw
open PySem L2 PyProof.Rows
section
variable {K : PySem.W.Frag} {cls : Nat → Option Addr} {w : Wd} {μ : Store}
def lstOf (μ : Store) : D → Option (List D)
  | .lst ds => some ds
  | .loc n => match μ[n]? with
    | some (.lst ds) => some ds
    | _ => none
  | _ => none
theorem lstOf_at (S : RelS K cls w μ) {d : D} {x : V} {ds : List D} (r : RV K cls w d x) (h : lstOf μ d = some ds) : ∃ a vs, x = .ref a ∧ w.H a = some (.lst vs) ∧ RVs K cls w ds vs := by
  cases d with
  | lst es =>
    cases h
    obtain ⟨a, vs, e, ⟨h1, _⟩, h2⟩ := r
    exact ⟨a, vs, e, h1, h2⟩
  | loc n =>
    obtain ⟨a, e, hn⟩ := r
    simp only [lstOf] at h
    split at h
    · rename_i es hc
      cases h
      obtain ⟨a', h1, vs, h2, h3⟩ := S.cell n _ hc
      rw [hn] at h1
      cases h1
      exact ⟨a, vs, e, h2, h3⟩
    · cases h
  | _ => cases h
/-- any sequence but a text -/
def seqOf (μ : Store) : D → Option (List D)
  | .lst ds => some ds
  | .tup ds => some ds
  | .flst is => some (is.map .int)
  | .loc n => match μ[n]? with
    | some (.lst ds) => some ds
    | _ => none
  | _ => none
theorem seqOf_at (S : RelS K cls w μ) {d : D} {x : V} {ds : List D} (r : RV K cls w d x) (h : seqOf μ d = some ds) : ∃ a vs, x = .ref a ∧ (SqL K w.H a vs ∨ SqT K w.H a vs) ∧ RVs K cls w ds vs := by
  cases d with
  | lst es =>
    obtain ⟨a, vs, e, h1, h2⟩ := lstOf_at S r h
    exact ⟨a, vs, e, .inl (.inl (.inl h1)), h2⟩
  | loc n =>
    obtain ⟨a, vs, e, h1, h2⟩ := lstOf_at S r h
    exact ⟨a, vs, e, .inl (.inl (.inl h1)), h2⟩
  | tup es =>
    cases h
    obtain ⟨a, vs, e, h1, h2⟩ := r
    exact ⟨a, vs, e, .inr h1.sq, h2⟩
  | flst is =>
    cases h
    obtain ⟨a, e, h1⟩ := r
    exact ⟨a, _, e, .inl h1.sq, RVs.ints⟩
  | _ => cases h
theorem strEq {s : List Nat} : (⟨s.toArray⟩ : Str).cps.toList = s := by simp
theorem strLen {s : List Nat} : (⟨s.toArray⟩ : Str).length = s.length := by show s.toArray.size = s.length; simp
theorem strApp {s t : List Nat} : (⟨s.toArray⟩ : Str) ++ (⟨t.toArray⟩ : Str) = (⟨(s ++ t).toArray⟩ : Str) := by
  show Str.mk (s.toArray ++ t.toArray) = _
  simp
end
def oAdd : D → D → Store → Res D := fun d e μ => match d, e with
  | .int i, .int j => .ok (.int (i + j)) μ
  | .str a, .str b => if a.length + b.length ≤ LIM then .ok (.str (a ++ b)) μ else .stuck
  | .tup a, .tup b => if a.length + b.length ≤ LIM then .ok (.tup (a ++ b)) μ else .stuck
  | d, e => match lstOf μ d, lstOf μ e with
    | some a, some b => if a.length + b.length ≤ LIM then .ok (.lst (a ++ b)) μ else .stuck
    | _, _ => .stuck
def oSub : D → D → Store → Res D := fun d e μ => match d, e with
  | .int i, .int j => .ok (.int (i - j)) μ
  | _, _ => .stuck
def Sm (i : Int) : Bool := decide (-(2 ^ 64) < i) && decide (i < 2 ^ 64)
def oMul : D → D → Store → Res D := fun d e μ => match d, e with
  | .int i, .int j => if (Sm i || Sm j) = true then .ok (.int (i * j)) μ else .stuck
  | .str a, .int j => if j ≤ 1000 ∧ -1000 ≤ j ∧ a.length ≤ 1000 then .ok (.str (List.replicate j.toNat a).flatten) μ else .stuck
  | d, .int j => match lstOf μ d with
    | some a => if j ≤ 1000 ∧ -1000 ≤ j ∧ a.length ≤ 1000 then .ok (.lst (List.replicate j.toNat a).flatten) μ else .stuck
    | _ => .stuck
  | _, _ => .stuck
def oMod : D → D → Store → Res D := fun d e μ => match d, e with
  | .int i, .int j => if 0 < j then .ok (.int (i % j)) μ else .stuck
  | _, _ => .stuck
def oFdv : D → D → Store → Res D := fun d e μ => match d, e with
  | .int i, .int j => if 0 < j ∧ j.natAbs.log2 < 9000 then .ok (.int (i / j)) μ else .stuck
  | _, _ => .stuck
def oPow : D → D → Store → Res D := fun d e μ => match d, e with
  | .int i, .int j => if 0 ≤ j ∧ j ≤ 1000 ∧ Sm i = true then .ok (.int (i ^ j.toNat)) μ else .stuck
  | _, _ => .stuck
section
variable {X : Cx} {W : WX} {cls : Nat → Option Addr}
theorem sm_ok {i : Int} (h : Sm i = true) : -(2 ^ 64) < i ∧ i < 2 ^ 64 := by
  unfold Sm at h
  simpa using h
theorem ov_add : OV X cls (binaryOp .Add) oAdd := by
  refine ⟨_, op_add.or (op_add_str.or (op_catA.or op_cat)), fun w μ Er d e x y Q S r1 r2 h => ?_⟩
  have lsts : ∀ {a b : List D}, lstOf μ d = some a → lstOf μ e = some b → PostR X.K cls w Er (fun w' d => ∀ v, RV X.K cls w' d v → Q v w'.H) (if a.length + b.length ≤ LIM then Res.ok (.lst (a ++ b)) μ else .stuck) →
      L2.rCat x y w.H Q := fun {a b} ha hb h => by
    obtain ⟨l, vs, e1, h1, h2⟩ := lstOf_at S r1 ha
    obtain ⟨m, us, e2, h3, h4⟩ := lstOf_at S r2 hb
    split at h
    · rename_i hl
      refine ⟨l, m, vs, us, e1, e2, h1, h3, by rw [h2.length, h4.length]; exact lim_le hl, fun p hp => ?_⟩
      exact h (w.up p (.lst (vs ++ us))) (step_new hp) (S.new hp) _ (new_lst S hp (h2.append h4))
    · exact h.elim
  unfold oAdd at h
  split at h
  · exact .inl ⟨_, _, r1, r2, h w Step.refl S _ rfl⟩
  · rename_i a b
    split at h
    · rename_i hl
      refine .inr (.inl ⟨_, _, r1, r2, by rw [strLen, strLen]; exact lim_le hl, ?_⟩)
      rw [strApp]
      exact h w Step.refl S _ rfl
    · exact h.elim
  · rename_i a b
    split at h
    · rename_i hl
      obtain ⟨p, vs, e1, t1, q1⟩ := r1
      obtain ⟨q, us, e2, t2, q2⟩ := r2
      refine .inr (.inr (.inl ⟨p, q, vs, us, e1, e2, t1.sq, t2.sq, by rw [q1.length, q2.length]; exact lim_le hl, fun z => ?_, fun z z' => ?_, fun z z' n hn => ?_⟩))
      · subst z
        refine h w Step.refl S _ ⟨q, us, rfl, t2, ?_⟩
        have : a = [] := List.length_eq_zero_iff.mp (by rw [← q1.length]; rfl)
        rw [this]
        exact q2
      · subst z'
        refine h w Step.refl S _ ⟨p, vs, rfl, t1, ?_⟩
        have : b = [] := List.length_eq_zero_iff.mp (by rw [← q2.length]; rfl)
        rw [this, List.append_nil]
        exact q1
      · exact h (w.up n (.tup (vs ++ us))) (step_new hn) (S.new hn) _ (new_tup S hn (q1.append q2))
    · exact h.elim
  · split at h
    · rename_i a b ha hb
      exact .inr (.inr (.inr (lsts ha hb h)))
    · exact h.elim
theorem ov_sub : OV X cls (binaryOp .Sub) oSub := by
  refine ⟨_, op_sub, fun w μ Er d e x y Q S r1 r2 h => ?_⟩
  unfold oSub at h
  split at h
  · exact ⟨_, _, r1, r2, h w Step.refl S _ rfl⟩
  · exact h.elim
theorem op_repS : OpR X (binaryOp .Mult) (fun x y H Q => ∃ (a : List Nat) (j : Int), x = .str ⟨a.toArray⟩ ∧ y = .int j ∧ (j ≤ 1000 ∧ -1000 ≤ j ∧ a.length ≤ 1000) ∧ Q (.str ⟨(List.replicate j.toNat a).flatten.toArray⟩) H) := by
  intro pins s σ H x y v u Q I rx ry h
  obtain ⟨a, j, rfl, rfl, ⟨h1, h2, h3⟩, q⟩ := h
  obtain ⟨t, rfl⟩ := rx
  obtain ⟨t', rfl⟩ := ry
  have hl : (⟨a.toArray⟩ : Str).length = a.length := strLen
  refine PySem.P.mul_str (by rw [decide_eq_false (by omega), decide_eq_false (by omega)]; rfl) (fun g1 _ z => ?_) (fun g1 _ => ?_) ?_
  · rw [hl] at z
    have hj : (1000 : Int) * j ≤ 2 ^ 63 - 1 := by omega
    have : (1000 : Int) ≤ (2 ^ 63 - 1) / j := (Int.le_ediv_iff_mul_le (by omega)).mpr hj
    omega
  · rw [hl]
    have hm : a.length * j.toNat ≤ 1000 * 1000 := Nat.mul_le_mul h3 (by omega)
    unfold Builtin.Str.tooLong
    rw [sizeLine_eq]
    simp
    omega
  · have key : ∀ n : Nat, (List.replicate n a.toArray).foldl (· ++ ·) #[] = (List.replicate n a).flatten.toArray := fun n => by
      have gen : ∀ (n : Nat) (b : List Nat), (List.replicate n a.toArray).foldl (· ++ ·) b.toArray = (b ++ (List.replicate n a).flatten).toArray := by
        intro n
        induction n with
        | zero => intro b; simp
        | succ n ih =>
          intro b
          rw [List.replicate_succ, List.foldl_cons, List.append_toArray, ih, List.replicate_succ, List.flatten_cons, List.append_assoc]
      simpa using gen n []
    split
    · rename_i hn
      have : j.toNat = 0 := by omega
      rw [this] at q
      exact ⟨by decide, ⟨V.str Str.empty, H, I.tok _, ⟨_, rfl⟩, q⟩⟩
    · split
      · rename_i hn hb
        rw [Bool.or_eq_true] at hb
        rcases hb with hb | hb
        · have : j = 1 := by simpa using hb
          subst this
          have e : (List.replicate (1 : Int).toNat a).flatten = a := by simp
          rw [e] at q
          exact ⟨V.str _, H, I, ⟨_, rfl⟩, q⟩
        · rw [hl] at hb
          have : a = [] := List.length_eq_zero_iff.mp (by simpa using hb)
          subst this
          have e : (List.replicate j.toNat ([] : List Nat)).flatten = [] := by
            rw [List.flatten_eq_nil_iff]
            intro l hl
            exact List.eq_of_mem_replicate hl
          rw [e] at q
          exact ⟨V.str _, H, I, ⟨_, rfl⟩, q⟩
      · rw [key]
        refine ⟨?_, ⟨V.str _, H, I.tok _, ⟨_, rfl⟩, q⟩⟩
        show ((List.replicate j.toNat a).flatten.toArray).size ≤ sizeLine
        have e : (List.replicate j.toNat a).flatten.length = j.toNat * a.length := by simp
        rw [List.size_toArray, e]
        have hm : j.toNat * a.length ≤ 1000 * 1000 := Nat.mul_le_mul (by omega) h3
        exact lim_le hm
theorem ov_mul : OV X cls (binaryOp .Mult) oMul := by
  refine ⟨_, op_mul.or (op_repS.or op_rep), fun w μ Er d e x y Q S r1 r2 h => ?_⟩
  unfold oMul at h
  split at h
  · split at h
    · rename_i i j hs
      refine .inl ⟨_, _, r1, r2, ?_, h w Step.refl S _ rfl⟩
      rw [Bool.or_eq_true] at hs
      exact hs.imp sm_ok sm_ok
    · exact h.elim
  · split at h
    · rename_i a j hs
      exact .inr (.inl ⟨_, _, r1, r2, hs, h w Step.refl S _ rfl⟩)
    · exact h.elim
  · split at h
    · rename_i a ha
      split at h
      · rename_i hs
        obtain ⟨l, vs, e1, h1, h2⟩ := lstOf_at S r1 ha
        have hm : ∀ n : Nat, n ≤ 1000 → vs.length * n ≤ sizeLine := fun n hn => by
          rw [h2.length]
          exact lim_le (Nat.mul_le_mul hs.2.2 hn)
        exact .inr (.inr ⟨l, _, vs, e1, r2, h1, by omega, by omega, hm _ (by omega), fun p hp => h (w.up p _) (step_new hp) (S.new hp) _ (new_lst S hp (h2.rep _))⟩)
      · exact h.elim
    · exact h.elim
  · exact h.elim
theorem ov_mod : OV X cls (binaryOp .Mod) oMod := by
  refine ⟨_, op_mod, fun w μ Er d e x y Q S r1 r2 h => ?_⟩
  unfold oMod at h
  split at h
  · split at h
    · rename_i hs
      exact ⟨_, _, r1, r2, hs, h w Step.refl S _ rfl⟩
    · exact h.elim
  · exact h.elim
theorem ov_fdv : OV X cls (binaryOp .FloorDiv) oFdv := by
  refine ⟨_, op_fdivW, fun w μ Er d e x y Q S r1 r2 h => ?_⟩
  unfold oFdv at h
  split at h
  · split at h
    · rename_i hs
      exact ⟨_, _, r1, r2, hs, h w Step.refl S _ rfl⟩
    · exact h.elim
  · exact h.elim
theorem ov_pow : OV X cls (binaryOp .Pow) oPow := by
  refine ⟨_, op_pow, fun w μ Er d e x y Q S r1 r2 h => ?_⟩
  unfold oPow at h
  split at h
  · split at h
    · rename_i hs
      refine ⟨_, _, r1, r2, ⟨hs.1, by omega, ?_⟩, h w Step.refl S _ rfl⟩
      have := sm_ok hs.2.2
      omega
    · exact h.elim
  · exact h.elim
def oI (p : Int → Int → Bool) : D → D → Store → Res D := fun d e μ => match d, e with
  | .int i, .int j => .ok (.bl (p i j)) μ
  | _, _ => .stuck
theorem ov_I {op : CmpOp} {p : Int → Int → Bool} (ho : OpR X (compareOp op) (rI0 fun i j => .bl (p i j))) : OV X cls (compareOp op) (oI p) := by
  refine ⟨_, ho, fun w μ Er d e x y Q S r1 r2 h => ?_⟩
  unfold oI at h
  split at h
  · exact ⟨_, _, r1, r2, h w Step.refl S _ rfl⟩
  · exact h.elim
def oLt := oI fun i j => decide (i < j)
def oLe := oI fun i j => decide (i ≤ j)
def oGt := oI fun i j => decide (j < i)
def oGe := oI fun i j => decide (j ≤ i)
theorem ov_lt : OV X cls (compareOp .Lt) oLt := ov_I op_lt
theorem ov_le : OV X cls (compareOp .LtE) oLe := ov_I op_le
theorem ov_gt : OV X cls (compareOp .Gt) oGt := ov_I op_gt
theorem ov_ge : OV X cls (compareOp .GtE) oGe := ov_I op_ge
def D.isNon : D → Bool
  | .non => true
  | _ => false
theorem isNon_iff {K : PySem.W.Frag} {w : Wd} {d : D} {x : V} (r : RV K cls w d x) : decide (x = .non) = d.isNon := by
  cases d with
  | non => rw [show x = V.non from r]; rfl
  | bl b => rw [show x = V.bl b from r]; rfl
  | int b => rw [show x = V.int b from r]; rfl
  | str b => rw [show x = V.str _ from r]; rfl
  | tup b => obtain ⟨_, _, e, _⟩ := r; rw [e]; rfl
  | lst b => obtain ⟨_, _, e, _⟩ := r; rw [e]; rfl
  | flst b => obtain ⟨_, e, _⟩ := r; rw [e]; rfl
  | obj _ _ b => obtain ⟨_, _, _, _, e, _⟩ := r; rw [e]; rfl
  | loc b => obtain ⟨_, e, _⟩ := r; rw [e]; rfl
  | ptr a => rw [show x = V.ref a from r]; rfl
  | dct _ _ => obtain ⟨_, _, e, _⟩ := r; rw [e]; rfl
def oIsN : D → D → Store → Res D := fun d e μ => match e with
  | .non => .ok (.bl d.isNon) μ
  | _ => .stuck
def oNotN : D → D → Store → Res D := fun d e μ => match e with
  | .non => .ok (.bl (!d.isNon)) μ
  | _ => .stuck
theorem ov_notN : OV X cls (compareOp .IsNot) oNotN := by
  refine ⟨_, op_notN, fun w μ Er d e x y Q S r1 r2 h => ?_⟩
  unfold oNotN at h
  split at h
  · exact ⟨r2, h w Step.refl S _ (by rw [isNon_iff r1]; rfl)⟩
  · exact h.elim
end
end Fw
set_option Elab.async false
set_option linter.all false
set_option maxRecDepth 100000
set_option autoImplicit false
namespace Fw
open PySem L2 PyProof.Rows
mutual
def toPy : D → PyData
  | .non => .none
  | .bl b => .bool b
  | .int i => .int i
  | .str s => .str ⟨s.toArray⟩
  | .tup ds => .tuple (toPys ds)
  | .lst ds => .list (toPys ds)
  | .flst is => .list (is.map .int)
  | .obj _ _ _ => .dict []
  | .loc _ => .dict []
  | .ptr _ => .dict []
  | .dct _ _ => .dict []
def toPys : List D → List PyData
  | [] => []
  | d :: ds => toPy d :: toPys ds
end
def toPyM (μ : Store) : D → PyData
  | .loc n => match μ[n]? with
    | some (.lst ds) => .list (toPys ds)
    | _ => .dict []
  | d => toPy d
/-- a thing that == can tell: texts of code points, not too deep, nothing else in it -/
def okD (p : PyData) : Bool := SeqAt.shaped p
section
variable {K : PySem.W.Frag} {cls : Nat → Option Addr} {w : Wd} {μ : Store}
mutual
theorem dp_of : ∀ {d : D} {x : V}, RV K cls w d x → (toPy d).canLay0 = true → Dp K w.H x (toPy d)
  | .non, _, r, _ => by rw [show _ = V.non from r]; exact .non
  | .bl b, _, r, _ => by rw [show _ = V.bl b from r]; exact .bl b
  | .int b, _, r, _ => by rw [show _ = V.int b from r]; exact .int b
  | .str b, _, r, _ => by rw [show _ = V.str _ from r]; exact .str _
  | .tup ds, _, ⟨a, vs, e, t, r⟩, h => by rw [e]; exact .tup t.sq (dps_of r h)
  | .lst ds, _, ⟨a, vs, e, t, r⟩, h => by rw [e]; exact .lst (.inl (.inl t.1)) (dps_of r h)
  | .flst is, _, ⟨a, e, t⟩, h => by rw [e]; exact .lst t.sq (dps_ints is)
  | .obj _ _ _, _, _, h => nomatch h
  | .loc _, _, _, h => nomatch h
  | .ptr _, _, _, h => nomatch h
  | .dct _ _, _, _, h => nomatch h
theorem dps_of : ∀ {ds : List D} {vs : List V}, RVs K cls w ds vs → PyData.canLayAll0 (toPys ds) = true → DpAll K w.H vs (toPys ds)
  | [], _, r, _ => by rw [show _ = [] from r]; exact .nil
  | d :: ds, _, ⟨v, vs, e, r, t⟩, h => by
    have h' : (toPy d).canLay0 = true ∧ PyData.canLayAll0 (toPys ds) = true := by simpa [toPys, PyData.canLayAll0] using h
    rw [e]
    exact .cons (dp_of r h'.1) (dps_of t h'.2)
theorem dps_ints : ∀ is : List Int, DpAll K w.H (is.map V.int) (is.map PyData.int)
  | [] => .nil
  | i :: is => .cons (.int i) (dps_ints is)
end
theorem dpM_of (S : RelS K cls w μ) {d : D} {x : V} (r : RV K cls w d x) (h : okD (toPyM μ d) = true) : Dp K w.H x (toPyM μ d) := by
  have h1 : (toPyM μ d).canLay0 = true := by
    unfold okD SeqAt.shaped at h
    rw [Bool.and_eq_true] at h
    exact h.1
  cases d with
  | loc n =>
    simp only [toPyM] at h1 ⊢
    split
    · rename_i ds hc
      rw [hc] at h1
      obtain ⟨a, vs, e, h2, h3⟩ := lstOf_at S (d := .loc n) (ds := ds) r (by simp [lstOf, hc])
      rw [e]
      exact .lst (.inl (.inl h2)) (dps_of h3 h1)
    · rename_i hc
      split at h1
      · rename_i ds hc'
        exact absurd hc' (hc ds)
      · exact nomatch h1
  | _ => exact dp_of r h1
end
def oEq : D → D → Store → Res D := fun d e μ => if (okD (toPyM μ d) && okD (toPyM μ e)) = true then .ok (.bl (PyData.eqv (toPyM μ d) (toPyM μ e))) μ else .stuck
def oNe : D → D → Store → Res D := fun d e μ => if (okD (toPyM μ d) && okD (toPyM μ e)) = true then .ok (.bl (!PyData.eqv (toPyM μ d) (toPyM μ e))) μ else .stuck
section
variable {X : Cx} {W : WX} {cls : Nat → Option Addr}
theorem ov_eq (hu : X.A.units + 64 < cLine) : OV X cls (compareOp .Eq) oEq := by
  refine ⟨_, op_eqD hu, fun w μ Er d e x y Q S r1 r2 h => ?_⟩
  unfold oEq at h
  split at h
  · rename_i hs
    rw [Bool.and_eq_true] at hs
    exact ⟨_, _, dpM_of S r1 hs.1, dpM_of S r2 hs.2, hs.1, hs.2, h w Step.refl S _ rfl⟩
  · exact h.elim
theorem ov_ne (hu : X.A.units + 64 < cLine) : OV X cls (compareOp .NotEq) oNe := by
  refine ⟨_, op_neD hu, fun w μ Er d e x y Q S r1 r2 h => ?_⟩
  unfold oNe at h
  split at h
  · rename_i hs
    rw [Bool.and_eq_true] at hs
    exact ⟨_, _, dpM_of S r1 hs.1, dpM_of S r2 hs.2, hs.1, hs.2, h w Step.refl S _ rfl⟩
  · exact h.elim
end
def flatD : D → Bool
  | .non => true
  | .bl _ => true
  | .int _ => true
  | .str _ => true
  | _ => false
def eqDf : D → D → Bool
  | .non, .non => true
  | .bl a, .bl b => a == b
  | .bl a, .int b => (if a then 1 else 0) == b
  | .int a, .bl b => a == (if b then 1 else 0)
  | .int a, .int b => a == b
  | .str a, .str b => a == b
  | _, _ => false
def inD (d : D) (ds : List D) : Bool := ds.any fun y => eqDf y d
def oIn (neg : Bool) : D → D → Store → Res D := fun d e μ => match d, e with
  | .str [c], .str s => .ok (.bl (if neg then !decide (c ∈ s) else decide (c ∈ s))) μ
  | d, e => match seqOf μ e with
    | some ds => if (flatD d && ds.all flatD) = true then .ok (.bl (if neg then !inD d ds else inD d ds)) μ else .stuck
    | none => .stuck
section
variable {K : PySem.W.Frag} {cls : Nat → Option Addr} {w : Wd} {μ : Store}
theorem flat_of {d : D} {x : V} (r : RV K cls w d x) (h : flatD d = true) : flatV x = true := by
  cases d with
  | non => rw [show x = V.non from r]; rfl
  | bl b => rw [show x = V.bl b from r]; rfl
  | int b => rw [show x = V.int b from r]; rfl
  | str b => rw [show x = V.str _ from r]; rfl
  | _ => exact nomatch h
theorem str_beq {a b : List Nat} : ((⟨a.toArray⟩ : Str) == (⟨b.toArray⟩ : Str)) = (a == b) := by
  by_cases h : a = b
  · subst h; simp
  · have : ¬ (⟨a.toArray⟩ : Str) = ⟨b.toArray⟩ := fun e => h (by simpa using congrArg (fun s : Str => s.cps.toList) e)
    rw [beq_eq_false_iff_ne.mpr this, beq_eq_false_iff_ne.mpr h]
theorem eqV_of {d e : D} {x y : V} (r : RV K cls w d x) (r2 : RV K cls w e y) (h : flatD d = true) (h2 : flatD e = true) : eqV x y = eqDf d e := by
  cases d with
  | non => rw [show x = V.non from r]; cases e with
    | non => rw [show y = V.non from r2]; rfl
    | bl b => rw [show y = V.bl b from r2]; rfl
    | int b => rw [show y = V.int b from r2]; rfl
    | str b => rw [show y = V.str _ from r2]; rfl
    | _ => exact nomatch h2
  | bl b => rw [show x = V.bl b from r]; cases e with
    | non => rw [show y = V.non from r2]; rfl
    | bl b => rw [show y = V.bl b from r2]; rfl
    | int b => rw [show y = V.int b from r2]; rfl
    | str b => rw [show y = V.str _ from r2]; rfl
    | _ => exact nomatch h2
  | int b => rw [show x = V.int b from r]; cases e with
    | non => rw [show y = V.non from r2]; rfl
    | bl b => rw [show y = V.bl b from r2]; rfl
    | int b => rw [show y = V.int b from r2]; rfl
    | str b => rw [show y = V.str _ from r2]; rfl
    | _ => exact nomatch h2
  | str b => rw [show x = V.str _ from r]; cases e with
    | non => rw [show y = V.non from r2]; rfl
    | bl b => rw [show y = V.bl b from r2]; rfl
    | int b => rw [show y = V.int b from r2]; rfl
    | str b => rw [show y = V.str _ from r2]; exact str_beq
    | _ => exact nomatch h2
  | _ => exact nomatch h
theorem inV_of {d : D} {x : V} (r : RV K cls w d x) (h : flatD d = true) : ∀ {ds : List D} {vs : List V}, RVs K cls w ds vs → ds.all flatD = true → vs.all flatV = true ∧ inV x vs = inD d ds
  | [], _, t, _ => by rw [show _ = [] from t]; exact ⟨rfl, rfl⟩
  | e :: ds, _, ⟨v, vs, q, t, ts⟩, hf => by
    rw [List.all_cons, Bool.and_eq_true] at hf
    obtain ⟨h1, h2⟩ := inV_of r h ts hf.2
    refine ⟨?_, ?_⟩
    · rw [q, List.all_cons, flat_of t hf.1, h1]; rfl
    · rw [q]
      show (eqV v x || vs.any fun y => eqV y x) = (eqDf e d || ds.any fun y => eqDf y d)
      rw [eqV_of t r hf.1 h]
      show (eqDf e d || inV x vs) = (eqDf e d || inD d ds)
      rw [h2]
end
section
variable {X : Cx} {W : WX} {cls : Nat → Option Addr}
theorem ov_inG {neg : Bool} {op : CmpOp} (h1 : OpR X (compareOp op) (fun x y H Q => ∃ (c : Nat) (z : Str), x = .str ⟨#[c]⟩ ∧ y = .str z ∧ Q (.bl (if neg then !decide (c ∈ z.cps.toList) else decide (c ∈ z.cps.toList))) H))
    (h2 : OpR X (compareOp op) (rIn X.K neg)) : OV X cls (compareOp op) (oIn neg) := by
  refine ⟨_, h1.or h2, fun w μ Er d e x y Q S r1 r2 h => ?_⟩
  unfold oIn at h
  split at h
  · rename_i c s
    have h := h w Step.refl S _ rfl
    refine .inl ⟨c, _, r1, r2, ?_⟩
    rw [strEq]
    exact h
  · split at h
    · rename_i ds hd
      split at h
      · rename_i hs
        rw [Bool.and_eq_true] at hs
        obtain ⟨a, vs, e1, h3, h4⟩ := seqOf_at S r2 hd
        obtain ⟨h5, h6⟩ := inV_of r1 hs.1 h4 hs.2
        have h := h w Step.refl S _ rfl
        rw [← h6] at h
        exact .inr ⟨a, vs, e1, h3, flat_of r1 hs.1, h5, h⟩
      · exact h.elim
    · exact h.elim
theorem ov_in : OV X cls (compareOp .In) (oIn false) := ov_inG (fun pins s σ H x y v u Q I rx ry h => op_in_sign pins s σ H x y v u Q I rx ry (by simpa using h)) op_in_seq
theorem ov_notIn : OV X cls (compareOp .NotIn) (oIn true) := ov_inG (fun pins s σ H x y v u Q I rx ry h => op_notIn_sign pins s σ H x y v u Q I rx ry (by simpa using h)) op_notIn_seq
end
def oIx : D → D → Store → Res D := fun d e μ => match d, e with
  | .str s, .int i => if s.length ≤ LIM then match atI s i with
      | some c => .ok (.str [c]) μ
      | none => .stuck
    else .stuck
  | d, .int i => match seqOf μ d with
    | some ds => match atI ds i with
      | some e => .ok e μ
      | none => .stuck
    | none => .stuck
  | _, _ => .stuck
def cutD {α : Type} (xs : List α) (lo hi : Option Int) : List α := (xs.drop (HT.sIx xs.length 0 lo)).take (HT.sIx xs.length xs.length hi - HT.sIx xs.length 0 lo)
def oCut : D → Option Int → Option Int → Store → Res D := fun d lo hi μ => match d with
  | .str s => if s.length ≤ LIM then .ok (.str (cutD s lo hi)) μ else .stuck
  | .tup ds => .ok (.tup (cutD ds lo hi)) μ
  | d => match seqOf μ d with
    | some ds => .ok (.lst (cutD ds lo hi)) μ
    | none => .stuck
abbrev FO := Env → Store → Res (Option Int)
def oNone : FO := fun _ μ => .ok none μ
def oSome (fa : FE) : FO := fun ρ μ => (fa ρ μ).bind fun d μ1 => match d with
  | .int i => .ok (some i) μ1
  | _ => .stuck
def eCut (fa : FE) (fl fh : FO) : FE := fun ρ μ => (fa ρ μ).bind fun d μ1 => (fl ρ μ1).bind fun l μ2 => (fh ρ μ2).bind fun u μ3 => oCut d l u μ3
section
variable {K : PySem.W.Frag} {cls : Nat → Option Addr} {w : Wd} {μ : Store}
theorem RVs.atI {ds : List D} {vs : List V} {i : Int} {d : D} (r : RVs K cls w ds vs) (h : L2.atI ds i = some d) : ∃ v, L2.atI vs i = some v ∧ RV K cls w d v := by
  unfold L2.atI at h ⊢
  rw [r.length]
  cases e : ixN ds.length i with
  | none => rw [e] at h; cases h
  | some j =>
    rw [e] at h
    exact r.get h
theorem RVs.cut {ds : List D} {vs : List V} {lo hi : Option Int} (r : RVs K cls w ds vs) : RVs K cls w (cutD ds lo hi) (cutV vs lo hi) := by
  unfold cutD cutV
  rw [r.length]
  exact (r.drop _).take _
end
section
variable {K : PySem.W.Frag} {cls : Nat → Option Addr} {w : Wd} {μ : Store} {Q : VK} {Er : XK}
theorem ix_val (S : RelS K cls w μ) {d e : D} {x y : V} (r1 : RV K cls w d x) (r2 : RV K cls w e y) (q2 : PostR K cls w Er (fun w' d => ∀ v, RV K cls w' d v → Q v w'.H) (oIx d e μ)) : rIx K x y w.H Q := by
  unfold oIx at q2
  split at q2
  · rename_i s i
    split at q2
    · rename_i hl
      split at q2
      · rename_i c hc
        exact .inr (.inr ⟨_, i, c, r1, r2, by rw [strLen]; exact lim_le hl, by rw [strEq]; exact hc, q2 w Step.refl S _ rfl⟩)
      · exact q2.elim
    · exact q2.elim
  · rename_i i hn
    split at q2
    · rename_i ds hd
      split at q2
      · rename_i e he
        obtain ⟨a, vs, e1, h3, h4⟩ := seqOf_at S r1 hd
        obtain ⟨x, h5, h6⟩ := h4.atI he
        have q2 := q2 w Step.refl S _ h6
        rcases h3 with h3 | h3
        · exact .inl ⟨a, vs, _, x, e1, r2, h3, h5, q2⟩
        · exact .inr (.inl ⟨a, vs, _, x, e1, r2, h3, h5, q2⟩)
      · exact q2.elim
    · exact q2.elim
  · exact q2.elim
theorem cut_val (S : RelS K cls w μ) {d : D} {x : V} {l u : Option Int} (r1 : RV K cls w d x) (q3 : PostR K cls w Er (fun w' d => ∀ v, RV K cls w' d v → Q v w'.H) (oCut d l u μ)) :
    rSlS x l u w.H Q ∨ rSlA K x l u w.H Q ∨ rSlL K x l u w.H Q := by
  have fin : ∀ {ds : List D} {p : Addr} {vs : List V}, x = .ref p → SqL K w.H p vs → RVs K cls w ds vs → PostR K cls w Er (fun w' d => ∀ v, RV K cls w' d v → Q v w'.H) (.ok (.lst (cutD ds l u)) μ) → rSlL K x l u w.H Q := fun {ds p vs} e h4 h5 q =>
    ⟨p, vs, e, h4, fun n hp => q (w.up n (.lst (cutV vs l u))) (step_new hp) (S.new hp) _ (new_lst S hp h5.cut)⟩
  cases d with
  | str s =>
    simp only [oCut] at q3
    split at q3
    · rename_i hl
      refine .inl ⟨_, r1, by rw [strLen]; exact lim_le hl, ?_⟩
      have e : cutS (⟨s.toArray⟩ : Str) l u = ⟨(cutD s l u).toArray⟩ := by
        unfold cutS cutD
        rw [strLen, strEq]
      rw [e]
      exact q3 w Step.refl S _ rfl
    · exact q3.elim
  | tup ds =>
    simp only [oCut] at q3
    obtain ⟨p, vs, e1, h4, h5⟩ := r1
    refine .inr (.inl ⟨p, vs, e1, h4.sq, fun hw => ?_, fun hn n hp => ?_⟩)
    · have e : cutD ds l u = ds := by
        unfold cutD
        rw [← h5.length, hw.1, hw.2, List.drop_zero, Nat.sub_zero]
        exact List.take_of_length_le (by rw [h5.length]; exact Nat.le_refl _)
      rw [e] at q3
      exact q3 w Step.refl S _ ⟨p, vs, rfl, h4, h5⟩
    · exact q3 (w.up n (.tup (cutV vs l u))) (step_new hp) (S.new hp) _ (new_tup S hp h5.cut)
  | lst ds =>
    simp only [oCut, seqOf] at q3
    obtain ⟨p, vs, e2, h6, h7⟩ := lstOf_at S (d := .lst ds) (ds := ds) r1 rfl
    exact .inr (.inr (fin e2 (.inl (.inl h6)) h7 q3))
  | flst is =>
    simp only [oCut, seqOf] at q3
    obtain ⟨p, e2, h6⟩ := r1
    exact .inr (.inr (fin e2 h6.sq RVs.ints q3))
  | loc n =>
    simp only [oCut, seqOf] at q3
    split at q3
    · rename_i ds hd
      split at hd
      · rename_i es hc
        cases hd
        obtain ⟨p, vs, e2, h6, h7⟩ := lstOf_at S (d := .loc n) (ds := ds) r1 (by simp [lstOf, hc])
        exact .inr (.inr (fin e2 (.inl (.inl h6)) h7 q3))
      · cases hd
    · exact q3.elim
  | non => exact q3.elim
  | bl _ => exact q3.elim
  | int _ => exact q3.elim
  | obj _ _ _ => exact q3.elim
  | ptr _ => exact q3.elim
  | dct _ _ => exact q3.elim
end
section
variable {X : Cx} {W : WX} {cls : Nat → Option Addr} {a b e : Expr} {fa fb : FE} {fl fh : FO} {pos p2 : Pos} {lo hi : Option Expr}
theorem se_ix (ha : SE X W cls a fa) (hb : SE X W cls b fb) (hs : PlainIx b := by exact fun _ _ => rfl) : SE X W cls (.Subscript a b pos) (eBin oIx fa fb) := by
  obtain ⟨t1, p1, h1⟩ := ha
  obtain ⟨t2, p2, h2⟩ := hb
  refine ⟨_, pe_ix ix_seq p1 p2 hs, fun σ Q w ρ μ S E h => ?_⟩
  refine h1 σ _ w ρ μ S E ((PostR.bind h).imp fun w1 d s1 ⟨μ1, S1, q1⟩ v r1 => ?_)
  refine h2 σ _ w1 ρ μ1 S1 (E.mono s1.kp) ((PostR.bind q1).imp fun w2 e s2 ⟨μ2, S2, q2⟩ u r2 => ?_)
  exact ix_val S2 (r1.mono s2.kp) r2 q2
def SO (X : Cx) (W : WX) (cls : Nat → Option Addr) (e : Option Expr) (f : FO) : Prop := ∃ t, PO X e t ∧ ∀ (σ : L2.St) (Q : Option Int → Hp → Prop) (w : Wd) (ρ : Env) (μ : Store), RelS X.K cls w μ → RelE X.K cls w ρ σ →
  PostR X.K cls w (WE W σ) (fun w' o => Q o w'.H) (f ρ μ) → t σ w.H Q
theorem so_none : SO X W cls none oNone := ⟨_, po_none, fun σ Q w ρ μ S E h => h w Step.refl S⟩
theorem so_some (ha : SE X W cls a fa) : SO X W cls (some a) (oSome fa) := by
  obtain ⟨t1, p1, h1⟩ := ha
  refine ⟨_, po_some p1, fun σ Q w ρ μ S E h => ?_⟩
  refine h1 σ _ w ρ μ S E ((PostR.bind h).imp fun w1 d s1 ⟨μ1, S1, q1⟩ v r1 => ?_)
  cases d with
  | int i => exact ⟨i, r1, q1 w1 Step.refl S1⟩
  | _ => exact q1.elim
theorem slR_or {r r' : V → Option Int → Option Int → Hp → VK → Prop} (h : SlR X r) (h' : SlR X r') : SlR X (fun x l u H Q => r x l u H Q ∨ r' x l u H Q) := by
  intro pins s σ H x v vl vu lo hi sl Q I rx hs pl pu z
  rcases z with z | z
  · exact h pins s σ H x v vl vu lo hi sl Q I rx hs pl pu z
  · exact h' pins s σ H x v vl vu lo hi sl Q I rx hs pl pu z
theorem se_cut (ha : SE X W cls a fa) (hl : SO X W cls lo fl) (hh : SO X W cls hi fh) : SE X W cls (.Subscript a (.Slice lo hi none p2) pos) (eCut fa fl fh) := by
  obtain ⟨t1, p1, h1⟩ := ha
  obtain ⟨t2, p2, h2⟩ := hl
  obtain ⟨t3, p3, h3⟩ := hh
  refine ⟨_, pe_slice (slR_or sl_str (slR_or sl_tupA sl_list)) p1 p2 p3, fun σ Q w ρ μ S E h => ?_⟩
  refine h1 σ _ w ρ μ S E ((PostR.bind h).imp fun w1 d s1 ⟨μ1, S1, q1⟩ v r1 => ?_)
  refine h2 σ _ w1 ρ μ1 S1 (E.mono s1.kp) ((PostR.bind q1).imp fun w2 l s2 ⟨μ2, S2, q2⟩ => ?_)
  refine h3 σ _ w2 ρ μ2 S2 (E.mono (s1.trans s2).kp) ((PostR.bind q2).imp fun w3 u s3 ⟨μ3, S3, q3⟩ => ?_)
  exact cut_val S3 (r1.mono (s2.trans s3).kp) q3
end
end Fw
set_option Elab.async false
set_option linter.all false
set_option maxRecDepth 100000
set_option autoImplicit false
namespace Fw
open PySem L2 PyProof.Rows
def cLen : List D → Store → Res D := fun ds μ => match ds with
  | [.str s] => if s.length ≤ LIM then .ok (.int s.length) μ else .stuck
  | [d] => match seqOf μ d with
    | some es => .ok (.int es.length) μ
    | none => .stuck
  | _ => .stuck
def cInt : List D → Store → Res D := fun ds μ => match ds with
  | [.int i] => .ok (.int i) μ
  | [.bl b] => .ok (.int (if b then 1 else 0)) μ
  | [.str s] => match PySem.intText? ⟨s.toArray⟩ with
    | some n => if s.length ≤ 640 then .ok (.int n) μ else .stuck
    | none => .stuck
  | _ => .stuck
def strI (i : Int) : List Nat := (Str.ofString (toString i)).cps.toList
def cStr : List D → Store → Res D := fun ds μ => match ds with
  | [.int i] => if i.natAbs.log2 < 1920 then .ok (.str (strI i)) μ else .stuck
  | [.str s] => .ok (.str s) μ
  | _ => .stuck
def cTuple : List D → Store → Res D := fun ds μ => match ds with
  | [d] => match seqOf μ d with
    | some es => .ok (.tup es) μ
    | none => .stuck
  | _ => .stuck
def cList : List D → Store → Res D := fun ds μ => match ds with
  | [d] => match seqOf μ d with
    | some es => .ok (.lst es) μ
    | none => .stuck
  | _ => .stuck
def cMax2 : List D → Store → Res D := fun ds μ => match ds with
  | [.int i, .int j] => .ok (.int (if j > i then j else i)) μ
  | _ => .stuck
def intsOf : List D → Option (List Int)
  | [] => some []
  | .int i :: ds => (intsOf ds).map (i :: ·)
  | _ :: _ => none
def blsOf : List D → Option (List Bool)
  | [] => some []
  | .bl i :: ds => (blsOf ds).map (i :: ·)
  | _ :: _ => none
def strsOf : List D → Option (List (List Nat))
  | [] => some []
  | .str i :: ds => (strsOf ds).map (i :: ·)
  | _ :: _ => none
/-- a list's ints: not a tuple's -/
def lintsOf (μ : Store) (d : D) : Option (List Int) := match d with
  | .flst is => some is
  | d => match lstOf μ d with
    | some es => intsOf es
    | none => none
def cAll : List D → Store → Res D := fun ds μ => match ds with
  | [d] => match lstOf μ d with
    | some es => match blsOf es with
      | some bs => .ok (.bl (bs.all id)) μ
      | none => .stuck
    | none => .stuck
  | _ => .stuck
section
variable {K : PySem.W.Frag} {cls : Nat → Option Addr} {w : Wd} {μ : Store}
theorem RVs.one {d : D} {xs : List V} (r : RVs K cls w [d] xs) : ∃ x, xs = [x] ∧ RV K cls w d x := by
  obtain ⟨v, vs, e, h, t⟩ := r
  rw [show vs = [] from t] at e
  exact ⟨v, e, h⟩
theorem RVs.two {d d' : D} {xs : List V} (r : RVs K cls w [d, d'] xs) : ∃ x y, xs = [x, y] ∧ RV K cls w d x ∧ RV K cls w d' y := by
  obtain ⟨v, vs, e, h, t⟩ := r
  obtain ⟨u, rfl, h2⟩ := RVs.one t
  exact ⟨v, u, e, h, h2⟩
theorem blsOf_at : ∀ {ds : List D} {is : List Bool} {vs : List V}, RVs K cls w ds vs → blsOf ds = some is → vs = is.map V.bl
  | [], _, _, r, h => by rw [show _ = [] from r]; cases h; rfl
  | .bl i :: ds, is, _, ⟨v, vs, e, h1, t⟩, h => by
    simp only [blsOf, Option.map_eq_some_iff] at h
    obtain ⟨js, h2, rfl⟩ := h
    rw [e, blsOf_at t h2, show v = V.bl i from h1]
    rfl
  | .non :: _, _, _, _, h | .int _ :: _, _, _, _, h | .str _ :: _, _, _, _, h | .tup _ :: _, _, _, _, h | .lst _ :: _, _, _, _, h | .flst _ :: _, _, _, _, h | .obj _ _ _ :: _, _, _, _, h | .loc _ :: _, _, _, _, h => by simp [blsOf] at h
theorem strsOf_at : ∀ {ds : List D} {is : List (List Nat)} {vs : List V}, RVs K cls w ds vs → strsOf ds = some is → vs = (is.map fun s => (⟨s.toArray⟩ : Str)).map V.str
  | [], _, _, r, h => by rw [show _ = [] from r]; cases h; rfl
  | .str i :: ds, is, _, ⟨v, vs, e, h1, t⟩, h => by
    simp only [strsOf, Option.map_eq_some_iff] at h
    obtain ⟨js, h2, rfl⟩ := h
    rw [e, strsOf_at t h2, show v = V.str _ from h1]
    rfl
  | .non :: _, _, _, _, h | .int _ :: _, _, _, _, h | .bl _ :: _, _, _, _, h | .tup _ :: _, _, _, _, h | .lst _ :: _, _, _, _, h | .flst _ :: _, _, _, _, h | .obj _ _ _ :: _, _, _, _, h | .loc _ :: _, _, _, _, h => by simp [strsOf] at h
end
section
variable {X : Cx} {W : WX} {cls : Nat → Option Addr}
theorem cv_len : CV X cls (.builtin "len") cLen := by
  refine ⟨_, call_len_str.or call_len_seq, fun w μ Er ds xs Q S r0 h => ?_⟩
  unfold cLen at h
  split at h
  · rename_i s
    obtain ⟨x, rfl, r⟩ := r0.one
    split at h
    · rename_i hl
      refine .inl ⟨_, congrArg (fun z => [z]) r, by rw [strLen]; exact lim_le hl, ?_⟩
      rw [strLen]
      exact h w Step.refl S _ rfl
    · exact h.elim
  · obtain ⟨x, rfl, r⟩ := r0.one
    split at h
    · rename_i es hd
      obtain ⟨a, vs, e, h3, h4⟩ := seqOf_at S r hd
      refine .inr ⟨a, vs, congrArg (fun z => [z]) e, h3, ?_⟩
      rw [h4.length]
      exact h w Step.refl S _ rfl
    · exact h.elim
  · exact h.elim
theorem cv_int : CV X cls (.type "int") cInt := by
  refine ⟨_, call_int1.or call_int_str, fun w μ Er ds xs Q S r0 h => ?_⟩
  unfold cInt at h
  split at h
  · obtain ⟨x, rfl, r⟩ := r0.one
    exact .inl (.inl ⟨_, congrArg (fun z => [z]) r, h w Step.refl S _ rfl⟩)
  · obtain ⟨x, rfl, r⟩ := r0.one
    exact .inl (.inr ⟨_, congrArg (fun z => [z]) r, h w Step.refl S _ rfl⟩)
  · obtain ⟨x, rfl, r⟩ := r0.one
    split at h
    · rename_i n hn
      split at h
      · rename_i hl
        exact .inr ⟨_, n, congrArg (fun z => [z]) r, hn, by rw [strLen]; exact hl, h w Step.refl S _ rfl⟩
      · exact h.elim
    · exact h.elim
  · exact h.elim
theorem cv_str : CV X cls (.type "str") cStr := by
  refine ⟨_, call_str_int.or SkE.call_str_str, fun w μ Er ds xs Q S r0 h => ?_⟩
  unfold cStr at h
  split at h
  · rename_i i
    obtain ⟨x, rfl, r⟩ := r0.one
    split at h
    · rename_i hl
      refine .inl ⟨i, congrArg (fun z => [z]) r, hl, h w Step.refl S _ ?_⟩
      show V.str _ = V.str ⟨(strI i).toArray⟩
      unfold strI
      rw [Array.toArray_toList]
    · exact h.elim
  · obtain ⟨x, rfl, r⟩ := r0.one
    exact .inr ⟨_, congrArg (fun z => [z]) r, h w Step.refl S _ rfl⟩
  · exact h.elim
theorem cv_tuple : CV X cls (.type "tuple") cTuple := by
  refine ⟨_, call_tuple_of, fun w μ Er ds xs Q S r0 h => ?_⟩
  unfold cTuple at h
  split at h
  · rename_i d
    obtain ⟨x, rfl, r⟩ := r0.one
    split at h
    · rename_i es hd
      have gen : (∃ a vs, x = .ref a ∧ SqL X.K w.H a vs ∧ RVs X.K cls w es vs) → ∃ p ys, [x] = [V.ref p] ∧ ((SqL X.K w.H p ys ∧ ∀ l, w.H l = none → Q (.ref l) (upd w.H l (.tup ys))) ∨ (SqT X.K w.H p ys ∧ Q (.ref p) w.H)) := fun ⟨a, vs, e, h3, h4⟩ =>
        ⟨a, vs, congrArg (fun z => [z]) e, .inl ⟨h3, fun l hl => h (w.up l (.tup vs)) (step_new hl) (S.new hl) _ (new_tup S hl h4)⟩⟩
      cases d with
      | tup ts =>
        cases hd
        obtain ⟨a, vs, e, t, q⟩ := r
        exact ⟨a, vs, congrArg (fun z => [z]) e, .inr ⟨t.sq, h w Step.refl S _ ⟨a, vs, rfl, t, q⟩⟩⟩
      | lst ts => obtain ⟨a, vs, e, h3, h4⟩ := lstOf_at S (d := .lst ts) (ds := es) r hd; exact gen ⟨a, vs, e, .inl (.inl h3), h4⟩
      | loc ts => obtain ⟨a, vs, e, h3, h4⟩ := lstOf_at S (d := .loc ts) (ds := es) r hd; exact gen ⟨a, vs, e, .inl (.inl h3), h4⟩
      | flst ts =>
        cases hd
        obtain ⟨a, e, t⟩ := r
        exact gen ⟨a, _, e, t.sq, RVs.ints⟩
      | _ => cases hd
    · exact h.elim
  · exact h.elim
theorem cv_list : CV X cls (.type "list") cList := by
  refine ⟨_, call_list_of, fun w μ Er ds xs Q S r0 h => ?_⟩
  unfold cList at h
  split at h
  · rename_i d
    obtain ⟨x, rfl, r⟩ := r0.one
    split at h
    · rename_i es hd
      obtain ⟨a, vs, e, h3, h4⟩ := seqOf_at S r hd
      exact ⟨a, vs, congrArg (fun z => [z]) e, h3, fun l hl => h (w.up l (.lst vs)) (step_new hl) (S.new hl) _ (new_lst S hl h4)⟩
    · exact h.elim
  · exact h.elim
theorem cv_max2 (hc : X.calm = true) : CV X cls (.builtin "max") cMax2 := by
  refine ⟨_, call_max2 hc, fun w μ Er ds xs Q S r0 h => ?_⟩
  unfold cMax2 at h
  split at h
  · obtain ⟨x, y, rfl, r1, r2⟩ := r0.two
    exact ⟨_, _, by rw [show x = _ from r1, show y = _ from r2], h w Step.refl S _ rfl⟩
  · exact h.elim
theorem cv_all (hc : X.calm = true) : CV X cls (.builtin "all") cAll := by
  refine ⟨_, cr_all hc, fun w μ Er ds xs Q S r0 h => ?_⟩
  unfold cAll at h
  split at h
  · obtain ⟨x, rfl, r⟩ := r0.one
    split at h
    · rename_i es hd
      obtain ⟨a, vs, e, h3, h4⟩ := lstOf_at S r hd
      split at h
      · rename_i bs hb
        rw [blsOf_at h4 hb] at h3
        exact ⟨a, bs, congrArg (fun z => [z]) e, .inl (.inl h3), h w Step.refl S _ rfl⟩
      · exact h.elim
    · exact h.elim
  · exact h.elim
end
def tyName (μ : Store) : D → Option String
  | .non => some "NoneType"
  | .bl _ => some "bool"
  | .int _ => some "int"
  | .str _ => some "str"
  | .tup _ => some "tuple"
  | .lst _ => some "list"
  | .flst _ => none
  | .obj _ _ _ => none
  | .ptr _ => none
  | .dct _ _ => some "dict"
  | .loc n => match μ[n]? with
    | some (.lst _) => some "list"
    | _ => none
def eIsi (T : String) (fa : FE) : FE := fun ρ μ => (fa ρ μ).bind fun d μ1 => match tyName μ1 d with
  | some t => match kitB t T with
    | some b => .ok (.bl b) μ1
    | none => .stuck
  | none => .stuck
theorem tyName_at {K : PySem.W.Frag} {cls : Nat → Option Addr} {w : Wd} {μ : Store} (S : RelS K cls w μ) {d : D} {x : V} {t : String} (r : RV K cls w d x) (h : tyName μ d = some t) : TyX K w.H x (.type t) := by
  cases d with
  | non => cases h; rw [show x = V.non from r]; exact .base .non
  | bl b => cases h; rw [show x = V.bl b from r]; exact .base (.bl b)
  | int b => cases h; rw [show x = V.int b from r]; exact .base (.int b)
  | str b => cases h; rw [show x = V.str _ from r]; exact .base (.str _)
  | tup b =>
    cases h
    obtain ⟨a, vs, e, t, _⟩ := r
    rw [e]
    rcases t with ⟨t, _⟩ | t
    · exact .base (.tup t)
    · rcases t with (t | ⟨o, t⟩) | ⟨o, its, n, e1, e2, _⟩
      · cases t
      · cases t
      · exact .kTuple e1 e2
  | lst b =>
    cases h
    obtain ⟨a, vs, e, ⟨t, _⟩, _⟩ := r
    rw [e]
    exact .base (.lst t)
  | flst b => cases h
  | obj _ _ _ => cases h
  | ptr _ => cases h
  | dct _ _ =>
    cases h
    obtain ⟨a, vs, e, ⟨t, _⟩, _⟩ := r
    rw [e]
    exact .base (.dK t)
  | loc n =>
    simp only [tyName] at h
    split at h
    · rename_i es hc
      cases h
      obtain ⟨a, vs, e, h1, _⟩ := lstOf_at S (d := .loc n) (ds := es) r (by simp [lstOf, hc])
      rw [e]
      exact .base (.lst h1)
    · cases h
theorem se_isi {X : Cx} {W : WX} {cls : Nat → Option Addr} {a : Expr} {fa : FE} {pos p p2 : Pos} {T : String} {x : Str} (ha : SE X W cls a fa) (hg : Gl X "isinstance") (hm : X.mg "isinstance" = none) (hv : bootBuiltins "isinstance" = some (.builtin "isinstance"))
    (hg2 : Gl X x) (hm2 : X.mg x = none) (hv2 : bootBuiltins x = some (.type T)) (hn : x ≠ "__name__" := by decide +kernel) (hd : (x == ("__debug__" : Str)) = false := by decide +kernel)
    (he : starEach [a, .Name x p2] X.env = (false, eval a X.env) :: starEach [.Name x p2] X.env := by rfl) (hs : starEach [.Name x p2] X.env = (false, eval (.Name x p2) X.env) :: starEach [] X.env := by rfl)
    (hpl : (backTo pos (starEach [.Name x p2] X.env)).any (·.1) = false := by rfl) :
    SE X W cls (.Call (.Name "isinstance" p) [a, .Name x p2] [] pos) (eIsi T fa) := by
  obtain ⟨t1, p1, h1⟩ := ha
  refine ⟨_, pe_callB call_isi hg hm hv (pa_cons p1 (pa_cons (pe_bltn (v := .ty T) hg2 hm2 hv2 rfl hn hd) pa_nil hs) he) (by decide +kernel) (by decide +kernel) he hpl, fun σ Q w ρ μ S E h => ?_⟩
  refine h1 σ _ w ρ μ S E ((PostR.bind h).imp fun w1 d s1 ⟨μ1, S1, q1⟩ v r1 => ?_)
  split at q1
  · rename_i t ht
    split at q1
    · rename_i b hb
      exact ⟨v, .ty T, .type t, .type T, b, rfl, .ty T, tyName_at S1 r1 ht, kit_ty hb, q1 w1 Step.refl S1 _ rfl⟩
    · exact q1.elim
  · exact q1.elim
end Fw
set_option Elab.async false
set_option linter.all false
set_option maxRecDepth 100000
set_option autoImplicit false
namespace Fw
open PySem L2 PyProof.Rows
def joinD (S : List Nat) : List (List Nat) → List Nat
  | [] => []
  | [p] => p
  | p :: q :: r => p ++ (S ++ joinD S (q :: r))
theorem join_of (S : List Nat) : ∀ ps : List (List Nat), Str.join ⟨S.toArray⟩ (ps.map fun s => (⟨s.toArray⟩ : Str)) = ⟨(joinD S ps).toArray⟩
  | [] => rfl
  | [p] => rfl
  | p :: q :: r => by
    show ((⟨p.toArray⟩ : Str) ++ (⟨S.toArray⟩ : Str)) ++ Str.join ⟨S.toArray⟩ ((q :: r).map fun s => (⟨s.toArray⟩ : Str)) = _
    rw [join_of S (q :: r), strApp, strApp, List.append_assoc]
    rfl
def oJoin (d e : D) (μ : Store) : Res D := match d with
  | .str s => match seqOf μ e with
    | some es => match strsOf es with
      | some ps => if (ps.map List.length).sum + ps.length * s.length ≤ LIM then .ok (.str (joinD s ps)) μ else .stuck
      | none => .stuck
    | none => .stuck
  | _ => .stuck
def eJoin (fo fe : FE) : FE := fun ρ μ => (fo ρ μ).bind fun d μ1 => match d with
  | .str s => (fe ρ μ1).bind fun e μ2 => oJoin (.str s) e μ2
  | _ => .stuck
def isL (μ : Store) : D → Bool
  | .loc n => match μ[n]? with
    | some (.lst _) => true
    | _ => false
  | _ => false
def oApp (d e : D) (μ : Store) : Res D := match d with
  | .loc n => match μ[n]? with
    | some (.lst es) => if es.length < LIM then .ok .non (μ.set n (.lst (es ++ [e]))) else .stuck
    | _ => .stuck
  | _ => .stuck
/-- xs.m(e), xs a list at a place -/
def eLm (g : D → D → Store → Res D) (fo fe : FE) : FE := fun ρ μ => (fo ρ μ).bind fun d μ1 => if isL μ1 d = true then (fe ρ μ1).bind fun e μ2 => g d e μ2 else .stuck
section
variable {K : PySem.W.Frag} {cls : Nat → Option Addr} {w : Wd} {μ : Store}
theorem Step.write {n : Nat} {a : Addr} (hn : w.ι[n]? = some a) {o : HO} : Step w (w.up a o) where
  keep := fun b u hb e _ => by
    show upd w.H a o b = some u
    rw [upd_ne fun z => hb (by rw [z]; exact List.mem_of_getElem? hn)]
    exact e
  pre := ⟨[], by simp⟩
  fresh := fun b h n => absurd h n
  ban := rfl
  exn := rfl
theorem RelS.write (S : RelS K cls w μ) {n : Nat} {a : Addr} {c : Cell} {o : HO} (hn : w.ι[n]? = some a) (hc : CellOk K cls (w.up a o) a c) : RelS K cls (w.up a o) (μ.set n c) where
  len := by rw [List.length_set]; exact S.len
  nd := S.nd
  ban := fun b hb => by
    obtain ⟨h1, u, h2⟩ := S.ban b hb
    exact ⟨h1, u, by show upd w.H a o b = some (.lst u); rw [upd_ne fun z => h1 (by rw [z]; exact List.mem_of_getElem? hn)]; exact h2⟩
  cell := fun m c' e => by
    have hl : n < μ.length := by rw [← S.len]; exact (List.getElem?_eq_some_iff.mp hn).1
    by_cases hm : n = m
    · subst hm
      rw [List.getElem?_set_self hl] at e
      cases e
      exact ⟨a, hn, hc⟩
    · rw [List.getElem?_set_ne hm] at e
      obtain ⟨a', h1, h2⟩ := S.cell m c' e
      refine ⟨a', h1, h2.mono (Step.write hn).kp fun u e => ?_⟩
      show upd w.H a o a' = some u
      rw [upd_ne fun z => hm ?_]
      · exact e
      · obtain ⟨l1, e1⟩ := List.getElem?_eq_some_iff.mp hn
        obtain ⟨l2, e2⟩ := List.getElem?_eq_some_iff.mp h1
        exact (List.getElem_inj S.nd).mp (e1.trans (z.symm.trans e2.symm))
  tabs := S.tabsK (Step.write hn).kp fun P ps e i j => ⟨by show upd w.H a o P = _; rw [upd_ne fun z => i (by rw [z]; exact List.mem_of_getElem? hn)]; exact e, i, j⟩
  tinj := S.tinj
theorem RelS.lst (S : RelS K cls w μ) {n : Nat} {x : V} {ds : List D} (r : RV K cls w (.loc n) x) (h : μ[n]? = some (.lst ds)) : ∃ a vs, x = .ref a ∧ w.ι[n]? = some a ∧ w.H a = some (.lst vs) ∧ RVs K cls w ds vs := by
  obtain ⟨a, e, hn⟩ := r
  obtain ⟨a', h1, vs, h2, h3⟩ := S.cell n _ h
  rw [hn] at h1
  cases h1
  exact ⟨a, vs, e, hn, h2, h3⟩
theorem wlst (S : RelS K cls w μ) {n : Nat} {a : Addr} {ds : List D} {vs : List V} (hn : w.ι[n]? = some a) (r : RVs K cls w ds vs) : RelS K cls (w.up a (.lst vs)) (μ.set n (.lst ds)) :=
  S.write hn ⟨vs, upd_same, r.mono (Step.write hn).kp⟩
end
section
variable {X : Cx} {W : WX} {cls : Nat → Option Addr} {o e : Expr} {fo fe : FE} {apos pos : Pos}
theorem se_join (ho : SE X W cls o fo) (he : SE X W cls e fe) (hs : starEach [e] X.env = [(false, eval e X.env)] := by rfl) (hbase : attributeBase o "join" X.env (eval o X.env) = eval o X.env := by rfl) (hline : (apos.endLine == pos.line) = true := by rfl) :
    SE X W cls (.Call (.Attribute o "join" apos) [e] [] pos) (eJoin fo fe) := by
  obtain ⟨t1, p1, h1⟩ := ho
  obtain ⟨t2, p2, h2⟩ := he
  refine ⟨_, pe_join p1 p2 hs hbase hline, fun σ Q w ρ μ S E h => ?_⟩
  refine h1 σ _ w ρ μ S E ((PostR.bind h).imp fun w1 d s1 ⟨μ1, S1, q1⟩ v r1 => ?_)
  cases d with
  | str s =>
    refine ⟨⟨_, r1⟩, h2 σ _ w1 ρ μ1 S1 (E.mono s1.kp) ((PostR.bind q1).imp fun w2 e s2 ⟨μ2, S2, q2⟩ u r2 => ?_)⟩
    simp only [oJoin] at q2
    split at q2
    · rename_i es hd
      obtain ⟨a, vs, e1, h3, h4⟩ := seqOf_at S2 r2 hd
      split at q2
      · rename_i ps hp
        rw [strsOf_at h4 hp] at h3
        split at q2
        · rename_i hl
          have hz : (ps.map fun s => (⟨s.toArray⟩ : Str)).map (·.length) = ps.map List.length := by
            rw [List.map_map]
            exact List.map_congr_left fun s _ => strLen
          refine ⟨_, a, ps.map fun s => (⟨s.toArray⟩ : Str), r1, congrArg (fun z => [z]) e1, h3, ?_, ?_⟩
          · rw [hz, List.length_map, strLen]
            have := lim_le hl
            rw [sizeLine_eq] at this
            exact this
          · rw [TL.join_eq, join_of]
            exact q2 w2 Step.refl S2 _ rfl
        · exact q2.elim
      · exact q2.elim
    · exact q2.elim
  | _ => exact q1.elim
theorem isL_at {K : PySem.W.Frag} {w : Wd} {μ : Store} (S : RelS K cls w μ) {d : D} {x : V} (r : RV K cls w d x) (h : isL μ d = true) : tyV K "list" x w.H := by
  cases d with
  | loc n =>
    simp only [isL] at h
    split at h
    · rename_i es hc
      obtain ⟨a, vs, e, _, h2, _⟩ := S.lst r hc
      rw [e]
      exact .inl ⟨rfl, vs, .inl (.inl h2)⟩
    · cases h
  | _ => cases h
theorem app_val {K : PySem.W.Frag} {w : Wd} {μ : Store} {Q : VK} {Er : XK} (S : RelS K cls w μ) {d e : D} {x y : V} (r1 : RV K cls w d x) (r2 : RV K cls w e y) (q : PostR K cls w Er (fun w' d => ∀ v, RV K cls w' d v → Q v w'.H) (oApp d e μ)) : rAppend x [y] w.H Q := by
  cases d with
  | loc n =>
    simp only [oApp] at q
    split at q
    · rename_i es hc
      split at q
      · rename_i hl
        obtain ⟨a, vs, ex, hn, h2, h3⟩ := S.lst r1 hc
        exact ⟨a, vs, y, ex, rfl, h2, by rw [h3.length]; exact lim_lt hl, q (w.up a (.lst (vs ++ [y]))) (Step.write hn) (wlst S hn (h3.append (.cons r2 .nil))) _ rfl⟩
      · exact q.elim
    · exact q.elim
  | _ => exact q.elim
theorem se_lm {m : Str} {r : V → List V → Hp → VK → Prop} {g : D → D → Store → Res D} (ho : SE X W cls o fo) (he : SE X W cls e fe)
    (k : ∀ {to : TE} {t : TA}, PE X o to → PA X [e] t → PE X (.Call (.Attribute o m apos) [e] [] pos) (tBM X.K "list" r to t))
    (hg : ∀ {w : Wd} {μ : Store} {Q : VK} {Er : XK} {d e : D} {x y : V}, RelS X.K cls w μ → RV X.K cls w d x → RV X.K cls w e y → PostR X.K cls w Er (fun w' d => ∀ v, RV X.K cls w' d v → Q v w'.H) (g d e μ) → r x [y] w.H Q)
    (hs : starEach [e] X.env = (false, eval e X.env) :: starEach [] X.env := by rfl) :
    SE X W cls (.Call (.Attribute o m apos) [e] [] pos) (eLm g fo fe) := by
  obtain ⟨t1, p1, h1⟩ := ho
  obtain ⟨t2, p2, h2⟩ := he
  refine ⟨_, k p1 (pa_cons p2 pa_nil hs), fun σ Q w ρ μ S E h => ?_⟩
  refine h1 σ _ w ρ μ S E ((PostR.bind h).imp fun w1 d s1 ⟨μ1, S1, q1⟩ v r1 => ?_)
  split at q1
  · rename_i hl
    refine ⟨isL_at S1 r1 hl, h2 σ _ w1 ρ μ1 S1 (E.mono s1.kp) ((PostR.bind q1).imp fun w2 e s2 ⟨μ2, S2, q2⟩ u r2 => hg S2 (r1.mono s2.kp) r2 q2)⟩
  · exact q1.elim
end
inductive SR where
  | nx (ρ : Env) (μ : Store)
  | rt (d : D) (μ : Store)
  | bk (ρ : Env) (μ : Store)
  | ct (ρ : Env) (μ : Store)
  | er (k : Nat) (ns : List Str) (ds : List D) (ρ : Env) (μ : Store)
  | stuck
abbrev FS := Env → Store → SR
def PostS (K : PySem.W.Frag) (cls : Nat → Option Addr) (w : Wd) (W : WX) (D : Ends) : SR → Prop
  | .nx ρ μ => ∀ w' σ, Step w w' → RelS K cls w' μ → RelE K cls w' ρ σ → D.nx σ w'.H
  | .rt d μ => ∀ w' v, Step w w' → RelS K cls w' μ → RV K cls w' d v → D.rt v w'.H
  | .bk ρ μ => ∀ w' σ, Step w w' → RelS K cls w' μ → RelE K cls w' ρ σ → D.bk σ w'.H
  | .ct ρ μ => ∀ w' σ, Step w w' → RelS K cls w' μ → RelE K cls w' ρ σ → D.ct σ w'.H
  | .er k ns ds ρ μ => ∀ w' σ cv d, Step w w' → RelS K cls w' μ → RelE K cls w' ρ σ → RErr K cls w' k ns ds cv d → W cv d σ w'.H
  | .stuck => False
def Off (is : List Nat) (σ σ' : L2.St) : Prop := σ'.length = σ.length ∧ ∀ j, j ∉ is → σ'[j]? = σ[j]?
theorem Off.refl {is : List Nat} {σ : L2.St} : Off is σ σ := ⟨rfl, fun _ _ => rfl⟩
theorem Off.set {i : Nat} {σ : L2.St} {v : Option V} : Off [i] σ (σ.set i v) := ⟨List.length_set, fun j hj => List.getElem?_set_ne fun e => hj (by rw [e]; exact List.mem_cons_self)⟩
theorem Off.trans {is js : List Nat} {σ σ1 σ2 : L2.St} (a : Off is σ σ1) (b : Off js σ1 σ2) : Off (is ++ js) σ σ2 := ⟨b.1.trans a.1, fun j hj => (b.2 j fun z => hj (List.mem_append_right _ z)).trans (a.2 j fun z => hj (List.mem_append_left _ z))⟩
section
variable (X : Cx) (W : WX) (cls : Nat → Option Addr)
def SS (st : Stmt) (f : FS) : Prop := ∃ t, PS X st t ∧ ∀ (D : Ends) (σ : L2.St) (w : Wd) (ρ : Env) (μ : Store), RelS X.K cls w μ → RelE X.K cls w ρ σ → PostS X.K cls w W D (f ρ μ) → t D σ w.H
def SSs (st : List Stmt) (f : FS) : Prop := ∃ t, PSs X st t ∧ ∀ (D : Ends) (σ : L2.St) (w : Wd) (ρ : Env) (μ : Store), RelS X.K cls w μ → RelE X.K cls w ρ σ → PostS X.K cls w W D (f ρ μ) → t D σ w.H
/-- a target; is: the slots that it writes -/
def SG (tg : Expr) (is : List Nat) (g : D → Env → Store → Res Env) : Prop := ∃ t, PG X tg t ∧ ∀ (v : V) (d : D) (σ : L2.St) (w : Wd) (ρ : Env) (μ : Store) (Q : L2.St → Hp → Prop) (Er : XK), RelS X.K cls w μ → RelE X.K cls w ρ σ → RV X.K cls w d v →
  PostR X.K cls w Er (fun w' ρ' => ∀ σ', RelE X.K cls w' ρ' σ' → Off is σ σ' → Q σ' w'.H) (g d ρ μ) → t v σ w.H Q
def SGs (ts : List Expr) (is : List Nat) (g : List D → Env → Store → Res Env) : Prop := ∃ t, PGs X ts t ∧ ∀ (vs : List V) (ds : List D) (σ : L2.St) (w : Wd) (ρ : Env) (μ : Store) (Q : L2.St → Hp → Prop) (Er : XK), RelS X.K cls w μ → RelE X.K cls w ρ σ → RVs X.K cls w ds vs →
  PostR X.K cls w Er (fun w' ρ' => ∀ σ', RelE X.K cls w' ρ' σ' → Off is σ σ' → Q σ' w'.H) (g ds ρ μ) → t vs σ w.H Q
end
theorem PostS.step {K : PySem.W.Frag} {cls : Nat → Option Addr} {w w' : Wd} {W : WX} {D : Ends} {r : SR} (s : Step w w') (h : PostS K cls w W D r) : PostS K cls w' W D r := by
  cases r with
  | nx ρ μ => exact fun w2 σ s2 => h w2 σ (s.trans s2)
  | rt ρ μ => exact fun w2 σ s2 => h w2 σ (s.trans s2)
  | bk ρ μ => exact fun w2 σ s2 => h w2 σ (s.trans s2)
  | ct ρ μ => exact fun w2 σ s2 => h w2 σ (s.trans s2)
  | er k ns ds ρ μ => exact fun w2 σ cv d s2 => h w2 σ cv d (s.trans s2)
  | stuck => exact h
/-- ahead of a statement's reading an expression's -/
def rS {α : Type} (ρ : Env) (r : Res α) (f : α → Store → SR) : SR := match r with
  | .ok a μ => f a μ
  | .err k ns ds μ => .er k ns ds ρ μ
  | .stuck => .stuck
@[simp] theorem rS_ok {α : Type} {ρ : Env} {a : α} {μ : Store} {f : α → Store → SR} : rS ρ (.ok a μ) f = f a μ := rfl
@[simp] theorem rS_err {α : Type} {ρ : Env} {k : Nat} {ns : List Str} {ds : List D} {μ : Store} {f : α → Store → SR} : rS ρ (.err k ns ds μ : Res α) f = .er k ns ds ρ μ := rfl
@[simp] theorem rS_stuck {α : Type} {ρ : Env} {f : α → Store → SR} : rS ρ (.stuck : Res α) f = .stuck := rfl
theorem PostS.bind {α : Type} {K : PySem.W.Frag} {cls : Nat → Option Addr} {w : Wd} {W : WX} {D : Ends} {ρ : Env} {σ : L2.St} {r : Res α} {f : α → Store → SR} (E : RelE K cls w ρ σ)
    (h : PostS K cls w W D (rS ρ r f)) : PostR K cls w (WE W σ) (fun w' a => ∃ μ', RelS K cls w' μ' ∧ PostS K cls w' W D (f a μ')) r := by
  cases r with
  | ok a μ => exact fun w' s S => ⟨μ, S, PostS.step s h⟩
  | err k ns ds μ => exact fun w' cv d s S x => h w' σ cv d s S (E.mono s.kp) x
  | stuck => exact h
def sNext : FS := fun ρ μ => .nx ρ μ
def sSeq (f g : FS) : FS := fun ρ μ => match f ρ μ with
  | .nx ρ1 μ1 => g ρ1 μ1
  | r => r
def sIf (c : FT) (f g : FS) : FS := fun ρ μ => rS ρ (c ρ μ) fun b μ1 => if b = true then f ρ μ1 else g ρ μ1
def sRet (fe : FE) : FS := fun ρ μ => rS ρ (fe ρ μ) fun d μ1 => .rt d μ1
def sExpr (fe : FE) : FS := fun ρ μ => rS ρ (fe ρ μ) fun _ μ1 => .nx ρ μ1
def sNever : FS := fun _ _ => .stuck
def sAsg (g : D → Env → Store → Res Env) (fe : FE) : FS := fun ρ μ => rS ρ (fe ρ μ) fun d μ1 => rS ρ (g d ρ μ1) fun ρ1 μ2 => .nx ρ1 μ2
def gVar (i : Nat) : D → Env → Store → Res Env := fun d ρ μ => if i < ρ.length then .ok (ρ.set i (some d)) μ else .stuck
def gNil : List D → Env → Store → Res Env := fun ds ρ μ => match ds with
  | [] => .ok ρ μ
  | _ => .stuck
def gCons (g : D → Env → Store → Res Env) (h : List D → Env → Store → Res Env) : List D → Env → Store → Res Env := fun ds ρ μ => match ds with
  | [] => .stuck
  | d :: r => (g d ρ μ).bind fun ρ1 μ1 => h r ρ1 μ1
def gTup (n : Nat) (h : List D → Env → Store → Res Env) : D → Env → Store → Res Env := fun d ρ μ => match d with
  | .tup ds => if ds.length = n then h ds ρ μ else .stuck
  | _ => .stuck
/-- xs[i] = v, a list at a place -/
def gIx (fo fi : FE) : D → Env → Store → Res Env := fun v ρ μ => (fo ρ μ).mute.bind fun d μ1 => (fi ρ μ1).mute.bind fun e μ2 => match d, e with
  | .loc n, .int i => match μ2[n]? with
    | some (.lst es) => match ixN es.length i with
      | some j => .ok ρ (μ2.set n (.lst (es.set j v)))
      | none => .stuck
    | _ => .stuck
  | _, _ => .stuck
/-- x op= e on a name -/
def sAug (i : Nat) (g : D → D → Store → Res D) (fe : FE) : FS := fun ρ μ => match ρ[i]? with
  | some (some x) => rS ρ (fe ρ μ) fun y μ1 => rS ρ (g x y μ1) fun z μ2 => if i < ρ.length then .nx (ρ.set i (some z)) μ2 else .stuck
  | _ => .stuck
section
variable {X : Cx} {W : WX} {cls : Nat → Option Addr} {st : Stmt} {rest : List Stmt} {f g : FS} {e : Expr} {fe : FE} {pos : Pos}
theorem RelE.set {K : PySem.W.Frag} {w : Wd} {ρ : Env} {σ : L2.St} {i : Nat} {d : D} {v : V} (h : RelE K cls w ρ σ) (r : RV K cls w d v) : RelE K cls w (ρ.set i (some d)) (σ.set i (some v)) := by
  refine ⟨by rw [List.length_set, List.length_set]; exact h.1, fun j d' e => ?_⟩
  by_cases hj : i = j
  · subst hj
    by_cases hl : i < ρ.length
    · rw [List.getElem?_set_self hl] at e
      cases e
      exact ⟨v, List.getElem?_set_self (by rw [h.1]; exact hl), r⟩
    · rw [List.getElem?_eq_none (by rw [List.length_set]; omega)] at e
      cases e
  · rw [List.getElem?_set_ne hj] at e
    obtain ⟨v', h1, h2⟩ := h.2 j d' e
    exact ⟨v', by rw [List.getElem?_set_ne hj]; exact h1, h2⟩
theorem sss_nil : SSs X W cls [] sNext := ⟨_, pss_nil, fun D σ w ρ μ S E h => h w σ Step.refl S E⟩
theorem sss_cons (h1 : SS X W cls st f) (h2 : SSs X W cls rest g) : SSs X W cls (st :: rest) (sSeq f g) := by
  obtain ⟨t1, p1, h1⟩ := h1
  obtain ⟨t2, p2, h2⟩ := h2
  refine ⟨_, pss_cons p1 p2, fun D σ w ρ μ S E h => ?_⟩
  refine h1 _ σ w ρ μ S E ?_
  unfold sSeq at h
  cases hf : f ρ μ with
  | nx ρ1 μ1 =>
    rw [hf] at h
    exact fun w' σ' s' S' E' => h2 D σ' w' ρ1 μ1 S' E' (PostS.step s' h)
  | rt d μ1 => rw [hf] at h; exact h
  | bk ρ1 μ1 => rw [hf] at h; exact h
  | ct ρ1 μ1 => rw [hf] at h; exact h
  | er k ns ds ρ1 μ1 => rw [hf] at h; exact h
  | stuck => rw [hf] at h; exact h
theorem sss_one (h1 : SS X W cls st f) : SSs X W cls [st] f := by
  obtain ⟨t1, p1, h1⟩ := h1
  exact ⟨_, pss_one p1, h1⟩
theorem ss_expr (he : SE X W cls e fe) (hs : swapsWith e none pos.line X.env = pure false := by rfl) : SS X W cls (.Expr e pos) (sExpr fe) := by
  obtain ⟨t1, p1, h1⟩ := he
  refine ⟨_, ps_expr p1 hs, fun D σ w ρ μ S E h => ?_⟩
  exact h1 σ _ w ρ μ S E ((PostS.bind E h).imp fun w1 d s1 ⟨μ1, S1, q1⟩ v r1 => q1 w1 σ Step.refl S1 (E.mono s1.kp))
theorem ss_ret (he : SE X W cls e fe) : SS X W cls (.Return (some e) pos) (sRet fe) := by
  obtain ⟨t1, p1, h1⟩ := he
  refine ⟨_, ps_ret p1, fun D σ w ρ μ S E h => ?_⟩
  exact h1 σ _ w ρ μ S E ((PostS.bind E h).imp fun w1 d s1 ⟨μ1, S1, q1⟩ v r1 => q1 w1 v Step.refl S1 r1)
theorem ss_if {c : Expr} {a b : List Stmt} {fc : FT} (hc : ST X W cls c fc) (ha : SSs X W cls a f) (hb : SSs X W cls b g) : SS X W cls (.If c a b pos) (sIf fc f g) := by
  obtain ⟨t0, p0, h0⟩ := hc
  obtain ⟨t1, p1, h1⟩ := ha
  obtain ⟨t2, p2, h2⟩ := hb
  refine ⟨_, ps_if p0 p1 p2, fun D σ w ρ μ S E h => ?_⟩
  refine h0 σ _ w ρ μ S E ((PostS.bind E h).imp fun w1 b s1 ⟨μ1, S1, q1⟩ => ?_)
  cases b with
  | true => exact h1 D σ w1 ρ μ1 S1 (E.mono s1.kp) q1
  | false => exact h2 D σ w1 ρ μ1 S1 (E.mono s1.kp) q1
theorem sg_var (i : Nat) {x : Str} (hN : X.N.Nodup) (hi : X.N[i]? = some x := by rfl) (hx : Loc X.env.scope x := by first | exact .inl rfl | exact .inr rfl) (hf : X.fn x = true ∨ X.env.scope.names.lookup x = some .local := by first | exact .inl rfl | exact .inr rfl) : SG X cls (.Name x pos) [i] (gVar i) := by
  refine ⟨_, pg_name hN hi hx hf, fun v d σ w ρ μ Q Er S E r h => ?_⟩
  unfold gVar at h
  split at h
  · exact h w Step.refl S _ (E.set r) Off.set
  · exact h.elim
theorem sgs_nil : SGs X cls [] [] gNil := by
  refine ⟨_, pgs_nil, fun vs ds σ w ρ μ Q Er S E r h => ?_⟩
  cases ds with
  | nil => exact ⟨r, h w Step.refl S _ E Off.refl⟩
  | cons d ds => exact h.elim
theorem sgs_cons {t : Expr} {ts : List Expr} {is js : List Nat} {g1 : D → Env → Store → Res Env} {g2 : List D → Env → Store → Res Env} (h1 : SG X cls t is g1) (h2 : SGs X cls ts js g2)
    (hs : (assignEach (t :: ts) X.env).map (·.2) = assign t X.env :: (assignEach ts X.env).map (·.2) := by rfl) : SGs X cls (t :: ts) (is ++ js) (gCons g1 g2) := by
  obtain ⟨t1, p1, h1⟩ := h1
  obtain ⟨t2, p2, h2⟩ := h2
  refine ⟨_, pgs_cons p1 p2 hs, fun vs ds σ w ρ μ Q Er S E r h => ?_⟩
  cases ds with
  | nil => exact h.elim
  | cons d ds =>
    obtain ⟨v, vr, e, r1, r2⟩ := r
    refine ⟨v, vr, e, ?_⟩
    exact h1 v d σ w ρ μ _ _ S E r1 ((PostR.bind h).imp fun w1 ρ1 s1 ⟨μ1, S1, q1⟩ σ1 E1 o1 => h2 vr ds σ1 w1 ρ1 μ1 Q _ S1 E1 (r2.mono s1.kp) (q1.imp fun w2 ρ2 s2 q2 σ2 E2 o2 => q2 σ2 E2 (o1.trans o2)))
theorem sg_tup {ts : List Expr} {k n : Nat} {is : List Nat} {g2 : List D → Env → Store → Res Env} (hc : X.calm = true) (h2 : SGs X cls ts is g2) (hn : (assignEach ts X.env).length = n := by rfl) (hst : (assignEach ts X.env).findIdx? (·.1) = none := by rfl) :
    SG X cls (.Tuple ts k pos) is (gTup n g2) := by
  obtain ⟨t2, p2, h2⟩ := h2
  refine ⟨_, pg_tup hc p2 hn hst, fun v d σ w ρ μ Q Er S E r h => ?_⟩
  cases d with
  | tup ds =>
    simp only [gTup] at h
    split at h
    · rename_i hl
      obtain ⟨a, vs, e, t, q⟩ := r
      exact ⟨a, vs, e, t.sq, by rw [q.length]; exact hl, h2 vs ds σ w ρ μ Q _ S E q h⟩
    · exact h.elim
  | _ => exact h.elim
theorem sg_ix {o i : Expr} {fo fi : FE} (ho : SE X W cls o fo) (hi : SE X W cls i fi)
    (ha : ∀ v, assign (.Subscript o i pos) X.env v = (do
      let ov ← holding [v] (eval o X.env)
      let iv ← holding [v, ov] (eval i X.env)
      standAt pos
      holding [v, ov, iv] (setItem ov iv v)
      release [v, ov, iv] []) := by intro _; rfl) : SG X cls (.Subscript o i pos) [] (gIx fo fi) := by
  obtain ⟨t1, p1, h1⟩ := ho
  obtain ⟨t2, p2, h2⟩ := hi
  refine ⟨_, pg_sub p1 p2 set_list ha, fun v d σ w ρ μ Q Er S E r h => ?_⟩
  refine h1 σ _ w ρ μ S E ((PostR.mute (PostR.bind h)).imp fun w1 d1 s1 ⟨μ1, S1, q1⟩ v1 r1 => ?_)
  refine h2 σ _ w1 ρ μ1 S1 (E.mono s1.kp) ((PostR.mute (PostR.bind q1)).imp fun w2 d2 s2 ⟨μ2, S2, q2⟩ v2 r2 => ?_)
  cases d1 with
  | loc n =>
    cases d2 with
    | int i =>
      simp only at q2
      split at q2
      · rename_i es hc
        split at q2
        · rename_i j hj
          obtain ⟨a, vs, ex, hn, h3, h4⟩ := S2.lst (r1.mono s2.kp) hc
          have rv := r.mono (s1.trans s2).kp
          exact ⟨a, vs, i, j, ex, r2, h3, by rw [h4.length]; exact hj, q2 (w2.up a (.lst (vs.set j v))) (Step.write hn) (wlst S2 hn (RVs.set rv j h4)) σ (E.mono ((s1.trans s2).trans (Step.write hn)).kp) Off.refl⟩
        · exact q2.elim
      · exact q2.elim
    | _ => exact q2.elim
  | _ => cases d2 <;> exact q2.elim
theorem ss_asg {tg : Expr} {is : List Nat} {g1 : D → Env → Store → Res Env} (he : SE X W cls e fe) (hg : SG X cls tg is g1) (hs : swapsWithSole [tg] e pos.line X.env = pure false := by rfl) (hw : swappedStores [tg] e X.env = pure none := by rfl)
    (h1 : (assignEach [tg] X.env).map (·.2) = [assign tg X.env] := by rfl) : SS X W cls (.Assign [tg] e pos) (sAsg g1 fe) := by
  obtain ⟨t1, p1, h1'⟩ := he
  obtain ⟨t2, p2, h2⟩ := hg
  refine ⟨_, ps_asg p1 p2 hs hw h1, fun D σ w ρ μ S E h => ?_⟩
  refine h1' σ _ w ρ μ S E ((PostS.bind E h).imp fun w1 d s1 ⟨μ1, S1, q1⟩ v r1 => ?_)
  exact h2 v d σ w1 ρ μ1 D.nx _ S1 (E.mono s1.kp) r1 ((PostS.bind (E.mono s1.kp) q1).imp fun w2 ρ2 s2 ⟨μ2, S2, q2⟩ σ2 E2 _ => q2 w2 σ2 Step.refl S2 E2)
theorem ss_set (i : Nat) {x : Str} {pos' : Pos} (hN : X.N.Nodup) (he : SE X W cls e fe) (hi : X.N[i]? = some x := by rfl) (hx : Loc X.env.scope x := by first | exact .inl rfl | exact .inr rfl) (hs : swapsWith e (some (.Name x pos')) pos.line X.env = pure false := by rfl)
    (hf : X.fn x = true ∨ X.env.scope.names.lookup x = some .local := by first | exact .inl rfl | exact .inr rfl) : SS X W cls (.Assign [.Name x pos'] e pos) (sAsg (gVar i) fe) := by
  obtain ⟨t1, p1, h1⟩ := he
  refine ⟨_, ps_set hN hi hx p1 hs hf, fun D σ w ρ μ S E h => ?_⟩
  refine h1 σ _ w ρ μ S E ((PostS.bind E h).imp fun w1 d s1 ⟨μ1, S1, q1⟩ v r1 => ?_)
  unfold gVar at q1
  split at q1
  · exact q1 w1 _ Step.refl S1 ((E.mono s1.kp).set r1)
  · exact q1.elim
/-- a, b = x, y on plain local names -/
def sPar (i j : Nat) (fa fb : FE) : FS := fun ρ μ => rS ρ (fa ρ μ) fun x μ1 => rS ρ (fb ρ μ1) fun y μ2 => if i < ρ.length ∧ j < ρ.length then .nx ((ρ.set i (some x)).set j (some y)) μ2 else .stuck
theorem ss_par (i j : Nat) {x y : Str} {a b : Expr} {fa fb : FE} {px py pt : Pos} {kt k2 pt2} (hc : X.calm = true) (hN : X.N.Nodup) (ha : SE X W cls a fa) (hb : SE X W cls b fb) (hi : X.N[i]? = some x := by rfl) (hj : X.N[j]? = some y := by rfl) (hij : i ≠ j := by decide)
    (hx : X.env.scope.names.lookup x = some .local := by rfl) (hy : X.env.scope.names.lookup y = some .local := by rfl) (hs1 : starEach [a, b] X.env = (false, eval a X.env) :: starEach [b] X.env := by rfl) (hs2 : starEach [b] X.env = (false, eval b X.env) :: starEach [] X.env := by rfl)
    (hw : swappedStores [.Tuple [.Name x px, .Name y py] kt pt] (.Tuple [a, b] k2 pt2) X.env = pure (some [x, y]) := by rfl)
    (hs : swapsWithSole [.Tuple [.Name x px, .Name y py] kt pt] (.Tuple [a, b] k2 pt2) pos.line X.env = pure false := by rfl) :
    SS X W cls (.Assign [.Tuple [.Name x px, .Name y py] kt pt] (.Tuple [a, b] k2 pt2) pos) (sPar i j fa fb) := by
  obtain ⟨t1, p1, h1⟩ := ha
  obtain ⟨t2, p2, h2⟩ := hb
  refine ⟨_, ps_par hc hN hi hj hij hx hy (pa_cons p1 (pa_cons p2 pa_nil hs2) hs1) hw hs, fun D σ w ρ μ S E h => ?_⟩
  refine h1 σ _ w ρ μ S E ((PostS.bind E h).imp fun w1 d s1 ⟨μ1, S1, q1⟩ v r1 => ?_)
  refine h2 σ _ w1 ρ μ1 S1 (E.mono s1.kp) ((PostS.bind (E.mono s1.kp) q1).imp fun w2 d2 s2 ⟨μ2, S2, q2⟩ v2 r2 => ?_)
  split at q2
  · exact ⟨v, v2, rfl, q2 w2 _ Step.refl S2 (((E.mono (s1.trans s2).kp).set (r1.mono s2.kp)).set r2)⟩
  · exact q2.elim
/-- a = b = e -/
def sAsg2 (g1 g2 : D → Env → Store → Res Env) (fe : FE) : FS := fun ρ μ => rS ρ (fe ρ μ) fun d μ1 => rS ρ (g1 d ρ μ1) fun ρ1 μ2 => rS ρ1 (g2 d ρ1 μ2) fun ρ2 μ3 => .nx ρ2 μ3
theorem ss_asg2 {t1 t2 : Expr} {is js : List Nat} {g1 g2 : D → Env → Store → Res Env} (he : SE X W cls e fe) (h1 : SG X cls t1 is g1) (h2 : SG X cls t2 js g2)
    (k : ∀ {te : TE} {u1 u2 : TG}, PE X e te → PG X t1 u1 → PG X t2 u2 → PS X (.Assign [t1, t2] e pos) (tAsg2 te u1 u2) := by exact fun p q r => ps_asg2 p q r) : SS X W cls (.Assign [t1, t2] e pos) (sAsg2 g1 g2 fe) := by
  obtain ⟨t0, p0, h0⟩ := he
  obtain ⟨t1, p1, h1⟩ := h1
  obtain ⟨t2, p2, h2⟩ := h2
  refine ⟨_, k p0 p1 p2, fun D σ w ρ μ S E h => ?_⟩
  refine h0 σ _ w ρ μ S E ((PostS.bind E h).imp fun w1 d s1 ⟨μ1, S1, q1⟩ v r1 => ?_)
  refine h1 v d σ w1 ρ μ1 _ _ S1 (E.mono s1.kp) r1 ((PostS.bind (E.mono s1.kp) q1).imp fun w2 ρ2 s2 ⟨μ2, S2, q2⟩ σ2 E2 _ => ?_)
  exact h2 v d σ2 w2 ρ2 μ2 D.nx _ S2 E2 (r1.mono s2.kp) ((PostS.bind E2 q2).imp fun w3 ρ3 s3 ⟨μ3, S3, q3⟩ σ3 E3 _ => q3 w3 σ3 Step.refl S3 E3)
/-- ints: x += e -/
def oAddI : D → D → Store → Res D := fun d e μ => match d, e with
  | .int i, .int j => .ok (.int (i + j)) μ
  | _, _ => .stuck
theorem ss_augAdd (i : Nat) {x : Str} {pos' : Pos} (hN : X.N.Nodup) (he : SE X W cls e fe) (hi : X.N[i]? = some x := by rfl) (hx : Loc X.env.scope x := by first | exact .inl rfl | exact .inr rfl) (hf : X.fn x = true ∨ X.env.scope.names.lookup x = some .local := by first | exact .inl rfl | exact .inr rfl) :
    SS X W cls (.AugAssign (.Name x pos') .Add e pos) (sAug i oAddI fe) := by
  obtain ⟨t1, p1, h1⟩ := he
  refine ⟨_, ps_aug hN hi hx p1 ip_add hf, fun D σ w ρ μ S E h => ?_⟩
  unfold sAug at h
  split at h
  · rename_i d hd
    obtain ⟨v, e1, r⟩ := E.2 i d hd
    refine ⟨v, e1, h1 σ _ w ρ μ S E ((PostS.bind E h).imp fun w1 y s1 ⟨μ1, S1, q1⟩ u r1 => ?_)⟩
    have r := r.mono s1.kp
    cases d with
    | int i =>
      cases y with
      | int j =>
        refine ⟨i, j, r, r1, ?_⟩
        simp only [oAddI, rS_ok] at q1
        split at q1
        · exact q1 w1 _ Step.refl S1 ((E.mono s1.kp).set rfl)
        · exact q1.elim
      | _ => exact q1.elim
    | _ => cases y <;> exact q1.elim
  · exact h.elim
end
end Fw
set_option Elab.async false
set_option linter.all false
set_option maxRecDepth 100000
set_option autoImplicit false
namespace Fw
open PySem L2 PyProof.Rows
/-- nothing may be raised -/
abbrev W0 : WX := fun _ _ _ _ => False
abbrev E00 : XK := fun _ _ _ => False
section
variable {X : Cx} {W : WX} {cls : Nat → Option Addr}
def TEof (K : PySem.W.Frag) (cls : Nat → Option Addr) (f : FE) : TE := fun σ H Q => ∃ (w : Wd) (ρ : Env) (μ : Store), w.H = H ∧ RelS K cls w μ ∧ RelE K cls w ρ σ ∧ PostR K cls w E00 (fun w' d => ∀ v, RV K cls w' d v → Q v w'.H) (f ρ μ)
theorem SE.pe {e : Expr} {f : FE} (h : SE X W0 cls e f) : PE X e (TEof X.K cls f) := by
  obtain ⟨t, p, k⟩ := h
  refine ⟨fun pins s σ H Q I z => ?_⟩
  obtain ⟨w, ρ, μ, rfl, S, E, q⟩ := z
  exact p.run pins s σ w.H Q I (k σ Q w ρ μ S E q)
def TTof (K : PySem.W.Frag) (cls : Nat → Option Addr) (f : FT) : TT := fun σ H Q => ∃ (w : Wd) (ρ : Env) (μ : Store), w.H = H ∧ RelS K cls w μ ∧ RelE K cls w ρ σ ∧ PostR K cls w E00 (fun w' b => Q b w'.H) (f ρ μ)
def STs (X : Cx) (cls : Nat → Option Addr) (es : List Expr) (f : FT) : Prop := PTs X es (TTof X.K cls f)
theorem sts_nil : STs X cls [] (fun _ μ => .ok true μ) := by
  refine ⟨fun pins s σ H Q I z => ?_⟩
  obtain ⟨w, ρ, μ, rfl, S, E, q⟩ := z
  exact pts_nil.run pins s σ w.H Q I (q w Step.refl S)
theorem sts_one {e : Expr} {f : FT} (h : ST X W0 cls e f) : STs X cls [e] f := by
  obtain ⟨t, p, k⟩ := h
  refine ⟨fun pins s σ H Q I z => ?_⟩
  obtain ⟨w, ρ, μ, rfl, S, E, q⟩ := z
  exact (pts_one p).run pins s σ w.H Q I (k σ Q w ρ μ S E q)
def TGof (K : PySem.W.Frag) (cls : Nat → Option Addr) (is : List Nat) (g : D → Env → Store → Res Env) : TG := fun v σ H Q => ∃ (w : Wd) (ρ : Env) (μ : Store) (d : D), w.H = H ∧ RelS K cls w μ ∧ RelE K cls w ρ σ ∧ RV K cls w d v ∧
  PostR K cls w E00 (fun w' ρ' => ∀ σ', RelE K cls w' ρ' σ' → Off is σ σ' → Q σ' w'.H) (g d ρ μ)
theorem SG.pg {e : Expr} {is : List Nat} {g : D → Env → Store → Res Env} (h : SG X cls e is g) : PG X e (TGof X.K cls is g) := by
  obtain ⟨t, p, k⟩ := h
  refine ⟨fun pins s σ H v u Q I r z => ?_⟩
  obtain ⟨w, ρ, μ, d, rfl, S, E, rd, q⟩ := z
  exact p.run pins s σ w.H v u Q I r (k v d σ w ρ μ Q _ S E rd q)
end
abbrev FI := Env → Store → Res (List D × Option Nat)
def srcOk (src : Option Nat) (items : List D) (μ : Store) : Bool := match src with
  | none => true
  | some n => decide (μ[n]? = some (.lst items))
def Wk (K : PySem.W.Frag) (cls : Nat → Option Addr) (J : It) (w : Wd) (items : List D) (src : Option Nat) : Prop :=
  ∀ (i : Nat) (w' : Wd) (μ' : Store), Kp w w' → RelS K cls w' μ' → srcOk src items μ' = true →
    (∀ d, items[i]? = some d → J.go i w'.H ∧ ∀ x H2, J.yld i w'.H x H2 → ∃ w2 : Wd, w2.H = H2 ∧ Step w' w2 ∧ RelS K cls w2 μ' ∧ RV K cls w2 d x) ∧
    (items.length ≤ i → J.stop i w'.H)
def SI (X : Cx) (W : WX) (cls : Nat → Option Addr) (tg iter : Expr) (f : FI) : Prop := ∃ wi, PI X tg iter wi ∧ ∀ (σ : L2.St) (R : It → Hp → Prop) (w : Wd) (ρ : Env) (μ : Store), RelS X.K cls w μ → RelE X.K cls w ρ σ →
  PostR X.K cls w (WE W σ) (fun w' it => ∀ J, Wk X.K cls J w' it.1 it.2 → R J w'.H) (f ρ μ) → wi σ w.H R
theorem pi_or {X : Cx} {tg iter : Expr} {a b : TI} (h : PI X tg iter a) (h' : PI X tg iter b) : PI X tg iter (fun σ H R => a σ H R ∨ b σ H R) :=
  ⟨fun pins s σ H R I z => z.elim (h.run pins s σ H R I) (h'.run pins s σ H R I)⟩
def oWalk (d : D) (μ : Store) : Res (List D × Option Nat) := match d with
  | .lst ds => .ok (ds, none) μ
  | .flst is => .ok (is.map .int, none) μ
  | .tup ds => .ok (ds, none) μ
  | .str s => .ok (s.map fun c => .str [c], none) μ
  | .loc n => match μ[n]? with
    | some (.lst ds) => .ok (ds, some n) μ
    | _ => .stuck
  | _ => .stuck
def iOf (fe : FE) : FI := fun ρ μ => (fe ρ μ).bind fun d μ1 => oWalk d μ1
section
variable {K : PySem.W.Frag} {cls : Nat → Option Addr} {w : Wd} {μ : Store}
theorem wk_list {a : Addr} {ds : List D} {src : Option Nat} (h : ∀ (w' : Wd) (μ' : Store), Kp w w' → RelS K cls w' μ' → srcOk src ds μ' = true → ∃ vs, SqL K w'.H a vs ∧ RVs K cls w' ds vs) : Wk K cls (Itl K a) w ds src := by
  intro i w' μ' k S' so
  obtain ⟨vs, h1, h2⟩ := h w' μ' k S' so
  refine ⟨fun d hd => ?_, fun hi => ⟨vs, h1, by rw [h2.length]; exact hi⟩⟩
  obtain ⟨v, hv, rv⟩ := h2.get hd
  refine ⟨⟨vs, v, h1, hv⟩, fun x H2 ⟨e, y⟩ => ⟨w', e.symm, Step.refl, S', ?_⟩⟩
  have := y vs h1
  rw [hv] at this
  cases this
  exact rv
theorem wk_tup {a : Addr} {ds : List D} (h : ∀ (w' : Wd), Kp w w' → ∃ vs, SqT K w'.H a vs ∧ RVs K cls w' ds vs) : Wk K cls (Itt K a) w ds none := by
  intro i w' μ' k S' so
  obtain ⟨vs, h1, h2⟩ := h w' k
  refine ⟨fun d hd => ?_, fun hi => ⟨vs, h1, by rw [h2.length]; exact hi⟩⟩
  obtain ⟨v, hv, rv⟩ := h2.get hd
  refine ⟨⟨vs, v, h1, hv⟩, fun x H2 ⟨e, y⟩ => ⟨w', e.symm, Step.refl, S', ?_⟩⟩
  have := y vs h1
  rw [hv] at this
  cases this
  exact rv
theorem wk_str {s : List Nat} : Wk K cls (Its ⟨s.toArray⟩) w (s.map fun c => .str [c]) none := by
  intro i w' μ' k S' so
  refine ⟨fun d hd => ?_, fun hi => ?_⟩
  · rw [List.getElem?_map, Option.map_eq_some_iff] at hd
    obtain ⟨c, hc, rfl⟩ := hd
    have hi : i < s.length := (List.getElem?_eq_some_iff.mp hc).1
    refine ⟨by show i < s.toArray.size; simpa using hi, fun x H2 ⟨e, c', h1, h2⟩ => ⟨w', e.symm, Step.refl, S', ?_⟩⟩
    have h1 : s.toArray[i]? = some c' := h1
    rw [List.getElem?_toArray, hc] at h1
    cases h1
    rw [h2]
    rfl
  · show s.toArray.size ≤ i
    simpa using hi
theorem wk_range {lo : Int} {n : Nat} : Wk K cls (Itr lo n) w ((List.range n).map fun i => .int (lo + (i : Nat))) none := by
  intro i w' μ' k S' so
  refine ⟨fun d hd => ?_, fun hi => ?_⟩
  · rw [List.getElem?_map, Option.map_eq_some_iff] at hd
    obtain ⟨c, hc, rfl⟩ := hd
    obtain ⟨hi, e⟩ := List.getElem?_eq_some_iff.mp hc
    rw [List.length_range] at hi
    rw [List.getElem_range] at e
    subst e
    exact ⟨hi, fun x H2 ⟨e, h2⟩ => ⟨w', e.symm, Step.refl, S', h2⟩⟩
  · rw [List.length_map, List.length_range] at hi
    exact hi
end
section
variable {X : Cx} {W : WX} {cls : Nat → Option Addr} {tg e a b : Expr} {fe fa fb : FE} {p pos : Pos}
theorem si_of (he : SE X W cls e fe) : SI X W cls tg e (iOf fe) := by
  obtain ⟨t, p, k⟩ := he
  refine ⟨_, pi_or (pi_list p) (pi_or (pi_tup p) (pi_str p)), fun σ R w ρ μ S E h => ?_⟩
  have h := PostR.bind h
  cases hf : fe ρ μ with
  | stuck => rw [hf] at h; exact h.elim
  | err k' ns ds μ1 =>
    rw [hf] at h
    exact .inl (k σ _ w ρ μ S E (by rw [hf]; exact h))
  | ok d μ1 =>
    have go := k σ
    rw [hf] at h
    cases d with
    | lst ds =>
      refine .inl (go _ w ρ μ S E ?_)
      rw [hf]
      intro w1 s1 S1 v r1
      obtain ⟨μ', S2, q⟩ := h w1 s1 S1
      obtain ⟨a, vs, e1, h1, h2⟩ := r1
      refine ⟨a, e1, ⟨vs, .inl (.inl h1.1)⟩, q w1 Step.refl S2 _ (wk_list fun w' μ' kp S' _ => ?_)⟩
      exact ⟨vs, .inl (.inl (kp.at_ a _ h1.2.1 h1.2.2 h1.1).1), h2.mono kp⟩
    | flst is =>
      refine .inl (go _ w ρ μ S E ?_)
      rw [hf]
      intro w1 s1 S1 v r1
      obtain ⟨μ', S2, q⟩ := h w1 s1 S1
      obtain ⟨a, e1, h1⟩ := r1
      refine ⟨a, e1, ⟨_, h1.sq⟩, q w1 Step.refl S2 _ (wk_list fun w' μ' kp S' _ => ?_)⟩
      exact ⟨_, (h1.mono kp).sq, RVs.ints⟩
    | loc n =>
      refine .inl (go _ w ρ μ S E ?_)
      rw [hf]
      intro w1 s1 S1 v r1
      obtain ⟨μ', S2, q⟩ := h w1 s1 S1
      simp only [oWalk] at q
      split at q
      · rename_i ds hc
        obtain ⟨a, vs, e1, hn, h1, h2⟩ := S2.lst r1 hc
        refine ⟨a, e1, ⟨vs, .inl (.inl h1)⟩, q w1 Step.refl S2 _ (wk_list fun w' μ' kp S' so => ?_)⟩
        have so : μ'[n]? = some (.lst ds) := of_decide_eq_true so
        obtain ⟨a', vs', e2, hn', h3, h4⟩ := S'.lst (x := .ref a) ⟨a, rfl, kp.loc n a hn⟩ so
        cases e2
        exact ⟨vs', .inl (.inl h3), h4⟩
      · exact q.elim
    | tup ds =>
      refine .inr (.inl (go _ w ρ μ S E ?_))
      rw [hf]
      intro w1 s1 S1 v r1
      obtain ⟨μ', S2, q⟩ := h w1 s1 S1
      obtain ⟨a, vs, e1, h1, h2⟩ := r1
      refine ⟨a, e1, ⟨vs, h1.sq⟩, q w1 Step.refl S2 _ (wk_tup fun w' kp => ?_)⟩
      exact ⟨vs, (h1.mono kp).sq, h2.mono kp⟩
    | str s =>
      refine .inr (.inr (go _ w ρ μ S E ?_))
      rw [hf]
      intro w1 s1 S1 v r1
      obtain ⟨μ', S2, q⟩ := h w1 s1 S1
      exact ⟨_, r1, q w1 Step.refl S2 _ wk_str⟩
    | non =>
      refine .inl (go _ w ρ μ S E ?_)
      rw [hf]
      intro w1 s1 S1 v r1
      obtain ⟨μ', S2, q⟩ := h w1 s1 S1
      exact q.elim
    | bl _ =>
      refine .inl (go _ w ρ μ S E ?_)
      rw [hf]
      intro w1 s1 S1 v r1
      obtain ⟨μ', S2, q⟩ := h w1 s1 S1
      exact q.elim
    | int _ =>
      refine .inl (go _ w ρ μ S E ?_)
      rw [hf]
      intro w1 s1 S1 v r1
      obtain ⟨μ', S2, q⟩ := h w1 s1 S1
      exact q.elim
    | obj _ _ _ =>
      refine .inl (go _ w ρ μ S E ?_)
      rw [hf]
      intro w1 s1 S1 v r1
      obtain ⟨μ', S2, q⟩ := h w1 s1 S1
      exact q.elim
    | ptr _ =>
      refine .inl (go _ w ρ μ S E ?_)
      rw [hf]
      intro w1 s1 S1 v r1
      obtain ⟨μ', S2, q⟩ := h w1 s1 S1
      exact q.elim
    | dct _ _ =>
      refine .inl (go _ w ρ μ S E ?_)
      rw [hf]
      intro w1 s1 S1 v r1
      obtain ⟨μ', S2, q⟩ := h w1 s1 S1
      exact q.elim
def iRange1 (fa : FE) : FI := fun ρ μ => (fa ρ μ).bind fun d μ1 => match d with
  | .int j => if -1000000 ≤ j ∧ j ≤ 1000000 then .ok ((List.range j.toNat).map fun i => .int (0 + (i : Nat)), none) μ1 else .stuck
  | _ => .stuck
theorem si_range1 (hg : Gl X "range") (hm : X.mg "range" = none) (ha : SE X W cls a fa) (hs : starEach [a] X.env = [(false, eval a X.env)] := by rfl) : SI X W cls tg (.Call (.Name "range" p) [a] [] pos) (iRange1 fa) := by
  obtain ⟨t, p, k⟩ := ha
  refine ⟨_, pi_range1 hg hm (pa_cons p pa_nil hs) hs, fun σ R w ρ μ S E h => ?_⟩
  refine k σ _ w ρ μ S E ((PostR.bind h).imp fun w1 d s1 ⟨μ1, S1, q1⟩ v r1 => ?_)
  cases d with
  | int j =>
    simp only at q1
    split at q1
    · rename_i hj
      exact ⟨j, by rw [show v = V.int j from r1], by omega, by omega, q1 w1 Step.refl S1 _ wk_range⟩
    · exact q1.elim
  | _ => exact q1.elim
def iRange2 (fa fb : FE) : FI := fun ρ μ => (fa ρ μ).bind fun d μ1 => (fb ρ μ1).bind fun e μ2 => match d, e with
  | .int i, .int j => if -1000000 ≤ i ∧ i ≤ 1000000 ∧ -1000000 ≤ j ∧ j ≤ 1000000 then .ok ((List.range (j - i).toNat).map fun k => .int (i + (k : Nat)), none) μ2 else .stuck
  | _, _ => .stuck
theorem si_range2 (hg : Gl X "range") (hm : X.mg "range" = none) (ha : SE X W cls a fa) (hb : SE X W cls b fb) (hs : starEach [a, b] X.env = [(false, eval a X.env), (false, eval b X.env)] := by rfl) (hs2 : starEach [b] X.env = [(false, eval b X.env)] := by rfl) :
    SI X W cls tg (.Call (.Name "range" p) [a, b] [] pos) (iRange2 fa fb) := by
  obtain ⟨t, p, k⟩ := ha
  obtain ⟨t2, p2, k2⟩ := hb
  refine ⟨_, pi_range2 hg hm (pa_cons p (pa_cons p2 pa_nil hs2) (by rw [hs, hs2])) hs hs2, fun σ R w ρ μ S E h => ?_⟩
  refine k σ _ w ρ μ S E ((PostR.bind h).imp fun w1 d s1 ⟨μ1, S1, q1⟩ v r1 => ?_)
  refine k2 σ _ w1 ρ μ1 S1 (E.mono s1.kp) ((PostR.bind q1).imp fun w2 d2 s2 ⟨μ2, S2, q2⟩ v2 r2 => ?_)
  cases d with
  | int i =>
    cases d2 with
    | int j =>
      simp only at q2
      split at q2
      · rename_i hj
        exact ⟨i, j, by rw [show v = V.int i from r1, show v2 = V.int j from r2], ⟨by omega, by omega, by omega, by omega⟩, q2 w2 Step.refl S2 _ wk_range⟩
      · exact q2.elim
    | _ => exact q2.elim
  | _ => cases d2 <;> exact q2.elim
end
/-- what comes first, the rest at the base -/
theorem PostS.bind0 {α : Type} {K : PySem.W.Frag} {cls : Nat → Option Addr} {w w' : Wd} {W : WX} {D : Ends} {ρ : Env} {σ : L2.St} {r : Res α} {f : α → Store → SR} (st : Step w w') (E : RelE K cls w' ρ σ)
    (h : PostS K cls w W D (rS ρ r f)) : PostR K cls w' (WE W σ) (fun w3 a => Step w' w3 ∧ ∃ μ', RelS K cls w3 μ' ∧ PostS K cls w W D (f a μ')) r := by
  cases r with
  | ok a μ => exact fun w3 s S => ⟨s, μ, S, h⟩
  | err k ns ds μ => exact fun w3 cv d s S x => h w3 σ cv d (st.trans s) S (E.mono s.kp) x
  | stuck => exact h
theorem PostR.bind0 {α β : Type} {K : PySem.W.Frag} {cls : Nat → Option Addr} {w w' : Wd} {Er Er' : XK} {R : Wd → β → Prop} {r : Res α} {f : α → Store → Res β}
    (h : PostR K cls w Er R (r.mute.bind f)) : PostR K cls w' Er' (fun w3 a => Step w' w3 ∧ ∃ μ', RelS K cls w3 μ' ∧ PostR K cls w Er R (f a μ')) r := by
  cases r with
  | ok a μ => exact fun w3 s S => ⟨s, μ, S, h⟩
  | err k ns ds μ => exact h.elim
  | stuck => exact h
def forL (items : List D) (src : Option Nat) (g : D → Env → Store → Res Env) (body : FS) : List D → Env → Store → SR
  | [], ρ, μ => if srcOk src items μ = true then .nx ρ μ else .stuck
  | d :: ds, ρ, μ => if srcOk src items μ = true then rS ρ (g d ρ μ) fun ρ1 μ1 => match body ρ1 μ1 with
      | .nx ρ2 μ2 => forL items src g body ds ρ2 μ2
      | .ct ρ2 μ2 => forL items src g body ds ρ2 μ2
      | .bk ρ2 μ2 => .nx ρ2 μ2
      | .rt d μ2 => .rt d μ2
      | .er k ns es ρ2 μ2 => .er k ns es ρ2 μ2
      | .stuck => .stuck
    else .stuck
def sFor (fi : FI) (g : D → Env → Store → Res Env) (body : FS) : FS := fun ρ μ => rS ρ (fi ρ μ) fun it μ1 => forL it.1 it.2 g body it.1 ρ μ1
theorem ss_for {X : Cx} {W : WX} {cls : Nat → Option Addr} {tg iter : Expr} {body : List Stmt} {pos : Pos} {fi : FI} {is : List Nat} {g : D → Env → Store → Res Env} {fb : FS} (hp : PassesOwn (model X.prog X.w) X.A X.env X.xe) (hc : X.calm = true)
    (hi : SI X W cls tg iter fi) (hg : SG X cls tg is g) (hb : SSs X W cls body fb) (hs : ∀ x, foldedSetIterable iter X.env x = pure x := by intro _; rfl) : SS X W cls (.For tg iter body [] pos) (sFor fi g fb) := by
  obtain ⟨t1, p1, h1⟩ := hi
  obtain ⟨t2, p2, h2⟩ := hg
  obtain ⟨t3, p3, h3⟩ := hb
  refine ⟨_, ps_for hp hc p1 p2 p3 hs, fun D σ w ρ μ S E h => ?_⟩
  refine h1 σ _ w ρ μ S E ((PostS.bind E h).imp fun w1 it s1 ⟨μ1, S1, q1⟩ J wk => ?_)
  obtain ⟨items, src⟩ := it
  have E1 := E.mono s1.kp
  refine ⟨fun i m σ' H' => m = items.length - i ∧ i ≤ items.length ∧ ∃ (w' : Wd) (ρ' : Env) (μ' : Store), w'.H = H' ∧ Step w1 w' ∧ RelS X.K cls w' μ' ∧ RelE X.K cls w' ρ' σ' ∧ PostS X.K cls w1 W D (forL items src g fb (items.drop i) ρ' μ'),
    ⟨items.length, by simp, Nat.zero_le _, w1, ρ, μ1, rfl, Step.refl, S1, E1, by simpa using q1⟩, ?_⟩
  rintro i m σ' H' ⟨rfl, hle, w', ρ', μ', rfl, st, S', E', q⟩
  by_cases hlt : i < items.length
  · rw [List.drop_eq_getElem_cons hlt] at q
    simp only [forL] at q
    split at q
    · rename_i so
      obtain ⟨wd, _⟩ := wk i w' μ' st.kp S' so
      obtain ⟨go, yld⟩ := wd items[i] (List.getElem?_eq_getElem hlt)
      refine .inr ⟨go, fun σ2 H2 => ∃ (w2 : Wd) (ρ2 : Env) (μ2 : Store), w2.H = H2 ∧ Step w1 w2 ∧ RelS X.K cls w2 μ2 ∧ RelE X.K cls w2 ρ2 σ2 ∧ PostS X.K cls w1 W D (forL items src g fb (items.drop (i + 1)) ρ2 μ2), ?_, fun x H2 y => ?_⟩
      · rintro σ2 H2 ⟨w2, ρ2, μ2, e, st2, S2, E2, q2⟩
        exact ⟨_, by omega, rfl, hlt, w2, ρ2, μ2, e, st2, S2, E2, q2⟩
      · obtain ⟨w2, rfl, st2, S2, rx⟩ := yld x H2 y
        refine h2 x items[i] σ' w2 ρ' μ' _ _ S2 (E'.mono st2.kp) rx ((PostS.bind0 (st.trans st2) (E'.mono st2.kp) q).imp fun w3 ρ3 _ ⟨st3, μ3, S3, q3⟩ σ3 E3 _ => ?_)
        have st13 := (st.trans st2).trans st3
        refine h3 _ σ3 w3 ρ3 μ3 S3 E3 ?_
        split at q3
        · rename_i ρ4 μ4 hf
          rw [hf]
          exact fun w4 σ4 s4 S4 E4 => ⟨w4, ρ4, μ4, rfl, st13.trans s4, S4, E4, q3⟩
        · rename_i ρ4 μ4 hf
          rw [hf]
          exact fun w4 σ4 s4 S4 E4 => ⟨w4, ρ4, μ4, rfl, st13.trans s4, S4, E4, q3⟩
        · rename_i ρ4 μ4 hf
          rw [hf]
          exact fun w4 σ4 s4 S4 E4 => q3 w4 σ4 (st13.trans s4) S4 E4
        · rename_i d μ4 hf
          rw [hf]
          exact fun w4 σ4 s4 S4 E4 => q3 w4 σ4 (st13.trans s4) S4 E4
        · rename_i k4 ns4 ds4 ρ4 μ4 hf
          rw [hf]
          exact fun w4 σ4 cv d s4 S4 E4 => q3 w4 σ4 cv d (st13.trans s4) S4 E4
        · exact q3.elim
    · exact q.elim
  · have e : i = items.length := by omega
    subst e
    rw [List.drop_length] at q
    simp only [forL] at q
    split at q
    · rename_i so
      obtain ⟨_, stop⟩ := wk items.length w' μ' st.kp S' so
      exact .inl ⟨stop (Nat.le_refl _), q w' σ' st S' E'⟩
    · exact q.elim
def whileL (c : FT) (body : FS) : Nat → Env → Store → SR
  | 0, _, _ => .stuck
  | n + 1, ρ, μ => rS ρ (c ρ μ) fun b μ1 => if b = true then match body ρ μ1 with
      | .nx ρ2 μ2 => whileL c body n ρ2 μ2
      | .ct ρ2 μ2 => whileL c body n ρ2 μ2
      | .bk ρ2 μ2 => .nx ρ2 μ2
      | .rt d μ2 => .rt d μ2
      | .er k ns es ρ2 μ2 => .er k ns es ρ2 μ2
      | .stuck => .stuck
    else .nx ρ μ1
def sWhile (n : Nat) (c : FT) (body : FS) : FS := fun ρ μ => whileL c body n ρ μ
def wipeE (ρ : Env) : List Nat → Env
  | [] => ρ
  | v :: vs => (wipeE ρ vs).set v none
def lcL (items : List D) (src : Option Nat) (g : D → Env → Store → Res Env) (ft : FT) (fe : FE) (ρ : Env) : List D → Store → List D → Res D
  | [], μ, acc => if srcOk src items μ = true then .ok (.lst acc) μ else .stuck
  | d :: ds, μ, acc => if srcOk src items μ = true then (g d ρ μ).mute.bind fun ρ1 μ1 => (ft ρ1 μ1).mute.bind fun b μ2 =>
      if b = true then (fe ρ1 μ2).mute.bind fun y μ3 => if acc.length < LIM then lcL items src g ft fe ρ ds μ3 (acc ++ [y]) else .stuck
      else lcL items src g ft fe ρ ds μ2 acc
    else .stuck
def eLc (vs : List Nat) (fi : FI) (g : D → Env → Store → Res Env) (ft : FT) (fe : FE) : FE := fun ρ μ => (fi ρ μ).bind fun it μ1 => lcL it.1 it.2 g ft fe (wipeE ρ vs) it.1 μ1 []
section
variable {K : PySem.W.Frag} {cls : Nat → Option Addr} {w : Wd} {μ : Store}
theorem RelE.setN {ρ : Env} {σ : L2.St} {i : Nat} (h : RelE K cls w ρ σ) : RelE K cls w (ρ.set i none) (σ.set i none) := by
  refine ⟨by rw [List.length_set, List.length_set]; exact h.1, fun j d' e => ?_⟩
  by_cases hj : i = j
  · subst hj
    by_cases hl : i < ρ.length
    · rw [List.getElem?_set_self hl] at e
      cases e
    · rw [List.getElem?_eq_none (by rw [List.length_set]; omega)] at e
      cases e
  · rw [List.getElem?_set_ne hj] at e
    obtain ⟨v', h1, h2⟩ := h.2 j d' e
    exact ⟨v', by rw [List.getElem?_set_ne hj]; exact h1, h2⟩
theorem RelE.wipe {ρ : Env} {σ : L2.St} (h : RelE K cls w ρ σ) : ∀ vs : List Nat, RelE K cls w (wipeE ρ vs) (L2.wipe σ vs)
  | [] => h
  | v :: vs => (RelE.wipe h vs).setN
theorem wipe_in {σ : L2.St} {i : Nat} : ∀ {vs : List Nat}, i ∈ vs → i < σ.length → (L2.wipe σ vs)[i]? = some none
  | [], h, _ => absurd h (by simp)
  | v :: vs, h, hl => by
    unfold L2.wipe
    by_cases e : v = i
    · subst e
      rw [List.getElem?_set_self (by rw [wipe_length]; exact hl)]
    · rw [List.getElem?_set_ne e]
      exact wipe_in (by simpa [Ne.symm e] using h) hl
theorem wipe_off {σ σ2 : L2.St} {is vs : List Nat} (h : Off is (L2.wipe σ vs) σ2) (hs : is.all (vs.contains ·) = true) : L2.wipe σ2 vs = L2.wipe σ vs := by
  have hl : σ2.length = σ.length := by rw [h.1, wipe_length]
  refine List.ext_getElem? fun i => ?_
  by_cases hi : i ∈ vs
  · by_cases hlt : i < σ.length
    · rw [wipe_in hi (by rw [hl]; exact hlt), wipe_in hi hlt]
    · rw [List.getElem?_eq_none (by rw [wipe_length, hl]; omega), List.getElem?_eq_none (by rw [wipe_length]; omega)]
  · rw [wipe_out hi]
    refine h.2 i fun z => hi ?_
    have := List.all_eq_true.mp hs i z
    simpa using this
/-- one more banned -/
theorem RelS.ban1 (S : RelS K cls w μ) {p : Addr} {o : List V} (h : w.H p = none) : RelS K cls ⟨w.x, w.ι, p :: w.B, upd w.H p (.lst o)⟩ μ where
  len := S.len
  nd := S.nd
  ban := fun b hb => by
    rcases List.mem_cons.mp hb with e | hb
    · subst e
      exact ⟨(S.free h).1, o, upd_same⟩
    · obtain ⟨h1, u, h2⟩ := S.ban b hb
      exact ⟨h1, u, by show upd w.H p _ b = some (.lst u); rw [upd_ne (ne_of_none h2 h)]; exact h2⟩
  cell := fun n c e => by
    obtain ⟨a, h1, h2⟩ := S.cell n c e
    refine ⟨a, h1, h2.mono (kp_ban h) fun u e => ?_⟩
    show upd w.H p _ a = some u
    rw [upd_ne (ne_of_none e h)]
    exact e
  tabs := S.tabsK (kp_ban h) fun P ps e i j => ⟨by show upd w.H p _ P = _; rw [upd_ne (ne_of_none e h)]; exact e, i, fun z => (List.mem_cons.mp z).elim (ne_of_none e h) j⟩
  tinj := S.tinj
where
  kp_ban {p : Addr} {o : HO} (h : w.H p = none) : Kp w ⟨w.x, w.ι, p :: w.B, upd w.H p o⟩ := ⟨fun a u hi hb e _ => ⟨by
    show upd w.H p o a = some u
    rw [upd_ne (ne_of_none e h)]
    exact e, hi, fun z => (List.mem_cons.mp z).elim (fun e1 => ne_of_none e h e1) hb⟩, fun n a e => e, rfl⟩
end
section
variable {K : PySem.W.Frag} {cls : Nat → Option Addr} {w w1 w' w4 : Wd} {μ : Store}
theorem kp_bump {p : Addr} {o : HO} (hp : p ∈ w.B) : Kp w ⟨w.x, w.ι, w.B, upd w.H p o⟩ := ⟨fun a u hi hb e _ => ⟨by
    show upd w.H p o a = some u
    rw [upd_ne fun z => hb (by rw [z]; exact hp)]
    exact e, hi, hb⟩, fun n a e => e, rfl⟩
theorem RelS.bump (S : RelS K cls w μ) {p : Addr} {o : List V} (hp : p ∈ w.B) : RelS K cls ⟨w.x, w.ι, w.B, upd w.H p (.lst o)⟩ μ where
  len := S.len
  nd := S.nd
  ban := fun b hb => by
    obtain ⟨h1, u, h2⟩ := S.ban b hb
    refine ⟨h1, ?_⟩
    by_cases e : b = p
    · subst e
      exact ⟨o, upd_same⟩
    · exact ⟨u, by show upd w.H p _ b = some (.lst u); rw [upd_ne e]; exact h2⟩
  cell := fun n c e => by
    obtain ⟨a, h1, h2⟩ := S.cell n c e
    refine ⟨a, h1, h2.mono (kp_bump hp) fun u e => ?_⟩
    show upd w.H p _ a = some u
    rw [upd_ne fun z => (S.ban p hp).1 (by rw [← z]; exact List.mem_of_getElem? h1)]
    exact e
  tabs := S.tabsK (kp_bump hp) fun P ps e i j => ⟨by show upd w.H p _ P = _; rw [upd_ne fun z => j (by rw [z]; exact hp)]; exact e, i, j⟩
  tinj := S.tinj
theorem Step.under {B : List Addr} (st : Step w1 ⟨w'.x, w'.ι, B, w'.H⟩) (s : Step w' w4) : Step w1 ⟨w4.x, w4.ι, B, w4.H⟩ where
  keep := fun a o hi e nt => s.keep a o (st.notin e hi) (st.keep a o hi e)
  pre := by
    obtain ⟨l, e⟩ := st.pre
    obtain ⟨l', e'⟩ := s.pre
    exact ⟨l ++ l', by show w4.ι = _; rw [e', show w'.ι = _ from e, List.append_assoc]⟩
  fresh := fun a h n o nt e => by
    by_cases q : a ∈ w'.ι
    · exact st.fresh a q n o nt e
    · exact s.fresh a h q o nt (st.keep a o n e)
  ban := st.ban
  exn := s.exn.trans st.exn
theorem Step.bumped {B : List Addr} {p : Addr} {o : HO} (st : Step w1 ⟨w'.x, w'.ι, B, w'.H⟩) (h : w1.H p = none) : Step w1 ⟨w'.x, w'.ι, B, upd w'.H p o⟩ where
  keep := fun a u hi e nt => by
    show upd w'.H p o a = some u
    rw [upd_ne (ne_of_none e h)]
    exact st.keep a u hi e
  pre := st.pre
  fresh := st.fresh
  ban := st.ban
  exn := st.exn
theorem kp_unban {B : List Addr} {p : Addr} (hB : w.B = p :: B) : Kp w ⟨w.x, w.ι, B, w.H⟩ := ⟨fun a o hi hb e _ => ⟨e, hi, fun z => hb (by rw [hB]; exact List.mem_cons_of_mem _ z)⟩, fun n a e => e, rfl⟩
theorem RelS.unban {B : List Addr} {p : Addr} (S : RelS K cls w μ) (hB : w.B = p :: B) : RelS K cls ⟨w.x, w.ι, B, w.H⟩ μ := by
  have kp : Kp w ⟨w.x, w.ι, B, w.H⟩ := kp_unban hB
  exact ⟨S.len, S.nd, fun b hb => S.ban b (by rw [hB]; exact List.mem_cons_of_mem _ hb), fun n c e => by
    obtain ⟨a, h1, h2⟩ := S.cell n c e
    exact ⟨a, h1, h2.mono kp fun u e => e⟩, S.tabsK kp fun P ps e i j => ⟨e, i, fun z => j (by rw [hB]; exact List.mem_cons_of_mem _ z)⟩, S.tinj⟩
theorem RVs.unban {B : List Addr} {p : Addr} {ds : List D} {vs : List V} (r : RVs K cls w ds vs) (hB : w.B = p :: B) : RVs K cls ⟨w.x, w.ι, B, w.H⟩ ds vs :=
  RVs.mono (kp_unban hB) r
theorem lc_ok {W : WX} {wi : TI} {fi : FI} {is vs : List Nat} {g : D → Env → Store → Res Env} {ft : FT} {fe : FE}
    (h1 : ∀ (σ : L2.St) (R : It → Hp → Prop) (w : Wd) (ρ : Env) (μ : Store), RelS K cls w μ → RelE K cls w ρ σ → PostR K cls w (WE W σ) (fun w' it => ∀ J, Wk K cls J w' it.1 it.2 → R J w'.H) (fi ρ μ) → wi σ w.H R)
    (hs : is.all (vs.contains ·) = true) {σ : L2.St} {Q : VK} {ρ : Env} (S : RelS K cls w μ) (E : RelE K cls w ρ σ) (h : PostR K cls w (WE W σ) (fun w' d => ∀ v, RV K cls w' d v → Q v w'.H) (eLc vs fi g ft fe ρ μ)) :
    tLc wi (TGof K cls is g) (TTof K cls ft) (TEof K cls fe) vs σ w.H Q := by
  refine h1 σ _ w ρ μ S E ((PostR.bind h).imp fun w1 it s1 ⟨μ1, S1, q1⟩ J wk => ?_)
  obtain ⟨items, src⟩ := it
  have E1 := E.mono s1.kp
  intro p hp
  refine ⟨fun i m H => m = items.length - i ∧ i ≤ items.length ∧ ∃ (w' : Wd) (μ' : Store) (acc : List D) (us : List V), w'.H = H ∧ w'.B = p :: w1.B ∧ Step w1 ⟨w'.x, w'.ι, w1.B, w'.H⟩ ∧ RelS K cls w' μ' ∧ H p = some (.lst us) ∧
      RVs K cls w' acc us ∧ PostR K cls w1 (WE W σ) (fun w' d => ∀ v, RV K cls w' d v → Q v w'.H) (lcL items src g ft fe (wipeE ρ vs) (items.drop i) μ' acc),
    ⟨items.length, by simp, Nat.zero_le _, ⟨w1.x, w1.ι, p :: w1.B, upd w1.H p (.lst [])⟩, μ1, [], [], rfl, rfl, step_new hp, S1.ban1 hp, upd_same, rfl, by simpa using q1⟩, ?_⟩
  rintro i m H ⟨rfl, hle, w', μ', acc, us, rfl, hB, st, S', hD, racc, q⟩
  have kp : Kp w1 w' := ⟨fun a o hi hb e nt => ⟨st.keep a o hi e, st.notin e hi, fun z => by
      rw [hB] at z
      rcases List.mem_cons.mp z with e1 | z
      · exact ne_of_none e hp e1
      · exact hb z⟩, fun n a e => st.loc e, st.exn⟩
  have E' := (E1.mono kp).wipe vs
  by_cases hlt : i < items.length
  · rw [List.drop_eq_getElem_cons hlt] at q
    simp only [lcL] at q
    split at q
    · rename_i so
      obtain ⟨wd, _⟩ := wk i w' μ' kp S' so
      obtain ⟨go, yld⟩ := wd items[i] (List.getElem?_eq_getElem hlt)
      refine .inr ⟨go, fun H => ∃ (w' : Wd) (μ' : Store) (acc : List D) (us : List V), w'.H = H ∧ w'.B = p :: w1.B ∧ Step w1 ⟨w'.x, w'.ι, w1.B, w'.H⟩ ∧ RelS K cls w' μ' ∧ H p = some (.lst us) ∧
          RVs K cls w' acc us ∧ PostR K cls w1 (WE W σ) (fun w' d => ∀ v, RV K cls w' d v → Q v w'.H) (lcL items src g ft fe (wipeE ρ vs) (items.drop (i + 1)) μ' acc), fun H z => ⟨_, by omega, rfl, hlt, z⟩, fun x H2 y => ?_⟩
      obtain ⟨w2, rfl, st2, S2, rx⟩ := yld x H2 y
      refine ⟨w2, wipeE ρ vs, μ', items[i], rfl, S2, E'.mono st2.kp, rx, (PostR.bind0 q).imp fun w3 ρ3 _ ⟨st3, μ3, S3, q3⟩ σ3 E3 off => ⟨wipe_off off hs, w3, ρ3, μ3, rfl, S3, E3, (PostR.bind0 q3).imp fun w4 b _ ⟨st4, μ4, S4, q4⟩ => ?_⟩⟩
      have st14 : Step w' w4 := (st2.trans st3).trans st4
      have stw := st.under st14
      have hpB : p ∈ w'.B := by rw [hB]; exact List.mem_cons_self
      cases b with
      | false =>
        refine iteF ?_
        exact ⟨w4, μ4, acc, us, rfl, st14.ban.trans hB, stw, S4, st14.keep p _ (S'.ban p hpB).1 hD, racc.mono st14.kp, by simpa using q4⟩
      | true =>
        refine iteT ?_
        simp only [if_true] at q4
        refine ⟨w4, ρ3, μ4, rfl, S4, E3.mono st4.kp, (PostR.bind0 q4).imp fun w5 y _ ⟨st5, μ5, S5, q5⟩ v rv => ?_⟩
        have st15 : Step w' w5 := st14.trans st5
        split at q5
        · rename_i hl
          have hB5 : w5.B = p :: w1.B := st15.ban.trans hB
          have hp5 : p ∈ w5.B := by rw [hB5]; exact List.mem_cons_self
          refine ⟨us, st15.keep p _ (S'.ban p hpB).1 hD, by rw [racc.length]; exact lim_lt hl, ⟨w5.x, w5.ι, w5.B, upd w5.H p (.lst (us ++ [v]))⟩, μ5, acc ++ [y], us ++ [v], rfl, hB5, (st.under st15).bumped hp, S5.bump hp5, upd_same, ?_, q5⟩
          exact ((racc.mono st15.kp).append (.cons rv .nil)).mono (kp_bump hp5)
        · exact q5.elim
    · exact q.elim
  · have e : i = items.length := by omega
    subst e
    rw [List.drop_length] at q
    simp only [lcL] at q
    split at q
    · rename_i so
      obtain ⟨_, stop⟩ := wk items.length w' μ' kp S' so
      refine .inl ⟨stop (Nat.le_refl _), q ⟨w'.x, w'.ι, w1.B, w'.H⟩ st (S'.unban hB) _ ⟨p, us, rfl, ⟨hD, (S'.ban p (by rw [hB]; exact List.mem_cons_self)).1, (S1.free hp).2⟩, racc.unban hB⟩⟩
    · exact q.elim
end
section
variable {X : Cx} {W : WX} {cls : Nat → Option Addr} {elt tg iter : Expr} {ifs : List Expr} {scope : Scope} {own : List (Str × Nat)} {pos : Pos} {is : List Nat} {fi : FI} {g : D → Env → Store → Res Env} {ft : FT} {fe : FE}
theorem se_lc (hc : X.calm = true) (hN : X.N.Nodup) (hi : SI X W cls tg iter fi) (ok : BlkOk X.N X.env.scope scope own)
    (hg : ∀ (s : Shared) (H : Hp) (C : Addr) (cl : List (Str × Addr)) (fp : List Addr), SG (X.blk s H scope (compEnvC scope cl C X.env) fp) cls tg is g) (ht : ∀ (s : Shared) (H : Hp) (C : Addr) (cl : List (Str × Addr)) (fp : List Addr), STs (X.blk s H scope (compEnvC scope cl C X.env) fp) cls ifs ft)
    (he : ∀ (s : Shared) (H : Hp) (C : Addr) (cl : List (Str × Addr)) (fp : List Addr), SE (X.blk s H scope (compEnvC scope cl C X.env) fp) W0 cls elt fe) (hs : is.all ((own.map (·.2)).contains ·) = true := by decide) (hf : ∀ x, foldedSetIterable iter X.env x = pure x := by intro _; rfl) :
    SE X W cls (.ListComp elt [⟨tg, iter, ifs, 0⟩] scope pos) (eLc (own.map (·.2)) fi g ft fe) := by
  obtain ⟨t1, p1, h1⟩ := hi
  exact ⟨_, pe_lc (g := TGof X.K cls is g) (tt := TTof X.K cls ft) (te := TEof X.K cls fe) hc hN p1 ok (fun s H C cl fp => (hg s H C cl fp).pg) ht (fun s H C cl fp => (he s H C cl fp).pe) hf, fun σ Q w ρ μ S E h => lc_ok h1 hs S E h⟩
theorem ss_setLc {i : Nat} {y : Str} {py spos : Pos} (hc : X.calm = true) (hN : X.N.Nodup) (hy : X.N[i]? = some y) (hyl : X.env.scope.names.lookup y = some .local) (hsw : swapsWith (.ListComp elt [⟨tg, iter, ifs, 0⟩] scope pos) (some (.Name y py)) spos.line X.env = pure true)
    (hi : SI X W cls tg iter fi) (ok : BlkOk X.N X.env.scope scope own)
    (hg : ∀ (s : Shared) (H : Hp) (C : Addr) (cl : List (Str × Addr)) (fp : List Addr), SG (X.blk s H scope (compEnvC scope cl C X.env) fp) cls tg is g) (ht : ∀ (s : Shared) (H : Hp) (C : Addr) (cl : List (Str × Addr)) (fp : List Addr), STs (X.blk s H scope (compEnvC scope cl C X.env) fp) cls ifs ft)
    (he : ∀ (s : Shared) (H : Hp) (C : Addr) (cl : List (Str × Addr)) (fp : List Addr), SE (X.blk s H scope (compEnvC scope cl C X.env) fp) W0 cls elt fe) (hs : is.all ((own.map (·.2)).contains ·) = true := by decide) (hf : ∀ x, foldedSetIterable iter X.env x = pure x := by intro _; rfl) :
    SS X W cls (.Assign [.Name y py] (.ListComp elt [⟨tg, iter, ifs, 0⟩] scope pos) spos) (sAsg (gVar i) (eLc (own.map (·.2)) fi g ft fe)) := by
  obtain ⟨t1, p1, h1⟩ := hi
  refine ⟨_, ps_setLc (g := TGof X.K cls is g) (tt := TTof X.K cls ft) (te := TEof X.K cls fe) hc hN hy hyl hsw p1 ok (fun s H C cl fp => (hg s H C cl fp).pg) ht (fun s H C cl fp => (he s H C cl fp).pe) hf, fun D σ w ρ μ S E h => ?_⟩
  refine lc_ok (Q := fun x H1 => L2.gName i x σ H1 D.nx) h1 hs S E ((PostS.bind E h).imp fun w1 d s1 ⟨μ1, S1, q1⟩ v r1 => ?_)
  unfold gVar at q1
  split at q1
  · exact q1 w1 _ Step.refl S1 ((E.mono s1.kp).set r1)
  · exact q1.elim
end
section
variable {K : PySem.W.Frag} {cls : Nat → Option Addr} {w : Wd} {μ : Store}
theorem kp_add {p : Addr} {o : HO} (h : w.H p = none) : Kp w ⟨w.x, w.ι ++ [p], w.B, upd w.H p o⟩ := ⟨fun a u hi hb e _ => ⟨by
    show upd w.H p o a = some u
    rw [upd_ne (ne_of_none e h)]
    exact e, fun z => (List.mem_append.mp z).elim hi fun z => ne_of_none e h (by simpa using z), hb⟩, fun n a e => by
    rw [List.getElem?_append_left (List.getElem?_eq_some_iff.mp e).1]
    exact e, rfl⟩
theorem step_add {p : Addr} {o : HO} (h : w.H p = none) : Step w ⟨w.x, w.ι ++ [p], w.B, upd w.H p o⟩ where
  keep := fun a u hi e _ => by
    show upd w.H p o a = some u
    rw [upd_ne (ne_of_none e h)]
    exact e
  pre := ⟨[p], rfl⟩
  fresh := fun a hm hn u _ e => by
    have : a = p := (List.mem_append.mp hm).elim (fun z => absurd z hn) fun z => by simpa using z
    rw [this, h] at e
    cases e
  ban := rfl
  exn := rfl
theorem RelS.add (S : RelS K cls w μ) {p : Addr} {o : HO} {c : Cell} (h : w.H p = none) (hc : CellOk K cls ⟨w.x, w.ι ++ [p], w.B, upd w.H p o⟩ p c) : RelS K cls ⟨w.x, w.ι ++ [p], w.B, upd w.H p o⟩ (μ ++ [c]) where
  len := by rw [List.length_append, List.length_append, S.len]; rfl
  nd := by
    rw [List.nodup_append]
    refine ⟨S.nd, by simp, fun a ha b hb e => ?_⟩
    have hb : b = p := by simpa using hb
    rw [e, hb] at ha
    exact (S.free h).1 ha
  ban := fun b hb => by
    obtain ⟨h1, u, h2⟩ := S.ban b hb
    have hbp : b ≠ p := ne_of_none h2 h
    exact ⟨fun z => (List.mem_append.mp z).elim h1 fun z => hbp (by simpa using z), u, by show upd w.H p o b = some (.lst u); rw [upd_ne hbp]; exact h2⟩
  cell := fun n c' e => by
    by_cases hn : n < μ.length
    · rw [List.getElem?_append_left hn] at e
      obtain ⟨a, h1, h2⟩ := S.cell n c' e
      refine ⟨a, by rw [List.getElem?_append_left (by rw [S.len]; exact hn)]; exact h1, h2.mono (kp_add h) fun u e => ?_⟩
      show upd w.H p o a = some u
      rw [upd_ne (ne_of_none e h)]
      exact e
    · rw [List.getElem?_append_right (by omega)] at e
      have hn2 : n - μ.length = 0 := by
        have := (List.getElem?_eq_some_iff.mp e).1
        simp at this
        omega
      rw [hn2] at e
      cases e
      refine ⟨p, ?_, hc⟩
      rw [List.getElem?_append_right (by rw [S.len]; omega), S.len, hn2]
      rfl
  tabs := S.tabsK (kp_add h) fun P ps e i j => ⟨by show upd w.H p o P = _; rw [upd_ne (ne_of_none e h)]; exact e, fun z => (List.mem_append.mp z).elim i fun z => ne_of_none e h (by simpa using z), j⟩
  tinj := S.tinj
end
def mD (m : Nat) (g : FS) : List D → Store → Res D := fun ds μ => match g (ds.map some ++ List.replicate (m - ds.length) none) μ with
  | .rt d μ' => .ok d μ'
  | .nx _ μ' => .ok .non μ'
  | .er k ns es _ μ' => .err k ns es μ'
  | _ => .stuck
mutual
/-- no place from n on in it -/
def low (n : Nat) : D → Bool
  | .tup ds => lows n ds
  | .lst ds => lows n ds
  | .obj _ _ ds => lows n ds
  | .loc k => decide (k < n)
  | .dct _ ds => lows n ds
  | _ => true
def lows (n : Nat) : List D → Bool
  | [] => true
  | d :: ds => low n d && lows n ds
end
def lowC (n : Nat) : Cell → Bool
  | .lst ds => lows n ds
  | .ins _ _ ds => lows n ds
  | .dct _ ds => lows n ds
/-- a new list in a tuple that is handed back is frozen -/
def frz (n : Nat) (μ : Store) (d : D) : Option D := match d with
  | .loc k => if k < n then some (.loc k) else match μ[k]? with
    | some (.lst es) => if lows n es = true then some (.lst es) else none
    | _ => none
  | d => if low n d = true then some d else none
def frzs (n : Nat) (μ : Store) : List D → Option (List D)
  | [] => some []
  | d :: ds => match frz n μ d with
    | some e => match frzs n μ ds with
      | some es => some (e :: es)
      | none => none
    | none => none
/-- a def's own lists are gone behind it; one that it hands back is frozen -/
def fin (n : Nat) : Res D → Res D
  | .ok d μ => match d with
    | .loc k => if k < n then (if (μ.take n).all (lowC n) = true then .ok (.loc k) (μ.take n) else .stuck) else match μ[k]? with
      | some (.lst ds) => if (lows n ds && (μ.take n).all (lowC n)) = true then .ok (.lst ds) (μ.take n) else .stuck
      | _ => .stuck
    | d => if (low n d && (μ.take n).all (lowC n)) = true then .ok d (μ.take n) else match d with
      | .tup ds => if (μ.take n).all (lowC n) = true then match frzs n μ ds with
          | some es => .ok (.tup es) (μ.take n)
          | none => .stuck
        else .stuck
      | _ => .stuck
  | .err k ns es μ => if (lows n es && (μ.take n).all (lowC n)) = true then .err k ns es (μ.take n) else .stuck
  | .stuck => .stuck
def mDf (m : Nat) (g : FS) : List D → Store → Res D := fun ds μ => fin μ.length (mD m g ds μ)
end Fw
set_option Elab.async false
set_option linter.all false
set_option maxRecDepth 100000
set_option autoImplicit false
namespace Fw
open PySem L2 PyProof.Rows
def thaw : Res D → Res D
  | .ok (.lst ds) μ => .ok (.loc μ.length) (μ ++ [.lst ds])
  | .err k ns es μ => .err k ns es μ
  | _ => .stuck
def eThaw (f : FE) : FE := fun ρ μ => thaw (f ρ μ)
section
variable {K : PySem.W.Frag} {cls : Nat → Option Addr} {w : Wd} {μ : Store} {Q : VK} {Er : XK}
/-- a list is laid at p and becomes the next place -/
theorem thaw_new (S : RelS K cls w μ) {ds : List D} {vs : List V} (r : RVs K cls w ds vs) (h : PostR K cls w Er (fun w' d => ∀ v, RV K cls w' d v → Q v w'.H) (thaw (.ok (.lst ds) μ))) {p : Addr} (hp : w.H p = none) : Q (.ref p) (upd w.H p (.lst vs)) := by
  refine h ⟨w.x, w.ι ++ [p], w.B, upd w.H p (.lst vs)⟩ (step_add hp) (S.add hp ⟨vs, upd_same, r.mono (kp_add hp)⟩) _ ⟨p, rfl, ?_⟩
  show (w.ι ++ [p])[μ.length]? = some p
  rw [List.getElem?_append_right (by rw [S.len]; omega), S.len, Nat.sub_self]
  rfl
theorem PostR.thaw {α : Type} {R : Wd → D → Prop} {r : Res α} {f : α → Store → Res D} (h : PostR K cls w Er R (thaw (r.bind f))) : PostR K cls w Er (fun w' a => ∃ μ', RelS K cls w' μ' ∧ PostR K cls w' Er R (thaw (f a μ'))) r := by
  cases r with
  | ok a μ => exact fun w' s S => ⟨μ, S, PostR.step s h⟩
  | err k ns ds μ => exact h
  | stuck => exact h
end
section
variable {X : Cx} {W : WX} {cls : Nat → Option Addr} {a b : Expr} {fa fb : FE} {es : List Expr} {fs : FA} {p pos : Pos}
theorem se_lstT (ha : SA X W cls es fs) : SE X W cls (.List es pos) (eThaw (eLst fs)) := by
  obtain ⟨t1, p1, h1⟩ := ha
  refine ⟨_, pe_lst p1, fun σ Q w ρ μ S E h => ?_⟩
  refine h1 σ _ w ρ μ S E ((PostR.thaw h).imp fun w1 d s1 ⟨μ1, S1, q1⟩ v r1 => ?_)
  by_cases hl : d.length ≤ LIM
  · rw [if_pos hl] at q1
    exact ⟨by rw [r1.length]; exact lim_le hl, fun p hp => thaw_new S1 r1 q1 hp⟩
  · rw [if_neg hl] at q1
    exact q1.elim
theorem se_repT (ha : SE X W cls a fa) (hb : SE X W cls b fb) : SE X W cls (.BinOp a .Mult b pos) (eThaw (eBin oMul fa fb)) := by
  obtain ⟨t1, p1, h1⟩ := ha
  obtain ⟨t2, p2, h2⟩ := hb
  refine ⟨_, pe_op op_rep p1 p2, fun σ Q w ρ μ S E h => ?_⟩
  refine h1 σ _ w ρ μ S E ((PostR.thaw h).imp fun w1 d s1 ⟨μ1, S1, q1⟩ v r1 => ?_)
  refine h2 σ _ w1 ρ μ1 S1 (E.mono s1.kp) ((PostR.thaw q1).imp fun w2 e s2 ⟨μ2, S2, q2⟩ u r2 => ?_)
  have r1 := r1.mono s2.kp
  unfold oMul at q2
  split at q2
  · split at q2 <;> exact q2.elim
  · split at q2 <;> exact q2.elim
  · split at q2
    · rename_i a ha
      split at q2
      · rename_i hs
        obtain ⟨l, vs, e1, h1, h2⟩ := lstOf_at S2 r1 ha
        have hm : ∀ n : Nat, n ≤ 1000 → vs.length * n ≤ sizeLine := fun n hn => by
          rw [h2.length]
          exact lim_le (Nat.mul_le_mul hs.2.2 hn)
        exact ⟨l, _, vs, e1, r2, h1, by omega, by omega, hm _ (by omega), fun p hp => thaw_new S2 (h2.rep _) q2 hp⟩
      · exact q2.elim
    · exact q2.elim
  · exact q2.elim
/-- tuple(range(..)), list(range(..)) -/
def eTupRg (fi : FI) : FE := fun ρ μ => (fi ρ μ).bind fun it μ1 => .ok (.tup it.1) μ1
end
section
variable {K : PySem.W.Frag} {cls : Nat → Option Addr} {w w' : Wd} {μ : Store}
/-- kept but for the places from n on -/
structure Kl (n : Nat) (w w' : Wd) : Prop where
  at_ : ∀ a o, a ∉ w.ι → a ∉ w.B → w.H a = some o → w'.H a = some o ∧ a ∉ w'.ι ∧ a ∉ w'.B
  loc : ∀ (k : Nat) (a : Addr), k < n → w.ι[k]? = some a → w'.ι[k]? = some a
  exn : w'.x = w.x
mutual
theorem RV.low {n : Nat} (s : Kl n w w') : ∀ {d : D} {v : V}, low n d = true → RV K cls w d v → RV K cls w' d v
  | .non, _, _, h => h
  | .bl _, _, _, h => h
  | .int _, _, _, h => h
  | .str _, _, _, h => h
  | .tup ds, _, l, ⟨a, vs, e, h, r⟩ => ⟨a, vs, e, (match h with
    | .inl ⟨h, m, b⟩ => .inl (s.at_ a _ m b h)
    | .inr h => .inr h), RVs.low s l r⟩
  | .lst ds, _, l, ⟨a, vs, e, ⟨h, m, b⟩, r⟩ => ⟨a, vs, e, s.at_ a _ m b h, RVs.low s l r⟩
  | .flst _, _, _, ⟨a, e, h⟩ => ⟨a, e, match h with
    | .inl ⟨⟨o, h⟩, m, b⟩ => let z := s.at_ a _ m b h; .inl ⟨⟨o, z.1⟩, z.2⟩
    | .inr h => .inr h⟩
  | .obj _ _ ds, _, l, ⟨a, C, dx, vs, e, c, ⟨h, m, b⟩, hl, r⟩ => ⟨a, C, dx, vs, e, c, s.at_ a _ m b h, hl, RVs.low s l r⟩
  | .loc _, _, l, ⟨a, e, h⟩ => ⟨a, e, s.loc _ _ (of_decide_eq_true l) h⟩
  | .ptr _, _, _, h => h
  | .dct _ ds, _, l, ⟨a, vs, e, ⟨h, m, b⟩, hl, r⟩ => ⟨a, vs, e, s.at_ a _ m b h, hl, RVs.low s l r⟩
theorem RVs.low {n : Nat} (s : Kl n w w') : ∀ {ds : List D} {vs : List V}, lows n ds = true → RVs K cls w ds vs → RVs K cls w' ds vs
  | [], _, _, h => h
  | d :: ds, _, l, ⟨v, r, e, h, t⟩ => by
    have l : Fw.low n d = true ∧ lows n ds = true := by simpa [lows] using l
    exact ⟨v, r, e, RV.low s l.1 h, RVs.low s l.2 t⟩
end
/-- the places from the entry's on are gone -/
theorem kl_cut (s : Step w w') : Kl w.ι.length w' ⟨w.x, w.ι, w'.B, w'.H⟩ := ⟨fun a o hi hb e => ⟨e, fun z => hi (by obtain ⟨l, e⟩ := s.pre; rw [e]; exact List.mem_append_left _ z), hb⟩, fun k a hk e => by
  obtain ⟨l, el⟩ := s.pre
  rw [el, List.getElem?_append_left hk] at e
  exact e, s.exn.symm⟩
theorem step_cut (s : Step w w') : Step w ⟨w.x, w.ι, w'.B, w'.H⟩ := ⟨fun a o h1 h2 nt => s.keep a o h1 h2 nt, ⟨[], by simp⟩, fun a h n => absurd h n, s.ban, rfl⟩
theorem RelS.cut (S : RelS K cls w μ) {μ' : Store} (s : Step w w') (S' : RelS K cls w' μ') (h : (μ'.take μ.length).all (lowC μ.length) = true) : RelS K cls ⟨w.x, w.ι, w'.B, w'.H⟩ (μ'.take μ.length) := by
  have hle : μ.length ≤ μ'.length := by
    obtain ⟨l, e⟩ := s.pre
    rw [← S.len, ← S'.len, e, List.length_append]
    omega
  refine ⟨by rw [List.length_take, S.len]; omega, S.nd, fun b hb => ?_, fun n c e => ?_, fun k P h1 h2 h3 => ?_, S.tinj⟩
  · obtain ⟨h1, h2⟩ := S'.ban b hb
    exact ⟨fun z => h1 (by obtain ⟨l, e⟩ := s.pre; rw [e]; exact List.mem_append_left _ z), h2⟩
  · have hn : n < μ.length := by
      have := (List.getElem?_eq_some_iff.mp e).1
      rw [List.length_take] at this
      omega
    have lc : lowC μ.length c = true := List.all_eq_true.mp h c (List.mem_of_getElem? e)
    rw [List.getElem?_take_of_lt hn] at e
    obtain ⟨a, h1, h2⟩ := S'.cell n c e
    have hk := kl_cut s
    rw [S.len] at hk
    refine ⟨a, hk.loc n a hn h1, ?_⟩
    cases c with
    | lst ds =>
      obtain ⟨vs, e1, r⟩ := h2
      exact ⟨vs, e1, RVs.low hk lc r⟩
    | ins cn ns ds =>
      obtain ⟨C, dx, vs, e0, e1, e2, r⟩ := h2
      exact ⟨C, dx, vs, e0, e1, e2, RVs.low hk lc r⟩
    | dct ks ds =>
      obtain ⟨vs, e1, e2, r⟩ := h2
      exact ⟨vs, e1, e2, RVs.low hk lc r⟩
  · obtain ⟨⟨ps, e1, t, r⟩, i, j⟩ := S'.tabs k P h1 h2 h3
    have hk := kl_cut s
    have ni : ∀ {a : Addr}, a ∉ w'.ι → a ∉ w.ι := fun {a} z y => z (by obtain ⟨l, e⟩ := s.pre; rw [e]; exact List.mem_append_left _ y)
    exact ⟨⟨ps, e1, t, fun pos cv z => let ⟨c', z1, z2, z3, z4⟩ := r pos cv z; ⟨c', z1, z2, ni z3, z4⟩⟩, ni i, j⟩
theorem frz_ok (S : RelS K cls w μ) {μ' : Store} (s : Step w w') (S' : RelS K cls w' μ') (hk : Kl μ.length w' ⟨w.x, w.ι, w'.B, w'.H⟩) {d e : D} {v : V} (r : RV K cls w' d v) (he : frz μ.length μ' d = some e) : RV K cls ⟨w.x, w.ι, w'.B, w'.H⟩ e v := by
  have plain : ∀ {d : D}, RV K cls w' d v → (if low μ.length d = true then some d else none) = some e → RV K cls ⟨w.x, w.ι, w'.B, w'.H⟩ e v := fun {d} r he => by
    split at he
    · cases he
      exact RV.low hk (by assumption) r
    · cases he
  cases d with
  | loc k =>
    simp only [frz] at he
    split at he
    · rename_i hlt
      cases he
      exact RV.low hk (by simp [low, hlt]) r
    · split at he
      · rename_i ds hm
        split at he
        · rename_i hlow
          cases he
          obtain ⟨a, vs, ex, hn, h3, h4⟩ := S'.lst r hm
          refine ⟨a, vs, ex, ⟨h3, fun z => ?_, (fun z => (S'.ban a z).1 (List.mem_of_getElem? hn))⟩, RVs.low hk hlow h4⟩
          obtain ⟨l, el⟩ := s.pre
          obtain ⟨j, hj, ej⟩ := List.getElem_of_mem z
          have hj : j < w.ι.length := hj
          have hj' : w'.ι[j]? = some a := by rw [el, List.getElem?_append_left hj, List.getElem?_eq_getElem hj, ej]
          obtain ⟨l1, e1⟩ := List.getElem?_eq_some_iff.mp hn
          obtain ⟨l2, e2⟩ := List.getElem?_eq_some_iff.mp hj'
          have : k = j := (List.getElem_inj S'.nd).mp (e1.trans e2.symm)
          have hw : w.ι.length = μ.length := S.len
          omega
        · cases he
      · cases he
  | non => exact plain r he
  | bl _ => exact plain r he
  | int _ => exact plain r he
  | str _ => exact plain r he
  | tup _ => exact plain r he
  | lst _ => exact plain r he
  | flst _ => exact plain r he
  | obj _ _ _ => exact plain r he
  | ptr _ => exact plain r he
  | dct _ _ => exact plain r he
theorem frzs_ok (S : RelS K cls w μ) {μ' : Store} (s : Step w w') (S' : RelS K cls w' μ') (hk : Kl μ.length w' ⟨w.x, w.ι, w'.B, w'.H⟩) : ∀ {ds es : List D} {vs : List V}, RVs K cls w' ds vs → frzs μ.length μ' ds = some es → RVs K cls ⟨w.x, w.ι, w'.B, w'.H⟩ es vs
  | [], es, vs, r, he => by
    cases he
    exact r
  | d :: ds, es, vs, ⟨v, rest, e, r, t⟩, he => by
    simp only [frzs] at he
    split at he
    · rename_i e1 h1
      split at he
      · rename_i es1 h2
        cases he
        exact ⟨v, rest, e, frz_ok S s S' hk r h1, frzs_ok S s S' hk t h2⟩
      · cases he
    · cases he
theorem fin_ok {Q : VK} {Er : XK} (S : RelS K cls w μ) {r : Res D} (h : PostR K cls w Er (fun w' d => ∀ v, RV K cls w' d v → Q v w'.H) (fin μ.length r)) : PostR K cls w Er (fun w' d => ∀ v, RV K cls w' d v → Q v w'.H) r := by
  cases r with
  | stuck => exact h
  | err k ns es μ' =>
    intro w' cv d s S' x
    have hk := kl_cut s
    rw [S.len] at hk
    simp only [fin] at h
    split at h
    · rename_i hc
      rw [Bool.and_eq_true] at hc
      obtain ⟨C, e1, e2, e3⟩ := x
      refine h ⟨w.x, w.ι, w'.B, w'.H⟩ cv d (step_cut s) (S.cut s S' hc.2) ⟨C, e1, e2, ?_⟩
      rcases e3 with e3 | ⟨dd, vs, e3, ⟨e4, e5, e6⟩, e7, e8⟩
      · exact .inl e3
      · exact .inr ⟨dd, vs, e3, hk.at_ dd _ e5 e6 e4, e7, RVs.low hk hc.1 e8⟩
    · exact h.elim
  | ok d μ' =>
    intro w' s S' v rv
    have hk := kl_cut s
    rw [S.len] at hk
    have plain : (low μ.length d && (μ'.take μ.length).all (lowC μ.length)) = true → PostR K cls w Er (fun w' d => ∀ v, RV K cls w' d v → Q v w'.H) (.ok d (μ'.take μ.length)) → Q v w'.H := fun hc h => by
      rw [Bool.and_eq_true] at hc
      exact h ⟨w.x, w.ι, w'.B, w'.H⟩ (step_cut s) (S.cut s S' hc.2) v (RV.low hk hc.1 rv)
    cases d with
    | loc k =>
      simp only [fin] at h
      split at h
      · rename_i hlt
        split at h
        · rename_i hc
          exact plain (by rw [hc]; simp [low, hlt]) h
        · exact h.elim
      · rename_i hge
        split at h
        · rename_i ds he
          split at h
          · rename_i hc
            rw [Bool.and_eq_true] at hc
            obtain ⟨a, vs, ex, hn, h3, h4⟩ := S'.lst rv he
            refine h ⟨w.x, w.ι, w'.B, w'.H⟩ (step_cut s) (S.cut s S' hc.2) v ⟨a, vs, ex, ⟨h3, fun z => ?_, (fun z => (S'.ban a z).1 (List.mem_of_getElem? hn))⟩, RVs.low hk hc.1 h4⟩
            obtain ⟨l, el⟩ := s.pre
            obtain ⟨j, hj, ej⟩ := List.getElem_of_mem z
            have hj : j < w.ι.length := hj
            have hj' : w'.ι[j]? = some a := by rw [el, List.getElem?_append_left hj, List.getElem?_eq_getElem hj, ej]
            obtain ⟨l1, e1⟩ := List.getElem?_eq_some_iff.mp hn
            obtain ⟨l2, e2⟩ := List.getElem?_eq_some_iff.mp hj'
            have : k = j := (List.getElem_inj S'.nd).mp (e1.trans e2.symm)
            have hw : w.ι.length = μ.length := S.len
            omega
          · exact h.elim
        · exact h.elim
    | non => simp only [fin] at h; split at h; exact plain (by assumption) h; exact h.elim
    | bl _ => simp only [fin] at h; split at h; exact plain (by assumption) h; exact h.elim
    | int _ => simp only [fin] at h; split at h; exact plain (by assumption) h; exact h.elim
    | str _ => simp only [fin] at h; split at h; exact plain (by assumption) h; exact h.elim
    | tup ds =>
      simp only [fin] at h
      split at h
      · exact plain (by assumption) h
      · split at h
        · rename_i hall
          split at h
          · rename_i es he
            obtain ⟨a, vs, ev, t, rs⟩ := rv
            refine h ⟨w.x, w.ι, w'.B, w'.H⟩ (step_cut s) (S.cut s S' hall) v ⟨a, vs, ev, ?_, frzs_ok S s S' hk rs he⟩
            rcases t with ⟨t, tn, tb⟩ | t
            · exact .inl ⟨t, fun z => tn (by obtain ⟨l, e⟩ := s.pre; rw [e]; exact List.mem_append_left _ z), tb⟩
            · exact .inr t
          · exact h.elim
        · exact h.elim
    | lst _ => simp only [fin] at h; split at h; exact plain (by assumption) h; exact h.elim
    | flst _ => simp only [fin] at h; split at h; exact plain (by assumption) h; exact h.elim
    | obj _ _ _ => simp only [fin] at h; split at h; exact plain (by assumption) h; exact h.elim
    | ptr _ => simp only [fin] at h; split at h; exact plain (by assumption) h; exact h.elim
    | dct _ _ => simp only [fin] at h; split at h; exact plain (by assumption) h; exact h.elim
theorem relE_start {N : List Str} : ∀ {ds : List D} {vs : List V}, RVs K cls w ds vs → RelE K cls w (ds.map some ++ List.replicate (N.length - ds.length) none) (L2.start N vs) := fun {ds vs} r => by
  unfold L2.start
  rw [r.length]
  refine ⟨by simp [r.length], fun i d e => ?_⟩
  by_cases hi : i < ds.length
  · rw [List.getElem?_append_left (by simpa using hi), List.getElem?_map, Option.map_eq_some_iff] at e
    obtain ⟨d', e1, e2⟩ := e
    cases e2
    obtain ⟨v, hv, rv⟩ := r.get e1
    refine ⟨v, ?_, rv⟩
    rw [List.getElem?_append_left (by rw [List.length_map, r.length]; exact hi), List.getElem?_map, hv]
    rfl
  · rw [List.getElem?_append_right (by simpa using hi)] at e
    have := List.mem_replicate.mp (List.mem_of_getElem? e)
    cases this.2
end
section
variable {P : Program} {W : World} {K : PySem.W.Frag} {cls : Nat → Option Addr} {mg : Str → Option Value} {base : Heap} {x qual : Str} {st : Stmt} {f : Addr} {fd : FuncData} {N ps : List Str} {k : Nat} {g : FS}
/-- what a def's body wishes of what it raises: what its caller wishes -/
abbrev WD (E : XK) : WX := fun cls d _ H => E cls d H
theorem fn_mk (F : Fun K x qual st f fd) (S : FnScope N ps (defScope st))
    (hb : ∀ (cdv : Value) (A : Around) (outer : List PySem.Env) (s : Shared) (H : Hp) (E : XK), Room k (A.deeper (envOfC qual (defScope st) s.heap.objs.size f cdv)) → Takes (cxOf (CX P W) P W K mg base N qual (defScope st) f cdv A outer s H E) (WD E) →
      SSs (cxOf (CX P W) P W K mg base N qual (defScope st) f cdv A outer s H E) (WD E) cls (defBody st) g) :
    FnOk P W K mg base (CX P W) (k + 1) f fd ps (spD K cls (mD N.length g) ps.length) := by
  refine F.okX S (fun vs H Q E h => ?_) fun cdv A outer s H vs Q E hr h => ?_
  · obtain ⟨w, ds, μ, _, hl, _, r, _⟩ := h
    rw [r.length, hl]
  · obtain ⟨w, ds, μ, rfl, hl, S', r, h⟩ := h
    obtain ⟨t, p, hk⟩ := hb cdv A outer s w.H E hr (takes_of rfl rfl rfl rfl)
    refine ⟨t, p, hk _ _ w _ μ S' (relE_start r) ?_⟩
    unfold mD at h
    cases hg : g (ds.map some ++ List.replicate (N.length - ds.length) none) μ with
    | nx ρ μ1 => rw [hg] at h; exact fun w' σ s S1 E1 => h w' s S1 _ rfl
    | rt d μ1 => rw [hg] at h; exact fun w' v s S1 r1 => h w' s S1 v r1
    | bk ρ μ1 => rw [hg] at h; exact h.elim
    | ct ρ μ1 => rw [hg] at h; exact h.elim
    | er k ns es ρ μ1 => rw [hg] at h; exact fun w' σ cv d s S1 E1 x => h w' cv d s S1 x
    | stuck => rw [hg] at h; exact h
theorem df_mk (F : Fun K x qual st f fd) (b : Binds K fd ps []) (hm : mg x = some (.ref f)) (S : FnScope N ps (defScope st))
    (hb : ∀ (cdv : Value) (A : Around) (outer : List PySem.Env) (s : Shared) (H : Hp) (E : XK), Room k (A.deeper (envOfC qual (defScope st) s.heap.objs.size f cdv)) → Takes (cxOf (CX P W) P W K mg base N qual (defScope st) f cdv A outer s H E) (WD E) →
      SSs (cxOf (CX P W) P W K mg base N qual (defScope st) f cdv A outer s H E) (WD E) cls (defBody st) g) :
    Df P W K cls mg base (k + 1) x ps.length (mD N.length g) := ⟨f, fd, ps, fn_mk F S hb, hm, F.kp, b, rfl⟩
theorem Df.fin {n m : Nat} {g : FS} (h : Df P W K cls mg base k x n (mD m g)) : Df P W K cls mg base k x n (mDf m g) := by
  obtain ⟨f, fd, ps, hf, hm, hk, hb, hn⟩ := h.ex
  refine ⟨f, fd, ps, hf.imp fun vs H Q E h => ?_, hm, hk, hb, hn⟩
  obtain ⟨w, ds, μ, e, hl, S, r, h⟩ := h
  exact ⟨w, ds, μ, e, hl, S, r, fin_ok S h⟩
end
end Fw
set_option Elab.async false
set_option linter.all false
set_option maxRecDepth 100000
set_option autoImplicit false
namespace Fw
open PySem L2 PyProof.Rows
/-- the heap with both of its objects: the tuple's iterator, and enumerate's own at the place behind it -/
abbrev enumH (h : Heap) (a : Addr) : Heap := (h.push { cls := .type "tuple_iterator", data := .fields #[.ref a, .int 0 0] }).push
  { cls := .type "enumerate", data := .fields #[.none, .bool false, .ref h.objs.size, rawInt 0, .none, .none] }
theorem enumH_at (h : Heap) (a : Addr) : IsEnum (enumH h a) (h.objs.size + 1) h.objs.size 0 .none ∧ (enumH h a).IsTupleIter h.objs.size a 0 ∧ ∀ b o, h.get? b = some o → (enumH h a).get? b = some o := by
  unfold enumH
  refine ⟨?_, ⟨_, Heap.get?_push_of_some _ (Heap.get?_push_size h rfl), rfl, rfl⟩, fun b o q => Heap.get?_push_of_some _ (Heap.get?_push_of_some _ q)⟩
  exact Heap.size_push h _ ▸ Heap.get?_push_size (h.push _) rfl
section
variable {P : Program} {w : World}
theorem if_both {α : Type} {M : Model} {A : Around} {c : Prop} [Decidable c] {x y : Sem α} {Q : α → Shared → Prop} {E : Value → Shared → Prop} {s : Shared} (hx : wpAny M A x Q E s) (hy : wpAny M A y Q E s) : wpAny M A (if c then x else y) Q E s := by
  split <;> assumption
set_option maxHeartbeats 1000000 in
theorem enum_new (a : Addr) (items : Array Value) : MeetsIn P w (Builtin.«enumerate.__new__» ⟨[.type "enumerate", .ref a], []⟩)
    (fun _ R s => s.heap.IsTuple a items ∧ R (.ok (.ret (.ref (s.heap.objs.size + 1)))) { s with heap := enumH s.heap a }) := by
  intro A R s h
  have own := sub_enumerate
  have begun : ∀ {A' : Around} {E Q : Value → Shared → Prop}, Q (.ref s.heap.objs.size) { s with heap := s.heap.push { cls := .type "tuple_iterator", data := .fields #[.ref a, .int 0 0] } } → wpAny (model P w) A' (pyIter (.ref a)) Q E s :=
    fun q => (begins_tuple a items).iter P w _ _ s _ h.1 q
  have last : (s.heap.push { cls := .type "tuple_iterator", data := .fields #[.ref a, .int 0 0] }).objs.size = s.heap.objs.size + 1 := Heap.size_push ..
  unfold Builtin.«enumerate.__new__»
  wp_walk using begun
  refine wpAny_stack_any fun st => wpAny_pure (if_both ?_ ?_) <;> (wp_walk using begun; exact last ▸ h.2)
theorem enum_of_tuple {A : Around} {E Q : Value → Shared → Prop} {s : Shared} {a : Addr} {items : Array Value} (p : s.heap.IsTuple a items) (h : Q (.ref (s.heap.objs.size + 1)) { s with heap := enumH s.heap a }) :
    wpAny (model P w) A (call (.type "enumerate") [.ref a]) Q E s :=
  callType_newIn F.called_enumerate (by decide) (F.typeCall_enumerate_1 _) (F.newCall_enumerate_1 _) (F.args_object_init_2 · _) F.entry_enumerate_new (enum_new a items) ⟨p, ⟨_, (enumH_at s.heap a).1, rfl⟩, h⟩
end
/-- things of unlike classes lie apart -/
theorem cls_apart {h : Heap} {x y : Addr} {o o' : Obj} {T T' : String} (hx : h.get? x = some o) (hy : h.get? y = some o') (cx : o.cls = .type T) (cy : o'.cls = .type T') (ne : (T == T') = false) : x ≠ y := by
  rintro rfl
  rw [hx, Option.some.injEq] at hy
  rw [← hy, cx, Value.type.injEq] at cy
  rw [cy, beq_self_eq_true] at ne
  cases ne
/-- enumerate's object e, its iterator it, which stands at place i of the tuple at a -/
structure EnAt (e it a : Addr) (i : Nat) (h : Heap) : Prop where
  en : ∃ old, IsEnum h e it ((i : Nat) : Int) old
  on : h.IsTupleIter it a i
  two : e ≠ it
section
variable {e it a : Addr} {i : Nat} {h h' : Heap}
theorem EnAt.keep (y : EnAt e it a i h) (k : ∀ b ∈ [e, it], ∀ o, h.get? b = some o → h'.get? b = some o) : EnAt e it a i h' :=
  ⟨y.en.imp fun _ q => k e (.head _) _ q, y.on.at (k it (.tail _ (.head _))), y.two⟩
theorem EnAt.obj (y : EnAt e it a i h) {b : Addr} (hb : b ∈ [e, it]) : ∃ o vs, h.get? b = some o ∧ o.data = .fields vs := by
  rw [List.mem_cons, List.mem_singleton] at hb
  rcases hb with rfl | rfl
  · exact let ⟨_, q⟩ := y.en; ⟨_, _, q, rfl⟩
  · exact let ⟨o, q, _, d⟩ := y.on; ⟨o, _, q, d⟩
theorem EnAt.old (y : EnAt e it a i h) {b : Addr} (hb : b ∈ [e, it]) : b < h.objs.size := let ⟨_, _, q, _⟩ := y.obj hb; Heap.lt_size q
theorem EnAt.off {items : Array Value} (y : EnAt e it a i h) (p : h.IsTuple a items) : a ≠ it ∧ a ≠ e := by
  obtain ⟨o, q, c, _⟩ := p
  obtain ⟨o2, q2, c2, _⟩ := y.on
  obtain ⟨_, q3⟩ := y.en
  exact ⟨cls_apart q q2 c c2 (by decide), cls_apart q q3 c rfl (by decide)⟩
end
theorem en_item {X : Cx} {pins : List (Addr × Obj)} {σ : L2.St} {H : Hp} {s : Shared} {E : Value → Shared → Prop} {elts : List Expr} {kk : Nat} {tpos : Pos} {e it a : Addr} {i : Nat} {xs : List V} {x : V} (hc : X.calm = true) (I : Inv X pins σ H s)
    (own : ∀ b ∈ [e, it], FpOk X pins H b) (y : EnAt e it a i s.heap) (hq : SqT X.K H a xs) (hx : xs[i]? = some x) :
    wpAny (model X.prog X.w) X.A (pyNext (.ref e)) (fun r s1 => ∃ u, r = some u ∧ wpAny (model X.prog X.w) X.A (letOwnedTupleGo (.Tuple elts kk tpos) (.ref e) u)
      (fun _ s2 => ∃ T, u = .ref T ∧ s.heap.objs.size ≤ T ∧ Inv X pins σ (upd H T (.tup [.int (i : Nat), x])) s2 ∧ EnAt e it a (i + 1) s2.heap) E s1) E s := by
  obtain ⟨its, rv, p, _⟩ := I.tuple hq
  have ⟨u, hu, ru⟩ := rv.get hx
  obtain ⟨ai, ae⟩ := y.off p
  obtain ⟨_, en⟩ := y.en
  have room : i < its.toArray.size := by rw [List.size_toArray]; exact (List.getElem?_eq_some_iff.mp hu).1
  have e_old : e ≠ s.heap.objs.size := Nat.ne_of_lt (y.old (.head _))
  refine wpAny_pyNext_enum_itemD (Draws.tuple (A := X.A.in1) (I.ok.hd hc) it a ai its.toArray) en ⟨y.on, p⟩ room y.two (by simp [y.two, Ne.symm ae]) fun x1 h1 tk got out st pair _ k1 => ⟨_, rfl, ?_⟩
  obtain rfl : u = x1 := Option.some.inj (hu.symm.trans (by rw [← got, List.getElem?_toArray]))
  refine wpAny_letOwnedTupleGo_enum out fun h2 en2 same => ⟨s.heap.objs.size, rfl, Nat.le_refl _, ?_, ⟨⟨_, by rw [Int.natCast_add]; exact en2⟩, st.1.at fun _ q => (same.2 it y.two.symm).trans q, y.two⟩⟩
  refine I.turnedNew (ch := [e, it]) (fun b o nb q => ?_) own (Nat.le_refl _) ⟨by show 2 ≤ sizeLine; decide, [.int i tk, u], .cons ⟨_, rfl⟩ (.cons ru .nil), _, (same.2 _ e_old.symm).trans pair, rfl, _, rfl⟩
  simp only [List.mem_cons, List.not_mem_nil, or_false, not_or] at nb
  exact (same.2 b nb.1).trans (k1 b o nb.1 nb.2 q)
theorem en_end {X : Cx} {pins : List (Addr × Obj)} {σ : L2.St} {H : Hp} {s : Shared} {E : Value → Shared → Prop} {e it a : Addr} {i : Nat} {xs : List V} (hc : X.calm = true) (I : Inv X pins σ H s)
    (own : FpOk X pins H it) (y : EnAt e it a i s.heap) (hq : SqT X.K H a xs) (hx : xs.length ≤ i) : wpAny (model X.prog X.w) X.A (pyNext (.ref e)) (fun r s1 => r = none ∧ Inv X pins σ H s1) E s := by
  obtain ⟨its, rv, p, _⟩ := I.tuple hq
  have none_ : its.toArray[i]? = none := by
    rw [List.getElem?_toArray, List.getElem?_eq_none_iff]
    exact rv.length ▸ hx
  have D : Draws X.prog X.w X.A.in1 it [it, a] i (fun i v => its.toArray[i]? = some v) (fun k h => k = i ∧ h.IsTupleIter it a i ∧ h.IsTuple a its.toArray) := {
    live := fun _ _ st => st.2.1.imp fun _ q => q.1
    frame := fun _ _ _ st k => ⟨st.1, st.2.1.at (k it (.head _)), st.2.2.at (k a (.tail _ (.head _)))⟩
    item := fun j _ _ _ lt st => absurd (st.1 ▸ lt) (Nat.lt_irrefl _)
    done := fun _ _ _ st out => wpAny_nextOf_tuple_end (I.ok.hd hc) st.2.1 st.2.2 none_ out }
  obtain ⟨_, en⟩ := y.en
  obtain ⟨n1, n2, _, n4, n5, n6⟩ := own
  exact wpAny_pyNext_enum_endD D en ⟨rfl, y.on, p⟩ fun h' ext => ⟨rfl, I.turned (t' := s.toks) ext n1 n2 n4 n5 n6⟩
/-- the tuple at a, each item in a new pair -/
def IteT (K : PySem.W.Frag) (a : Addr) : It :=
  ⟨fun i H => ∃ (xs : List V) (x : V), SqT K H a xs ∧ xs[i]? = some x, fun i H v H' => ∃ T x, v = .ref T ∧ H T = none ∧ H' = upd H T (.tup [.int (i : Nat), x]) ∧ ∀ xs, SqT K H a xs → xs[i]? = some x, fun i H => ∃ xs : List V, SqT K H a xs ∧ xs.length ≤ i⟩
theorem turn_enumT {P : Program} {w : World} {K : PySem.W.Frag} {elts : List Expr} {kk : Nat} {tpos : Pos} (a e it : Addr) : Turn P w K (.Tuple elts kk tpos) (IteT K a) [e, it] e (EnAt e it a) where
  mem := .head _
  obj := fun _ _ y b hb => let ⟨o, _, q, d⟩ := y.obj hb; ⟨o, q, fun v => by rw [d]; exact nofun⟩
  keep := fun _ _ _ y k => y.keep k
  item := fun X hP hw hK hc i pins s σ H E I own y ⟨xs, x, hq, hx⟩ => by
    subst hP hw hK
    refine wpAny_mono (en_item (elts := elts) (kk := kk) (tpos := tpos) hc I own y hq hx) (fun r s1 ⟨u, hr, more⟩ => ⟨u, hr, ?_⟩) fun _ _ q => q
    refine wpAny_mono more (fun _ s2 ⟨T, hu, new, J, y2⟩ => ⟨.ref T, _, J, hu, ⟨T, x, rfl, I.hok.fresh new, rfl, fun ys hy => ?_⟩, y2, fun b hb => ?_⟩) fun _ _ q => q
    · rw [I.tuple_inj hy hq]
      exact hx
    · rw [upd_ne (Nat.ne_of_lt (Nat.lt_of_lt_of_le (y.old hb) new))]
      exact (own b hb).1
  done := fun X hP hw hK hc i pins s σ H E I own y ⟨xs, hq, hx⟩ => by
    subst hP hw hK
    exact en_end hc I (own it (.tail _ (.head _))) y hq hx
  self := fun A i s Q E y q => let ⟨_, en⟩ := y.en; wpAny_pyIter_enum en q
def iEnumT (K : PySem.W.Frag) (ta : TA) : TI := fun σ H R => ta σ H fun vs H1 => ∃ a xs, vs = [.ref a] ∧ SqT K H1 a xs ∧ R (IteT K a) H1
theorem pi_enumT {X : Cx} {e : Expr} {ta : TA} {p pos tpos : Pos} {elts : List Expr} {kk : Nat} (hg : Gl X "enumerate") (hm : X.mg "enumerate" = none) (ha : PA X [e] ta) (hs : starEach [e] X.env = [(false, eval e X.env)] := by rfl) :
    PI X (.Tuple elts kk tpos) (.Call (.Name "enumerate" p) [e] [] pos) (iEnumT X.K ta) where
  run pins s σ H R I h := by
    refine Call_ (ld_blt I hg hm boot_enumerate (callWith_type1 (thn (ha.run pos pins s σ H _ I h) fun us s1 q => ?_) hs rfl))
    obtain ⟨_, H1, J, rr, a, xs, rfl, hq, go⟩ := q
    obtain rfl := Vals.ref1 rr
    obtain ⟨its, _, tup, _⟩ := J.tuple hq
    obtain ⟨en, on, k⟩ := enumH_at s1.heap a
    refine enum_of_tuple tup (wpAny_pyIter_enum en ⟨_, [_, s1.heap.objs.size], _, _, H1, rfl, J.kept (t' := s1.toks) k, turn_enumT a _ _, ⟨⟨_, en⟩, on, Nat.succ_ne_self _⟩, fun b hb => ?_, go⟩)
    have le : s1.heap.objs.size ≤ b := by
      rw [List.mem_cons, List.mem_singleton] at hb
      exact hb.elim (fun z => z ▸ Nat.le_succ _) fun z => z ▸ Nat.le_refl _
    exact J.fpOk le (J.hok.fresh le)
def enumD (ds : List D) : List D := (ds.zipIdx).map fun p => .tup [.int (p.2 : Nat), p.1]
def oEnum (d : D) (μ : Store) : Res (List D × Option Nat) := match d with
  | .lst ds => .ok (enumD ds, none) μ
  | .tup ds => .ok (enumD ds, none) μ
  | _ => .stuck
def iEnumD (fe : FE) : FI := fun ρ μ => (fe ρ μ).bind fun d μ1 => oEnum d μ1
section
variable {K : PySem.W.Frag} {cls : Nat → Option Addr} {w : Wd} {μ : Store}
theorem enumD_get {ds : List D} {i : Nat} {d : D} (h : (enumD ds)[i]? = some d) : ∃ e, ds[i]? = some e ∧ d = .tup [.int (i : Nat), e] := by
  unfold enumD at h
  rw [List.getElem?_map, Option.map_eq_some_iff] at h
  obtain ⟨⟨e, j⟩, h1, rfl⟩ := h
  rw [List.getElem?_zipIdx, Option.map_eq_some_iff] at h1
  obtain ⟨e', h2, h3⟩ := h1
  simp at h3
  obtain ⟨rfl, rfl⟩ := h3
  exact ⟨_, h2, by simp⟩
theorem wk_enumG {J : It} {ds : List D} (h : ∀ (w' : Wd), Kp w w' → ∃ vs, RVs K cls w' ds vs ∧ (∀ i v, vs[i]? = some v → J.go i w'.H ∧ ∀ x H2, J.yld i w'.H x H2 → ∃ T, x = .ref T ∧ w'.H T = none ∧ H2 = upd w'.H T (.tup [.int (i : Nat), v])) ∧ (∀ i, vs.length ≤ i → J.stop i w'.H)) : Wk K cls J w (enumD ds) none := by
  intro i w' μ' k S' so
  obtain ⟨vs, h1, h2, h3⟩ := h w' k
  refine ⟨fun d hd => ?_, fun hi => h3 i (by rw [h1.length]; simpa [enumD] using hi)⟩
  obtain ⟨e, he, rfl⟩ := enumD_get hd
  obtain ⟨v, hv, rv⟩ := h1.get he
  obtain ⟨go, yld⟩ := h2 i v hv
  refine ⟨go, fun x H2 y => ?_⟩
  obtain ⟨T, rfl, hT, rfl⟩ := yld x H2 y
  exact ⟨w'.up T (.tup [.int (i : Nat), v]), rfl, step_new hT, S'.new hT, new_tup S' hT (.cons rfl (.cons rv .nil))⟩
end
theorem si_enum {X : Cx} {W : WX} {cls : Nat → Option Addr} {e : Expr} {fe : FE} {p pos tpos : Pos} {elts : List Expr} {kk : Nat} (hg : Gl X "enumerate") (hm : X.mg "enumerate" = none) (he : SE X W cls e fe) (hs : starEach [e] X.env = [(false, eval e X.env)] := by rfl) :
    SI X W cls (.Tuple elts kk tpos) (.Call (.Name "enumerate" p) [e] [] pos) (iEnumD fe) := by
  obtain ⟨t, p1, k⟩ := he
  refine ⟨_, pi_or (pi_enum hg hm (pa_cons p1 pa_nil hs) hs) (pi_enumT hg hm (pa_cons p1 pa_nil hs) hs), fun σ R w ρ μ S E h => ?_⟩
  have h := PostR.bind h
  cases hf : fe ρ μ with
  | stuck => rw [hf] at h; exact h.elim
  | err k' ns ds μ1 =>
    rw [hf] at h
    exact .inl (k σ _ w ρ μ S E (by rw [hf]; exact h))
  | ok d μ1 =>
    rw [hf] at h
    have go := k σ
    cases d with
    | lst ds =>
      refine .inl (go _ w ρ μ S E ?_)
      rw [hf]
      intro w1 s1 S1 v r1
      obtain ⟨μ', S2, q⟩ := h w1 s1 S1
      obtain ⟨a, vs, e1, h1, h2⟩ := r1
      refine ⟨a, vs, congrArg (fun z => [z]) e1, .inl (.inl h1.1), q w1 Step.refl S2 _ (wk_enumG fun w' kp => ?_)⟩
      have hL : SqL X.K w'.H a vs := .inl (.inl (kp.at_ a _ h1.2.1 h1.2.2 h1.1).1)
      refine ⟨vs, h2.mono kp, fun i v hv => ⟨⟨vs, v, hL, hv⟩, fun x H2 ⟨T, x', ex, hT, hH, hx⟩ => ⟨T, ex, hT, ?_⟩⟩, fun i hi => ⟨vs, hL, hi⟩⟩
      have := hx vs hL
      rw [hv] at this
      cases this
      exact hH
    | tup ds =>
      refine .inr (go _ w ρ μ S E ?_)
      rw [hf]
      intro w1 s1 S1 v r1
      obtain ⟨μ', S2, q⟩ := h w1 s1 S1
      obtain ⟨a, vs, e1, h1, h2⟩ := r1
      refine ⟨a, vs, congrArg (fun z => [z]) e1, h1.sq, q w1 Step.refl S2 _ (wk_enumG fun w' kp => ?_)⟩
      have hL : SqT X.K w'.H a vs := (h1.mono kp).sq
      refine ⟨vs, h2.mono kp, fun i v hv => ⟨⟨vs, v, hL, hv⟩, fun x H2 ⟨T, x', ex, hT, hH, hx⟩ => ⟨T, ex, hT, ?_⟩⟩, fun i hi => ⟨vs, hL, hi⟩⟩
      have := hx vs hL
      rw [hv] at this
      cases this
      exact hH
    | non => exact .inl (go _ w ρ μ S E (by rw [hf]; intro w1 s1 S1 v r1; obtain ⟨μ', S2, q⟩ := h w1 s1 S1; exact q.elim))
    | bl _ => exact .inl (go _ w ρ μ S E (by rw [hf]; intro w1 s1 S1 v r1; obtain ⟨μ', S2, q⟩ := h w1 s1 S1; exact q.elim))
    | int _ => exact .inl (go _ w ρ μ S E (by rw [hf]; intro w1 s1 S1 v r1; obtain ⟨μ', S2, q⟩ := h w1 s1 S1; exact q.elim))
    | str _ => exact .inl (go _ w ρ μ S E (by rw [hf]; intro w1 s1 S1 v r1; obtain ⟨μ', S2, q⟩ := h w1 s1 S1; exact q.elim))
    | flst _ => exact .inl (go _ w ρ μ S E (by rw [hf]; intro w1 s1 S1 v r1; obtain ⟨μ', S2, q⟩ := h w1 s1 S1; exact q.elim))
    | obj _ _ _ => exact .inl (go _ w ρ μ S E (by rw [hf]; intro w1 s1 S1 v r1; obtain ⟨μ', S2, q⟩ := h w1 s1 S1; exact q.elim))
    | ptr _ => exact .inl (go _ w ρ μ S E (by rw [hf]; intro w1 s1 S1 v r1; obtain ⟨μ', S2, q⟩ := h w1 s1 S1; exact q.elim))
    | dct _ _ => exact .inl (go _ w ρ μ S E (by rw [hf]; intro w1 s1 S1 v r1; obtain ⟨μ', S2, q⟩ := h w1 s1 S1; exact q.elim))
    | loc _ => exact .inl (go _ w ρ μ S E (by rw [hf]; intro w1 s1 S1 v r1; obtain ⟨μ', S2, q⟩ := h w1 s1 S1; exact q.elim))
end Fw
set_option Elab.async false
set_option linter.all false
set_option maxRecDepth 100000
set_option autoImplicit false
namespace Fw
open PySem L2 PyProof.Rows
/-- a method as the top has left it -/
structure Dm (P : Program) (W : World) (K : PySem.W.Frag) (cls : Nat → Option Addr) (mg : Str → Option Value) (base : Heap) (k : Nat) (f : Addr) (n : Nat) (F : List D → Store → Res D) : Prop where
  ex : ∃ (fd : FuncData) (ps : List Str), FnOk P W K mg base (CX P W) k f fd ps (spD K cls F n) ∧ Binds K fd ps [] ∧ ps.length = n
/-- an own class -/
structure Kl1 (K : PySem.W.Frag) (cls : Nat → Option Addr) (c : Nat) (C : Addr) : Prop where
  at_ : cls c = some C
  cl : Cls K C
def putNs (f : Str) : List Str → List Str
  | [] => [f]
  | g :: r => if g = f then g :: r else g :: putNs f r
def putXs {α : Type} (f : Str) (d : α) : List Str → List α → List α
  | g :: r, x :: xs => if g = f then d :: xs else x :: putXs f d r xs
  | _, _ => [d]
theorem putF_zip (f : Str) (y : V) : ∀ (ns : List Str) (vs : List V), ns.length = vs.length → putF f y (ns.zip vs) = (putNs f ns).zip (putXs f y ns vs)
  | [], [], _ => rfl
  | g :: r, x :: xs, h => by
    show (if g = f then (g, y) :: r.zip xs else (g, x) :: putF f y (r.zip xs)) = (if g = f then g :: r else g :: putNs f r).zip (if g = f then y :: xs else x :: putXs f y r xs)
    by_cases e : g = f
    · rw [if_pos e, if_pos e, if_pos e]; rfl
    · rw [if_neg e, if_neg e, if_neg e, putF_zip f y r xs (by simpa using h)]; rfl
theorem put_len {α : Type} (f : Str) (y : α) : ∀ (ns : List Str) (vs : List α), ns.length = vs.length → (putNs f ns).length = (putXs f y ns vs).length
  | [], [], _ => rfl
  | g :: r, x :: xs, h => by
    show (if g = f then g :: r else g :: putNs f r).length = (if g = f then y :: xs else x :: putXs f y r xs).length
    have := put_len f y r xs (by simpa using h)
    split <;> simp_all
theorem RVs.put {K : PySem.W.Frag} {cls : Nat → Option Addr} {w : Wd} {f : Str} {d : D} {y : V} (h : RV K cls w d y) : ∀ {ns : List Str} {ds : List D} {vs : List V}, RVs K cls w ds vs → RVs K cls w (putXs f d ns ds) (putXs f y ns vs)
  | [], _, _, _ => ⟨y, [], rfl, h, rfl⟩
  | g :: r, [], _, t => by rw [show _ = [] from t]; exact ⟨y, [], rfl, h, rfl⟩
  | g :: r, e :: ds, _, ⟨v, vs, q, t1, t2⟩ => by
    rw [q]
    show RVs K cls w (if g = f then d :: ds else e :: putXs f d r ds) (if g = f then y :: vs else v :: putXs f y r vs)
    split
    · exact ⟨y, vs, rfl, h, t2⟩
    · exact ⟨v, _, rfl, t1, RVs.put h t2⟩
theorem RVs.lookup {K : PySem.W.Frag} {cls : Nat → Option Addr} {w : Wd} {f : Str} {d : D} : ∀ {ns : List Str} {ds : List D} {vs : List V}, RVs K cls w ds vs → (ns.zip ds).lookup f = some d → ∃ v, (ns.zip vs).lookup f = some v ∧ RV K cls w d v
  | [], _, _, _, h => by simp at h
  | g :: r, [], _, _, h => by simp at h
  | g :: r, e :: ds, _, ⟨v, vs, q, t1, t2⟩, h => by
    rw [q]
    rw [List.zip_cons_cons, List.lookup_cons] at h ⊢
    by_cases e : (f == g) = true
    · rw [e] at h ⊢
      cases h
      exact ⟨v, rfl, t1⟩
    · have e : (f == g) = false := by simpa using e
      rw [e] at h ⊢
      exact RVs.lookup t2 h
def insOf (c : Nat) (μ : Store) : D → Option (List Str × List D)
  | .obj c' ns ds => if c' = c then some (ns, ds) else none
  | .loc n => match μ[n]? with
    | some (.ins c' ns ds) => if c' = c then some (ns, ds) else none
    | _ => none
  | _ => none
theorem insOf_at {K : PySem.W.Frag} {cls : Nat → Option Addr} {w : Wd} {μ : Store} (S : RelS K cls w μ) {c : Nat} {C : Addr} (hc : cls c = some C) {d : D} {x : V} {ns : List Str} {ds : List D} (r : RV K cls w d x) (h : insOf c μ d = some (ns, ds)) :
    ∃ a dx vs, x = .ref a ∧ w.H a = some (.ins C dx (ns.zip vs)) ∧ ns.length = vs.length ∧ RVs K cls w ds vs := by
  cases d with
  | obj c' ns' ds' =>
    simp only [insOf] at h
    split at h
    · rename_i e
      cases h
      subst e
      obtain ⟨a, C', dx, vs, e1, e2, ⟨e3, _⟩, e4, e5⟩ := r
      rw [hc] at e2
      cases e2
      exact ⟨a, dx, vs, e1, e3, e4, e5⟩
    · cases h
  | loc n =>
    simp only [insOf] at h
    split at h
    · rename_i c' ns' ds' hm
      split at h
      · rename_i e
        cases h
        subst e
        obtain ⟨a, e1, hn⟩ := r
        obtain ⟨a', h1, C', dx, vs, e2, e3, e4, e5⟩ := S.cell n _ hm
        rw [hn] at h1
        cases h1
        rw [hc] at e2
        cases e2
        exact ⟨a, dx, vs, e1, e3, e4, e5⟩
      · cases h
    · cases h
  | _ => cases h
def eFld (c : Nat) (f : Str) (fa : FE) : FE := fun ρ μ => (fa ρ μ).bind fun d μ1 => match insOf c μ1 d with
  | some (ns, ds) => match (ns.zip ds).lookup f with
    | some e => .ok e μ1
    | none => .stuck
  | none => .stuck
def eProp (c : Nat) (F : List D → Store → Res D) (fa : FE) : FE := fun ρ μ => (fa ρ μ).bind fun d μ1 => match insOf c μ1 d with
  | some _ => (F [d] μ1).mute
  | none => .stuck
def sFld (c : Nat) (f : Str) (fo fv : FE) : FS := fun ρ μ => rS ρ (fv ρ μ) fun e μ1 => rS ρ (fo ρ μ1) fun d μ2 => match d with
  | .loc n => match μ2[n]? with
    | some (.ins c' ns ds) => if c' = c ∧ ns.length < 900 then .nx ρ (μ2.set n (.ins c (putNs f ns) (putXs f e ns ds))) else .stuck
    | _ => .stuck
  | _ => .stuck
def cLenO (c : Nat) (F : List D → Store → Res D) : List D → Store → Res D := fun ds μ => match ds with
  | [d] => match insOf c μ d with
    | some _ => (F [d] μ).mute.bind fun e μ1 => match e with
      | .int n => if 0 ≤ n ∧ n < 1000000 then .ok (.int n) μ1 else .stuck
      | _ => .stuck
    | none => cLen [d] μ
  | _ => .stuck
/-- C(..) -/
def eMake (c n : Nat) (F : List D → Store → Res D) (fs : FA) : FE := fun ρ μ => (fs ρ μ).bind fun ds μ1 => if ds.length + 1 = n then match F (.loc μ1.length :: ds) (μ1 ++ [.ins c [] []]) with
    | .ok .non μ2 => match μ2[μ1.length]? with
      | some (.ins c' ns es) => if (decide (c' = c) && decide (μ2.length = μ1.length + 1) && lows μ1.length es && (μ2.take μ1.length).all (lowC μ1.length)) = true then .ok (.obj c ns es) (μ2.take μ1.length) else .stuck
      | _ => .stuck
    | .err k ns es μ2 => if (lows μ1.length es && (μ2.take μ1.length).all (lowC μ1.length)) = true then .err k ns es (μ2.take μ1.length) else .stuck
    | _ => .stuck
  else .stuck
theorem passes_nox {X : Cx} : Passes (CX X.prog X.w) X.nox E00 := fun _ _ _ _ _ _ _ ⟨_, _, _, _, _, _, _, _, _, _, _, _, e⟩ => e.elim
section
variable {X : Cx} {W : WX} {cls : Nat → Option Addr} {e o v : Expr} {fe fo fv : FE} {c : Nat} {C : Addr} {f : Str} {pos pos' : Pos}
theorem se_fld (T : Kl1 X.K cls c C) (hn : NoAttr X.K C f) (he : SE X W cls e fe) (hb : attributeBase e f X.env (eval e X.env) = eval e X.env := by rfl) : SE X W cls (.Attribute e f pos) (eFld c f fe) := by
  obtain ⟨t1, p1, h1⟩ := he
  refine ⟨_, pe_fld p1 hb, fun σ Q w ρ μ S E h => ?_⟩
  refine h1 σ _ w ρ μ S E ((PostR.bind h).imp fun w1 d s1 ⟨μ1, S1, q1⟩ x r1 => ?_)
  split at q1
  · rename_i ns ds hd
    split at q1
    · rename_i y hy
      obtain ⟨a, dx, vs, e1, e2, e3, e4⟩ := insOf_at S1 T.at_ r1 hd
      obtain ⟨u, hu, ru⟩ := e4.lookup hy
      exact ⟨a, C, dx, _, u, e1, e2, T.cl, hn, hu, q1 w1 Step.refl S1 u ru⟩
    · exact q1.elim
  · exact q1.elim
theorem se_prop {p g : Addr} {k : Nat} {F : List D → Store → Res D} (T : Kl1 X.K cls c C) (hp : PropOf X.K C f p g) (G : Dm X.prog X.w X.K cls X.mg X.base k g 1 F) (hr : Room (k + 1) X.A) (he : SE X W cls e fe) (hb : attributeBase e f X.env (eval e X.env) = eval e X.env := by rfl) :
    SE X W cls (.Attribute e f pos) (eProp c F fe) := by
  obtain ⟨t1, p1, h1⟩ := he
  obtain ⟨fd, ps, hf, hbd, hl⟩ := G.ex
  refine ⟨_, pe_prop p1 T.cl hp hf hr hbd .nil passes_nox hb, fun σ Q w ρ μ S E h => ?_⟩
  refine h1 σ _ w ρ μ S E ((PostR.bind h).imp fun w1 d s1 ⟨μ1, S1, q1⟩ x r1 => ?_)
  split at q1
  · rename_i hd
    obtain ⟨a, dx, vs, e1, e2, e3, e4⟩ := insOf_at S1 T.at_ r1 hd
    subst e1
    exact ⟨a, dx, _, rfl, e2, w1, [d], μ1, rfl, rfl, S1, .cons r1 .nil, q1.mute⟩
  · exact q1.elim
theorem ss_fld (T : Kl1 X.K cls c C) (hn : NoAttr X.K C f) (ho : SE X W cls o fo) (hv : SE X W cls v fv) (hs : swapsWith v (some (.Attribute o f pos')) pos.line X.env = pure false := by rfl) : SS X W cls (.Assign [.Attribute o f pos'] v pos) (sFld c f fo fv) := by
  obtain ⟨t1, p1, h1⟩ := ho
  obtain ⟨t2, p2, h2⟩ := hv
  refine ⟨_, ps_fld p1 p2 hs, fun D σ w ρ μ S E h => ?_⟩
  refine h2 σ _ w ρ μ S E ((PostS.bind E h).imp fun w1 d s1 ⟨μ1, S1, q1⟩ x r1 => ?_)
  refine h1 σ _ w1 ρ μ1 S1 (E.mono s1.kp) ((PostS.bind (E.mono s1.kp) q1).imp fun w2 e s2 ⟨μ2, S2, q2⟩ y r2 => ?_)
  cases e with
  | loc n =>
    simp only at q2
    split at q2
    · rename_i c' ns ds hm
      split at q2
      · rename_i hc
        obtain ⟨rfl, hl⟩ := hc
        obtain ⟨a, e1, hn'⟩ := r2
        obtain ⟨a', h1', C', dx, vs, e2, e3, e4, e5⟩ := S2.cell n _ hm
        rw [hn'] at h1'
        cases h1'
        rw [T.at_] at e2
        cases e2
        refine ⟨a, C, dx, _, e1, e3, T.cl, hn, by rw [List.length_zip, ← e4]; omega, ?_⟩
        have kw := (Step.write (o := .ins C dx (putF f x (ns.zip vs))) hn').kp
        refine q2 (w2.up a (.ins C dx (putF f x (ns.zip vs)))) σ (Step.write hn') (S2.write hn' ⟨C, dx, putXs f x ns vs, T.at_, ?_, put_len f x ns vs e4, (e5.mono kw).put ((r1.mono s2.kp).mono kw)⟩) (E.mono ((s1.trans s2).trans (Step.write hn')).kp)
        show upd w2.H a _ a = _
        rw [upd_same, putF_zip f x ns vs e4]
      · exact q2.elim
    · exact q2.elim
  | _ => exact q2.elim
theorem call_lenOwn {k : Nat} {g : Addr} {F : List D → Store → Res D} (T : Kl1 X.K cls c C) (hs : PySem.W.findIn X.K (.ref C) "__len__" = some (some (.ref g))) (hf : PySem.W.isFn X.K (.ref g) = true) (G : Dm X.prog X.w X.K cls X.mg X.base k g 1 F) (hr : Room (k + 1) X.A) :
    CallR X (.builtin "len") (fun xs H Q => ∃ a dx fs, xs = [.ref a] ∧ H a = some (.ins C dx fs) ∧ spD X.K cls F 1 [.ref a] H (fun v H' => ∃ n, v = .int n ∧ 0 ≤ n ∧ n < 2 ^ 63 ∧ Q (.int n) H') E00) := by
  intro pins s σ H xs us Q I r h
  obtain ⟨a, dx, fs, rfl, ea, hsp⟩ := h
  obtain ⟨u, rfl, ru⟩ := vals1 r
  cases ru
  obtain ⟨mA, O, _⟩ := ins_get I.hok ea
  obtain ⟨od, J, _⟩ := O.look
  obtain ⟨m, hF⟩ := I.fr
  obtain ⟨fd, ps, hfn, hbd, hl⟩ := G.ex
  refine PySem.W.len_K hF I.ok.mod.kin J hs hf ?_
  have hb := hbd s [.ref a] I.kIn (by simpa using hl.symm)
  refine wpAny_call (codeAny_mono (hfn.run X.A.in1 X.stack s H ⟨[.ref a], []⟩ [.ref a] [.ref a] _ E00 hr.in1 I.env0.in1 (by simpa using hb) (.cons rfl .nil) hsp) fun r s' hq => ?_)
  cases r with
  | error er => obtain ⟨_, _, _, _, _, _, _, _, _, _, _, _, _, e⟩ := hq
  | ok fl =>
    cases fl with
    | ret u =>
      obtain ⟨v, H', I3, rv, n, ev, h0, h1, q3⟩ := I.after hq
      subst ev
      obtain ⟨t, rfl⟩ := rv
      exact ⟨⟨h0, h1⟩, .int n, H', I3.tok _, ⟨_, rfl⟩, q3⟩
    | next => exact False.elim hq
    | brk => exact False.elim hq
    | cont => exact False.elim hq
theorem cv_lenO {k : Nat} {g : Addr} {F : List D → Store → Res D} (T : Kl1 X.K cls c C) (hs : PySem.W.findIn X.K (.ref C) "__len__" = some (some (.ref g))) (hf : PySem.W.isFn X.K (.ref g) = true) (G : Dm X.prog X.w X.K cls X.mg X.base k g 1 F) (hr : Room (k + 1) X.A) :
    CV X cls (.builtin "len") (cLenO c F) := by
  obtain ⟨r0, c0, h0⟩ := cv_len (X := X) (cls := cls)
  refine ⟨_, c0.or (call_lenOwn T hs hf G hr), fun w μ Er ds xs Q S r h => ?_⟩
  unfold cLenO at h
  split at h
  · rename_i d
    split at h
    · rename_i ns ds hd
      obtain ⟨x, rfl, r1⟩ := r.one
      obtain ⟨a, dx, vs, e1, e2, e3, e4⟩ := insOf_at S T.at_ r1 hd
      subst e1
      refine .inr ⟨a, dx, _, rfl, e2, w, [d], μ, rfl, rfl, S, r, (PostR.mute (PostR.bind h)).imp fun w1 e s1 ⟨μ1, S1, q1⟩ v rv => ?_⟩
      cases e with
      | int n =>
        simp only at q1
        split at q1
        · rename_i hn
          exact ⟨n, rv, hn.1, by omega, q1 w1 Step.refl S1 _ rfl⟩
        · exact q1.elim
      | _ => exact q1.elim
    · exact .inl (h0 w μ _ [d] xs Q S r h)
  · exact h.elim
end
end Fw
set_option Elab.async false
set_option linter.all false
set_option maxRecDepth 100000
set_option autoImplicit false
namespace Fw
open PySem L2 PyProof.Rows
abbrev lit (s : String) : List Nat := (PySem.Str.ofString s).cps.toList
/-- a module's constant, whatever object it is -/
structure Gv (K : PySem.W.Frag) (cls : Nat → Option Addr) (mg : Str → Option Value) (x : Str) (d : D) : Prop where
  ex : ∃ (v : V) (u : Value), mg x = some u ∧ RelV v u ∧ ∀ w, RV K cls w d v
section
variable {X : Cx} {W : WX} {cls : Nat → Option Addr} {a b c : Expr} {fa fb fc : FE} {pos : Pos}
theorem se_globG {x : Str} {d : D} (hg : Gl X x) (G : Gv X.K cls X.mg x d) (hd : (x == ("__debug__" : Str)) = false := by decide +kernel) : SE X W cls (.Name x pos) (eC d) := by
  obtain ⟨v, u, hm, r, rd⟩ := G.ex
  exact se_glob hg hm r rd hd
def eNeg (fa : FE) : FE := fun ρ μ => (fa ρ μ).bind fun x μ1 => match x with
  | .int i => .ok (.int (-i)) μ1
  | _ => .stuck
end
section
variable {P : Program} {W : World} {K : PySem.W.Frag} {cls : Nat → Option Addr} {mg : Str → Option Value} {base : Heap} {x qual : Str} {st : Stmt} {f : Addr} {fd : FuncData} {N ps : List Str} {k : Nat} {g : FS}
theorem dm_mk (F : Fun K x qual st f fd) (b : Binds K fd ps []) (S : FnScope N ps (defScope st))
    (hb : ∀ (cdv : Value) (A : Around) (outer : List PySem.Env) (s : Shared) (H : Hp) (E : XK), Room k (A.deeper (envOfC qual (defScope st) s.heap.objs.size f cdv)) → Takes (cxOf (CX P W) P W K mg base N qual (defScope st) f cdv A outer s H E) (WD E) →
      SSs (cxOf (CX P W) P W K mg base N qual (defScope st) f cdv A outer s H E) (WD E) cls (defBody st) g) :
    Dm P W K cls mg base (k + 1) f ps.length (mD N.length g) := ⟨fd, ps, fn_mk F S hb, b, rfl⟩
end
end Fw
set_option Elab.async false
set_option linter.all false
set_option maxRecDepth 100000
set_option autoImplicit false
namespace Fw
open PySem L2 PyProof.Rows
section
variable {K : PySem.W.Frag} {cls : Nat → Option Addr} {h : Heap} {mg : Str → Option Value} {x : Str}
theorem gv_int {i : Int} {t : Tok} (X : K.In h) (G : h.Ns mainGlobals mg) (a : PySem.W.nsIn K mainGlobals x = some (some (.int i t))) : Gv K cls mg x (.int i) := ⟨.int i, .int i t, PySem.W.mg_of X G a, ⟨t, rfl⟩, fun _ => rfl⟩
theorem gv_str {s : String} {t : Tok} (X : K.In h) (G : h.Ns mainGlobals mg) (a : PySem.W.nsIn K mainGlobals x = some (some (.str (PySem.Str.ofString s) t))) : Gv K cls mg x (.str (lit s)) :=
  ⟨.str (PySem.Str.ofString s), .str _ t, PySem.W.mg_of X G a, ⟨t, rfl⟩, fun _ => by
    show V.str _ = V.str ⟨(PySem.Str.ofString s).cps.toList.toArray⟩
    rw [Array.toArray_toList]⟩
theorem gv_tup {p : Addr} {dd : Option Addr} {its : Array Value} {n : Nat} {sl : Array (Option Value)} {vs : List V} {ds : List D} (X : K.In h) (G : h.Ns mainGlobals mg) (a : PySem.W.nsIn K mainGlobals x = some (some (.ref p)))
    (l : K.lookup p = some ⟨.type "tuple", dd, .seq its n, sl⟩) (hz : its.size ≤ LIM) (hv : Vals vs its.toList) (hr : ∀ w, RVs K cls w ds vs) : Gv K cls mg x (.tup ds) :=
  ⟨.ref p, .ref p, PySem.W.mg_of X G a, rfl, fun w => ⟨p, vs, rfl, .inr (.inr ⟨_, its, n, l, rfl, rfl, lim_le hz, hv⟩), hr w⟩⟩
theorem fn_fin {P : Program} {W : World} {base : Heap} {k : Nat} {f : Addr} {fd : FuncData} {ps : List Str} {m n : Nat} {g : FS} (hf : FnOk P W K mg base (CX P W) k f fd ps (spD K cls (mD m g) n)) : FnOk P W K mg base (CX P W) k f fd ps (spD K cls (mDf m g) n) :=
  hf.imp fun vs H Q E h => by
    obtain ⟨w, ds, μ, e, hl, S, r, h⟩ := h
    exact ⟨w, ds, μ, e, hl, S, r, fin_ok S h⟩
/-- no tables -/
abbrev NoTab (cls : Nat → Option Addr) : Prop := ∀ k, 50 ≤ k → k < 100 → cls k = none
theorem law_sp (hno : NoTab cls) {F : List D → Store → Res D} (hF : ∀ ns : List Int, ns.length ≤ 63 → ∃ μ, F [.flst ns] [] = .ok (.bl true) μ) {H : Hp} {a : Addr} {ns : List Int} (hl : ns.length ≤ 63) (hO : Only H) (hS : SqL K H a (ns.map V.int)) :
    spD K cls F 1 [.ref a] H (fun v _ => v = .bl true) (fun _ _ _ => False) := by
  obtain ⟨μ, e⟩ := hF ns hl
  refine ⟨⟨none, [], [], H⟩, [.flst ns], [], rfl, rfl, ⟨rfl, List.nodup_nil, (fun b hb => by simp at hb), (fun n c e => by simp at e), (fun k P h1 h2 h3 => by rw [hno k h1 h2] at h3; cases h3), (fun j k P h1 _ h3 => by rw [hno j h1.1 h1.2] at h3; cases h3)⟩, .cons ⟨a, rfl, ?_⟩ .nil, ?_⟩
  · rcases hS with (hS | ⟨o, hS⟩) | hS
    · rcases hO a with z | ⟨o, xs, z⟩
      · rw [hS] at z; cases z
      · rw [hS] at z; cases z
    · exact .inl ⟨⟨o, hS⟩, by simp, by simp⟩
    · exact .inr (.inr hS)
  · rw [e]
    exact fun w' s S v r => r
end
/-- the law's promise, whatever the classes' places -/
def spA (K : PySem.W.Frag) (F : List D → Store → Res D) : Sp := fun vs H Q E => ∀ cls, NoTab cls → spD K cls F 1 vs H Q E
theorem fn_any {P : Program} {W : World} {K : PySem.W.Frag} {cls : Nat → Option Addr} {mg : Str → Option Value} {base : Heap} {k : Nat} {f : Addr} {fd : FuncData} {ps : List Str} {F : List D → Store → Res D} (hf : FnOk P W K mg base (CX P W) k f fd ps (spD K cls F 1)) (hno : NoTab cls) : FnOk P W K mg base (CX P W) k f fd ps (spA K F) :=
  hf.imp fun vs H Q E h => h cls hno
theorem law_spA {K : PySem.W.Frag} {F : List D → Store → Res D} (hF : ∀ ns : List Int, ns.length ≤ 63 → ∃ μ, F [.flst ns] [] = .ok (.bl true) μ) {H : Hp} {a : Addr} {ns : List Int} (hl : ns.length ≤ 63) (hO : Only H) (hS : SqL K H a (ns.map V.int)) :
    spA K F [.ref a] H (fun v _ => v = .bl true) (fun _ _ _ => False) := fun _ hno => law_sp hno hF hl hO hS
end Fw
set_option Elab.async false
set_option linter.all false
set_option maxRecDepth 100000
set_option autoImplicit false
namespace Fw
open PySem L2
section
variable {α β : Type} {ρ : Env} {μ : Store} {fa fb fc fd fe fo fi fv : FE} {fs fr : FA} {ft c c' : FT} {g g' : D → D → Store → Res D} {F : List D → Store → Res D} {n i j k : Nat} {s s' : FS}
theorem bok {a : α} {f : α → Store → Res β} : (Res.ok a μ).bind f = f a μ := (rfl)
theorem sok {a : α} {f : α → Store → SR} : rS ρ (.ok a μ) f = f a μ := (rfl)
@[simp] theorem eVar_ev : eVar i ρ μ = match ρ[i]? with | some (some d) => .ok d μ | _ => .stuck := (rfl)
@[simp] theorem eC_ev {d : D} : eC d ρ μ = .ok d μ := (rfl)
@[simp] theorem eBin_ev : eBin g fa fb ρ μ = (fa ρ μ).bind fun x μ1 => (fb ρ μ1).bind fun y μ2 => g x y μ2 := (rfl)
@[simp] theorem aNil_ev : aNil ρ μ = .ok [] μ := (rfl)
@[simp] theorem aCons_ev : aCons fa fr ρ μ = (fa ρ μ).bind fun x μ1 => (fr ρ μ1).bind fun xs μ2 => .ok (x :: xs) μ2 := (rfl)
@[simp] theorem eTup_ev : eTup fs ρ μ = (fs ρ μ).bind fun ds μ1 => if ds.length ≤ LIM then .ok (.tup ds) μ1 else .stuck := (rfl)
@[simp] theorem eLst_ev : eLst fs ρ μ = (fs ρ μ).bind fun ds μ1 => if ds.length ≤ LIM then .ok (.lst ds) μ1 else .stuck := (rfl)
@[simp] theorem eCall_ev : eCall F fs ρ μ = (fs ρ μ).bind fun ds μ1 => F ds μ1 := (rfl)
@[simp] theorem eCallD_ev : eCallD n F fs ρ μ = (fs ρ μ).bind fun ds μ1 => if ds.length = n then F ds μ1 else .stuck := (rfl)
@[simp] theorem tB_ev : tB fa ρ μ = (fa ρ μ).bind fun x μ1 => match x with | .bl b => .ok b μ1 | _ => .stuck := (rfl)
@[simp] theorem tNot_ev : tNot c ρ μ = (c ρ μ).bind fun b μ1 => .ok (!b) μ1 := (rfl)
@[simp] theorem tAnd_ev : tAnd c c' ρ μ = (c ρ μ).bind fun b μ1 => if b then c' ρ μ1 else .ok false μ1 := (rfl)
@[simp] theorem tOr_ev : tOr c c' ρ μ = (c ρ μ).bind fun b μ1 => if b then .ok true μ1 else c' ρ μ1 := (rfl)
@[simp] theorem eIf_ev : eIf c fa fb ρ μ = (c ρ μ).bind fun b μ1 => if b then fa ρ μ1 else fb ρ μ1 := (rfl)
@[simp] theorem eNot_ev : eNot fa ρ μ = (fa ρ μ).bind fun x μ1 => match x with | .bl b => .ok (.bl (!b)) μ1 | _ => .stuck := (rfl)
@[simp] theorem eAnd_ev : eAnd fa fb ρ μ = (fa ρ μ).bind fun x μ1 => match x with | .bl b => if b then fb ρ μ1 else .ok (.bl false) μ1 | _ => .stuck := (rfl)
@[simp] theorem eOr_ev : eOr fa fb ρ μ = (fa ρ μ).bind fun x μ1 => match x with | .bl b => if b then .ok (.bl true) μ1 else fb ρ μ1 | _ => .stuck := (rfl)
@[simp] theorem eChain_ev : eChain g g' fa fb fc ρ μ = (fa ρ μ).bind fun x μ1 => (fb ρ μ1).bind fun y μ2 => (g x y μ2).bind fun z μ3 => match z with
  | .bl b => if b then (fc ρ μ3).bind fun u μ4 => (g' y u μ4).bind fun z' μ5 => match z' with
      | .bl b' => .ok (.bl b') μ5
      | _ => .stuck
    else .ok (.bl false) μ3
  | _ => .stuck := (rfl)
@[simp] theorem oNone_ev : oNone ρ μ = .ok none μ := (rfl)
@[simp] theorem oSome_ev : oSome fa ρ μ = (fa ρ μ).bind fun d μ1 => match d with | .int i => .ok (some i) μ1 | _ => .stuck := (rfl)
@[simp] theorem eCut_ev {fl fh : FO} : eCut fa fl fh ρ μ = (fa ρ μ).bind fun d μ1 => (fl ρ μ1).bind fun l μ2 => (fh ρ μ2).bind fun u μ3 => oCut d l u μ3 := (rfl)
@[simp] theorem eIsi_ev {T : String} : eIsi T fa ρ μ = (fa ρ μ).bind fun d μ1 => match tyName μ1 d with
  | some t => match kitB t T with
    | some b => .ok (.bl b) μ1
    | none => .stuck
  | none => .stuck := (rfl)
@[simp] theorem eJoin_ev : eJoin fo fe ρ μ = (fo ρ μ).bind fun d μ1 => match d with | .str s => (fe ρ μ1).bind fun e μ2 => oJoin (.str s) e μ2 | _ => .stuck := (rfl)
@[simp] theorem eLm_ev : eLm g fo fe ρ μ = (fo ρ μ).bind fun d μ1 => if isL μ1 d = true then (fe ρ μ1).bind fun e μ2 => g d e μ2 else .stuck := (rfl)
@[simp] theorem sNext_ev : sNext ρ μ = .nx ρ μ := (rfl)
@[simp] theorem sSeq_ev : sSeq s s' ρ μ = match s ρ μ with | .nx ρ1 μ1 => s' ρ1 μ1 | r => r := (rfl)
@[simp] theorem sIf_ev : sIf c s s' ρ μ = rS ρ (c ρ μ) fun b μ1 => if b = true then s ρ μ1 else s' ρ μ1 := (rfl)
@[simp] theorem sRet_ev : sRet fe ρ μ = rS ρ (fe ρ μ) fun d μ1 => .rt d μ1 := (rfl)
@[simp] theorem sExpr_ev : sExpr fe ρ μ = rS ρ (fe ρ μ) fun _ μ1 => .nx ρ μ1 := (rfl)
@[simp] theorem sNever_ev : sNever ρ μ = .stuck := (rfl)
@[simp] theorem sAsg_ev {g : D → Env → Store → Res Env} : sAsg g fe ρ μ = rS ρ (fe ρ μ) fun d μ1 => rS ρ (g d ρ μ1) fun ρ1 μ2 => .nx ρ1 μ2 := (rfl)
@[simp] theorem gVar_ev {d : D} : gVar i d ρ μ = if i < ρ.length then .ok (ρ.set i (some d)) μ else .stuck := (rfl)
@[simp] theorem gNil_ev : gNil [] ρ μ = .ok ρ μ := (rfl)
@[simp] theorem gCons_ev {g : D → Env → Store → Res Env} {h : List D → Env → Store → Res Env} {d : D} {r : List D} : gCons g h (d :: r) ρ μ = (g d ρ μ).bind fun ρ1 μ1 => h r ρ1 μ1 := (rfl)
@[simp] theorem gTup_ev {h : List D → Env → Store → Res Env} {ds : List D} : gTup n h (.tup ds) ρ μ = if ds.length = n then h ds ρ μ else .stuck := (rfl)
@[simp] theorem gIx_ev {v : D} : gIx fo fi v ρ μ = (fo ρ μ).mute.bind fun d μ1 => (fi ρ μ1).mute.bind fun e μ2 => match d, e with
  | .loc n, .int i => match μ2[n]? with
    | some (.lst es) => match ixN es.length i with
      | some j => .ok ρ (μ2.set n (.lst (es.set j v)))
      | none => .stuck
    | _ => .stuck
  | _, _ => .stuck := (rfl)
@[simp] theorem sAug_ev : sAug i g fe ρ μ = match ρ[i]? with
  | some (some x) => rS ρ (fe ρ μ) fun y μ1 => rS ρ (g x y μ1) fun z μ2 => if i < ρ.length then .nx (ρ.set i (some z)) μ2 else .stuck
  | _ => .stuck := (rfl)
@[simp] theorem sPar_ev : sPar i j fa fb ρ μ = rS ρ (fa ρ μ) fun x μ1 => rS ρ (fb ρ μ1) fun y μ2 => if i < ρ.length ∧ j < ρ.length then .nx ((ρ.set i (some x)).set j (some y)) μ2 else .stuck := (rfl)
@[simp] theorem sAsg2_ev {g1 g2 : D → Env → Store → Res Env} : sAsg2 g1 g2 fe ρ μ = rS ρ (fe ρ μ) fun d μ1 => rS ρ (g1 d ρ μ1) fun ρ1 μ2 => rS ρ1 (g2 d ρ1 μ2) fun ρ2 μ3 => .nx ρ2 μ3 := (rfl)
@[simp] theorem iOf_ev : iOf fe ρ μ = (fe ρ μ).bind fun d μ1 => oWalk d μ1 := (rfl)
@[simp] theorem iEnumD_ev : iEnumD fe ρ μ = (fe ρ μ).bind fun d μ1 => oEnum d μ1 := (rfl)
def rangeR (d : D) (μ : Store) : Res (List D × Option Nat) := match d with
  | .int j => if -1000000 ≤ j ∧ j ≤ 1000000 then .ok ((List.range j.toNat).map fun i => .int (0 + (i : Nat)), none) μ else .stuck
  | _ => .stuck
def rg (n : Nat) : List D := (List.range n).map fun i => .int (i : Nat)
@[simp] theorem iRange1_ev : iRange1 fa ρ μ = (fa ρ μ).bind fun d μ1 => rangeR d μ1 := (rfl)
theorem rangeR_nat (h : n ≤ 1000000) : rangeR (.int (n : Nat)) μ = .ok (rg n, none) μ := by
  have h1 : (-1000000 : Int) ≤ (n : Nat) ∧ ((n : Nat) : Int) ≤ 1000000 := by omega
  simp only [rangeR, if_pos h1, rg, Int.toNat_natCast, Int.zero_add]
@[simp] theorem sFor_ev {fi : FI} {g : D → Env → Store → Res Env} : sFor fi g s ρ μ = rS ρ (fi ρ μ) fun it μ1 => forL it.1 it.2 g s it.1 ρ μ1 := (rfl)
@[simp] theorem eLc_ev {vs : List Nat} {fi : FI} {g : D → Env → Store → Res Env} : eLc vs fi g ft fe ρ μ = (fi ρ μ).bind fun it μ1 => lcL it.1 it.2 g ft fe (wipeE ρ vs) it.1 μ1 [] := (rfl)
@[simp] theorem mD_ev {ds : List D} : mD n s ds μ = match s (ds.map some ++ List.replicate (n - ds.length) none) μ with
  | .rt d μ' => .ok d μ'
  | .nx _ μ' => .ok .non μ'
  | .er k ns es _ μ' => .err k ns es μ'
  | _ => .stuck := (rfl)
@[simp] theorem mDf_ev {ds : List D} : mDf n s ds μ = fin μ.length (mD n s ds μ) := (rfl)
@[simp] theorem thaw_ev {ds : List D} : thaw (.ok (.lst ds) μ) = .ok (.loc μ.length) (μ ++ [.lst ds]) := (rfl)
@[simp] theorem eThaw_ev : eThaw fe ρ μ = thaw (fe ρ μ) := (rfl)
@[simp] theorem eTupRg_ev {fi : FI} : eTupRg fi ρ μ = (fi ρ μ).bind fun it μ1 => .ok (.tup it.1) μ1 := (rfl)
@[simp] theorem eNeg_ev : eNeg fa ρ μ = (fa ρ μ).bind fun x μ1 => match x with | .int i => .ok (.int (-i)) μ1 | _ => .stuck := (rfl)
@[simp] theorem eFld_ev {f : Str} : eFld k f fa ρ μ = (fa ρ μ).bind fun d μ1 => match insOf k μ1 d with
  | some (ns, ds) => match (ns.zip ds).lookup f with
    | some e => .ok e μ1
    | none => .stuck
  | none => .stuck := (rfl)
@[simp] theorem eProp_ev : eProp k F fa ρ μ = (fa ρ μ).bind fun d μ1 => match insOf k μ1 d with
  | some _ => (F [d] μ1).mute
  | none => .stuck := (rfl)
@[simp] theorem sFld_ev {f : Str} : sFld k f fo fv ρ μ = rS ρ (fv ρ μ) fun e μ1 => rS ρ (fo ρ μ1) fun d μ2 => match d with
  | .loc n => match μ2[n]? with
    | some (.ins c' ns ds) => if c' = k ∧ ns.length < 900 then .nx ρ (μ2.set n (.ins k (putNs f ns) (putXs f e ns ds))) else .stuck
    | _ => .stuck
  | _ => .stuck := (rfl)
@[simp] theorem eMake_ev : eMake k n F fs ρ μ = (fs ρ μ).bind fun ds μ1 => if ds.length + 1 = n then match F (.loc μ1.length :: ds) (μ1 ++ [.ins k [] []]) with
    | .ok .non μ2 => match μ2[μ1.length]? with
      | some (.ins c' ns es) => if (decide (c' = k) && decide (μ2.length = μ1.length + 1) && lows μ1.length es && (μ2.take μ1.length).all (lowC μ1.length)) = true then .ok (.obj k ns es) (μ2.take μ1.length) else .stuck
      | _ => .stuck
    | .err k ns es μ2 => if (lows μ1.length es && (μ2.take μ1.length).all (lowC μ1.length)) = true then .err k ns es (μ2.take μ1.length) else .stuck
    | _ => .stuck
  else .stuck := (rfl)
@[simp] theorem oAdd_int {a b : Int} : oAdd (.int a) (.int b) μ = .ok (.int (a + b)) μ := (rfl)
@[simp] theorem oAddI_int {a b : Int} : oAddI (.int a) (.int b) μ = .ok (.int (a + b)) μ := (rfl)
@[simp] theorem oSub_int {a b : Int} : oSub (.int a) (.int b) μ = .ok (.int (a - b)) μ := (rfl)
theorem oMul_int {a b : Int} (h : (Sm a || Sm b) = true) : oMul (.int a) (.int b) μ = .ok (.int (a * b)) μ := by simp [oMul, h]
theorem oMod_int {a b : Int} (h : 0 < b) : oMod (.int a) (.int b) μ = .ok (.int (a % b)) μ := by simp [oMod, h]
theorem oFdv_wide {a b : Int} (h : 0 < b) (h2 : b < 4611686018427387904) : oFdv (.int a) (.int b) μ = .ok (.int (a / b)) μ := by
  have h3 : b.natAbs.log2 < 9000 := by
    have h4 : b.natAbs < 2 ^ 62 := by omega
    exact Nat.lt_of_lt_of_le (PySem.Flt.log2_lt_of (by decide) h4) (by decide)
  simp [oFdv, h, h3]
theorem oFdv_int {a b : Int} (h : 0 < b) (h2 : b < 1073741824) : oFdv (.int a) (.int b) μ = .ok (.int (a / b)) μ := oFdv_wide h (by omega)
@[simp] theorem oI_int {p : Int → Int → Bool} {a b : Int} : oI p (.int a) (.int b) μ = .ok (.bl (p a b)) μ := (rfl)
@[simp] theorem oLt_int {a b : Int} : oLt (.int a) (.int b) μ = .ok (.bl (decide (a < b))) μ := (rfl)
@[simp] theorem oLe_int {a b : Int} : oLe (.int a) (.int b) μ = .ok (.bl (decide (a ≤ b))) μ := (rfl)
@[simp] theorem oGt_int {a b : Int} : oGt (.int a) (.int b) μ = .ok (.bl (decide (b < a))) μ := (rfl)
@[simp] theorem oGe_int {a b : Int} : oGe (.int a) (.int b) μ = .ok (.bl (decide (b ≤ a))) μ := (rfl)
@[simp] theorem oNotN_ev {d : D} : oNotN d .non μ = .ok (.bl (!d.isNon)) μ := (rfl)
@[simp] theorem oIsN_ev {d : D} : oIsN d .non μ = .ok (.bl d.isNon) μ := (rfl)
@[simp] theorem cInt_int {a : Int} : cInt [.int a] μ = .ok (.int a) μ := (rfl)
@[simp] theorem cInt_bl {b : Bool} : cInt [.bl b] μ = .ok (.int (if b then 1 else 0)) μ := (rfl)
@[simp] theorem cMax2_ev {a b : Int} : cMax2 [.int a, .int b] μ = .ok (.int (if b > a then b else a)) μ := (rfl)
end
mutual
def pl : Nat → D → Bool
  | _, .int _ => true
  | _, .str s => s.all (· < 0x110000)
  | k + 1, .tup ds => pls k ds
  | k + 1, .lst ds => pls k ds
  | _, _ => false
def pls : Nat → List D → Bool
  | _, [] => true
  | k, d :: ds => pl k d && pls k ds
end
theorem pls_iff {k : Nat} {ds : List D} : pls k ds = true ↔ ∀ d ∈ ds, pl k d = true := by
  induction ds with
  | nil => simp [pls]
  | cons d ds ih => simp [pls, ih]
mutual
theorem pl_lay : ∀ {k : Nat} {d : D}, pl k d = true → (toPy d).canLay0 = true ∧ (toPy d).depth ≤ k + 1
  | _, .int _, _ => by simp [toPy, PyData.canLay0, PyData.depth]
  | _, .str s, h => by
    simp only [pl] at h
    simp [toPy, PyData.canLay0, PyData.depth, PyData.strOk]
    simpa using h
  | 0, .tup ds, h => by simp [pl] at h
  | 0, .lst ds, h => by simp [pl] at h
  | k + 1, .tup ds, h => by
    have := pls_lay (k := k) (ds := ds) (by simpa [pl] using h)
    simp only [toPy, PyData.canLay0, PyData.depth]
    exact ⟨this.1, by omega⟩
  | k + 1, .lst ds, h => by
    have := pls_lay (k := k) (ds := ds) (by simpa [pl] using h)
    simp only [toPy, PyData.canLay0, PyData.depth]
    exact ⟨this.1, by omega⟩
  | 0, .non, h => by simp [pl] at h
  | k + 1, .non, h => by simp [pl] at h
  | 0, .bl _, h => by simp [pl] at h
  | k + 1, .bl _, h => by simp [pl] at h
  | 0, .flst _, h => by simp [pl] at h
  | k + 1, .flst _, h => by simp [pl] at h
  | 0, .obj _ _ _, h => by simp [pl] at h
  | 0, .ptr _, h => by simp [pl] at h
  | 0, .dct _ _, h => by simp [pl] at h
  | k + 1, .obj _ _ _, h => by simp [pl] at h
  | k + 1, .ptr _, h => by simp [pl] at h
  | k + 1, .dct _ _, h => by simp [pl] at h
  | 0, .loc _, h => by simp [pl] at h
  | k + 1, .loc _, h => by simp [pl] at h
theorem pls_lay : ∀ {k : Nat} {ds : List D}, pls k ds = true → PyData.canLayAll0 (toPys ds) = true ∧ PyData.depthAll (toPys ds) ≤ k + 1
  | _, [], _ => by simp [toPys, PyData.canLayAll0, PyData.depthAll]
  | k, d :: ds, h => by
    simp only [pls, Bool.and_eq_true] at h
    have h1 := pl_lay h.1
    have h2 := pls_lay h.2
    simp only [toPys, PyData.canLayAll0, PyData.depthAll, h1.1, h2.1]
    exact ⟨rfl, by omega⟩
end
theorem pl_ok {k : Nat} {d : D} (h : pl k d = true) (hk : k ≤ 60 := by decide) : okD (toPy d) = true := by
  have := pl_lay h
  unfold okD SeqAt.shaped
  simp only [this.1, Bool.true_and, decide_eq_true_eq]
  omega
mutual
theorem pl_eqv : ∀ {k j : Nat} {d e : D}, pl k d = true → pl j e = true → (PyData.eqv (toPy d) (toPy e) = true ↔ d = e)
  | _, _, .int _, .int _, _, _ => by simp [toPy, PyData.eqv]
  | _, _, .str _, .str _, _, _ => by simp [toPy, PyData.eqv]
  | k + 1, j + 1, .tup ds, .tup es, h, h2 => by simpa [toPy, PyData.eqv] using pls_eqv (k := k) (j := j) (by simpa [pl] using h) (by simpa [pl] using h2)
  | k + 1, j + 1, .lst ds, .lst es, h, h2 => by simpa [toPy, PyData.eqv] using pls_eqv (k := k) (j := j) (by simpa [pl] using h) (by simpa [pl] using h2)
  | _, _, .int _, .str _, _, _ => by simp [toPy, PyData.eqv]
  | _, _, .int _, .tup _, _, _ => by simp [toPy, PyData.eqv]
  | _, _, .int _, .lst _, _, _ => by simp [toPy, PyData.eqv]
  | _, _, .str _, .int _, _, _ => by simp [toPy, PyData.eqv]
  | _, _, .str _, .tup _, _, _ => by simp [toPy, PyData.eqv]
  | _, _, .str _, .lst _, _, _ => by simp [toPy, PyData.eqv]
  | _, _, .tup _, .int _, _, _ => by simp [toPy, PyData.eqv]
  | _, _, .tup _, .str _, _, _ => by simp [toPy, PyData.eqv]
  | _, _, .tup _, .lst _, _, _ => by simp [toPy, PyData.eqv]
  | _, _, .lst _, .int _, _, _ => by simp [toPy, PyData.eqv]
  | _, _, .lst _, .str _, _, _ => by simp [toPy, PyData.eqv]
  | _, _, .lst _, .tup _, _, _ => by simp [toPy, PyData.eqv]
  | 0, _, .tup _, _, h, _ => by simp [pl] at h
  | 0, _, .lst _, _, h, _ => by simp [pl] at h
  | _, 0, _, .tup _, _, h => by simp [pl] at h
  | _, 0, _, .lst _, _, h => by simp [pl] at h
  | 0, _, .non, _, h, _ => by simp [pl] at h
  | k + 1, _, .non, _, h, _ => by simp [pl] at h
  | 0, _, .bl _, _, h, _ => by simp [pl] at h
  | k + 1, _, .bl _, _, h, _ => by simp [pl] at h
  | 0, _, .flst _, _, h, _ => by simp [pl] at h
  | k + 1, _, .flst _, _, h, _ => by simp [pl] at h
  | 0, _, .obj _ _ _, _, h, _ => by simp [pl] at h
  | 0, _, .ptr _, _, h, _ => by simp [pl] at h
  | 0, _, .dct _ _, _, h, _ => by simp [pl] at h
  | k + 1, _, .obj _ _ _, _, h, _ => by simp [pl] at h
  | k + 1, _, .ptr _, _, h, _ => by simp [pl] at h
  | k + 1, _, .dct _ _, _, h, _ => by simp [pl] at h
  | 0, _, .loc _, _, h, _ => by simp [pl] at h
  | k + 1, _, .loc _, _, h, _ => by simp [pl] at h
  | _, 0, _, .non, _, h => by simp [pl] at h
  | _, k + 1, _, .non, _, h => by simp [pl] at h
  | _, 0, _, .bl _, _, h => by simp [pl] at h
  | _, k + 1, _, .bl _, _, h => by simp [pl] at h
  | _, 0, _, .flst _, _, h => by simp [pl] at h
  | _, k + 1, _, .flst _, _, h => by simp [pl] at h
  | _, 0, _, .obj _ _ _, _, h => by simp [pl] at h
  | _, 0, _, .ptr _, _, h => by simp [pl] at h
  | _, 0, _, .dct _ _, _, h => by simp [pl] at h
  | _, k + 1, _, .obj _ _ _, _, h => by simp [pl] at h
  | _, k + 1, _, .ptr _, _, h => by simp [pl] at h
  | _, k + 1, _, .dct _ _, _, h => by simp [pl] at h
  | _, 0, _, .loc _, _, h => by simp [pl] at h
  | _, k + 1, _, .loc _, _, h => by simp [pl] at h
theorem pls_eqv : ∀ {k j : Nat} {ds es : List D}, pls k ds = true → pls j es = true → (PyData.eqvAll (toPys ds) (toPys es) = true ↔ ds = es)
  | _, _, [], [], _, _ => by simp [toPys, PyData.eqvAll]
  | _, _, [], _ :: _, _, _ => by simp [toPys, PyData.eqvAll]
  | _, _, _ :: _, [], _, _ => by simp [toPys, PyData.eqvAll]
  | k, j, d :: ds, e :: es, h, h2 => by
    simp only [pls, Bool.and_eq_true] at h h2
    simp [toPys, PyData.eqvAll, pl_eqv h.1 h2.1, pls_eqv h.2 h2.2]
end
/-- what stands at a place -/
def rd (μ : Store) : D → D
  | .loc n => match μ[n]? with
    | some (.lst ds) => .lst ds
    | _ => .loc n
  | d => d
theorem toPyM_rd {μ : Store} {d : D} : toPyM μ d = toPy (rd μ d) := by
  cases d <;> try rfl
  rename_i n
  simp only [toPyM, rd]
  cases h : μ[n]? with
  | none => rfl
  | some c => cases c <;> rfl
theorem oEq_pl {k j : Nat} {d e : D} {μ : Store} (h : pl k (rd μ d) = true) (h2 : pl j (rd μ e) = true) (hk : k ≤ 60 := by decide) (hj : j ≤ 60 := by decide) : oEq d e μ = .ok (.bl (decide (rd μ d = rd μ e))) μ := by
  unfold oEq
  simp only [toPyM_rd, pl_ok h hk, pl_ok h2 hj, Bool.and_true, if_true]
  congr 2
  rw [Bool.eq_iff_iff, decide_eq_true_eq]
  exact pl_eqv h h2
theorem oNe_pl {k j : Nat} {d e : D} {μ : Store} (h : pl k (rd μ d) = true) (h2 : pl j (rd μ e) = true) (hk : k ≤ 60 := by decide) (hj : j ≤ 60 := by decide) : oNe d e μ = .ok (.bl (!decide (rd μ d = rd μ e))) μ := by
  unfold oNe
  simp only [toPyM_rd, pl_ok h hk, pl_ok h2 hj, Bool.and_true, if_true]
  congr 3
  rw [Bool.eq_iff_iff, decide_eq_true_eq]
  exact pl_eqv h h2
@[simp] theorem oEq_bl {a b : Bool} {μ : Store} : oEq (.bl a) (.bl b) μ = .ok (.bl (a == b)) μ := by cases a <;> cases b <;> rfl
@[simp] theorem oNe_bl {a b : Bool} {μ : Store} : oNe (.bl a) (.bl b) μ = .ok (.bl (a != b)) μ := by cases a <;> cases b <;> rfl
@[simp] theorem oEq_int {a b : Int} {μ : Store} : oEq (.int a) (.int b) μ = .ok (.bl (decide (a = b))) μ := by
  rw [oEq_pl (k := 0) (j := 0) rfl rfl]; simp [rd]
@[simp] theorem oNe_int {a b : Int} {μ : Store} : oNe (.int a) (.int b) μ = .ok (.bl (!decide (a = b))) μ := by
  rw [oNe_pl (k := 0) (j := 0) rfl rfl]; simp [rd]
theorem lc_pure {items : List D} {g : D → Env → Store → Res Env} {ft : FT} {fe : FE} {ρ : Env} {μ : Store} (p : D → Bool) (f : D → D) {ds : List D} {acc : List D}
    (h : ∀ d ∈ ds, ∃ ρ1, g d ρ μ = .ok ρ1 μ ∧ ft ρ1 μ = .ok (p d) μ ∧ (p d = true → fe ρ1 μ = .ok (f d) μ)) (hl : acc.length + ds.length ≤ LIM) :
    lcL items none g ft fe ρ ds μ acc = .ok (.lst (acc ++ (ds.filter p).map f)) μ := by
  induction ds generalizing acc with
  | nil => simp [lcL, srcOk]
  | cons d ds ih =>
    obtain ⟨ρ1, h1, h2, h3⟩ := h d (by simp)
    simp only [lcL, srcOk, if_true, h1, Res.mute_ok, Res.bind_ok, h2]
    simp only [List.length_cons] at hl
    cases hp : p d with
    | false =>
      simp only [Bool.false_eq_true, if_false]
      rw [ih (fun d' m => h d' (by simp [m])) (by omega)]
      simp [hp]
    | true =>
      simp only [if_true, h3 hp, Res.mute_ok, Res.bind_ok]
      rw [if_pos (by omega), ih (fun d' m => h d' (by simp [m])) (by simp; omega)]
      simp [hp]
inductive F2 {α β : Type} (P : α → β → Prop) : List α → List β → Prop
  | nil : F2 P [] []
  | cons {a : α} {b : β} {r : List α} {s : List β} (h : P a b) (t : F2 P r s) : F2 P (a :: r) (b :: s)
theorem F2.all {α β : Type} {P : α → β → Prop} {r : List α} {s : List β} (h : F2 P r s) : ∀ b ∈ s, ∃ a ∈ r, P a b := by
  induction h with
  | nil => simp
  | cons h _ ih =>
    intro b hb
    rcases List.mem_cons.mp hb with rfl | hb
    · exact ⟨_, by simp, h⟩
    · obtain ⟨a, m, p⟩ := ih b hb
      exact ⟨a, by simp [m], p⟩
/-- a comprehension with a state: what holds of the state goes on to hold, what holds of each thing holds of all -/
theorem lc_st {items : List D} {g : D → Env → Store → Res Env} {ft : FT} {fe : FE} {ρ : Env} (I : Store → Prop) (P : D → D → Prop) {ds : List D} {acc : List D} {μ : Store} (hI : I μ)
    (h : ∀ d ∈ ds, ∀ μ, I μ → ∃ ρ1 μ1, g d ρ μ = .ok ρ1 μ1 ∧ ∃ b μ2, ft ρ1 μ1 = .ok b μ2 ∧ (b = false → I μ2) ∧ (b = true → ∃ y μ3, fe ρ1 μ2 = .ok y μ3 ∧ I μ3 ∧ P d y)) (hl : acc.length + ds.length ≤ LIM) :
    ∃ ys zs μ', lcL items none g ft fe ρ ds μ acc = .ok (.lst (acc ++ ys)) μ' ∧ I μ' ∧ zs.Sublist ds ∧ F2 P zs ys := by
  induction ds generalizing acc μ with
  | nil => exact ⟨[], [], μ, by simp [lcL, srcOk], hI, .slnil, .nil⟩
  | cons d ds ih =>
    obtain ⟨ρ1, μ1, h1, b, μ2, h2, h3, h4⟩ := h d (by simp) μ hI
    simp only [lcL, srcOk, if_true, h1, Res.mute_ok, Res.bind_ok, h2]
    simp only [List.length_cons] at hl
    cases b with
    | false =>
      simp only [Bool.false_eq_true, if_false]
      obtain ⟨ys, zs, μ', e, i, s, f⟩ := ih (acc := acc) (h3 rfl) (fun d' m => h d' (by simp [m])) (by omega)
      exact ⟨ys, zs, μ', e, i, s.cons _, f⟩
    | true =>
      obtain ⟨y, μ3, h5, h6, h7⟩ := h4 rfl
      simp only [if_true, h5, Res.mute_ok, Res.bind_ok]
      rw [if_pos (by omega)]
      obtain ⟨ys, zs, μ', e, i, s, f⟩ := ih (acc := acc ++ [y]) h6 (fun d' m => h d' (by simp [m])) (by simp; omega)
      exact ⟨y :: ys, d :: zs, μ', by rw [e]; simp, i, s.cons₂ _, .cons h7 f⟩
theorem lc_all {items : List D} {g : D → Env → Store → Res Env} {ft : FT} {fe : FE} {ρ : Env} (I : Store → Prop) (P : D → D → Prop) {ds : List D} {acc : List D} {μ : Store} (hI : I μ)
    (h : ∀ d ∈ ds, ∀ μ, I μ → ∃ ρ1 μ1, g d ρ μ = .ok ρ1 μ1 ∧ ∃ μ2, ft ρ1 μ1 = .ok true μ2 ∧ ∃ y μ3, fe ρ1 μ2 = .ok y μ3 ∧ I μ3 ∧ P d y) (hl : acc.length + ds.length ≤ LIM) :
    ∃ ys μ', lcL items none g ft fe ρ ds μ acc = .ok (.lst (acc ++ ys)) μ' ∧ I μ' ∧ F2 P ds ys := by
  induction ds generalizing acc μ with
  | nil => exact ⟨[], μ, by simp [lcL, srcOk], hI, .nil⟩
  | cons d ds ih =>
    obtain ⟨ρ1, μ1, h1, μ2, h2, y, μ3, h5, h6, h7⟩ := h d (by simp) μ hI
    simp only [lcL, srcOk, if_true, h1, Res.mute_ok, Res.bind_ok, h2, h5]
    simp only [List.length_cons] at hl
    rw [if_pos (by omega)]
    obtain ⟨ys, μ', e, i, f⟩ := ih (acc := acc ++ [y]) h6 (fun d' m => h d' (by simp [m])) (by simp; omega)
    exact ⟨y :: ys, μ', by rw [e]; simp, i, .cons h7 f⟩
theorem F2.map_of {α β γ : Type} {P : α → β → Prop} {Q : γ → Prop} {f : γ → β} (h : ∀ a b, P a b → ∃ c, b = f c ∧ Q c) {r : List α} {s : List β} (t : F2 P r s) : ∃ cs : List γ, s = cs.map f ∧ cs.length = r.length ∧ ∀ c ∈ cs, Q c := by
  induction t with
  | nil => exact ⟨[], rfl, rfl, by simp⟩
  | cons p _ ih =>
    obtain ⟨c, rfl, q⟩ := h _ _ p
    obtain ⟨cs, rfl, l, qs⟩ := ih
    exact ⟨c :: cs, rfl, by simp [l], by simp [q]; exact qs⟩
theorem join_one : ∀ {cs : List Nat}, joinD [] (cs.map fun c => [c]) = cs
  | [] => rfl
  | [c] => rfl
  | c :: d :: r => by
    have := join_one (cs := d :: r)
    simp only [List.map_cons] at this ⊢
    simp only [joinD, this]
    rfl
theorem strs_one : ∀ {cs : List Nat}, strsOf (cs.map fun c => D.str [c]) = some (cs.map fun c => [c])
  | [] => rfl
  | c :: r => by simp [strsOf, strs_one (cs := r)]
theorem oJoin_one {cs : List Nat} {μ : Store} (h : cs.length ≤ LIM) : oJoin (.str []) (.lst (cs.map fun c => D.str [c])) μ = .ok (.str cs) μ := by
  simp [oJoin, seqOf, strs_one, join_one, Function.comp_def]
  have : ∀ l : List Nat, (List.map (fun c : Nat => 1) l).sum = l.length := fun l => by induction l <;> simp_all; omega
  rw [this]
  exact h
theorem for_cons {items : List D} {g : D → Env → Store → Res Env} {body : FS} {d : D} {ds : List D} {ρ : Env} {μ : Store} : forL items none g body (d :: ds) ρ μ = rS ρ (g d ρ μ) fun ρ1 μ1 => match body ρ1 μ1 with
      | .nx ρ2 μ2 => forL items none g body ds ρ2 μ2
      | .ct ρ2 μ2 => forL items none g body ds ρ2 μ2
      | .bk ρ2 μ2 => .nx ρ2 μ2
      | .rt d μ2 => .rt d μ2
      | .er k ns es ρ2 μ2 => .er k ns es ρ2 μ2
      | .stuck => .stuck := by rw [forL, if_pos (show srcOk none items μ = true from rfl)] <;> rfl
theorem for_nil {items : List D} {g : D → Env → Store → Res Env} {body : FS} {ρ : Env} {μ : Store} : forL items none g body [] ρ μ = .nx ρ μ := by rw [forL, if_pos (show srcOk none items μ = true from rfl)]
theorem getElem?_mid {α : Type} {μ r : List α} {x : α} : (μ ++ x :: r)[μ.length]? = some x := by simp
theorem set_mid {α : Type} {μ r : List α} {x y : α} : (μ ++ x :: r).set μ.length y = μ ++ y :: r := by simp
end Fw
local macro_rules
  | `(tactic| simp_arith [$ts,*]) => `(tactic| simp only [Fw.mD_ev, Fw.Res.mute_ok, Fw.sSeq_ev, Fw.sAsg_ev, Fw.eCallD_ev, Fw.eCall_ev, Fw.aCons_ev, Fw.aNil_ev, Fw.eVar_ev, List.map_cons, List.map_nil, List.length_cons, List.length_nil, List.cons_append, List.nil_append, Nat.reduceAdd, Nat.reduceSub, List.reduceReplicate, List.getElem?_cons_zero, List.getElem?_cons_succ, Fw.bok, if_true, Fw.eC_ev, Fw.sok, Fw.gVar_ev, List.set_cons_succ, List.set_cons_zero, Nat.reduceLT, Fw.eBin_ev, Fw.eLc_ev, Fw.iOf_ev, Fw.oWalk, Fw.wipeE, Fw.gTup_ev, Fw.gCons_ev, Fw.gNil_ev, Fw.eLst_ev, Fw.eTup_ev, Fw.eJoin_ev, Fw.iRange1_ev, Fw.sRet_ev, Fw.sIf_ev, Fw.tB_ev, Fw.tAnd_ev, Fw.tOr_ev, Fw.tNot_ev, Fw.eNot_ev, Fw.eAnd_ev, Fw.eIf_ev, Fw.sNext_ev, Fw.sExpr_ev, Fw.sPar_ev, Fw.sAug_ev, Fw.sAsg2_ev, Fw.sFor_ev, and_self, Fw.eThaw_ev, Fw.thaw_ev, $ts,*])
set_option Elab.async false
set_option linter.all false
set_option maxRecDepth 100000
set_option autoImplicit false
namespace Fw
open PySem L2 PyProof.Rows
def lcL2 (items : List D) (src : Option Nat) (g : D → Env → Store → Res Env) (ft : FT) (fi1 : FI) (g1 : D → Env → Store → Res Env) (ft1 : FT) (fe : FE) (vs1 : List Nat) (ρ : Env) : List D → Store → List D → Res D
  | [], μ, acc => if srcOk src items μ = true then .ok (.lst acc) μ else .stuck
  | d :: ds, μ, acc => if srcOk src items μ = true then (g d ρ μ).mute.bind fun ρ1 μ1 => (ft ρ1 μ1).mute.bind fun b μ2 =>
      if b = true then (fi1 ρ1 μ2).mute.bind fun it μ3 => (lcL it.1 it.2 g1 ft1 fe (wipeE ρ1 vs1) it.1 μ3 acc).bind fun d μ4 => match d with
        | .lst acc' => lcL2 items src g ft fi1 g1 ft1 fe vs1 ρ ds μ4 acc'
        | _ => .stuck
      else lcL2 items src g ft fi1 g1 ft1 fe vs1 ρ ds μ2 acc
    else .stuck
def eLc2 (vs vs1 : List Nat) (fi : FI) (g : D → Env → Store → Res Env) (ft : FT) (fi1 : FI) (g1 : D → Env → Store → Res Env) (ft1 : FT) (fe : FE) : FE := fun ρ μ => (fi ρ μ).bind fun it μ1 => lcL2 it.1 it.2 g ft fi1 g1 ft1 fe vs1 (wipeE ρ vs) it.1 μ1 []
end Fw
set_option Elab.async false
set_option linter.all false
set_option maxRecDepth 100000
set_option autoImplicit false
namespace Fw
open PySem L2 PyProof.Rows
section
variable {K : PySem.W.Frag} {cls : Nat → Option Addr} {w : Wd}
theorem wk_rangeC {lo c : Int} {n : Nat} : Wk K cls (Itc lo c n) w ((List.range n).map fun i => .int (lo + (i : Nat) * c)) none := by
  intro i w' μ' k S' so
  refine ⟨fun d hd => ?_, fun hi => ?_⟩
  · rw [List.getElem?_map, Option.map_eq_some_iff] at hd
    obtain ⟨m, hm, rfl⟩ := hd
    obtain ⟨hi, e⟩ := List.getElem?_eq_some_iff.mp hm
    rw [List.length_range] at hi
    rw [List.getElem_range] at e
    subst e
    exact ⟨hi, fun x H2 ⟨e, h2⟩ => ⟨w', e.symm, Step.refl, S', h2⟩⟩
  · rw [List.length_map, List.length_range] at hi
    exact hi
end
end Fw
set_option Elab.async false
set_option linter.all false
set_option maxRecDepth 100000
set_option autoImplicit false
namespace Fw
open PySem PySem.Spec PyProof.Rows L2
end Fw
set_option Elab.async false
set_option linter.all false
set_option maxRecDepth 100000
set_option autoImplicit false
namespace Fw
open PySem PySem.Spec PyProof.Rows L2
def insS (x : Int) : List Int → List Int
  | [] => [x]
  | y :: r => if x < y then x :: y :: r else if x = y then y :: r else y :: insS x r
def sset (is : List Int) : List Int := is.foldr insS []
end Fw
set_option Elab.async false
set_option linter.all false
set_option maxRecDepth 100000
set_option autoImplicit false
namespace Fw
open PySem PySem.Spec PyProof.Rows L2
end Fw
set_option Elab.async false
set_option linter.all false
set_option maxRecDepth 100000
set_option autoImplicit false
namespace Fw
open PySem PySem.Spec PyProof.Rows L2
open PySem.Sem (wp)
abbrev AscIt (h : Heap) (a : Addr) (x : Str) (t : Tok) (k : Nat) : Prop := h.IsStrIter a "str_ascii_iterator" x t k
section
variable {P : Program} {w : World} {A : Around} {E : Value → Shared → Prop} {s : Shared}
theorem AscIt.at {h h' : Heap} {a : Addr} {x : Str} {t : Tok} {k : Nat} (y : AscIt h a x t k) (e : ∀ o, h.get? a = some o → h'.get? a = some o) : AscIt h' a x t k := let ⟨o, ho, r⟩ := y; ⟨o, e o ho, r⟩
end
abbrev g1 (h : Heap) (x : Str) (t : Tok) : Heap := h.push { cls := .type "str_ascii_iterator", data := .fields #[.str x t, .int 0 0] }
abbrev g2 (h : Heap) (x y : Str) (t u : Tok) : Heap := (g1 h x t).push { cls := .type "str_ascii_iterator", data := .fields #[.str y u, .int 0 0] }
abbrev g3 (h : Heap) (x y : Str) (t u : Tok) : Heap := (g2 h x y t u).push { cls := .type "tuple", data := .seq #[.ref h.objs.size, .ref (g1 h x t).objs.size] }
def oMulI : D → D → Store → Res D := fun d e μ => match d, e with
  | .int i, .int j => if (Sm i && Sm j) = true then .ok (.int (i * j)) μ else .stuck
  | _, _ => .stuck
def eSortSetM (fa : FE) : FE := fun ρ μ => (fa ρ μ).bind fun d μ1 => match lintsOf μ1 d with
  | some is => if is.length ≤ 1000 ∧ (sset is).length < 64 then .ok (.lst ((sset is).map .int)) μ1 else .stuck
  | none => .stuck
end Fw
set_option Elab.async false
set_option linter.all false
set_option maxRecDepth 100000
set_option autoImplicit false
namespace Fw
open PySem PySem.Spec PyProof.Rows L2
end Fw
set_option Elab.async false
set_option linter.all false
set_option maxRecDepth 100000
set_option autoImplicit false
namespace Fw
open PySem L2 PyProof.Rows
end Fw
set_option Elab.async false
set_option linter.all false
set_option maxRecDepth 100000
set_option autoImplicit false
namespace Fw
open PySem
open PySem.Sem (wp)
end Fw
set_option Elab.async false
set_option linter.all false
set_option maxRecDepth 100000
set_option maxHeartbeats 1000000
set_option autoImplicit false
namespace Fw
open PySem L2 PyProof.Rows GenW
end Fw
set_option Elab.async false
set_option linter.all false
set_option maxRecDepth 100000
set_option maxHeartbeats 1000000
set_option autoImplicit false
namespace Fw
open PySem L2 GenW PyProof.Rows
inductive GRes where
  | nx (zs : List D) (ρ : Env) (μ : Store)
  | stuck
def gApp (zs : List D) : GRes → GRes
  | .nx us ρ μ => .nx (zs ++ us) ρ μ
  | .stuck => .stuck
def rG {α : Type} (r : Res α) (f : α → Store → GRes) : GRes := match r with
  | .ok a μ => f a μ
  | _ => .stuck
def PostG (K : PySem.W.Frag) (cls : Nat → Option Addr) (w : Wd) (D : GEnds) (ys : List V) : GRes → Prop
  | .nx zs ρ μ => ys.length + zs.length ≤ sizeLine ∧ ∀ w' σ us, Step w w' → RelS K cls w' μ → RelE K cls w' ρ σ → RVs K cls w' zs us → D.nx (ys ++ us) σ w'.H
  | .stuck => False
section
variable {K : PySem.W.Frag} {cls : Nat → Option Addr} {w w' : Wd} {zs : List D} {D : GEnds} {ys us : List V} {r : GRes}
theorem PostG.step (s : Step w w') (h : PostG K cls w D ys r) : PostG K cls w' D ys r := by
  cases r with
  | nx zs ρ μ => exact ⟨h.1, fun w2 σ us s2 => h.2 w2 σ us (s.trans s2)⟩
  | stuck => exact h
theorem PostG.bind {α : Type} {r : Res α} {f : α → Store → GRes} (h : PostG K cls w D ys (rG r f)) : PostR K cls w E00 (fun w' a => ∃ μ', RelS K cls w' μ' ∧ PostG K cls w' D ys (f a μ')) r := by
  cases r with
  | ok a μ => exact fun w' s S => ⟨μ, S, PostG.step s h⟩
  | err _ _ _ _ => exact h.elim
  | stuck => exact h
theorem PostG.len (h : PostG K cls w D ys (gApp zs r)) : ys.length + zs.length ≤ sizeLine := by
  cases r with
  | nx us ρ μ =>
    have := h.1
    rw [List.length_append] at this
    omega
  | stuck => exact h.elim
end
end Fw
set_option Elab.async false
set_option linter.all false
set_option maxRecDepth 100000
set_option autoImplicit false
namespace Fw
open PySem L2 PyProof.Rows
def oInP (neg : Bool) (d e : D) (μ : Store) : Res D := match toPyM μ e with
  | .list ps => if (okD (toPyM μ d) && okD (.list ps)) = true then .ok (.bl (if neg then !(ps.any fun z => PyData.eqv z (toPyM μ d)) else ps.any fun z => PyData.eqv z (toPyM μ d))) μ else .stuck
  | _ => .stuck
def oInX (neg : Bool) (d e : D) (μ : Store) : Res D := match oIn neg d e μ with
  | .ok a μ1 => .ok a μ1
  | _ => oInP neg d e μ
def eLstRg (fi : FI) : FE := fun ρ μ => (fi ρ μ).bind fun it μ1 => .ok (.lst it.1) μ1
end Fw
set_option Elab.async false
set_option linter.all false
set_option maxRecDepth 100000
set_option autoImplicit false
namespace Fw
open PySem L2 PyProof.Rows
section
variable {X : Cx} {W : WX} {cls : Nat → Option Addr} {tg a b c : Expr} {fa fb fc : FE} {p pos : Pos}
/-- range(a, b, c) -/
def okStep (i j c : Int) : Bool := decide (c ≠ 0) && decide (c.natAbs < 1073741824) && Builtin.Range.small i j c && decide (0 ≤ Builtin.Range.rangeSize i j c)
def iStep (fa fb fc : FE) : FI := fun ρ μ => (fa ρ μ).bind fun d μ1 => (fb ρ μ1).bind fun e μ2 => (fc ρ μ2).bind fun f μ3 => match d, e, f with
  | .int i, .int j, .int c => if okStep i j c = true then .ok ((List.range (Builtin.Range.rangeSize i j c).toNat).map fun k => .int (i + (k : Nat) * c), none) μ3 else .stuck
  | _, _, _ => .stuck
theorem si_step (hg : Gl X "range") (hm : X.mg "range" = none) (ha : SE X W cls a fa) (hb : SE X W cls b fb) (hcc : SE X W cls c fc)
    (hs : starEach [a, b, c] X.env = [(false, eval a X.env), (false, eval b X.env), (false, eval c X.env)] := by rfl)
    (hs2 : starEach [b, c] X.env = [(false, eval b X.env), (false, eval c X.env)] := by rfl)
    (hs3 : starEach [c] X.env = [(false, eval c X.env)] := by rfl) :
    SI X W cls tg (.Call (.Name "range" p) [a, b, c] [] pos) (iStep fa fb fc) := by
  obtain ⟨t, q1, k⟩ := ha
  obtain ⟨t2, q2, k2⟩ := hb
  obtain ⟨t3, q3, k3⟩ := hcc
  refine ⟨_, pi_range3 hg hm (pa_cons q1 (pa_cons q2 (pa_cons q3 pa_nil hs3) (by rw [hs2, hs3])) (by rw [hs, hs2])) (by rw [hs, hs2]) (by rw [hs2]; rfl), fun σ R w ρ μ S E h => ?_⟩
  refine k σ _ w ρ μ S E ((PostR.bind h).imp fun w1 d s1 ⟨μ1, S1, q1⟩ v r1 => ?_)
  refine k2 σ _ w1 ρ μ1 S1 (E.mono s1.kp) ((PostR.bind q1).imp fun w2 d2 s2 ⟨μ2, S2, q2⟩ v2 r2 => ?_)
  refine k3 σ _ w2 ρ μ2 S2 (E.mono (s1.trans s2).kp) ((PostR.bind q2).imp fun w3 d3 s3 ⟨μ3, S3, q3⟩ v3 r3 => ?_)
  cases d with
  | int i =>
    cases d2 with
    | int j =>
      cases d3 with
      | int c =>
        simp only at q3
        split at q3
        · rename_i ok
          simp only [okStep, Bool.and_eq_true, decide_eq_true_eq] at ok
          obtain ⟨⟨⟨o1, o2⟩, o3⟩, o4⟩ := ok
          exact ⟨i, j, c, (Builtin.Range.rangeSize i j c).toNat, by rw [show v = V.int i from r1, show v2 = V.int j from r2, show v3 = V.int c from r3], ⟨o1, o2, o3, (Int.toNat_of_nonneg o4).symm⟩, q3 w3 Step.refl S3 _ wk_rangeC⟩
        · exact q3.elim
      | _ => exact q3.elim
    | _ => exact q3.elim
  | _ => exact q3.elim
end
end Fw
set_option Elab.async false
set_option linter.all false
set_option maxRecDepth 100000
set_option autoImplicit false
namespace Fw
open PySem L2 PyProof.Rows
/-- a, b, c = x, y, z on plain local names -/
def sPar3 (i j k : Nat) (fa fb fc : FE) : FS := fun ρ μ => rS ρ (fa ρ μ) fun x μ1 => rS ρ (fb ρ μ1) fun y μ2 => rS ρ (fc ρ μ2) fun z μ3 => if i < ρ.length ∧ j < ρ.length ∧ k < ρ.length then .nx (((ρ.set i (some x)).set j (some y)).set k (some z)) μ3 else .stuck
end Fw
set_option Elab.async false
set_option linter.all false
set_option maxRecDepth 100000
set_option autoImplicit false
namespace Fw
open PySem L2 PyProof.Rows
abbrev veBase : List Value := [.type "ValueError", .type "Exception", .type "BaseException", .type "object"]
/-- an error class as the top has left it -/
structure Ek (K : PySem.W.Frag) (cls : Nat → Option Addr) (mg : Str → Option Value) (x : Str) (k : Nat) (C : Addr) : Prop where
  at_ : 100 ≤ k ∧ cls k = some C
  mg : mg x = some (.ref C)
  kp : PySem.W.keepIn K (.ref C) = true
  sub : PySem.W.subIn K (.ref C) (.type "BaseException") = some true
  ty : PySem.W.typeIn K (.ref C) = some (.type "type")
structure Ek0 (K : PySem.W.Frag) (cls : Nat → Option Addr) (mg : Str → Option Value) (x : Str) (k : Nat) (C : Addr) : Prop extends Ek K cls mg x k C where
  ex : PySem.W.excIn K C veBase "ValueError.__new__" = true
section
variable {X : Cx} {W : WX} {cls : Nat → Option Addr} {x : Str} {k : Nat} {C : Addr} {p pos rpos : Pos}
/-- X() -/
theorem pmk_none (T : Ek0 X.K cls X.mg x k C) (hg : Gl X x) (hdb : (x == ("__debug__" : Str)) = false := by decide +kernel) : PMk X (.Call (.Name x p) [] [] pos) (fun _ H Q => Q (.ref C) none H) := by
  intro pins s σ H Q I h
  refine wpAny_Call_Name_kw (ld_glob I hg T.mg ?_ hdb)
  refine PySem.W.callWith_K0 I.kIn T.kp ?_
  show wpAny _ _ (call (.ref C) []) _ _ _
  obtain ⟨bm, N, nm, qn, bs, hdct, sn, sub, ab, col, dd, k0, k1, k2, k3, k5, mN, hC, hN, hni, tl⟩ := exc_obj I.kIn T.ex
  refine wpAny_call_exc_subT PySem.F.excBase_ValueError tl hC hN hni (fun h' e hm => ?_) (Nat.zero_le _)
  exact mk_of I hm (raises_own T.sub T.ty) h (I.hok.gone hm.new)
def sRaise (k : Nat) : FS := fun ρ μ => .er k [] [] ρ μ
theorem ss_raise (hc : X.calm = true) (tk : Takes X W) (T : Ek0 X.K cls X.mg x k C) (hg : Gl X x) (hdb : (x == ("__debug__" : Str)) = false := by decide +kernel) :
    SS X W cls (.Raise (some (.Call (.Name x p) [] [] pos)) none rpos) (sRaise k) :=
  ⟨_, ps_raise hc tk (pmk_none T hg hdb), fun D σ w ρ μ S E h => h w σ (.ref C) none Step.refl S E ⟨C, T.at_, rfl, .inl ⟨rfl, rfl, rfl⟩⟩⟩
@[simp] theorem sRaise_ev {ρ : Env} {μ : Store} : sRaise k ρ μ = .er k [] [] ρ μ := (rfl)
end
end Fw
set_option Elab.async false
set_option linter.all false
set_option maxRecDepth 100000
set_option autoImplicit false
namespace Fw
open PySem L2 PyProof.Rows
def okT (L : List (List Int)) : Bool := decide (L.length < 64) && L.all fun l => decide (l.length = (L.headD []).length) && (decide (1 ≤ l.length) && l.all fun m => decide (0 ≤ m) && decide (m < 1000000))
end Fw
set_option Elab.async false
set_option linter.all false
set_option maxRecDepth 100000
set_option autoImplicit false
namespace Fw
open PySem L2 PyProof.Rows
def pickS (n : Nat) (lo hi : Option Int) (k : Int) : List Nat := PySem.Builtin.Str.strSliceIndices lo hi k n
def stepD (s : List Nat) (lo hi : Option Int) (k : Int) : List Nat := (pickS s.length lo hi k).filterMap (s[·]?)
def oCutSt : D → Option Int → Option Int → Option Int → Store → Res D := fun d lo hi k μ => match d, k with
  | .str s, some k => if s.length ≤ LIM ∧ k ≠ 0 then .ok (.str (if (k == 1 && (pickS s.length lo hi k).length == s.length) = true then s else stepD s lo hi k)) μ else .stuck
  | _, _ => .stuck
def eCutSt (fa : FE) (fl fh fs : FO) : FE := fun ρ μ => (fa ρ μ).bind fun d μ1 => (fl ρ μ1).bind fun l μ2 => (fh ρ μ2).bind fun u μ3 => (fs ρ μ3).bind fun k μ4 => oCutSt d l u k μ4
@[simp] theorem eCutSt_ev {fa : FE} {fl fh fs : FO} {ρ : Env} {μ : Store} : eCutSt fa fl fh fs ρ μ = (fa ρ μ).bind fun d μ1 => (fl ρ μ1).bind fun l μ2 => (fh ρ μ2).bind fun u μ3 => (fs ρ μ3).bind fun k μ4 => oCutSt d l u k μ4 := (rfl)
end Fw
set_option Elab.async false
set_option linter.all false
set_option maxRecDepth 100000
set_option autoImplicit false
namespace Fw
open PySem PySem.Spec PyProof.Rows L2
/-- those that are met, each once -/
def met {K : Type} [DecidableEq K] (σ : List K) (v : K) : List K := if v ∈ σ then σ else σ ++ [v]
def metAll {K : Type} [DecidableEq K] (ks : List K) : List K := ks.foldl met []
def keysN (es : List D) : Option Nat := match intsOf es with
  | some is => some (metAll is).length
  | none => match strsOf es with
    | some ss => some (metAll ss).length
    | none => none
def eLenSet (fa : FE) : FE := fun ρ μ => (fa ρ μ).bind fun d μ1 => match seqOf μ1 d with
  | some es => match keysN es with
    | some n => if es.length ≤ 1000 then .ok (.int (n : Nat)) μ1 else .stuck
    | none => .stuck
  | none => .stuck
@[simp] theorem eLenSet_ev {fa : FE} {ρ : Env} {μ : Store} : eLenSet fa ρ μ = (fa ρ μ).bind fun d μ1 => match seqOf μ1 d with
  | some es => match keysN es with
    | some n => if es.length ≤ 1000 then .ok (.int (n : Nat)) μ1 else .stuck
    | none => .stuck
  | none => .stuck := (rfl)
theorem strsOf_map : ∀ {ss : List (List Nat)}, strsOf (ss.map D.str) = some ss
  | [] => rfl
  | a :: r => by simp [strsOf, strsOf_map (ss := r)]
end Fw
set_option Elab.async false
set_option linter.all false
set_option maxRecDepth 100000
set_option autoImplicit false
namespace Fw
open PySem L2
end Fw
set_option Elab.async false
set_option linter.all false
set_option maxRecDepth 100000
set_option autoImplicit false
namespace Fw
open PySem PySem.Spec PyProof.Rows L2
open PySem.Sem (wp)
abbrev m1 (h : Heap) (x : Str) (t : Tok) : Heap := h.push { cls := .type "str_ascii_iterator", data := .fields #[.str x t, .int 0 0] }
abbrev m2 (h : Heap) (x : Str) (t : Tok) (l : Addr) : Heap := (m1 h x t).push { cls := .type "tuple_iterator", data := .fields #[.ref l, .int 0 0] }
abbrev m3 (h : Heap) (x : Str) (t : Tok) (l : Addr) : Heap := (m2 h x t l).push { cls := .type "tuple", data := .seq #[.ref h.objs.size, .ref (m1 h x t).objs.size] }
abbrev m4 (h : Heap) (x : Str) (t : Tok) (l : Addr) : Heap := (m3 h x t l).push { cls := .type "tuple", data := .seq #[.none, .none] }
abbrev m5 (h : Heap) (x : Str) (t : Tok) (l : Addr) : Heap := (m4 h x t l).push { cls := .type "zip", data := .fields #[.none, .bool false, .bool false, .ref (m2 h x t l).objs.size, .ref (m3 h x t l).objs.size] }
end Fw
set_option Elab.async false
set_option linter.all false
set_option maxRecDepth 100000
set_option autoImplicit false
namespace Fw
open PySem PySem.Spec PySem.W PyProof.Rows L2 Builtin
def eIsiC (c : Nat) (fa : FE) : FE := fun ρ μ => (fa ρ μ).bind fun d μ1 => match insOf c μ1 d with
  | some _ => .ok (.bl true) μ1
  | none => .stuck
@[simp] theorem eIsiC_ev {c : Nat} {fa : FE} {ρ : Env} {μ : Store} : eIsiC c fa ρ μ = (fa ρ μ).bind fun d μ1 => match insOf c μ1 d with
  | some _ => .ok (.bl true) μ1
  | none => .stuck := (rfl)
end Fw
set_option Elab.async false
set_option linter.all false
set_option maxRecDepth 100000
set_option autoImplicit false
namespace Fw
open PySem PySem.Spec PyProof.Rows
end Fw
set_option Elab.async false
set_option linter.all false
set_option maxRecDepth 100000
set_option autoImplicit false
namespace Fw
open PySem L2 PyProof.Rows PySem.SeqAt
end Fw
set_option Elab.async false
set_option linter.all false
set_option maxRecDepth 100000
set_option autoImplicit false
namespace Fw
open PySem L2 PyProof.Rows PySem.SeqAt
end Fw
set_option Elab.async false
set_option linter.all false
set_option maxRecDepth 100000
set_option autoImplicit false
namespace Fw
open PySem L2 PyProof.Rows
end Fw
set_option Elab.async false
set_option linter.all false
set_option maxRecDepth 100000
set_option maxHeartbeats 2000000
set_option autoImplicit false
namespace Fw
open PySem PySem.Spec PyProof.Rows L2
end Fw
set_option Elab.async false
set_option linter.all false
set_option maxRecDepth 100000
set_option maxHeartbeats 6000000
set_option autoImplicit false
namespace Fw
open PySem PySem.Spec PyProof.Rows L2
end Fw
set_option Elab.async false
set_option linter.all false
set_option maxRecDepth 100000
set_option maxHeartbeats 2000000
set_option autoImplicit false
namespace Fw
open PySem PySem.Spec PyProof.Rows L2
/-- so many numbers, ascending, each once -/
def nsN (x : Nat) : List Nat → List Nat
  | [] => [x]
  | y :: r => if x < y then x :: y :: r else if x = y then y :: r else y :: nsN x r
def nset (cs : List Nat) : List Nat := cs.foldr nsN []
def onesOf : List D → Option (List Nat)
  | [] => some []
  | .str [c] :: r => (onesOf r).map (c :: ·)
  | _ => none
/-- sorted(set(e)) of texts of one sign -/
def eSortSetT (fa : FE) : FE := fun ρ μ => (fa ρ μ).bind fun d μ1 => match lstOf μ1 d with
  | some es => match onesOf es with
    | some cs => if cs.length ≤ 1000 ∧ (nset cs).length < 64 then .ok (.lst ((nset cs).map fun c => .str [c])) μ1 else .stuck
    | none => .stuck
  | none => .stuck
end Fw
set_option Elab.async false
set_option linter.all false
set_option maxRecDepth 100000
set_option maxHeartbeats 4000000
set_option autoImplicit false
namespace Fw
open PySem PySem.Spec PyProof.Rows L2 NdefX
section
variable {P : Program} {w : World} {A : Around} {Q E : Value → Shared → Prop} {s : Shared}
/-- ValueError.__init__ of an own exception's object: its arguments are new, nothing else -/
theorem init_runs {C e t0 : Addr} {rest : List Value} (he : s.heap.get? e = some (HandSPX.excO C t0)) (few : rest.length ≤ sizeLine)
    (h : ∀ h' t1, (∀ b o, b ≠ e → s.heap.get? b = some o → h'.get? b = some o) → h'.get? e = some (HandSPX.excO C t1) → Q .none { s with heap := h' }) :
    codeAny (model P w) A (.builtin "ValueError.__init__" ⟨.ref e :: rest, []⟩) (wants Q E) s := by
  refine codeAny_builtin PySem.F.excBase_ValueError.initEntry (Around.under_plainId PySem.F.excBase_ValueError.init.plain _ ▸ ?_)
  wp_walk
  refine h _ s.heap.objs.size (fun b o ne at_ => (Heap.get?_update_other _ _ ne.symm).trans (Heap.get?_push_of_some _ at_)) ?_
  exact (Heap.get?_update_self _ (Heap.get?_push_of_some _ he) rfl).trans rfl
/-- ValueError.__init__ bound to the exception, called -/
theorem call_mw {nm q : Str} {C N : Addr} {bs bm : List Value} {hd : Bool} {sn : List Str} {sub : List Value} {ab : Bool} {col : Option Bool} {dd : Option Addr} {k0 k1 k2 k3 k5 : Option Value} {u e t0 : Addr} {rest : List Value}
    (hC : s.heap.get? C = some (excClassObj nm q C N bs bm hd sn sub ab col dd k0 k1 k2 k3 k5 "ValueError.__new__")) (he : s.heap.get? e = some (HandSPX.excO C t0)) (hu : s.heap.get? u = some (PySem.W.kxs_mw "ValueError.__init__" e)) (few : rest.length ≤ sizeLine)
    (h : ∀ h' t1, (∀ b o, b ≠ e → s.heap.get? b = some o → h'.get? b = some o) → h'.get? e = some (HandSPX.excO C t1) → Q .none { s with heap := h' }) : wpAny (model P w) A (call (.ref u) rest) Q E s := by
  have kind : (Value.type "method-wrapper" == Value.type "method" || Value.type "method-wrapper" == Value.type "builtin_function_or_method" || Value.type "method-wrapper" == Value.type "method-wrapper") = true := by decide
  have run := init_runs (P := P) (w := w) (A := A) (E := E) he few h
  refine wpAny_call (codeAny_of_tree (show wpAny _ A.in1 (callAny (.ref u) ⟨rest, []⟩) _ _ s from ?_))
  unfold callAny
  refine wpAny_bind (wpAny_load hu ?_)
  simp only [PySem.W.kxs_mw, kind, if_true]
  exact PySem.W.KFB.if_so (by decide) (wpAny_bind (PySem.W.check_bound_init PySem.F.excBase_ValueError.toExcCallFacts hC he rfl (wpAny_bind (wpAny_pure (wpAny_pure ⟨Code.quiet_builtin _ (by decide +kernel), run⟩)))))
end
/-- what the written part says of the class, for super() -/
structure Sup (prog : Program) (K : PySem.W.Frag) (mg : Str → Option Value) (C f cda cc : Addr) (slf : Str) : Prop where
  oex : OexC K C
  any : PySem.W.nsIn K cStatics "thirdparty.any" = some none
  sup : PySem.W.ks_superIn K C C "__init__" = some (some (.builtin "ValueError.__init__"))
  sub : PySem.W.subIn K (.ref C) (.type "ValueError") = some true
  mro : PySem.W.mroIn K C (.ref C) = some true
  fn : ∃ oc od fd osl ar, K.lookup f = some ⟨oc, od, .func fd, osl⟩ ∧ (fd.params.posonlyargs ++ fd.params.args).head? = some ar ∧ ar.arg = slf
  code : ∃ ccl cdd vs ccs file tf, K.lookup cda = some ⟨ccl, cdd, .fields vs, ccs⟩ ∧ vs[2]? = some (.str file tf) ∧ ((prog.main.file : Str) == file) = true
  cell : ∃ cl cld csl, K.lookup cc = some ⟨cl, cld, .cell (some (.ref C)), csl⟩
  gl : mg "super" = none
  top : (prog.main.scope.names.lookup ("super" : Str)).isSome = false
theorem Inv.pin1 {X : Cx} {pins : List (Addr × Obj)} {σ : L2.St} {H : Hp} {s : Shared} {h' : Heap} {tk : Nat} {o : Obj} (I : Inv X pins σ H s) (e : h'.get? s.heap.objs.size = some o) (k : ∀ b u, s.heap.get? b = some u → h'.get? b = some u) (hd : ∀ v, o.data ≠ .cell v) :
    Inv X ((s.heap.objs.size, o) :: pins) σ H { s with heap := h', toks := tk } := by
  have J : Inv X pins σ H { s with heap := h', toks := tk } := I.kept k
  have ⟨f0, f1, f2, _⟩ := I.fpOk (Nat.le_refl _) (I.hok.fresh (Nat.le_refl _))
  refine J.pins_of fun p hp => ?_
  rw [List.mem_cons] at hp
  exact hp.elim (fun z => z ▸ ⟨e, f0, f1, f2, hd⟩) fun z => J.pin p (List.mem_append_right _ z)
section
variable {X : Cx} {pins : List (Addr × Obj)} {σ : L2.St} {H : Hp} {s : Shared} {a C f cda cc : Addr} {slf : Str} {body : List Stmt} {e : Expr} {te : TE} {p0 p1 p2 pos pos2 : Pos}
theorem sup_init {Q : Flow → Shared → Prop} (T : Sup X.prog X.K X.mg C f cda cc slf) (hfu : X.env.func = some f) (hco : X.env.code = .ref cda) (hcl : X.env.cells.lookup ("__class__" : Str) = some cc)
    (hks : X.env.kindOf "super" = some .globalImplicit) (hkc : X.env.kindOf "__class__" = some .free) (hself : X.env.kindOf slf = some .local) (hN : X.N[0]? = some slf)
    (hdb : (slf == ("__debug__" : Str)) = false) (hint : interactive X.env = false) (I : Inv X pins σ H s) (hσ : σ[0]? = some (some (.ref a))) (ea : H a = some (exo a C none))
    (he : PE X e te) (hte : ∀ Q : V → Hp → Prop, (∀ v, Q v H) → te σ H Q) (hs : starEach (e :: []) X.env = (false, eval e X.env) :: starEach [] X.env) (hpl : (backTo pos (starEach [] X.env)).any (·.1) = false)
    (hq : ∀ s', Inv X pins σ H s' → Q .next s') {pl : Sem Bool}
    (hev : eval (.Call (.Attribute (.Call (.Name "super" p0) [] [] p1) "__init__" p2) [e] [] pos) X.env = (do
      let ov ← attributeBase (.Call (.Name "super" p0) [] [] p1) "__init__" X.env (eval (.Call (.Name "super" p0) [] [] p1) X.env)
      standAt p2.atName
      let (f, first) ← holding [ov] (getMethod ov "__init__" pl)
      callWith pos f first (backTo pos (starEach [e] X.env)) []))
    (hsw : swapsWith (.Call (.Attribute (.Call (.Name "super" p0) [] [] p1) "__init__" p2) [e] [] pos) none pos2.line X.env = pure false) :
    _root_.PySem.wpAt (model X.prog X.w) X.A (.func body X.env) (exec (.Expr (.Call (.Attribute (.Call (.Name "super" p0) [] [] p1) "__init__" p2) [e] [] pos) pos2) X.env) Q X.xe s := by
  refine ks_wpAt_Expr_any (ks_wpAt_MethodCall (pl := pl) ?_ hev) hint hsw
  obtain ⟨oc, od, fd, osl, ar, lkf, har, rfl⟩ := T.fn
  obtain ⟨ccl, cdd, vs, ccs, file, tf, lkc, hvs, hfile⟩ := T.code
  obtain ⟨cl, cld, csl, lkcell⟩ := T.cell
  obtain ⟨nm, q, N, bs, bm, sn, sub, ab, col, dd, k0, k1, k2, k3, k5, hC, hbm⟩ := T.oex.cls
  have KX := I.kIn
  obtain ⟨t0, hoe⟩ := exo_at I.hok ea
  obtain ⟨m, hn, hl⟩ := I.loc
  have ⟨u, ru, hlk⟩ := hl 0 _ _ hN hσ (.inl hself)
  obtain rfl : u = .ref a := ru
  have hm : m ar.arg = some (.ref a) := by
    rcases hlk with ⟨_, z⟩ | ⟨z, _⟩
    · exact z
    · rw [hself] at z
      rcases z with z | z <;> cases z
  refine ks_wpAt_super_base (env := X.env) hks hkc (by decide) hfu (KX _ _ lkf) rfl har hco (KX _ _ lkc) rfl hvs hfile T.top ?_
  have gl : wpAny (model X.prog X.w) X.A (loadName X.env "super") (fun g s₁ => g = .type "super" ∧ s₁ = s) X.xe s := by
    have ⟨mb, h1, h2⟩ := I.mod.blt
    refine PySem.W.ks_loadName_global I.ok.kind hks ?_
    exact Calls.loadGlobal_builtin (by rw [I.ok.glob]; exact I.mod.glob.keeps I.bk) T.gl (by rw [I.ok.blt]; exact h1.keeps I.bk) ((h2 _ (by decide)).trans (by decide +kernel)) ⟨rfl, rfl⟩
  refine wpAny_mono gl (fun gv s₁ hg => ?_) fun _ _ z => z
  obtain ⟨rfl, rfl⟩ := hg
  refine ⟨rfl, wpAny_loadName_free I.ok.kind hkc hcl ⟨_, KX _ _ lkcell, rfl⟩ (wpAny_loadName_local I.ok.kind hself hn hm ?_)⟩
  have hD := KX _ _ hC
  obtain ⟨hp, g, dr, tk, os⟩ := s₁
  have KX : X.K.In hp := KX
  refine ks_wpAny_isType_cls hD rfl ⟨rfl, ?_⟩
  refine ks_wpAny_call_super hD rfl hoe rfl (fun c z => by cases z) (PySem.W.looks_mroIn KX T.mro) fun h1 hso k1 => ?_
  -- the bound __init__
  have KX1 : X.K.In h1 := KX.keeps k1
  have hI : PySem.W.Looks (model X.prog X.w) h1 (isInstance (.ref a) (.type "ValueError")) true := by
    have Ia : PySem.W.InstAt h1 a { cls := .ref C, dict := none, data := .fields #[.ref t0, .none, .none, .none, .bool false, .none] } C none := ⟨k1 _ _ hoe, rfl, rfl, trivial⟩
    exact Ia.type.andThen (PySem.W.looks_subIn KX1 T.sub)
  have hsup := T.sup
  unfold PySem.W.ks_superIn at hsup
  obtain ⟨cdC, hcdC, hal⟩ := Option.bind_eq_some_iff.mp hsup
  have haC : a ≠ C := fun z => by
    rw [z] at hoe
    have hD' := hD
    rw [hoe] at hD'
    cases hD'
  refine PySem.W.kxs_getMethod PySem.W.kxs_ValueError hso (PySem.W.looks_opaque KX1 T.any) (l₀ := cdC.mro) (fun A Q E s k q => wpAny_bind ((PySem.W.looks_clsIn KX1 hcdC) A _ E s k (wpAny_pure q))) rfl KX1 hal hI haC (by decide) ?_
  have I1 : Inv X pins σ H ⟨h1, g, dr, tk + 1, os⟩ := I.kept (t' := tk + 1) k1
  have I2 : Inv X ((h1.objs.size, PySem.W.kxs_mw "ValueError.__init__" a) :: pins) σ H ⟨h1.push (PySem.W.kxs_mw "ValueError.__init__" a), g, dr, tk + 1, os⟩ := Inv.pin1 (s := ⟨h1, g, dr, tk + 1, os⟩) (tk := tk + 1) I1 (Heap.get?_push_at rfl rfl) (fun b o z => Heap.get?_push_of_some _ z) (fun v z => by cases z)
  refine PySem.W.kxs_callWith (i := "ValueError.__init__") (x := a) ?_ ?_
  · rw [hs]
    show (false || (backTo pos (starEach [] X.env)).any (·.1)) = false
    rw [hpl] <;> rfl
  have pa : PA X [e] (tCons te tNil) := pa_cons he pa_nil hs
  have hta : (tCons te tNil) σ H fun vs H1 => H1 = H ∧ vs.length = 1 := by
    refine (show te σ H fun x H1 => tNil σ H1 fun xs H2 => H2 = H ∧ (x :: xs).length = 1 from ?_)
    exact hte _ fun v => ⟨rfl, rfl⟩
  have go := pa.run pos _ _ σ H _ I2 hta
  rw [hs] at go ⊢
  refine PySem.Calls.evalArgs_plain (thn go fun us s3 ⟨vs, H1, I3, r3, eH, hl3⟩ => ?_)
  subst eH
  have hu := (I3.pin (h1.objs.size, PySem.W.kxs_mw "ValueError.__init__" a) (List.mem_append_right _ List.mem_cons_self)).1
  refine ⟨hu, ?_⟩
  obtain ⟨t3, hoe3⟩ := exo_at I3.hok ea
  obtain ⟨h3, g3, d3, tk3, os3⟩ := s3
  have few : us.length ≤ sizeLine := by rw [← Paired.length r3, hl3]; decide
  refine call_mw (I3.kIn _ _ hC) hoe3 hu (by simpa using few) fun h' t4 k hx => ?_
  have J := I3.write (t' := tk3) (x := a) (e := a) (o := exo a C none) (by rw [ea]; exact True.intro) (.inl rfl) k ⟨_, hx⟩ (exo_ok hx)
  have eu : upd H1 a (exo a C none) = H1 := by
    funext b
    by_cases hb : b = a
    · rw [hb, upd_same, ea]
    · rw [upd_ne hb]
  rw [eu] at J
  exact hq _ (J.pins_of fun p hp => J.pin p (List.mem_append_right _ (List.mem_cons_of_mem _ hp)))
end
end Fw
set_option Elab.async false
set_option linter.all false
set_option maxRecDepth 100000
set_option maxHeartbeats 4000000
set_option autoImplicit false
namespace Fw
open PySem PySem.Spec PyProof.Rows L2 NdefX
section
variable {CX : CXT} {P : Program} {w : World} {K : PySem.W.Frag} {mg : Str → Option Value} {base : Heap} {k : Nat} {f C cc : Addr} {N ps' : List Str} {slf : Str} {F : NF} {sp : Sp} {dV kV doc pm ct oc : Value} {an od : Option Addr} {osl : Array (Option Value)}
  {e : Expr} {p0 p1 p2 pos pos2 : Pos} {rest : List Stmt}
theorem fn_init (lk : K.lookup f = some ⟨oc, od, .func (PySem.W.fnX F.name F.qual F.params F.body F.scope F.cl dV kV doc pm an (.ref F.c) ct), osl⟩) (hcd : PySem.W.codeIn K (.ref F.c) F.qual = true) (S : NScope N (slf :: ps') ["__class__"] F.scope)
    (hcl : F.cl = [(("__class__" : Str), cc)]) (T : Sup P K mg C f F.c cc slf) (hb : F.body = .Expr (.Call (.Attribute (.Call (.Name "super" p0) [] [] p1) "__init__" p2) [e] [] pos) pos2 :: rest)
    (hks : F.scope.names.lookup ("super" : Str) = some .globalImplicit) (hdb : (slf == ("__debug__" : Str)) = false) (len : ∀ vs H Q E, sp vs H Q E → vs.length = (slf :: ps').length) {pl : PySem.Env → Sem Bool}
    (hev : ∀ env : PySem.Env, eval (.Call (.Attribute (.Call (.Name "super" p0) [] [] p1) "__init__" p2) [e] [] pos) env = (do
      let ov ← attributeBase (.Call (.Name "super" p0) [] [] p1) "__init__" env (eval (.Call (.Name "super" p0) [] [] p1) env)
      standAt p2.atName
      let (f, first) ← holding [ov] (getMethod ov "__init__" (pl env))
      callWith pos f first (backTo pos (starEach [e] env)) []))
    (hsw : ∀ env : PySem.Env, swapsWith (.Call (.Attribute (.Call (.Name "super" p0) [] [] p1) "__init__" p2) [e] [] pos) none pos2.line env = pure false)
    (hs : ∀ env : PySem.Env, starEach (e :: []) env = (false, eval e env) :: starEach [] env) (hpl : ∀ env : PySem.Env, (backTo pos (starEach [] env)).any (·.1) = false)
    (hbody : ∀ (A : Around) (outer : List PySem.Env) (s : Shared) (H : Hp) (vs : List V) (Q : VK) (E : XK), sp vs H Q E → ∃ (a : Addr) (ws : List V), vs = .ref a :: ws ∧ H a = some (exo a C none) ∧
      (∃ te, PE (ncx CX P w K mg base N F f A outer s H E) e te ∧ ∀ Q' : V → Hp → Prop, (∀ v, Q' v H) → te (startF N vs [none]) H Q') ∧
      ∃ t, PSs (ncx CX P w K mg base N F f A outer s H E) rest t ∧ t { nx := fun _ H' => Q .non H', rt := Q } (startF N vs [none]) H) :
    FnOk P w K mg base CX (k + 1) f (PySem.W.fnX F.name F.qual F.params F.body F.scope F.cl dV kV doc pm an (.ref F.c) ct) (slf :: ps') sp := by
  refine ⟨len, fun A outer s H args us vs Q E hr e0 hbt r hsp => ?_⟩
  have hl := len _ _ _ _ hsp
  have stays := fun b o (e : base.get? b = some o) => (e0.bs b o e).1
  have KX : K.In s.heap := e0.mod.kin.keeps stays
  have lim : s.heap.NoLimit := e0.mod.nolimit.keeps stays
  refine codeAny_call_function hr.depth (KX _ _ lk) rfl S.co S.gen rfl (PySem.W.codeRec_of KX hcd) (hbt _ _ _ _ ?_)
  refine wpAny_newFunctionEnv S.nocell (fun ⟨n, _⟩ hy => S.par n (List.of_mem_zip hy).1) (fun h₁ hns hsb => ⟨lim.fresh _ hsb, ?_⟩) S.kind
  refine ks_codeAny_funcAt (env := envF F f s.heap.objs.size) ?_
  have kp : ∀ b o, s.heap.get? b = some o → h₁.get? b = some o := fun b o e =>
    have old := Heap.lt_size e
    hsb.extBut b o (Nat.ne_of_lt old) (Heap.get?_push_of_some _ e)
  obtain ⟨cl, cld, csl, lkc⟩ := T.cell
  have hcc : H cc = none := (e0.bs cc _ (e0.mod.kin _ _ lkc)).2
  have hcell : s.heap.IsCell cc (some (.ref C)) := ⟨_, KX _ _ lkc, rfl⟩
  have lkup : ∀ (y : Str) (c : Addr), F.cl.lookup y = some c → y = "__class__" ∧ c = cc := fun y c z => by
    rw [hcl] at z
    simp only [List.lookup] at z
    split at z
    · rename_i hy
      exact ⟨by simpa using hy, (Option.some.inj z).symm⟩
    · cases z
  have hlc : F.cl.lookup ("__class__" : Str) = some cc := by
    rw [hcl]
    simp [List.lookup]
  have CA : CellsAt F.cl ["__class__"] [none] s.heap H := ⟨rfl, fun y c z => by
      obtain ⟨_, rfl⟩ := lkup y c z
      exact ⟨hcc, _, hcell⟩, fun x y c z1 z2 => (lkup x c z1).1.trans (lkup y c z2).1.symm, fun i y z => by
      have : y = "__class__" := by
        cases i with
        | zero => simpa using z.symm
        | succ i => simp at z
      subst this
      exact ⟨cc, hlc, fun v zv => by
        cases i with
        | zero => simp at zv
        | succ i => simp at zv⟩⟩
  have I : Inv (ncx CX P w K mg base N F f A outer s H E) [] (startF N vs [none]) H { s with heap := h₁, toks := s.toks + ((slf :: ps').zip us).length } := inv_startN S hr.hd e0 hl r CA hns kp
  obtain ⟨a, ws, rfl, ea, ⟨te, hte, pure⟩, t, ht, hq⟩ := hbody A outer s H vs Q E hsp
  have hN0 : N[0]? = some slf := by
    have := S.pre
    cases N with
    | nil => simp at this
    | cons x N => simp at this; rw [this.1]; rfl
  rw [hb]
  refine ks_wpAt_execs_cons ?_
  refine sup_init (X := ncx CX P w K mg base N F f A outer s H E) (cda := F.c) (slf := slf) (pl := pl _) T rfl rfl hlc hks (S.frk _ (by simp)) (S.par _ (by simp)) hN0 hdb (by show interactive (envF F f s.heap.objs.size) = false; unfold interactive; simp [S.kind]) I (by simp [startF]) ea hte pure (hs _) (hpl _) (fun s' J => ?_) (hev _) (hsw _)
  refine wpAt_of_wpAny (wpAny_mono (ht.run [] s' _ H _ J hq) (fun fl s'' hs => ?_) fun e s' hs => hs)
  cases fl with
  | ret u => exact let ⟨v, _, H', J, rv, q⟩ := hs; ⟨v, H', J.os, J.bare, J.base, J.hok, rv, q⟩
  | next => exact let ⟨_, H', J, q⟩ := hs; ⟨.non, H', J.os, J.bare, J.base, J.hok, rfl, q⟩
  | brk => exact hs.elim fun _ z => z.elim fun _ z => z.2.elim
  | cont => exact hs.elim fun _ z => z.elim fun _ z => z.2.elim
end
end Fw
namespace Fw
open PySem PySem.Spec PyProof.Rows L2 NdefX
/-- what an f-string can tell here -/
def okF (y : V) : Prop := (∃ i : Int, y = .int i ∧ i.natAbs.log2 < 1920) ∨ ∃ t : Str, y = .str t ∧ t.length ≤ 1000
theorem int_len {i : Int} (h : i.natAbs.log2 < 1920) : (Str.ofString (toString i)).length ≤ 1921 := by
  rw [PySem.ofString_length]
  exact int_text_length_le (k := 1920) (by decide) h
theorem str_app_len (a b : Str) : (a ++ b).length = a.length + b.length := by
  exact (Array.size_append : (a.cps ++ b.cps).size = _)
theorem js_const {z : Str} {ts : List TE} {acc : Str} {σ : L2.St} {H : Hp} {Q : Str → Hp → Prop} (hl : acc.length + z.length ≤ 20000) (k : tJs ts (acc ++ z) σ H Q) : tJs (tC (.str z) :: ts) acc σ H Q :=
  ⟨z, rfl, by rw [str_app_len, sizeLine_eq]; omega, k⟩
theorem js_var {i : Nat} {y : V} {ts : List TE} {acc : Str} {σ : L2.St} {H : Hp} {Q : Str → Hp → Prop} (hy : okF y) (hσ : σ[i]? = some (some y)) (hl : acc.length ≤ 10000) (k : ∀ t : Str, t.length ≤ 1921 → tJs ts (acc ++ t) σ H Q) : tJs (tFmt (tVar i) :: ts) acc σ H Q := by
  refine ⟨y, hσ, ?_⟩
  rcases hy with ⟨n, rfl, h⟩ | ⟨t, rfl, h⟩
  · refine .inr ⟨n, rfl, h, _, rfl, ?_, k _ (int_len h)⟩
    have := int_len h
    rw [str_app_len, sizeLine_eq]
    omega
  · refine .inl ⟨t, rfl, by rw [sizeLine_eq]; omega, t, rfl, ?_, k t (by omega)⟩
    rw [str_app_len, sizeLine_eq]
    omega
/-- the promise of such an __init__ of one field -/
def spE1 (C : Addr) (f1 : Str) : Sp := fun vs H Q _ => ∃ (a : Addr) (y : V), vs = [.ref a, y] ∧ H a = some (exo a C none) ∧ okF y ∧ ∀ dx, H dx = none → dx ≠ a → Q .non (upd (upd H dx (exd dx [(f1, y)])) a (exo a C (some dx)))
section
variable {CX : CXT} {P : Program} {w : World} {K : PySem.W.Frag} {mg : Str → Option Value} {base : Heap} {k : Nat} {f C cc : Addr} {slf x1 f1 z : Str} {F : NF} {dV kV doc pm ct oc : Value} {an od : Option Addr} {osl : Array (Option Value)}
  {p0 p1 p2 p3 p4 p5 p6 p7 p8 p9 q1 pos pos2 : Pos} {j : Nat}
theorem init1 (lk : K.lookup f = some ⟨oc, od, .func (PySem.W.fnX F.name F.qual F.params F.body F.scope F.cl dV kV doc pm an (.ref F.c) ct), osl⟩) (hcd : PySem.W.codeIn K (.ref F.c) F.qual = true) (S : NScope [slf, x1, "__class__"] [slf, x1] ["__class__"] F.scope)
    (hcl : F.cl = [(("__class__" : Str), cc)]) (T : Sup P K mg C f F.c cc slf)
    (hb : F.body = [.Expr (.Call (.Attribute (.Call (.Name "super" p0) [] [] p1) "__init__" p2) [.JoinedStr [.Constant (.str z) j p3, .FormattedValue (.Name x1 p4) (-1) none p5] p6] [] pos) pos2, .Assign [.Attribute (.Name slf p7) f1 p8] (.Name x1 p9) q1])
    (hks : F.scope.names.lookup ("super" : Str) = some .globalImplicit) (hdb : (slf == ("__debug__" : Str)) = false) (hdb1 : (x1 == ("__debug__" : Str)) = false) (hcd0 : (slf == ("__classdict__" : Str)) = false) (hcd1 : (x1 == ("__classdict__" : Str)) = false) (hz : z.length ≤ 1000)
    (hno : PySem.W.findIn K (.ref C) f1 = some none) {pl : PySem.Env → Sem Bool}
    (hev : ∀ env : PySem.Env, eval (.Call (.Attribute (.Call (.Name "super" p0) [] [] p1) "__init__" p2) [.JoinedStr [.Constant (.str z) j p3, .FormattedValue (.Name x1 p4) (-1) none p5] p6] [] pos) env = (do
      let ov ← attributeBase (.Call (.Name "super" p0) [] [] p1) "__init__" env (eval (.Call (.Name "super" p0) [] [] p1) env)
      standAt p2.atName
      let (f, first) ← holding [ov] (getMethod ov "__init__" (pl env))
      callWith pos f first (backTo pos (starEach [.JoinedStr [.Constant (.str z) j p3, .FormattedValue (.Name x1 p4) (-1) none p5] p6] env)) [])) :
    FnOk P w K mg base CX (k + 1) f (PySem.W.fnX F.name F.qual F.params F.body F.scope F.cl dV kV doc pm an (.ref F.c) ct) [slf, x1] (spE1 C f1) := by
  refine fn_init (ps' := [x1]) lk hcd S hcl T hb hks hdb (fun vs H Q E q => ?_) hev (fun env => rfl) (fun env => rfl) (fun env => rfl) ?_
  · obtain ⟨a, y, rfl, _⟩ := q
    rfl
  · rintro A outer s H vs Q E ⟨a, y, rfl, ea, hy, q⟩
    have vs0 : Vis F.scope slf := .inl (S.par _ (by simp))
    have vs1 : Vis F.scope x1 := .inl (S.par _ (by simp))
    refine ⟨a, [y], rfl, ea, ⟨_, pe_joined (.cons pe_str (.cons (pe_fmt (pe_var (i := 1) rfl vs1 hdb1 hcd1)) .nil)), fun Q' h => ?_⟩, _, pss_one (ps_ost (pe_var (i := 0) rfl vs0 hdb hcd0) (pe_var (i := 1) rfl vs1 hdb1 hcd1)), ?_⟩
    · exact js_const (by show 0 + z.length ≤ 20000; omega) (js_var hy rfl (by rw [str_app_len]; show 0 + z.length ≤ 10000; omega) fun t ht => h _)
    · exact ⟨y, rfl, .ref a, rfl, a, C, rfl, T.oex, hno, .inl ⟨ea, fun dx h1 h2 => q dx h1 h2⟩⟩
end
end Fw
set_option Elab.async false
set_option linter.all false
set_option maxRecDepth 100000
set_option maxHeartbeats 2000000
set_option autoImplicit false
namespace Fw
open PySem PySem.Spec PyProof.Rows L2
structure EkI (P : Program) (W : World) (K : PySem.W.Frag) (cls : Nat → Option Addr) (mgl : Str → Option Value) (base : Heap) (j : Nat) (x : Str) (k : Nat) (C : Addr) (f1 : Str) : Prop extends Ek K cls mgl x k C where
  oex : OexC K C
  init : ∃ (fI : Addr) (fd : FuncData) (ps : List Str), PySem.W.findIn K (.ref C) "__init__" = some (some (.ref fI)) ∧ PySem.W.typeIn K (.ref fI) = some (.type "function") ∧ FnOk P W K mgl base (CX P W) j fI fd ps (spE1 C f1) ∧ Binds K fd ps []
def okE : D → Bool
  | .int i => decide (i.natAbs.log2 < 1920)
  | .str s => decide (s.length ≤ 1000)
  | _ => false
/-- raise X(e) -/
def sRaise1 (k : Nat) (f1 : Str) (fe : FE) : FS := fun ρ μ => rS ρ (fe ρ μ) fun d μ1 => if okE d = true then .er k [f1] [d] ρ μ1 else .stuck
@[simp] theorem sRaise1_ev {k : Nat} {f1 : Str} {fe : FE} {ρ : Env} {μ : Store} : sRaise1 k f1 fe ρ μ = rS ρ (fe ρ μ) fun d μ1 => if okE d = true then .er k [f1] [d] ρ μ1 else .stuck := (rfl)
theorem okE_rv {K : PySem.W.Frag} {cls : Nat → Option Addr} {w : Wd} {d : D} {v : V} (h : okE d = true) (r : RV K cls w d v) : okF v := by
  cases d with
  | int i => exact .inl ⟨i, r, by simpa [okE] using h⟩
  | str s =>
    refine .inr ⟨⟨s.toArray⟩, r, ?_⟩
    have : s.length ≤ 1000 := by simpa [okE] using h
    simpa [Str.length] using this
  | _ => cases h
theorem noPass {X : Cx} : Passes (CX X.prog X.w) X (fun _ _ _ => False) := fun pins σ H s e s' I h => by
  obtain ⟨_, _, _, _, _, _, _, _, _, _, _, _, h⟩ := h
  exact h.elim
section
variable {X : Cx} {W : WX} {cls : Nat → Option Addr} {x f1 : Str} {j k : Nat} {C : Addr} {p pos rpos : Pos} {e : Expr} {fe : FE}
theorem ss_raise1 (hc : X.calm = true) (tk : Takes X W) (T : EkI X.prog X.w X.K cls X.mg X.base j x k C f1) (hr : Room (j + 1) X.A) (hg : Gl X x) (he : SE X W cls e fe) (hdb : (x == ("__debug__" : Str)) = false := by decide +kernel)
    (hs : starEach (e :: []) X.env = (false, eval e X.env) :: starEach [] X.env := by rfl) (hpl : (backTo pos (starEach [] X.env)).any (·.1) = false := by rfl) :
    SS X W cls (.Raise (some (.Call (.Name x p) [e] [] pos)) none rpos) (sRaise1 k f1 fe) := by
  obtain ⟨fI, fd, ps, iC, tI, F1, hb⟩ := T.init
  obtain ⟨t1, p1, h1⟩ := sa_cons he sa_nil hs
  refine ⟨_, ps_raise hc tk (pmk_oex T.oex iC tI F1 hr hb (dvs := []) .nil noPass hg T.mg p1 hdb hs hpl), fun D σ w ρ μ S E h => ?_⟩
  refine h1 σ _ w ρ μ S E ?_
  have h2 : PostS X.K cls w W D (rS ρ ((aCons fe aNil) ρ μ) fun ds μ1 => match ds with | [d] => if okE d = true then .er k [f1] [d] ρ μ1 else .stuck | _ => .stuck) := by
    rw [sRaise1_ev] at h
    rw [aCons_ev]
    cases hf : fe ρ μ with
    | ok d μ1 => rw [hf] at h; exact h
    | err => rw [hf] at h; exact h
    | stuck => rw [hf] at h; exact h
  refine (PostS.bind E h2).imp fun w1 ds s1 ⟨μ1, S1, q1⟩ vs r1 => ?_
  split at q1
  · rename_i d
    split at q1
    · rename_i ok
      · obtain ⟨v, rest, rfl, rd, rn⟩ := r1
        obtain rfl : rest = [] := rn
        refine ⟨by simp, fun a ha => ?_⟩
        refine ⟨a, v, rfl, upd_same, okE_rv ok rd, fun dx hdx hne => ?_⟩
        have hdx1 : w1.H dx = none := by rwa [upd_ne hne] at hdx
        refine ⟨rfl, dx, [(f1, v)], upd_same, by rw [upd_ne hne, upd_same], hdx1, ?_⟩
        have eH : upd (del (upd (upd (upd w1.H a (exo a C none)) dx (exd dx [(f1, v)])) a (exo a C (some dx))) a) dx (.xd [(f1, v)]) = (w1.up dx (.xd [(f1, v)])).H := by
          funext b
          show _ = upd w1.H dx (.xd [(f1, v)]) b
          by_cases hb1 : b = dx
          · subst hb1
            rw [upd_same, upd_same]
          · rw [upd_ne hb1, upd_ne hb1]
            by_cases hb2 : b = a
            · subst hb2
              rw [del_same, ha]
            · rw [del_ne hb2, upd_ne hb2, upd_ne hb1, upd_ne hb2]
        rw [eH]
        have fr := S1.free hdx1
        exact q1 (w1.up dx (.xd [(f1, v)])) σ (.ref C) (some dx) (step_new hdx1) (S1.new hdx1) ((E.mono s1.kp).mono (step_new hdx1).kp) ⟨C, T.at_, rfl, .inr ⟨dx, [v], rfl, ⟨upd_same, fr.1, fr.2⟩, rfl, ⟨v, [], rfl, rd.mono (step_new hdx1).kp, rfl⟩⟩⟩
    · exact q1.elim
  · exact q1.elim
end
end Fw
set_option Elab.async false
set_option linter.all false
set_option maxRecDepth 100000
set_option maxHeartbeats 2000000
set_option autoImplicit false
namespace Fw
open PySem PySem.Spec PyProof.Rows L2 NdefX
section
variable {P : Program} {W : World} {K : PySem.W.Frag} {cls : Nat → Option Addr} {mg : Str → Option Value} {base : Heap} {x f1 qual slf x1 z : Str} {k : Nat} {C fI cda cc : Addr} {st : Stmt}
  {od an : Option Addr} {osl : Array (Option Value)} {oc kV doc pm ct : Value}
  {nm q : Str} {N : Addr} {bs bm : List Value} {sn : List Str} {sub : List Value} {ab : Bool} {col : Option Bool} {dd : Option Addr} {k0 k1 k2 k3 k5 : Option Value}
  {ccl : Value} {cdd : Option Addr} {vs : Array Value} {ccs : Array (Option Value)} {file : Str} {tf : Tok} {cl : Value} {cld : Option Addr} {csl : Array (Option Value)}
  {p0 p1 p2 p3 p4 p5 p6 p7 p8 p9 q1 pos pos2 ap0 ap1 : Pos} {j : Nat}
theorem eki_mk (at_ : 100 ≤ k ∧ cls k = some C) (hm : mg x = some (.ref C)) (kc : PySem.W.keepIn K (.ref C) = true) (sb : PySem.W.subIn K (.ref C) (.type "BaseException") = some true) (ty : PySem.W.typeIn K (.ref C) = some (.type "type"))
    (lo : K.lookup C = some (excClassObj nm q C N bs bm true sn sub ab col dd k0 k1 k2 k3 k5 "ValueError.__new__")) (rf : PySem.HandSPX.refsVE bm = true)
    (sa : PySem.W.findIn K (.ref C) "__setattr__" = some (some (.builtin "object.__setattr__"))) (ia : PySem.W.findIn K (.ref C) "__init__" = some (some (.ref fI))) (it : PySem.W.typeIn K (.ref fI) = some (.type "function"))
    (li : K.lookup fI = some ⟨oc, od, .func (PySem.W.fnX "__init__" qual (defArgs st) (defBody st) (defScope st) [(("__class__" : Str), cc)] .none kV doc pm an (.ref cda) ct), osl⟩) (ci : PySem.W.codeIn K (.ref cda) qual = true)
    (sv : PySem.W.subIn K (.ref C) (.type "ValueError") = some true) (mr : PySem.W.mroIn K C (.ref C) = some true) (su : PySem.W.ks_superIn K C C "__init__" = some (some (.builtin "ValueError.__init__")))
    (lk : K.lookup cda = some ⟨ccl, cdd, .fields vs, ccs⟩) (vf : vs[2]? = some (.str file tf)) (ff : ((P.main.file : Str) == file) = true) (lc : K.lookup cc = some ⟨cl, cld, .cell (some (.ref C)), csl⟩)
    (nf : PySem.W.findIn K (.ref C) f1 = some none) (any : PySem.W.nsIn K cStatics "thirdparty.any" = some none) (sup : mg "super" = none) (top : (P.main.scope.names.lookup ("super" : Str)).isSome = false)
    (hargs : defArgs st = ⟨[], [⟨slf, none, ap0⟩, ⟨x1, none, ap1⟩], none, [], [], none, []⟩)
    (hb : defBody st = [.Expr (.Call (.Attribute (.Call (.Name "super" p0) [] [] p1) "__init__" p2) [.JoinedStr [.Constant (.str z) j p3, .FormattedValue (.Name x1 p4) (-1) none p5] p6] [] pos) pos2, .Assign [.Attribute (.Name slf p7) f1 p8] (.Name x1 p9) q1])
    (S : nscB [slf, x1, "__class__"] [slf, x1] ["__class__"] (defScope st) = true) (hks : (defScope st).names.lookup ("super" : Str) = some .globalImplicit)
    (hw : ((slf == ("__debug__" : Str)) || (x1 == ("__debug__" : Str)) || (slf == ("__classdict__" : Str)) || (x1 == ("__classdict__" : Str)) || slf == x1) = false) (hz : z.length ≤ 1000) {pl : PySem.Env → Sem Bool}
    (hev : ∀ env : PySem.Env, eval (.Call (.Attribute (.Call (.Name "super" p0) [] [] p1) "__init__" p2) [.JoinedStr [.Constant (.str z) j p3, .FormattedValue (.Name x1 p4) (-1) none p5] p6] [] pos) env = (do
      let ov ← attributeBase (.Call (.Name "super" p0) [] [] p1) "__init__" env (eval (.Call (.Name "super" p0) [] [] p1) env)
      standAt p2.atName
      let (f, first) ← holding [ov] (getMethod ov "__init__" (pl env))
      callWith pos f first (backTo pos (starEach [.JoinedStr [.Constant (.str z) j p3, .FormattedValue (.Name x1 p4) (-1) none p5] p6] env)) []))
    (hbi : ∀ us : List Value, us.length = [slf, x1].length → bindArgs (PySem.W.fnX "__init__" qual (defArgs st) (defBody st) (defScope st) [(("__class__" : Str), cc)] .none kV doc pm an (.ref cda) ct) ⟨us, []⟩ = pure ([slf, x1].zip us)) :
    EkI P W K cls mg base 1 x k C f1 := by
  simp only [Bool.or_eq_false_iff] at hw
  obtain ⟨⟨⟨⟨w1, w2⟩, w3⟩, w4⟩, w5⟩ := hw
  have ox : OexC K C := ⟨⟨nm, q, N, bs, bm, sn, sub, ab, col, dd, k0, k1, k2, k3, k5, lo, rf⟩, sa, sb, ty, kc⟩
  have T : Sup P K mg C fI cda cc slf := ⟨ox, any, su, sv, mr, ⟨_, _, _, _, ⟨slf, none, ap0⟩, li, by show (_ : List Arg).head? = _; rw [show (defArgs st).posonlyargs = [] by rw [hargs], show (defArgs st).args = _ by rw [hargs]] <;> rfl, rfl⟩, ⟨_, _, _, _, _, _, lk, vf, ff⟩, ⟨_, _, _, lc⟩, sup, top⟩
  refine ⟨⟨at_, hm, kc, sb, ty⟩, ox, fI, _, [slf, x1], ia, it, init1 (F := ⟨"__init__", qual, defArgs st, defBody st, defScope st, [(("__class__" : Str), cc)], cda⟩) li ci (nscope_by S) rfl T hb hks w1 w2 w3 w4 hz nf hev, .all hbi⟩
end
end Fw
set_option Elab.async false
set_option linter.all false
set_option maxRecDepth 100000
set_option maxHeartbeats 2000000
set_option autoImplicit false
namespace Fw
open PySem PySem.Spec PyProof.Rows L2
abbrev Cl := Value × (Addr → Value → Option Addr → TS)
/-- the ends of a suite behind which slot i is gone -/
abbrev gone (i : Nat) (D : Ends) : Ends := { nx := fun σ' H' => D.nx (σ'.set i none) H', rt := D.rt, bk := fun σ' H' => D.bk (σ'.set i none) H', ct := fun σ' H' => D.ct (σ'.set i none) H' }
inductive ClsOk (X : Cx) (n : Str) : List ExceptHandler → List Cl → Prop
  | nil : ClsOk X n [] []
  | cons {x : Str} {c : Value} {ts : Addr → Value → Option Addr → TS} {st : Stmt} {suite : List Stmt} {np pos' : Pos} {hds : List ExceptHandler} {l : List Cl} (hc : Names X x c)
      (hsu : ∀ (a : Addr) (oe : Obj) (cls : Value) (d : Option Addr) (pn : List (Addr × Obj)), Zc cls d oe → (∃ vs, oe.data = .fields vs) → PSs (X.suite a ((a, oe) :: pn)) (st :: suite) (ts a cls d)) (r : ClsOk X n hds l) :
      ClsOk X n (.ExceptHandler (some (.Name x np)) (some n) (st :: suite) pos' :: hds) ((c, ts) :: l)
/-- the error a has landed ahead of the clauses, in the state s; s0 is the state without it -/
structure Lies (X : Cx) (pins : List (Addr × Obj)) (σ : L2.St) (H : Hp) (a : Addr) (cls : Value) (d : Option Addr) (s : Shared) : Prop where
  from0 : ∃ (B : Heap) (s0 : Shared), Inv X pins σ H s0 ∧ (∀ b o, s0.heap.get? b = some o → b ∉ frs X.stack → B.get? b = some o) ∧ s0.heap.UpToSlots s.heap ∧ s.os = s0.os ∧ AllBare s.gens ∧
    HandSPX.FlyingZ B X.stack a (Zc cls d) s.heap
  new : H a = none
section
variable {X : Cx} {pins : List (Addr × Obj)} {σ : L2.St} {H : Hp} {a : Addr} {cls : Value} {d : Option Addr} {s : Shared}
theorem Lies.inv (y : Lies X pins σ H a cls d s) : Inv X pins σ H s :=
  let ⟨_, _, J, nb, up, os, ag, fl⟩ := y.from0
  J.landed nb fl.1 up os ag
theorem Lies.obj (y : Lies X pins σ H a cls d s) : ∃ oe, s.heap.get? a = some oe ∧ Zc cls d oe ∧ ∃ vs, oe.data = .fields vs :=
  let ⟨_, _, _, _, _, _, _, fl⟩ := y.from0
  let ⟨oe, vs, e, z, q⟩ := fl.there
  ⟨oe, e, z, vs, q⟩
/-- no frame lies there -/
theorem Lies.noFrame (y : Lies X pins σ H a cls d s) : a ∉ frs X.stack := by
  intro z
  obtain ⟨_, _, _, _, _, _, _, fl⟩ := y.from0
  obtain ⟨oe, e, _, vs, q⟩ := y.obj
  obtain ⟨_, o', e', no⟩ := fl.2.2.1.mem z
  exact no vs (by rw [← q, show o' = oe from Option.some.inj (e'.symm.trans e)])
theorem Lies.suite (y : Lies X pins σ H a cls d s) (hs : X.stack = X.env :: X.outer) (hf : X.env.frame = some X.env.locals) {oe : Obj} (e : s.heap.get? a = some oe) {vs : Array Value} (q : oe.data = .fields vs) :
    Inv (X.suite a ((a, oe) :: (X.pn ++ pins))) [] σ H s := by
  have off := y.noFrame
  rw [hs] at off
  have two : frs (X.env :: X.outer) = X.env.locals :: X.fs := by simp [frs, Cx.fs, hf]
  rw [two, List.mem_cons, not_or] at off
  exact y.inv.suite e q y.new off.1 off.2
/-- no clause takes it: it flies on -/
theorem Lies.on {W : WX} {α : Type} {Q : α → Shared → Prop} (y : Lies X pins σ H a cls d s) (hf : X.env.frame = some X.env.locals) (tk : Takes X W) (w : W cls d σ H) :
    wpAny (model X.prog X.w) X.A (passOn "try.no-clause-matches" (.ref a) X.env) Q X.xe s := by
  obtain ⟨B, s0, J, nb, up, os, ag, fl⟩ := y.from0
  obtain ⟨_, _, _, oe, vs, T, _, _, e, _, q, tr, _⟩ := id fl
  unfold PySem.passOn
  refine wpAny_bind (wpAny_field e q tr ?_)
  have live : (Value.ref T == Value.none) = false := by simp
  simp only [live, Bool.false_eq_true, if_false, pure_bind]
  refine wpAny_bind ?_
  rw [hf]
  exact HandSPX.setFlight_upZ fl fun h2 fl2 up2 => wpAny_throw (tk _ _ ⟨a, B, s0, pins, σ, H, cls, d, rfl, J, nb, up.trans up2, .inr (.inr fl2), y.new, os, ag, w⟩)
/-- a clause's class is read -/
theorem Lies.named {x : Str} {c : Value} {np : Pos} {A : Around} {E : Value → Shared → Prop} {Q : Value → Shared → Prop} (y : Lies X pins σ H a cls d s) (hs : X.stack = X.env :: X.outer) (hf : X.env.frame = some X.env.locals)
    (hc : Names X x c) (q : Q c s) : wpAny (model X.prog X.w) (X.A.mark (some (.ref a))) (eval (.Name x np) X.env) Q E s := by
  obtain ⟨oe, e, _, vs, ed⟩ := y.obj
  have S := y.suite hs hf e ed
  rcases hc with ⟨g, dbg, own | ⟨blt, v, ne⟩⟩
  · exact ld_glob (X := X.suite a ((a, oe) :: (X.pn ++ pins))) S g own q dbg
  · exact ld_blt (X := X.suite a ((a, oe) :: (X.pn ++ pins))) S g blt v q ne dbg
end
end Fw
set_option Elab.async false
set_option linter.all false
set_option maxRecDepth 100000
set_option maxHeartbeats 2000000
set_option autoImplicit false
namespace Fw
open PySem PySem.Spec PyProof.Rows L2
/-- no error leaves -/
abbrev NoW : WX := fun _ _ _ _ => False
abbrev XFS := Nat → List Str → List D → FS
/-- behind a suite: the name is gone -/
def goneR (i : Nat) : SR → SR
  | .nx ρ μ => .nx (ρ.set i none) μ
  | .rt d μ => .rt d μ
  | .bk ρ μ => .bk (ρ.set i none) μ
  | .ct ρ μ => .ct (ρ.set i none) μ
  | _ => .stuck
def hdl (i : Nat) : List ((Nat → Bool) × XFS) → XFS
  | [] => fun k ns ds ρ μ => .er k ns ds ρ μ
  | (t, f) :: r => fun k ns ds ρ μ => if t k = true then (if i < ρ.length then goneR i (f k ns ds (ρ.set i none) μ) else .stuck) else hdl i r k ns ds ρ μ
def sTryAs (i : Nat) (fb : FS) (hs : List ((Nat → Bool) × XFS)) : FS := fun ρ μ => match fb ρ μ with
  | .er k ns ds ρ1 μ1 => hdl i hs k ns ds ρ1 μ1
  | r => r
@[simp] theorem sTryAs_ev {i : Nat} {fb : FS} {hs : List ((Nat → Bool) × XFS)} {ρ : Env} {μ : Store} : sTryAs i fb hs ρ μ = match fb ρ μ with
  | .er k ns ds ρ1 μ1 => hdl i hs k ns ds ρ1 μ1
  | r => r := (rfl)
section
variable {X : Cx} {W : WX} {cls : Nat → Option Addr} {i : Nat}
/-- a suite, the error known -/
def SSX (X : Cx) (cls : Nat → Option Addr) (i : Nat) (suite : List Stmt) (f : XFS) : Prop := ∀ (a : Addr) (oe : Obj) (cv : Value) (d : Option Addr) (pn : List (Addr × Obj)), Zc cv d oe → (∃ vs, oe.data = .fields vs) →
  ∃ t, PSs (X.suite a ((a, oe) :: pn)) suite t ∧ ∀ (D : Ends) (σ : L2.St) (w : Wd) (ρ : Env) (μ : Store) (k : Nat) (ns : List Str) (ds : List Fw.D), RelS X.K cls w μ → RelE X.K cls w ρ σ → RErr X.K cls w k ns ds cv d → σ[i]? = some (some (.ref a)) → w.H a = none →
    PostS X.K cls w NoW D (f k ns ds ρ μ) → t D σ w.H
/-- the wish of a suite, whatever the error -/
def tsOf (K : PySem.W.Frag) (cls : Nat → Option Addr) (i : Nat) (f : XFS) (a : Addr) (cv : Value) (d : Option Addr) : TS := fun D σ H => ∃ (w : Wd) (ρ : Env) (μ : Store) (k : Nat) (ns : List Str) (ds : List Fw.D), w.H = H ∧ RelS K cls w μ ∧ RelE K cls w ρ σ ∧
  RErr K cls w k ns ds cv d ∧ σ[i]? = some (some (.ref a)) ∧ w.H a = none ∧ PostS K cls w NoW D (f k ns ds ρ μ)
/-- a clause: the class that it names, the errors that it takes, its suite -/
structure Clause where
  c : Value
  t : Nat → Bool
  f : XFS
inductive CsOk (X : Cx) (cls : Nat → Option Addr) (n : Str) (i : Nat) : List ExceptHandler → List Clause → Prop
  | nil : CsOk X cls n i [] []
  | cons {x : Str} {q : Clause} {st : Stmt} {suite : List Stmt} {np pos' : Pos} {hds : List ExceptHandler} {l : List Clause} (hc : Names X x q.c) (ht : ∀ k C, 100 ≤ k → cls k = some C → PySem.W.exmOne X.K (.ref C) q.c = some (q.t k))
      (hsu : SSX X cls i (st :: suite) q.f) (r : CsOk X cls n i hds l) : CsOk X cls n i (.ExceptHandler (some (.Name x np)) (some n) (st :: suite) pos' :: hds) (q :: l)
theorem CsOk.ok {n : Str} {hds : List ExceptHandler} {l : List Clause} (h : CsOk X cls n i hds l) : ClsOk X n hds (l.map fun q => (q.c, tsOf X.K cls i q.f)) := by
  induction h with
  | nil => exact .nil
  | @cons x q st suite np pos' hds l hc ht hsu r ih =>
    refine .cons hc (fun a oe cv d pn hz hf => ⟨fun pins s σ H D I hw => ?_⟩) ih
    obtain ⟨t, p, imp⟩ := hsu a oe cv d pn hz hf
    obtain ⟨w, ρ, μ, k, ns, ds, rfl, S, E, R, hi, na, q⟩ := hw
    exact p.run pins s σ _ D I (imp D σ w ρ μ k ns ds S E R hi na q)
theorem relE_set {K : PySem.W.Frag} {w : Wd} {ρ : Env} {σ : L2.St} {v : Option V} (E : RelE K cls w ρ σ) : RelE K cls w (ρ.set i none) (σ.set i v) := by
  refine ⟨by rw [List.length_set, List.length_set]; exact E.1, fun j d h => ?_⟩
  by_cases hj : i = j
  · subst hj
    rw [List.getElem?_set] at h
    split at h
    · split at h <;> cases h
    · rename_i z; exact absurd rfl z
  · rw [List.getElem?_set_ne hj] at h ⊢
    exact E.2 j d h
end
end Fw
set_option Elab.async false
set_option linter.all false
set_option maxRecDepth 100000
set_option maxHeartbeats 2000000
set_option autoImplicit false
namespace Fw
open PySem PySem.Spec PyProof.Rows L2
end Fw
set_option Elab.async false
set_option linter.all false
set_option maxRecDepth 100000
set_option maxHeartbeats 2000000
set_option autoImplicit false
namespace Fw
open PySem PySem.Spec PyProof.Rows L2
/-- what clauses wish, one after the other, each with what its suite wishes -/
def wG (K : PySem.W.Frag) (Wout : WX) (D : Ends) : List Cl → WX
  | [] => Wout
  | (c, ts) :: r => fun cls d σ H => ∃ b, PySem.W.exmOne K cls c = some b ∧ (b = true → ∀ a, H a = none → ts a cls d D σ H) ∧ (b = false → wG K Wout D r cls d σ H)
/-- a suite that names the error -/
abbrev tsN (i : Nat) (ts : Addr → Value → Option Addr → TS) (a : Addr) (cls : Value) (d : Option Addr) : TS := fun D σ H => ts a cls d (gone i D) (σ.set i (some (.ref a))) H
inductive ClG (X : Cx) : List ExceptHandler → List Cl → Prop
  | nil : ClG X [] []
  | named {x n : Str} {i : Nat} {c : Value} {ts : Addr → Value → Option Addr → TS} {st : Stmt} {suite : List Stmt} {np pos' : Pos} {hds : List ExceptHandler} {l : List Cl} (hi : X.N[i]? = some n) (hln : X.env.kindOf n = some .local) (hc : Names X x c)
      (hsu : ∀ (a : Addr) (oe : Obj) (cls : Value) (d : Option Addr) (pn : List (Addr × Obj)), Zc cls d oe → (∃ vs, oe.data = .fields vs) → PSs (X.suite a ((a, oe) :: pn)) (st :: suite) (ts a cls d)) (r : ClG X hds l) :
      ClG X (.ExceptHandler (some (.Name x np)) (some n) (st :: suite) pos' :: hds) ((c, tsN i ts) :: l)
  | bare {x : Str} {c : Value} {ts : Addr → Value → Option Addr → TS} {st : Stmt} {suite : List Stmt} {np pos' : Pos} {hds : List ExceptHandler} {l : List Cl} (hc : Names X x c)
      (hsu : ∀ (a : Addr) (oe : Obj) (cls : Value) (d : Option Addr) (pn : List (Addr × Obj)), Zc cls d oe → (∃ vs, oe.data = .fields vs) → PSs (X.suite a ((a, oe) :: pn)) (st :: suite) (ts a cls d)) (r : ClG X hds l) :
      ClG X (.ExceptHandler (some (.Name x np)) none (st :: suite) pos' :: hds) ((c, ts) :: l)
/-- a clause's suite that names the error at i, or does not name it -/
def nmd (i : Nat) (f : XFS) : XFS := fun k ns ds ρ μ => if i < ρ.length then goneR i (f k ns ds (ρ.set i none) μ) else .stuck
def hdlG : List ((Nat → Bool) × XFS) → XFS
  | [] => fun k ns ds ρ μ => .er k ns ds ρ μ
  | (t, f) :: r => fun k ns ds ρ μ => if t k = true then f k ns ds ρ μ else hdlG r k ns ds ρ μ
def sTry (fb : FS) (hs : List ((Nat → Bool) × XFS)) : FS := fun ρ μ => match fb ρ μ with
  | .er k ns ds ρ1 μ1 => hdlG hs k ns ds ρ1 μ1
  | r => r
@[simp] theorem sTry_ev {fb : FS} {hs : List ((Nat → Bool) × XFS)} {ρ : Env} {μ : Store} : sTry fb hs ρ μ = match fb ρ μ with
  | .er k ns ds ρ1 μ1 => hdlG hs k ns ds ρ1 μ1
  | r => r := (rfl)
/-- a suite may not raise -/
def noEr : SR → SR
  | .er _ _ _ _ _ => .stuck
  | r => r
section
variable {X : Cx} {W : WX} {cls : Nat → Option Addr}
inductive CsG (X : Cx) (cls : Nat → Option Addr) : List ExceptHandler → List Clause → Prop
  | nil : CsG X cls [] []
  | named {x n : Str} {i : Nat} {c : Value} {t : Nat → Bool} {f : XFS} {st : Stmt} {suite : List Stmt} {np pos' : Pos} {hds : List ExceptHandler} {l : List Clause} (hi : X.N[i]? = some n) (hln : X.env.kindOf n = some .local) (hc : Names X x c)
      (ht : ∀ k C, 100 ≤ k → cls k = some C → PySem.W.exmOne X.K (.ref C) c = some (t k)) (hsu : SSX X cls i (st :: suite) f) (r : CsG X cls hds l) : CsG X cls (.ExceptHandler (some (.Name x np)) (some n) (st :: suite) pos' :: hds) (⟨c, t, nmd i f⟩ :: l)
  | bare {x : Str} {c : Value} {t : Nat → Bool} {f : FS} {st : Stmt} {suite : List Stmt} {np pos' : Pos} {hds : List ExceptHandler} {l : List Clause} (hc : Names X x c) (ht : ∀ k C, 100 ≤ k → cls k = some C → PySem.W.exmOne X.K (.ref C) c = some (t k))
      (hsu : ∀ (a : Addr) (oe : Obj) (pn : List (Addr × Obj)), SSs (X.suite a ((a, oe) :: pn)) NoW cls (st :: suite) f) (r : CsG X cls hds l) : CsG X cls (.ExceptHandler (some (.Name x np)) none (st :: suite) pos' :: hds) (⟨c, t, fun _ _ _ ρ μ => noEr (f ρ μ)⟩ :: l)
theorem gone_post {K : PySem.W.Frag} {i : Nat} {w : Wd} {D : Ends} {r : SR} (h : PostS K cls w W D (goneR i r)) : PostS K cls w NoW (gone i D) r := by
  cases r with
  | nx ρ2 μ2 => exact fun w2 σ2 s2 S2 E2 => h w2 _ s2 S2 (relE_set E2)
  | rt e μ2 => exact h
  | bk ρ2 μ2 => exact fun w2 σ2 s2 S2 E2 => h w2 _ s2 S2 (relE_set E2)
  | ct ρ2 μ2 => exact fun w2 σ2 s2 S2 E2 => h w2 _ s2 S2 (relE_set E2)
  | er => exact h.elim
  | stuck => exact h.elim
theorem noEr_post {K : PySem.W.Frag} {w : Wd} {D : Ends} {r : SR} (h : PostS K cls w W D (noEr r)) : PostS K cls w NoW D r := by
  cases r <;> first | exact h | exact h.elim
/-- the wish of a suite that does not name the error -/
def tsB (K : PySem.W.Frag) (cls : Nat → Option Addr) (f : FS) : TS := fun D σ H => ∃ (w : Wd) (ρ : Env) (μ : Store), w.H = H ∧ RelS K cls w μ ∧ RelE K cls w ρ σ ∧ PostS K cls w NoW D (f ρ μ)
theorem CsG.ok {hds : List ExceptHandler} {l : List Clause} (h : CsG X cls hds l) : ∃ l', ClG X hds l' ∧ ∀ {D : Ends} {w : Wd} {σ : L2.St} {ρ : Env} {μ : Store} {k : Nat} {ns : List Str} {ds : List Fw.D} {cv : Value} {d : Option Addr}, RelS X.K cls w μ → RelE X.K cls w ρ σ → RErr X.K cls w k ns ds cv d →
    PostS X.K cls w W D (hdlG (l.map fun q => (q.t, q.f)) k ns ds ρ μ) → wG X.K W D l' cv d σ w.H := by
  induction h with
  | nil => exact ⟨[], .nil, fun S E R q => q _ _ _ _ Step.refl S E R⟩
  | @named x n i c t f st suite np pos' hds l hi hln hc ht hsu r ih =>
    obtain ⟨l', h1, h2⟩ := ih
    refine ⟨_, .named hi hln hc (ts := tsOf X.K cls i f) (fun a oe cv d pn hz hf => ⟨fun pins s σ H D I hw => ?_⟩) h1, fun {D w σ ρ μ k ns ds cv d} S E R q => ?_⟩
    · obtain ⟨t', p, imp⟩ := hsu a oe cv d pn hz hf
      obtain ⟨w, ρ, μ, k, ns, ds, rfl, S, E, R, hi, na, q⟩ := hw
      exact p.run pins s σ _ D I (imp D σ w ρ μ k ns ds S E R hi na q)
    · obtain ⟨C, ⟨k1, k2⟩, rfl, _⟩ := id R
      refine ⟨t k, ht k C k1 k2, fun hb a ha => ?_, fun hb => h2 S E R ?_⟩
      · have q : PostS X.K cls w W D (if t k = true then nmd i f k ns ds ρ μ else hdlG (l.map fun q => (q.t, q.f)) k ns ds ρ μ) := q
        rw [if_pos hb] at q
        unfold nmd at q
        split at q
        · rename_i lt
          rw [← E.1] at lt
          exact ⟨w, ρ.set i none, μ, k, ns, ds, rfl, S, relE_set E, R, by rw [List.getElem?_set_self lt], ha, gone_post q⟩
        · exact q.elim
      · have q : PostS X.K cls w W D (if t k = true then nmd i f k ns ds ρ μ else hdlG (l.map fun q => (q.t, q.f)) k ns ds ρ μ) := q
        rw [if_neg (by rw [hb]; exact Bool.false_ne_true)] at q
        exact q
  | @bare x c t f st suite np pos' hds l hc ht hsu r ih =>
    obtain ⟨l', h1, h2⟩ := ih
    refine ⟨_, .bare hc (ts := fun _ _ _ => tsB X.K cls f) (fun a oe cv d pn hz hf => ⟨fun pins s σ H D I hw => ?_⟩) h1, fun {D w σ ρ μ k ns ds cv d} S E R q => ?_⟩
    · obtain ⟨t', p, imp⟩ := hsu a oe pn
      obtain ⟨w, ρ, μ, rfl, S, E, q⟩ := hw
      exact p.run pins s σ _ D I (imp D σ w ρ μ S E q)
    · obtain ⟨C, ⟨k1, k2⟩, rfl, _⟩ := id R
      have q : PostS X.K cls w W D (if t k = true then noEr (f ρ μ) else hdlG (l.map fun q => (q.t, q.f)) k ns ds ρ μ) := q
      refine ⟨t k, ht k C k1 k2, fun hb a ha => ?_, fun hb => h2 S E R ?_⟩
      · rw [if_pos hb] at q
        exact ⟨w, ρ, μ, rfl, S, E, noEr_post q⟩
      · rw [if_neg (by rw [hb]; exact Bool.false_ne_true)] at q
        exact q
end
end Fw
set_option Elab.async false
set_option linter.all false
set_option maxRecDepth 100000
set_option maxHeartbeats 2000000
set_option autoImplicit false
namespace Fw
open PySem PySem.Spec PyProof.Rows L2 LamX
end Fw
set_option Elab.async false
set_option linter.all false
set_option maxRecDepth 100000
set_option maxHeartbeats 2000000
set_option autoImplicit false
namespace Fw
open PySem PySem.Spec PyProof.Rows L2
end Fw
set_option Elab.async false
set_option linter.all false
set_option maxRecDepth 100000
set_option maxHeartbeats 2000000
set_option autoImplicit false
namespace Fw
open PySem PySem.Spec PySem.Calls PyProof.Rows L2
section
variable (X : Cx) (cls : Nat → Option Addr) (J : Wd → L2.St → Prop)
def JT (e : Expr) (f : FT) : Prop := ∃ t, PT X e t ∧ ∀ (σ : L2.St) (Q : Bool → Hp → Prop) (w : Wd) (ρ : Env) (μ : Store), RelS X.K cls w μ → RelE X.K cls w ρ σ → J w σ → PostR X.K cls w E00 (fun w' b => Q b w'.H) (f ρ μ) → t σ w.H Q
def JW (e : Expr) (f : FT) : Prop := ∃ t, PW X e t ∧ ∀ (σ : L2.St) (Q : Bool → Hp → Prop) (w : Wd) (ρ : Env) (μ : Store), RelS X.K cls w μ → RelE X.K cls w ρ σ → J w σ → PostR X.K cls w E00 (fun w' b => Q b w'.H) (f ρ μ) → t σ w.H Q
def PostJ (w : Wd) (D : Ends) : SR → Prop
  | .nx ρ μ => ∀ w' σ, Step w w' → RelS X.K cls w' μ → RelE X.K cls w' ρ σ → J w' σ → D.nx σ w'.H
  | .rt d μ => ∀ w' v, Step w w' → RelS X.K cls w' μ → RV X.K cls w' d v → D.rt v w'.H
  | _ => False
end
section
variable {X : Cx} {cls : Nat → Option Addr} {J : Wd → L2.St → Prop} {i : Nat} {a b c e : Expr} {fa fb fe : FE} {es : List Expr} {fr : FA} {ta tb : FT} {pos : Pos}
theorem JW.t (ha : JW X cls J a ta) : JT X cls J a ta := let ⟨_, p, k⟩ := ha; ⟨_, p.pt, k⟩
variable {st : Stmt} {rest sa sb : List Stmt} {f g : FS} {D : Ends} {w w' : Wd} {r : SR}
theorem PostJ.step (s : Step w w') (h : PostJ X cls J w D r) : PostJ X cls J w' D r := by
  cases r with
  | nx ρ μ => exact fun w2 σ s2 => h w2 σ (s.trans s2)
  | rt ρ μ => exact fun w2 σ s2 => h w2 σ (s.trans s2)
  | _ => exact h
theorem PostJ.bind {α : Type} {ρ : Env} {r : Res α} {k : α → Store → SR} (h : PostJ X cls J w D (rS ρ r k)) : PostR X.K cls w E00 (fun w' a => ∃ μ', RelS X.K cls w' μ' ∧ PostJ X cls J w' D (k a μ')) r := by
  cases r with
  | ok a μ => exact fun w' s S => ⟨μ, S, PostJ.step s h⟩
  | err k ns ds μ => exact h.elim
  | stuck => exact h
end
/-- a clause ends or returns -/
def only : SR → SR
  | .nx ρ μ => .nx ρ μ
  | .rt d μ => .rt d μ
  | _ => .stuck
end Fw
namespace Fw
theorem mem_at {B : Type} {k : Nat} {b : B} : ∀ {l : List (Nat × B)}, l.lookup k = some b → (k, b) ∈ l
  | [], h => by cases h
  | (j, c) :: l, h => by
    rw [List.lookup_cons] at h
    cases e : k == j with
    | true =>
      rw [e] at h
      cases h
      cases beq_iff_eq.mp e
      exact List.mem_cons_self
    | false =>
      rw [e] at h
      exact List.mem_cons_of_mem _ (mem_at h)
/-- the tables among the numbered places -/
def isTab (p : Nat × PySem.Addr) : Bool := decide (50 ≤ p.1 ∧ p.1 < 100)
theorem tab_all {tbl ts : List (Nat × PySem.Addr)} (h : tbl.filter isTab = ts) : ∀ k P, 50 ≤ k → k < 100 → tbl.lookup k = some P → (k, P) ∈ ts := fun k P h1 h2 h3 => by
  rw [← h, List.mem_filter]
  exact ⟨mem_at h3, decide_eq_true ⟨h1, h2⟩⟩
theorem no_tab {tbl : List (Nat × PySem.Addr)} (h : tbl.filter isTab = []) : ∀ k, 50 ≤ k → k < 100 → tbl.lookup k = none := fun k h1 h2 => by
  cases e : tbl.lookup k with
  | none => rfl
  | some P => exact absurd (tab_all h k P h1 h2 e) List.not_mem_nil
end Fw
set_option Elab.async false
set_option linter.all false
set_option maxRecDepth 100000
set_option maxHeartbeats 2000000
set_option autoImplicit false
namespace Fw
open PySem PySem.Spec PyProof.Rows L2
/-- a, b = a list -/
def gUnl (n : Nat) (h : List D → Env → Store → Res Env) : D → Env → Store → Res Env := fun d ρ μ => match d with
  | .lst ds => if ds.length = n then h ds ρ μ else .stuck
  | _ => .stuck
@[simp] theorem gUnl_ev {n : Nat} {ρ : Env} {μ : Store} {h : List D → Env → Store → Res Env} {ds : List D} : gUnl n h (.lst ds) ρ μ = if ds.length = n then h ds ρ μ else .stuck := (rfl)
end Fw
set_option Elab.async false
set_option linter.all false
set_option maxRecDepth 100000
set_option maxHeartbeats 2000000
set_option autoImplicit false
namespace Fw
open PySem PySem.Spec PyProof.Rows L2
/-- whether a field bears the name -/
def hasN (m : Str) (ns : List Str) : Bool := ns.any fun k => m == k
/-- o.m(..) -/
def eMeth (c n : Nat) (m : Str) (F : List D → Store → Res D) (fo : FE) (fs : FA) : FE := fun ρ μ => (fo ρ μ).bind fun d μ1 => match insOf c μ1 d with
  | some (ns, _) => if hasN m ns = true then .stuck else (fs ρ μ1).bind fun ds μ2 => if ds.length + 1 = n then F (d :: ds) μ2 else .stuck
  | none => .stuck
@[simp] theorem eMeth_ev {c n : Nat} {m : Str} {F : List D → Store → Res D} {fo : FE} {fs : FA} {ρ : Env} {μ : Store} : eMeth c n m F fo fs ρ μ = (fo ρ μ).bind fun d μ1 => match insOf c μ1 d with
  | some (ns, _) => if hasN m ns = true then .stuck else (fs ρ μ1).bind fun ds μ2 => if ds.length + 1 = n then F (d :: ds) μ2 else .stuck
  | none => .stuck := (rfl)
section
variable {X : Cx} {W : WX} {cls : Nat → Option Addr} {e o : Expr} {es : List Expr} {fo : FE} {fs : FA} {c k n : Nat} {C g : Addr} {m : Str} {apos pos : Pos} {F : List D → Store → Res D} {look : Sem Bool}
/-- C(..), the object staying a place -/
def eMakeM (c n : Nat) (F : List D → Store → Res D) (fs : FA) : FE := fun ρ μ => (fs ρ μ).bind fun ds μ1 => if ds.length + 1 = n then match F (.loc μ1.length :: ds) (μ1 ++ [.ins c [] []]) with
    | .ok .non μ2 => .ok (.loc μ1.length) μ2
    | .err k ns es μ2 => .err k ns es μ2
    | _ => .stuck
  else .stuck
@[simp] theorem eMakeM_ev {c n : Nat} {F : List D → Store → Res D} {fs : FA} {ρ : Env} {μ : Store} : eMakeM c n F fs ρ μ = (fs ρ μ).bind fun ds μ1 => if ds.length + 1 = n then match F (.loc μ1.length :: ds) (μ1 ++ [.ins c [] []]) with
    | .ok .non μ2 => .ok (.loc μ1.length) μ2
    | .err k ns es μ2 => .err k ns es μ2
    | _ => .stuck
  else .stuck := (rfl)
end
end Fw
set_option Elab.async false
set_option linter.all false
set_option maxRecDepth 100000
set_option autoImplicit false
set_option maxHeartbeats 2000000
namespace Fw
open PySem PySem.Spec PyProof.Rows PySem.W PyProof L2
/-- one field -/
def eFmt (fe : FE) : FE := fun ρ μ => (fe ρ μ).bind fun d μ1 => match d with
  | .str s => if s.length ≤ LIM then .ok (.str s) μ1 else .stuck
  | .int i => if i.natAbs.log2 < 1920 then .ok (.str (strI i)) μ1 else .stuck
  | _ => .stuck
theorem eFmt_ev {fe : FE} {ρ : Env} {μ : Store} : eFmt fe ρ μ = (fe ρ μ).bind fun d μ1 => match d with
  | .str s => if s.length ≤ LIM then .ok (.str s) μ1 else .stuck
  | .int i => if i.natAbs.log2 < 1920 then .ok (.str (strI i)) μ1 else .stuck
  | _ => .stuck := (rfl)
/-- the parts one behind the other -/
def eJs : List FE → List Nat → FE
  | [], acc => fun _ μ => .ok (.str acc) μ
  | f :: fs, acc => fun ρ μ => (f ρ μ).bind fun d μ1 => match d with
    | .str s => if (acc ++ s).length ≤ LIM then eJs fs (acc ++ s) ρ μ1 else .stuck
    | _ => .stuck
theorem eJs_nil {acc : List Nat} {ρ : Env} {μ : Store} : eJs [] acc ρ μ = .ok (.str acc) μ := (rfl)
theorem eJs_cons {f : FE} {fs : List FE} {acc : List Nat} {ρ : Env} {μ : Store} : eJs (f :: fs) acc ρ μ = (f ρ μ).bind fun d μ1 => match d with
  | .str s => if (acc ++ s).length ≤ LIM then eJs fs (acc ++ s) ρ μ1 else .stuck
  | _ => .stuck := (rfl)
section
variable {X : Cx} {W : WX} {cls : Nat → Option Addr}
theorem se_fmt {a : Expr} {fa : FE} {pos : Pos} (ha : SE X W cls a fa) : SE X W cls (.FormattedValue a (-1) none pos) (eFmt fa) := by
  obtain ⟨t1, p1, h1⟩ := ha
  refine ⟨_, pe_fmt p1, fun σ Q w ρ μ S E h => ?_⟩
  refine h1 σ _ w ρ μ S E ((PostR.bind h).imp fun w1 d s1 ⟨μ1, S1, q1⟩ v r1 => ?_)
  cases d with
  | str s =>
    dsimp only at q1
    split at q1
    · rename_i hl
      exact .inl ⟨_, r1, by rw [strLen]; exact lim_le hl, q1 w1 Step.refl S1 _ rfl⟩
    · exact q1.elim
  | int i =>
    dsimp only at q1
    split at q1
    · rename_i hl
      refine .inr ⟨i, r1, hl, q1 w1 Step.refl S1 _ ?_⟩
      show V.str _ = V.str ⟨(strI i).toArray⟩
      unfold strI
      rw [Array.toArray_toList]
    · exact q1.elim
  | _ => exact q1.elim
inductive SJ (X : Cx) (W : WX) (cls : Nat → Option Addr) : List Expr → List FE → Prop where
  | nil : SJ X W cls [] []
  | cons {e : Expr} {f : FE} {es : List Expr} {fs : List FE} (h : SE X W cls e f) (r : SJ X W cls es fs) : SJ X W cls (e :: es) (f :: fs)
theorem sj_run {es : List Expr} {fs : List FE} (h : SJ X W cls es fs) : ∃ ts, L2.PJ X es ts ∧ ∀ (acc : List Nat) (σ : L2.St) (Q : Str → Hp → Prop) (w : Wd) (ρ : Env) (μ : Store), RelS X.K cls w μ → RelE X.K cls w ρ σ →
    PostR X.K cls w (WE W σ) (fun w' d => ∀ s, d = .str s → Q ⟨s.toArray⟩ w'.H) (eJs fs acc ρ μ) → tJs ts ⟨acc.toArray⟩ σ w.H Q := by
  induction h with
  | nil => exact ⟨[], .nil, fun acc σ Q w ρ μ S E h => h w Step.refl S acc rfl⟩
  | @cons e f es fs he r ih =>
    obtain ⟨t1, p1, h1⟩ := he
    obtain ⟨ts, ps, hs⟩ := ih
    refine ⟨t1 :: ts, .cons p1 ps, fun acc σ Q w ρ μ S E h => ?_⟩
    refine h1 σ _ w ρ μ S E ((PostR.bind h).imp fun w1 d s1 ⟨μ1, S1, q1⟩ v r1 => ?_)
    cases d with
    | str s =>
      dsimp only at q1
      split at q1
      · rename_i hl
        refine ⟨⟨s.toArray⟩, r1, ?_, ?_⟩
        · rw [strApp, strLen]
          exact lim_le hl
        · rw [strApp]
          exact hs (acc ++ s) σ Q w1 ρ μ1 S1 (E.mono s1.kp) q1
      · exact q1.elim
    | _ => exact q1.elim
theorem se_joined {v1 v2 : Expr} {rest : List Expr} {fs : List FE} {pos : Pos} (h : SJ X W cls (v1 :: v2 :: rest) fs) : SE X W cls (.JoinedStr (v1 :: v2 :: rest) pos) (eJs fs []) := by
  obtain ⟨ts, p, hr⟩ := sj_run h
  refine ⟨_, pe_joined p, fun σ Q w ρ μ S E h => ?_⟩
  refine hr [] σ _ w ρ μ S E (h.imp fun w1 d s1 hq s e => ?_)
  subst e
  exact hq _ rfl
end
end Fw
set_option Elab.async false
set_option linter.all false
set_option maxRecDepth 100000
set_option autoImplicit false
set_option maxHeartbeats 2000000
namespace Fw
open PySem PySem.Spec PyProof.Rows PySem.W PyProof L2
def splitL (c : Nat) (s : List Nat) : List (List Nat) := (Txt.split ⟨s.toArray⟩ ⟨#[c]⟩).map fun y => y.cps.toList
def eSplit (fo fe : FE) : FE := fun ρ μ => (fo ρ μ).bind fun d μ1 => match d with
  | .str s => (fe ρ μ1).bind fun e μ2 => match e with
    | .str [c] => if s.length ≤ LIM then .ok (.lst ((splitL c s).map D.str)) μ2 else .stuck
    | _ => .stuck
  | _ => .stuck
theorem eSplit_ev {fo fe : FE} {ρ : Env} {μ : Store} : eSplit fo fe ρ μ = (fo ρ μ).bind fun d μ1 => match d with
  | .str s => (fe ρ μ1).bind fun e μ2 => match e with
    | .str [c] => if s.length ≤ LIM then .ok (.lst ((splitL c s).map D.str)) μ2 else .stuck
    | _ => .stuck
  | _ => .stuck := (rfl)
section
variable {X : Cx} {W : WX} {cls : Nat → Option Addr}
theorem rvs_split {K : PySem.W.Frag} {w : Wd} : ∀ {ys : List Str}, RVs K cls w ((ys.map fun y => y.cps.toList).map D.str) (ys.map V.str)
  | [] => rfl
  | y :: ys => ⟨V.str y, ys.map V.str, rfl, (by show V.str y = V.str ⟨y.cps.toList.toArray⟩; rw [Array.toArray_toList]), rvs_split⟩
theorem se_split {o e : Expr} {fo fe : FE} {apos pos : Pos} (ho : SE X W cls o fo) (he : SE X W cls e fe) (hs : starEach [e] X.env = [(false, eval e X.env)] := by rfl) (hbase : attributeBase o "split" X.env (eval o X.env) = eval o X.env := by rfl) (hline : (apos.endLine == pos.line) = true := by rfl) :
    SE X W cls (.Call (.Attribute o "split" apos) [e] [] pos) (eSplit fo fe) := by
  obtain ⟨t1, p1, h1⟩ := ho
  obtain ⟨t2, p2, h2⟩ := he
  refine ⟨_, pe_split p1 p2 hs hbase hline, fun σ Q w ρ μ S E h => ?_⟩
  refine h1 σ _ w ρ μ S E ((PostR.bind h).imp fun w1 d s1 ⟨μ1, S1, q1⟩ v r1 => ?_)
  cases d with
  | str s =>
    refine ⟨⟨_, r1⟩, h2 σ _ w1 ρ μ1 S1 (E.mono s1.kp) ((PostR.bind q1).imp fun w2 e s2 ⟨μ2, S2, q2⟩ u r2 => ?_)⟩
    split at q2
    · rename_i c
      split at q2
      · rename_i hl
        refine ⟨_, _, r1, congrArg (fun z => [z]) r2, rfl, ?_, fun p hp => ?_⟩
        · rw [strLen]
          have := lim_le (n := LIM) (Nat.le_refl _)
          have h3 : LIM + 2 ≤ sizeLine := by rw [sizeLine_eq]; decide
          omega
        · exact q2 _ (step_new hp) (S2.new hp) _ (new_lst S2 hp rvs_split)
      · exact q2.elim
    · exact q2.elim
  | _ => exact q1.elim
end
end Fw
set_option Elab.async false
set_option linter.all false
set_option maxRecDepth 100000
set_option autoImplicit false
set_option maxHeartbeats 2000000
namespace Fw
open PySem L2 PyProof.Rows
theorem type_called {M : Model} {A : Around} {E : Value → Shared → Prop} {s : Shared} {at_ : Pos} {T : String} {args : List (Bool × Sem Value)} {kws : List (Option Str × Sem Value)} {Q : Value → Shared → Prop} (star : (args.any (·.1) || kws.any (·.1.isNone)) = false)
    (run : wpAny M A (evalArgs (.type T) true args kws) (fun a s1 => wpAny M A (call (.type T) a.pos a.kw) Q E s1) E s) : wpAny M A (callWith at_ (.type T) [] args kws) Q E s := by
  unfold callWith
  refine wpAny_bind (wpAny_holding (wpAny_mono run (fun a s1 go => wpAny_bind (wpAny_standAt ?_)) fun _ _ z => z))
  have mach : keeperOf (.type T) = pure .machine := rfl
  rw [mach, star]
  refine wpAny_bind (wpAny_pure ?_)
  refine wpAny_bind (wpAny_mono go (fun r s2 hr => ?_) fun _ _ z => z)
  exact wpAny_bind (wpAny_holding (wpAny_point (wpAny_pure hr)))
/-- enumerate's object e counts i from c on; its iterator it stands at place i of the list at a -/
structure EnC (e it a : Addr) (c : Int) (i : Nat) (h : Heap) : Prop where
  en : ∃ old, IsEnum h e it (c + (i : Nat)) old
  on : h.IsListIter it a i
  two : e ≠ it
section
variable {e it a : Addr} {c : Int} {i : Nat} {h h' : Heap}
theorem EnC.keep (y : EnC e it a c i h) (k : ∀ b ∈ [e, it], ∀ o, h.get? b = some o → h'.get? b = some o) : EnC e it a c i h' :=
  ⟨y.en.imp fun _ q => k e (.head _) _ q, y.on.at (k it (.tail _ (.head _))), y.two⟩
theorem EnC.obj (y : EnC e it a c i h) {b : Addr} (hb : b ∈ [e, it]) : ∃ o vs, h.get? b = some o ∧ o.data = .fields vs := by
  rw [List.mem_cons, List.mem_singleton] at hb
  rcases hb with rfl | rfl
  · exact let ⟨_, q⟩ := y.en; ⟨_, _, q, rfl⟩
  · exact let ⟨o, q, _, d⟩ := y.on; ⟨o, _, q, d⟩
theorem EnC.old (y : EnC e it a c i h) {b : Addr} (hb : b ∈ [e, it]) : b < h.objs.size := let ⟨_, _, q, _⟩ := y.obj hb; Heap.lt_size q
theorem EnC.off {items : Array Value} (y : EnC e it a c i h) (p : h.IsList a items) : a ≠ it ∧ a ≠ e := by
  obtain ⟨o, q, d, _⟩ := p
  obtain ⟨o2, q2, d2, _⟩ := y.on
  obtain ⟨_, q3⟩ := y.en
  exact ⟨cls_apart q q2 d d2 (by decide), cls_apart q q3 d rfl (by decide)⟩
end
theorem enC_item {X : Cx} {pins : List (Addr × Obj)} {σ : L2.St} {H : Hp} {s : Shared} {E : Value → Shared → Prop} {elts : List Expr} {kk : Nat} {tpos : Pos} {e it a : Addr} {c : Int} {i : Nat} {xs : List V} {x : V} (hc : X.calm = true) (I : Inv X pins σ H s)
    (own : ∀ b ∈ [e, it], FpOk X pins H b) (y : EnC e it a c i s.heap) (hq : SqL X.K H a xs) (hx : xs[i]? = some x) :
    wpAny (model X.prog X.w) X.A (pyNext (.ref e)) (fun r s1 => ∃ u, r = some u ∧ wpAny (model X.prog X.w) X.A (letOwnedTupleGo (.Tuple elts kk tpos) (.ref e) u)
      (fun _ s2 => ∃ T, u = .ref T ∧ s.heap.objs.size ≤ T ∧ Inv X pins σ (upd H T (.tup [.int (c + (i : Nat)), x])) s2 ∧ EnC e it a c (i + 1) s2.heap) E s1) E s := by
  obtain ⟨its, rv, lp, _⟩ := I.list hq
  have p := lp.isList
  have ⟨u, hu, ru⟩ := rv.get hx
  obtain ⟨ai, ae⟩ := y.off p
  obtain ⟨_, en⟩ := y.en
  have room : i < its.toArray.size := by rw [List.size_toArray]; exact (List.getElem?_eq_some_iff.mp hu).1
  have e_old : e ≠ s.heap.objs.size := Nat.ne_of_lt (y.old (.head _))
  refine wpAny_pyNext_enum_itemC (Draws.list (A := X.A.in1) (I.ok.hd hc) it a ai its.toArray) en ⟨y.on, p⟩ room y.two (by simp [y.two, Ne.symm ae]) fun x1 h1 tk got out st pair _ k1 => ⟨_, rfl, ?_⟩
  obtain rfl : u = x1 := Option.some.inj (hu.symm.trans (by rw [← got, List.getElem?_toArray]))
  refine wpAny_letOwnedTupleGo_enum out fun h2 en2 same => ⟨s.heap.objs.size, rfl, Nat.le_refl _, ?_, ⟨⟨_, by rw [show c + ((i + 1 : Nat) : Int) = c + (i : Nat) + 1 by omega]; exact en2⟩, st.1.at fun _ q => (same.2 it y.two.symm).trans q, y.two⟩⟩
  refine I.turnedNew (ch := [e, it]) (fun b o nb q => ?_) own (Nat.le_refl _) ⟨by show 2 ≤ sizeLine; decide, [.int (c + (i : Nat)) tk, u], .cons ⟨_, rfl⟩ (.cons ru .nil), _, (same.2 _ e_old.symm).trans pair, rfl, _, rfl⟩
  simp only [List.mem_cons, List.not_mem_nil, or_false, not_or] at nb
  exact (same.2 b nb.1).trans (k1 b o nb.1 nb.2 q)
theorem enC_end {X : Cx} {pins : List (Addr × Obj)} {σ : L2.St} {H : Hp} {s : Shared} {E : Value → Shared → Prop} {e it a : Addr} {c : Int} {i : Nat} {xs : List V} (hc : X.calm = true) (I : Inv X pins σ H s)
    (own : FpOk X pins H it) (y : EnC e it a c i s.heap) (hq : SqL X.K H a xs) (hx : xs.length ≤ i) : wpAny (model X.prog X.w) X.A (pyNext (.ref e)) (fun r s1 => r = none ∧ Inv X pins σ H s1) E s := by
  obtain ⟨its, rv, lp, _⟩ := I.list hq
  have p := lp.isList
  have none_ : its.toArray[i]? = none := by
    rw [List.getElem?_toArray, List.getElem?_eq_none_iff]
    exact rv.length ▸ hx
  have D : Draws X.prog X.w X.A.in1 it [it, a] i (fun i v => its.toArray[i]? = some v) (fun k h => k = i ∧ h.IsListIter it a i ∧ h.IsList a its.toArray) := {
    live := fun _ _ st => st.2.1.imp fun _ q => q.1
    frame := fun _ _ _ st k => ⟨st.1, st.2.1.at (k it (.head _)), st.2.2.at (k a (.tail _ (.head _)))⟩
    item := fun j _ _ _ lt st => absurd (st.1 ▸ lt) (Nat.lt_irrefl _)
    done := fun _ _ _ st out => wpAny_nextOf_list_end (I.ok.hd hc) st.2.1 st.2.2 none_ out }
  obtain ⟨_, en⟩ := y.en
  obtain ⟨n1, n2, _, n4, n5, n6⟩ := own
  exact wpAny_pyNext_enum_endD D en ⟨rfl, y.on, p⟩ fun h' ext => ⟨rfl, I.turned (t' := s.toks) ext n1 n2 n4 n5 n6⟩
/-- the list at a, each item in a new pair with its number, from c on -/
def ItC (K : PySem.W.Frag) (a : Addr) (c : Int) : It where
  go i H := ∃ (xs : List V) (x : V), SqL K H a xs ∧ xs[i]? = some x
  yld i H v H' := ∃ T x, v = .ref T ∧ H T = none ∧ H' = upd H T (.tup [.int (c + (i : Nat)), x]) ∧ ∀ xs, SqL K H a xs → xs[i]? = some x
  stop i H := ∃ xs : List V, SqL K H a xs ∧ xs.length ≤ i
theorem turn_enC {P : Program} {w : World} {K : PySem.W.Frag} {elts : List Expr} {kk : Nat} {tpos : Pos} (a e it : Addr) (c : Int) : Turn P w K (.Tuple elts kk tpos) (ItC K a c) [e, it] e (EnC e it a c) where
  mem := .head _
  obj := fun _ _ y b hb => let ⟨o, _, q, d⟩ := y.obj hb; ⟨o, q, fun v => by rw [d]; exact nofun⟩
  keep := fun _ _ _ y k => y.keep k
  item := fun X hP hw hK hc i pins s σ H E I own y ⟨xs, x, hq, hx⟩ => by
    subst hP hw hK
    refine wpAny_mono (enC_item (elts := elts) (kk := kk) (tpos := tpos) hc I own y hq hx) (fun r s1 ⟨u, hr, more⟩ => ⟨u, hr, ?_⟩) fun _ _ q => q
    refine wpAny_mono more (fun _ s2 ⟨T, hu, new, J, y2⟩ => ⟨.ref T, _, J, hu, ⟨T, x, rfl, I.hok.fresh new, rfl, fun ys hy => ?_⟩, y2, fun b hb => ?_⟩) fun _ _ q => q
    · rw [I.list_inj hy hq]
      exact hx
    · rw [upd_ne (Nat.ne_of_lt (Nat.lt_of_lt_of_le (y.old hb) new))]
      exact (own b hb).1
  done := fun X hP hw hK hc i pins s σ H E I own y ⟨xs, hq, hx⟩ => by
    subst hP hw hK
    exact enC_end hc I (own it (.tail _ (.head _))) y hq hx
  self := fun A i s Q E y q => let ⟨_, en⟩ := y.en; wpAny_pyIter_enum en q
def iEnumC (K : PySem.W.Frag) (c : Int) (ta : TA) : TI := fun σ H R => ta σ H fun vs H1 => ∃ a xs, vs = [.ref a] ∧ SqL K H1 a xs ∧ R (ItC K a c) H1
theorem pi_enumC {X : Cx} {e : Expr} {ta : TA} {p pos tpos p2 kp : Pos} {elts : List Expr} {kk j : Nat} {c : Int} (hg : Gl X "enumerate") (hm : X.mg "enumerate" = none) (ha : PA X [e] ta) (c0 : -(2 ^ 63) ≤ c) (c1 : c < 2 ^ 63)
    (hs : starEach [e] X.env = [(false, eval e X.env)] := by rfl) :
    PI X (.Tuple elts kk tpos) (.Call (.Name "enumerate" p) [e] [⟨some (Str.ofString "start"), .Constant (.int c) j p2, kp⟩] pos) (iEnumC X.K c ta) where
  run pins s σ H R I h := by
    refine wpAny_Call_Name_kw (ld_blt I hg hm boot_enumerate (type_called ?_ ?_))
    · rw [hs]
      rfl
    have run := ha.run pos pins s σ H _ I h
    rw [hs] at run ⊢
    refine evalArgs_kwB rfl (thn run fun us s1 q => ?_)
    obtain ⟨_, H1, J, rr, a, xs, rfl, hq, go⟩ := q
    obtain rfl := Vals.ref1 rr
    refine kws_cons (thn ((pe_int (X := X)).run pins s1 σ H1 (fun v H2 => v = .int c ∧ H2 = H1) J ⟨rfl, rfl⟩) fun v s2 q2 => kws_nil ?_)
    obtain ⟨w', H2, J2, rw', hw, hH⟩ := q2
    subst hw hH
    obtain ⟨tk, rfl⟩ := rw'
    obtain ⟨its, _, lp, _⟩ := J2.list hq
    refine enum_begins_start (begins_list a its.toArray) lp.isList c0 c1 fun h' en it_ sz keeps => wpAny_pyIter_enum en ⟨_, [_, s2.heap.objs.size], _, _, H2, rfl, J2.kept (t' := s2.toks) keeps, turn_enC a _ _ c, ⟨⟨_, by simpa using en⟩, ⟨_, it_, rfl, rfl⟩, Nat.succ_ne_self _⟩, fun b hb => ?_, go⟩
    have le : s2.heap.objs.size ≤ b := by
      rw [List.mem_cons, List.mem_singleton] at hb
      exact hb.elim (fun z => z ▸ Nat.le_succ _) fun z => z ▸ Nat.le_refl _
    exact J2.fpOk le (J2.hok.fresh le)
/-- what enumerate gives, counted from c -/
def enumC (c : Int) (ds : List D) : List D := (ds.zipIdx).map fun p => .tup [.int (c + (p.2 : Nat)), p.1]
def iEnumFrom (c : Int) (fe : FE) : FI := fun ρ μ => (fe ρ μ).bind fun d μ1 => match d with
  | .lst ds => .ok (enumC c ds, none) μ1
  | _ => .stuck
theorem iEnumFrom_ev {c : Int} {fe : FE} {ρ : Env} {μ : Store} : iEnumFrom c fe ρ μ = (fe ρ μ).bind fun d μ1 => match d with
  | .lst ds => .ok (enumC c ds, none) μ1
  | _ => .stuck := (rfl)
theorem enumC_get {c : Int} {ds : List D} {i : Nat} {d : D} (h : (enumC c ds)[i]? = some d) : ∃ e, ds[i]? = some e ∧ d = .tup [.int (c + (i : Nat)), e] := by
  unfold enumC at h
  rw [List.getElem?_map, Option.map_eq_some_iff] at h
  obtain ⟨⟨e, j⟩, h1, rfl⟩ := h
  rw [List.getElem?_zipIdx, Option.map_eq_some_iff] at h1
  obtain ⟨e', h2, h3⟩ := h1
  simp at h3
  obtain ⟨rfl, rfl⟩ := h3
  exact ⟨_, h2, by simp⟩
theorem wk_enumC {K : PySem.W.Frag} {cls : Nat → Option Addr} {w : Wd} {c : Int} {a : Addr} {ds : List D} (h : ∀ (w' : Wd), Kp w w' → ∃ vs, RVs K cls w' ds vs ∧ SqL K w'.H a vs) : Wk K cls (ItC K a c) w (enumC c ds) none := by
  intro i w' μ' k S' so
  obtain ⟨vs, h1, hL⟩ := h w' k
  refine ⟨fun d hd => ?_, fun hi => ⟨vs, hL, by rw [h1.length]; simpa [enumC] using hi⟩⟩
  obtain ⟨e, he, rfl⟩ := enumC_get hd
  obtain ⟨v, hv, rv⟩ := h1.get he
  refine ⟨⟨vs, v, hL, hv⟩, fun x H2 y => ?_⟩
  obtain ⟨T, x', rfl, hT, rfl, hx⟩ := y
  obtain rfl : v = x' := Option.some.inj (hv.symm.trans (hx vs hL))
  exact ⟨w'.up T (.tup [.int (c + (i : Nat)), v]), rfl, step_new hT, S'.new hT, new_tup S' hT (.cons rfl (.cons rv .nil))⟩
theorem si_enumC {X : Cx} {W : WX} {cls : Nat → Option Addr} {e : Expr} {fe : FE} {p pos tpos p2 kp : Pos} {elts : List Expr} {kk j : Nat} {c : Int} (hg : Gl X "enumerate") (hm : X.mg "enumerate" = none) (he : SE X W cls e fe) (hs : starEach [e] X.env = [(false, eval e X.env)] := by rfl)
    (c0 : -(2 ^ 63) ≤ c := by decide) (c1 : c < 2 ^ 63 := by decide) :
    SI X W cls (.Tuple elts kk tpos) (.Call (.Name "enumerate" p) [e] [⟨some (Str.ofString "start"), .Constant (.int c) j p2, kp⟩] pos) (iEnumFrom c fe) := by
  obtain ⟨t, p1, k⟩ := he
  refine ⟨_, pi_enumC hg hm (pa_cons p1 pa_nil hs) c0 c1 hs, fun σ R w ρ μ S E h => ?_⟩
  refine k σ _ w ρ μ S E ((PostR.bind h).imp fun w1 d s1 ⟨μ1, S1, q1⟩ v r1 => ?_)
  cases d with
  | lst ds =>
    obtain ⟨a, vs, e1, h1, h2⟩ := r1
    refine ⟨a, vs, congrArg (fun z => [z]) e1, .inl (.inl h1.1), q1 w1 Step.refl S1 _ (wk_enumC fun w' kp => ?_)⟩
    exact ⟨vs, h2.mono kp, .inl (.inl (kp.at_ a _ h1.2.1 h1.2.2 h1.1).1)⟩
  | _ => exact q1.elim
def eTxt (f : Str → Bool) (fo : FE) : FE := fun ρ μ => (fo ρ μ).bind fun d μ1 => match d with
  | .str s => .ok (.bl (f ⟨s.toArray⟩)) μ1
  | _ => .stuck
section
variable {X : Cx} {W : WX} {cls : Nat → Option Addr} {o : Expr} {fo : FE} {apos pos : Pos}
theorem se_txt {id : String} {name : Str} {f : Str → Bool} (slot : Slot "str" name id) (ty : typeOf (.builtin id) = pure (.type "method_descriptor")) (rule : MtR X id (fun x xs H Q => ∃ a, x = .str a ∧ xs = [] ∧ True ∧ Q (.bl (f a)) H)) (ho : SE X W cls o fo)
    (hbase : attributeBase o name X.env (eval o X.env) = eval o X.env := by rfl) (hline : (apos.endLine == pos.line) = true := by rfl) : SE X W cls (.Call (.Attribute o name apos) [] [] pos) (eTxt f fo) := by
  obtain ⟨t1, p1, h1⟩ := ho
  refine ⟨_, pe_m0 slot ty rule p1 hbase hline, fun σ Q w ρ μ S E h => ?_⟩
  refine h1 σ _ w ρ μ S E ((PostR.bind h).imp fun w1 d s1 ⟨μ1, S1, q1⟩ v r1 => ?_)
  cases d with
  | str s => exact ⟨⟨_, r1⟩, _, r1, rfl, trivial, q1 w1 Step.refl S1 _ rfl⟩
  | _ => exact q1.elim
end
def aStar (fe : FE) (fs : FA) : FA := fun ρ μ => (fe ρ μ).bind fun d μ1 => match d with
  | .lst ds => (fs ρ μ1).bind fun es μ2 => .ok (ds ++ es) μ2
  | _ => .stuck
theorem sa_star {X : Cx} {W : WX} {cls : Nat → Option Addr} {e : Expr} {es : List Expr} {fe : FE} {fs : FA} {p : Pos} (he : SE X W cls e fe) (hr : SA X W cls es fs) (hs : starEach (.Starred e p :: es) X.env = (true, eval e X.env) :: starEach es X.env := by rfl) : SA X W cls (.Starred e p :: es) (aStar fe fs) := by
  obtain ⟨t1, p1, h1⟩ := he
  obtain ⟨t2, p2, h2⟩ := hr
  refine ⟨_, StX.pa_star p1 p2 hs, fun σ Q w ρ μ S E h => ?_⟩
  refine h1 σ _ w ρ μ S E ((PostR.bind h).imp fun w1 d s1 ⟨μ1, S1, q1⟩ v r1 => ?_)
  cases d with
  | lst ds =>
    obtain ⟨a, vs, e1, l1, l2⟩ := r1
    refine ⟨a, vs, e1, .inr (.inl (.inl l1.1)), ?_⟩
    refine h2 σ _ w1 ρ μ1 S1 (E.mono s1.kp) ((PostR.bind q1).imp fun w2 ds2 s2 ⟨μ2, S2, q2⟩ us r2 => ?_)
    exact q2 w2 Step.refl S2 _ ((l2.mono s2.kp).append r2)
  | _ => exact q1.elim
end Fw
set_option Elab.async false
set_option linter.all false
set_option maxRecDepth 100000
set_option maxHeartbeats 4000000
set_option autoImplicit false
namespace Fw
open PySem PySem.Spec PyProof.Rows L2 NdefX
/-- the promise of such an __init__ -/
def spE2 (C : Addr) (f1 f2 : Str) : Sp := fun vs H Q _ => ∃ (a : Addr) (y y' : V), vs = [.ref a, y, y'] ∧ H a = some (exo a C none) ∧ okF y ∧ okF y' ∧
  ∀ dx, H dx = none → dx ≠ a → Q .non (upd (upd (upd H dx (exd dx [(f1, y)])) a (exo a C (some dx))) dx (exd dx [(f2, y'), (f1, y)]))
section
variable {CX : CXT} {P : Program} {w : World} {K : PySem.W.Frag} {mg : Str → Option Value} {base : Heap} {k : Nat} {f C cc : Addr} {slf x1 x2 f1 f2 z z2 : Str} {F : NF} {dV kV doc pm ct oc : Value} {an od : Option Addr} {osl : Array (Option Value)}
  {p0 p1 p2 p3 p4 p5 p6 p7 p8 p9 q1 q2 q3 q4 q5 q6 q7 q8 pos pos2 : Pos} {j j2 : Nat}
theorem init2 (lk : K.lookup f = some ⟨oc, od, .func (PySem.W.fnX F.name F.qual F.params F.body F.scope F.cl dV kV doc pm an (.ref F.c) ct), osl⟩) (hcd : PySem.W.codeIn K (.ref F.c) F.qual = true) (S : NScope [slf, x1, x2, "__class__"] [slf, x1, x2] ["__class__"] F.scope)
    (hcl : F.cl = [(("__class__" : Str), cc)]) (T : Sup P K mg C f F.c cc slf)
    (hb : F.body = [.Expr (.Call (.Attribute (.Call (.Name "super" p0) [] [] p1) "__init__" p2) [.JoinedStr [.Constant (.str z) j p3, .FormattedValue (.Name x1 p4) (-1) none p5, .Constant (.str z2) j2 q2, .FormattedValue (.Name x2 q3) (-1) none q4] p6] [] pos) pos2,
      .Assign [.Attribute (.Name slf p7) f1 p8] (.Name x1 p9) q1, .Assign [.Attribute (.Name slf q5) f2 q6] (.Name x2 q7) q8])
    (hks : F.scope.names.lookup ("super" : Str) = some .globalImplicit) (hdb : (slf == ("__debug__" : Str)) = false) (hdb1 : (x1 == ("__debug__" : Str)) = false) (hdb2 : (x2 == ("__debug__" : Str)) = false) (hcd0 : (slf == ("__classdict__" : Str)) = false) (hcd1 : (x1 == ("__classdict__" : Str)) = false) (hcd2 : (x2 == ("__classdict__" : Str)) = false) (hz : z.length ≤ 1000) (hz2 : z2.length ≤ 1000)
    (hne : (f1 == f2) = false) (hno : PySem.W.findIn K (.ref C) f1 = some none) (hno2 : PySem.W.findIn K (.ref C) f2 = some none) {pl : PySem.Env → Sem Bool}
    (hev : ∀ env : PySem.Env, eval (.Call (.Attribute (.Call (.Name "super" p0) [] [] p1) "__init__" p2) [.JoinedStr [.Constant (.str z) j p3, .FormattedValue (.Name x1 p4) (-1) none p5, .Constant (.str z2) j2 q2, .FormattedValue (.Name x2 q3) (-1) none q4] p6] [] pos) env = (do
      let ov ← attributeBase (.Call (.Name "super" p0) [] [] p1) "__init__" env (eval (.Call (.Name "super" p0) [] [] p1) env)
      standAt p2.atName
      let (f, first) ← holding [ov] (getMethod ov "__init__" (pl env))
      callWith pos f first (backTo pos (starEach [.JoinedStr [.Constant (.str z) j p3, .FormattedValue (.Name x1 p4) (-1) none p5, .Constant (.str z2) j2 q2, .FormattedValue (.Name x2 q3) (-1) none q4] p6] env)) [])) :
    FnOk P w K mg base CX (k + 1) f (PySem.W.fnX F.name F.qual F.params F.body F.scope F.cl dV kV doc pm an (.ref F.c) ct) [slf, x1, x2] (spE2 C f1 f2) := by
  refine fn_init (ps' := [x1, x2]) lk hcd S hcl T hb hks hdb (fun vs H Q E q => ?_) hev (fun env => rfl) (fun env => rfl) (fun env => rfl) ?_
  · obtain ⟨a, y, y', rfl, _⟩ := q
    rfl
  · rintro A outer s H vs Q E ⟨a, y, y', rfl, ea, hy, hy', q⟩
    have vs0 : Vis F.scope slf := .inl (S.par _ (by simp))
    have vs1 : Vis F.scope x1 := .inl (S.par _ (by simp))
    have vs2 : Vis F.scope x2 := .inl (S.par _ (by simp))
    refine ⟨a, [y, y'], rfl, ea, ⟨_, pe_joined (.cons pe_str (.cons (pe_fmt (pe_var (i := 1) rfl vs1 hdb1 hcd1)) (.cons pe_str (.cons (pe_fmt (pe_var (i := 2) rfl vs2 hdb2 hcd2)) .nil)))), fun Q' h => ?_⟩, _,
      pss_cons (ps_ost (pe_var (i := 0) rfl vs0 hdb hcd0) (pe_var (i := 1) rfl vs1 hdb1 hcd1)) (pss_one (ps_ost (pe_var (i := 0) rfl vs0 hdb hcd0) (pe_var (i := 2) rfl vs2 hdb2 hcd2))), ?_⟩
    · refine js_const (by show 0 + z.length ≤ 20000; omega) (js_var hy rfl (by rw [str_app_len]; show 0 + z.length ≤ 10000; omega) fun t ht => js_const ?_ (js_var hy' rfl ?_ fun t2 _ => h _))
      · rw [str_app_len, str_app_len]
        show 0 + z.length + t.length + z2.length ≤ 20000
        omega
      · rw [str_app_len, str_app_len, str_app_len]
        show 0 + z.length + t.length + z2.length ≤ 10000
        omega
    · refine ⟨y, rfl, .ref a, rfl, a, C, rfl, T.oex, hno, .inl ⟨ea, fun dx h1 h2 => ?_⟩⟩
      exact ⟨y', rfl, .ref a, rfl, a, C, rfl, T.oex, hno2, .inr ⟨dx, [(f1, y)], upd_same, by rw [upd_ne h2, upd_same], by simp, q dx h1 h2⟩⟩
end
structure EkI2 (P : Program) (W : World) (K : PySem.W.Frag) (cls : Nat → Option Addr) (mgl : Str → Option Value) (base : Heap) (j : Nat) (x : Str) (k : Nat) (C : Addr) (f1 f2 : Str) : Prop extends Ek K cls mgl x k C where
  oex : OexC K C
  init : ∃ (fI : Addr) (fd : FuncData) (ps : List Str), PySem.W.findIn K (.ref C) "__init__" = some (some (.ref fI)) ∧ PySem.W.typeIn K (.ref fI) = some (.type "function") ∧ FnOk P W K mgl base (CX P W) j fI fd ps (spE2 C f1 f2) ∧ Binds K fd ps []
/-- raise X(e, e2) -/
def sRaise2 (k : Nat) (f1 f2 : Str) (fe fe2 : FE) : FS := fun ρ μ => rS ρ (fe ρ μ) fun d μ1 => rS ρ (fe2 ρ μ1) fun d2 μ2 => if okE d = true ∧ okE d2 = true then .er k [f2, f1] [d2, d] ρ μ2 else .stuck
theorem sRaise2_ev {k : Nat} {f1 f2 : Str} {fe fe2 : FE} {ρ : Env} {μ : Store} : sRaise2 k f1 f2 fe fe2 ρ μ = rS ρ (fe ρ μ) fun d μ1 => rS ρ (fe2 ρ μ1) fun d2 μ2 => if okE d = true ∧ okE d2 = true then .er k [f2, f1] [d2, d] ρ μ2 else .stuck := (rfl)
section
variable {X : Cx} {W : WX} {cls : Nat → Option Addr} {x f1 f2 : Str} {j k : Nat} {C : Addr} {p pos rpos : Pos} {e e2 : Expr} {fe fe2 : FE}
theorem ss_raise2 (hc : X.calm = true) (tk : Takes X W) (T : EkI2 X.prog X.w X.K cls X.mg X.base j x k C f1 f2) (hr : Room (j + 1) X.A) (hg : Gl X x) (he : SE X W cls e fe) (he2 : SE X W cls e2 fe2) (hdb : (x == ("__debug__" : Str)) = false := by decide +kernel)
    (hs : starEach (e :: [e2]) X.env = (false, eval e X.env) :: starEach [e2] X.env := by rfl) (hs2 : starEach (e2 :: []) X.env = (false, eval e2 X.env) :: starEach [] X.env := by rfl) (hpl : (backTo pos (starEach [e2] X.env)).any (·.1) = false := by rfl) :
    SS X W cls (.Raise (some (.Call (.Name x p) [e, e2] [] pos)) none rpos) (sRaise2 k f1 f2 fe fe2) := by
  obtain ⟨fI, fd, ps, iC, tI, F1, hb⟩ := T.init
  obtain ⟨t1, p1, h1⟩ := sa_cons he (sa_cons he2 sa_nil hs2) hs
  refine ⟨_, ps_raise hc tk (pmk_oex T.oex iC tI F1 hr hb (dvs := []) .nil noPass hg T.mg p1 hdb hs hpl), fun D σ w ρ μ S E h => ?_⟩
  refine h1 σ _ w ρ μ S E ?_
  have both : PostS X.K cls w W D (rS ρ ((aCons fe (aCons fe2 aNil)) ρ μ) fun ds μ1 => match ds with | [d, d2] => if okE d = true ∧ okE d2 = true then .er k [f2, f1] [d2, d] ρ μ1 else .stuck | _ => .stuck) := by
    rw [sRaise2_ev] at h
    rw [aCons_ev]
    cases hf : fe ρ μ with
    | ok d μ1 =>
      rw [hf] at h
      rw [bok, aCons_ev]
      have h : PostS X.K cls w W D (rS ρ (fe2 ρ μ1) fun d2 μ2 => if okE d = true ∧ okE d2 = true then .er k [f2, f1] [d2, d] ρ μ2 else .stuck) := h
      cases hf2 : fe2 ρ μ1 with
      | ok d2 μ2 => rw [hf2] at h; exact h
      | err => rw [hf2] at h; exact h
      | stuck => rw [hf2] at h; exact h
    | err => rw [hf] at h; exact h
    | stuck => rw [hf] at h; exact h
  refine (PostS.bind E both).imp fun w1 ds s1 ⟨μ1, S1, q1⟩ vs r1 => ?_
  split at q1
  · rename_i d d2
    split at q1
    · rename_i ok
      obtain ⟨v, _, rfl, rd, v2, rest, rfl, rd2, rn⟩ := r1
      obtain rfl : rest = [] := rn
      refine ⟨by simp, fun a ha => ⟨a, v, v2, rfl, upd_same, okE_rv ok.1 rd, okE_rv ok.2 rd2, fun dx hdx hne => ?_⟩⟩
      have free : w1.H dx = none := by rwa [upd_ne hne] at hdx
      refine ⟨rfl, dx, [(f2, v2), (f1, v)], ?_, upd_same, free, ?_⟩
      · rw [upd_ne (Ne.symm hne), upd_same]
      have same : upd (del (upd (upd (upd (upd w1.H a (exo a C none)) dx (exd dx [(f1, v)])) a (exo a C (some dx))) dx (exd dx [(f2, v2), (f1, v)])) a) dx (.xd [(f2, v2), (f1, v)]) = (w1.up dx (.xd [(f2, v2), (f1, v)])).H := by
        funext b
        show _ = upd w1.H dx (.xd [(f2, v2), (f1, v)]) b
        by_cases b1 : b = dx
        · rw [b1, upd_same, upd_same]
        · rw [upd_ne b1, upd_ne b1]
          by_cases b2 : b = a
          · rw [b2, del_same, ha]
          · rw [del_ne b2, upd_ne b1, upd_ne b2, upd_ne b1, upd_ne b2]
      rw [same]
      have fr := S1.free free
      have kp := (step_new (o := .xd [(f2, v2), (f1, v)]) free).kp
      exact q1 (w1.up dx (.xd [(f2, v2), (f1, v)])) σ (.ref C) (some dx) (step_new free) (S1.new free) ((E.mono s1.kp).mono kp) ⟨C, T.at_, rfl, .inr ⟨dx, [v2, v], rfl, ⟨upd_same, fr.1, fr.2⟩, rfl, ⟨v2, [v], rfl, rd2.mono kp, v, [], rfl, rd.mono kp, rfl⟩⟩⟩
    · exact q1.elim
  · exact q1.elim
end
section
variable {P : Program} {W : World} {K : PySem.W.Frag} {cls : Nat → Option Addr} {mg : Str → Option Value} {base : Heap} {x f1 f2 qual slf x1 x2 z z2 : Str} {k : Nat} {C fI cda cc : Addr} {st : Stmt}
  {od an : Option Addr} {osl : Array (Option Value)} {oc kV doc pm ct : Value}
  {nm q : Str} {N : Addr} {bs bm : List Value} {sn : List Str} {sub : List Value} {ab : Bool} {col : Option Bool} {dd : Option Addr} {k0 k1 k2 k3 k5 : Option Value}
  {ccl : Value} {cdd : Option Addr} {vs : Array Value} {ccs : Array (Option Value)} {file : Str} {tf : Tok} {cl : Value} {cld : Option Addr} {csl : Array (Option Value)}
  {p0 p1 p2 p3 p4 p5 p6 p7 p8 p9 q1 q2 q3 q4 q5 q6 q7 q8 pos pos2 ap0 ap1 ap2 : Pos} {j j2 : Nat}
theorem eki2_mk (at_ : 100 ≤ k ∧ cls k = some C) (hm : mg x = some (.ref C)) (kc : PySem.W.keepIn K (.ref C) = true) (sb : PySem.W.subIn K (.ref C) (.type "BaseException") = some true) (ty : PySem.W.typeIn K (.ref C) = some (.type "type"))
    (lo : K.lookup C = some (excClassObj nm q C N bs bm true sn sub ab col dd k0 k1 k2 k3 k5 "ValueError.__new__")) (rf : PySem.HandSPX.refsVE bm = true)
    (sa : PySem.W.findIn K (.ref C) "__setattr__" = some (some (.builtin "object.__setattr__"))) (ia : PySem.W.findIn K (.ref C) "__init__" = some (some (.ref fI))) (it : PySem.W.typeIn K (.ref fI) = some (.type "function"))
    (li : K.lookup fI = some ⟨oc, od, .func (PySem.W.fnX "__init__" qual (defArgs st) (defBody st) (defScope st) [(("__class__" : Str), cc)] .none kV doc pm an (.ref cda) ct), osl⟩) (ci : PySem.W.codeIn K (.ref cda) qual = true)
    (sv : PySem.W.subIn K (.ref C) (.type "ValueError") = some true) (mr : PySem.W.mroIn K C (.ref C) = some true) (su : PySem.W.ks_superIn K C C "__init__" = some (some (.builtin "ValueError.__init__")))
    (lk : K.lookup cda = some ⟨ccl, cdd, .fields vs, ccs⟩) (vf : vs[2]? = some (.str file tf)) (ff : ((P.main.file : Str) == file) = true) (lc : K.lookup cc = some ⟨cl, cld, .cell (some (.ref C)), csl⟩)
    (nf : PySem.W.findIn K (.ref C) f1 = some none) (nf2 : PySem.W.findIn K (.ref C) f2 = some none) (any : PySem.W.nsIn K cStatics "thirdparty.any" = some none) (sup : mg "super" = none) (top : (P.main.scope.names.lookup ("super" : Str)).isSome = false)
    (hargs : defArgs st = ⟨[], [⟨slf, none, ap0⟩, ⟨x1, none, ap1⟩, ⟨x2, none, ap2⟩], none, [], [], none, []⟩)
    (hb : defBody st = [.Expr (.Call (.Attribute (.Call (.Name "super" p0) [] [] p1) "__init__" p2) [.JoinedStr [.Constant (.str z) j p3, .FormattedValue (.Name x1 p4) (-1) none p5, .Constant (.str z2) j2 q2, .FormattedValue (.Name x2 q3) (-1) none q4] p6] [] pos) pos2, .Assign [.Attribute (.Name slf p7) f1 p8] (.Name x1 p9) q1, .Assign [.Attribute (.Name slf q5) f2 q6] (.Name x2 q7) q8])
    (S : nscB [slf, x1, x2, "__class__"] [slf, x1, x2] ["__class__"] (defScope st) = true) (hks : (defScope st).names.lookup ("super" : Str) = some .globalImplicit)
    (hw : ((slf == ("__debug__" : Str)) || (x1 == ("__debug__" : Str)) || (x2 == ("__debug__" : Str)) || (slf == ("__classdict__" : Str)) || (x1 == ("__classdict__" : Str)) || (x2 == ("__classdict__" : Str)) || f1 == f2) = false) (hz : z.length ≤ 1000) (hz2 : z2.length ≤ 1000) {pl : PySem.Env → Sem Bool}
    (hev : ∀ env : PySem.Env, eval (.Call (.Attribute (.Call (.Name "super" p0) [] [] p1) "__init__" p2) [.JoinedStr [.Constant (.str z) j p3, .FormattedValue (.Name x1 p4) (-1) none p5, .Constant (.str z2) j2 q2, .FormattedValue (.Name x2 q3) (-1) none q4] p6] [] pos) env = (do
      let ov ← attributeBase (.Call (.Name "super" p0) [] [] p1) "__init__" env (eval (.Call (.Name "super" p0) [] [] p1) env)
      standAt p2.atName
      let (f, first) ← holding [ov] (getMethod ov "__init__" (pl env))
      callWith pos f first (backTo pos (starEach [.JoinedStr [.Constant (.str z) j p3, .FormattedValue (.Name x1 p4) (-1) none p5, .Constant (.str z2) j2 q2, .FormattedValue (.Name x2 q3) (-1) none q4] p6] env)) []))
    (hbi : ∀ us : List Value, us.length = [slf, x1, x2].length → bindArgs (PySem.W.fnX "__init__" qual (defArgs st) (defBody st) (defScope st) [(("__class__" : Str), cc)] .none kV doc pm an (.ref cda) ct) ⟨us, []⟩ = pure ([slf, x1, x2].zip us)) :
    EkI2 P W K cls mg base 1 x k C f1 f2 := by
  simp only [Bool.or_eq_false_iff] at hw
  obtain ⟨⟨⟨⟨⟨⟨w1, w2⟩, w3⟩, w4⟩, w5⟩, w6⟩, w7⟩ := hw
  have ox : OexC K C := ⟨⟨nm, q, N, bs, bm, sn, sub, ab, col, dd, k0, k1, k2, k3, k5, lo, rf⟩, sa, sb, ty, kc⟩
  have T : Sup P K mg C fI cda cc slf := ⟨ox, any, su, sv, mr, ⟨_, _, _, _, ⟨slf, none, ap0⟩, li, by show (_ : List Arg).head? = _; rw [show (defArgs st).posonlyargs = [] by rw [hargs], show (defArgs st).args = _ by rw [hargs]] <;> rfl, rfl⟩, ⟨_, _, _, _, _, _, lk, vf, ff⟩, ⟨_, _, _, lc⟩, sup, top⟩
  refine ⟨⟨at_, hm, kc, sb, ty⟩, ox, fI, _, [slf, x1, x2], ia, it, init2 (F := ⟨"__init__", qual, defArgs st, defBody st, defScope st, [(("__class__" : Str), cc)], cda⟩) li ci (nscope_by S) rfl T hb hks w1 w2 w3 w4 w5 w6 hz hz2 w7 nf nf2 hev, .all hbi⟩
end
end Fw
set_option Elab.async false
set_option linter.all false
set_option maxRecDepth 100000
set_option maxHeartbeats 2000000
set_option autoImplicit false
namespace Fw
open PySem PySem.Spec PyProof.Rows L2
abbrev KTb := List (List Nat × Int)
def Ent : List DictEntry → KTb → Prop
  | [], [] => True
  | e :: l, p :: t => (∃ tk, e.key = .str ⟨p.1.toArray⟩ tk) ∧ (∃ tk, e.val = .int p.2 tk) ∧ Ent l t
  | _, _ => False
structure Kdi (K : PySem.W.Frag) (W : World) (mg : Str → Option Value) (x : Str) (tbl : KTb) : Prop where
  ex : ∃ (d : Addr) (es : Array DictEntry) (n : Nat), mg x = some (.ref d) ∧ KDict K W d es n ∧ Ent es.toList tbl
def found (tbl : KTb) (z : List Nat) : Option Int := (tbl.find? fun p => p.1 == z).map (·.2)
theorem ent_find {z : List Nat} : ∀ {l : List DictEntry} {t : KTb}, Ent l t → (∀ e ∈ l, e.refKey = false) ∧
    ((∃ e v tk, l.find? (·.key.isStr ⟨z.toArray⟩) = some e ∧ e.val = .int v tk ∧ found t z = some v) ∨ (l.find? (·.key.isStr ⟨z.toArray⟩) = none ∧ found t z = none))
  | [], [], _ => ⟨by simp, .inr ⟨rfl, rfl⟩⟩
  | e :: l, p :: t, ⟨⟨tk, hk⟩, ⟨tv, hv⟩, h⟩ => by
    obtain ⟨h1, h2⟩ := ent_find (z := z) h
    have hs : e.key.isStr ⟨z.toArray⟩ = (p.1 == z) := by
      rw [hk]
      show ((⟨p.1.toArray⟩ : Str) == (⟨z.toArray⟩ : Str)) = _
      exact str_beq
    refine ⟨fun e' he' => ?_, ?_⟩
    · rcases List.mem_cons.mp he' with rfl | he'
      · unfold DictEntry.refKey
        rw [hk]
      · exact h1 e' he'
    · cases q : (p.1 == z) with
      | true =>
        left
        refine ⟨e, p.2, tv, ?_, hv, ?_⟩
        · rw [List.find?_cons, hs, q]
        · unfold found
          rw [List.find?_cons, q]
          rfl
      | false =>
        have e1 : (e :: l).find? (·.key.isStr ⟨z.toArray⟩) = l.find? (·.key.isStr ⟨z.toArray⟩) := by rw [List.find?_cons, hs, q]
        have e2 : found (p :: t) z = found t z := by
          unfold found
          rw [List.find?_cons, q]
        rw [e1, e2]
        exact h2
theorem ns_found {K : PySem.W.Frag} {W : World} {d : Addr} {es : Array DictEntry} {n : Nat} {t : KTb} (D : KDict K W d es n) (h : Ent es.toList t) (z : List Nat) :
    (∃ v tk, PySem.W.nsIn K d ⟨z.toArray⟩ = some (some (.int v tk)) ∧ found t z = some v) ∨ (PySem.W.nsIn K d ⟨z.toArray⟩ = some none ∧ found t z = none) := by
  obtain ⟨h1, h2⟩ := ent_find (z := z) h
  unfold PySem.W.nsIn
  rw [D.at_]
  dsimp only
  rcases h2 with ⟨e, v, tk, a, b, c⟩ | ⟨a, b⟩
  · left
    refine ⟨v, tk, ?_, c⟩
    rw [a]
    dsimp only
    rw [b]
  · right
    refine ⟨?_, b⟩
    rw [a]
    have : es.toList.any (·.refKey) = false := by
      rw [List.any_eq_false]
      intro e he
      rw [h1 e he]
      decide
    dsimp only
    rw [this]
    rfl
/-- x in d -/
def eDin (neg : Bool) (t : KTb) (fe : FE) : FE := fun ρ μ => (fe ρ μ).bind fun d μ1 => match d with
  | .str s => .ok (.bl (if neg then !(found t s).isSome else (found t s).isSome)) μ1
  | _ => .stuck
theorem eDin_ev {neg : Bool} {t : KTb} {fe : FE} {ρ : Env} {μ : Store} : eDin neg t fe ρ μ = (fe ρ μ).bind fun d μ1 => match d with
  | .str s => .ok (.bl (if neg then !(found t s).isSome else (found t s).isSome)) μ1
  | _ => .stuck := (rfl)
/-- d[x] -/
def eDix (t : KTb) (fe : FE) : FE := fun ρ μ => (fe ρ μ).bind fun d μ1 => match d with
  | .str s => match found t s with
    | some v => .ok (.int v) μ1
    | none => .stuck
  | _ => .stuck
theorem eDix_ev {t : KTb} {fe : FE} {ρ : Env} {μ : Store} : eDix t fe ρ μ = (fe ρ μ).bind fun d μ1 => match d with
  | .str s => match found t s with
    | some v => .ok (.int v) μ1
    | none => .stuck
  | _ => .stuck := (rfl)
section
variable {X : Cx} {W : WX} {cls : Nat → Option Addr} {a : Expr} {fa : FE} {x : Str} {t : KTb} {p pos : Pos}
theorem se_dIx (hg : Gl X x) (T : Kdi X.K X.w X.mg x t) (ha : SE X W cls a fa) (hd : (x == ("__debug__" : Str)) = false := by decide +kernel) (hs : PlainIx a := by exact fun _ _ => rfl) : SE X W cls (.Subscript (.Name x p) a pos) (eDix t fa) := by
  obtain ⟨d, es, n, mg, D, en⟩ := T.ex
  obtain ⟨t1, p1, h1⟩ := ha
  refine ⟨_, pe_ix ix_kdict (pe_glob (v := .ref d) hg mg rfl hd) p1 hs, fun σ Q w ρ μ S E h => ?_⟩
  refine h1 σ _ w ρ μ S E ((PostR.bind h).imp fun w1 e s1 ⟨μ1, S1, q1⟩ v r1 => ?_)
  cases e with
  | str s =>
    dsimp only at q1
    rcases ns_found D en s with ⟨k, tk, e1, e2⟩ | ⟨e1, e2⟩
    · refine ⟨d, _, .int k, rfl, r1, ⟨es, n, _, D.at_, D.lit, e1, ⟨tk, rfl⟩⟩, ?_⟩
      rw [e2] at q1
      exact q1 w1 Step.refl S1 _ rfl
    · rw [e2] at q1
      exact q1.elim
  | _ => exact q1.elim
end
end Fw
set_option Elab.async false
set_option linter.all false
set_option maxRecDepth 100000
set_option autoImplicit false
namespace Fw
open PySem PySem.Spec PyProof.Rows L2
theorem ent_cons {s : String} {t u : Tok} {hh i : Int} {es : List DictEntry} {tbl : KTb} (r : Ent es tbl) : Ent (⟨hh, .str (PySem.Str.ofString s) t, .int i u⟩ :: es) ((lit s, i) :: tbl) :=
  ⟨⟨t, by
    show Value.str _ t = Value.str ⟨(PySem.Str.ofString s).cps.toList.toArray⟩ t
    rw [Array.toArray_toList]⟩, ⟨u, rfl⟩, r⟩
theorem kdi_mk {K : PySem.W.Frag} {W : World} {mg : Str → Option Value} {h : Heap} {x : Str} {tbl : KTb} {p : Addr} {es : Array DictEntry} {z : Nat} (X : K.In h) (G : h.Ns mainGlobals mg) (a : PySem.W.nsIn K mainGlobals x = some (some (.ref p)))
    (l : K.lookup p = some ⟨.type "dict", none, .dict es z, #[]⟩) (lk : PySem.W.KeysLit W.params es.toList) (s : (p == sysModules) = false) (en : Ent es.toList tbl) : Kdi K W mg x tbl :=
  ⟨p, es, z, PySem.W.mg_of X G a, ⟨l, lk, s⟩, en⟩
section
variable {X : Cx} {W : WX} {cls : Nat → Option Addr} {a : Expr} {fa : FE} {x : Str} {t : KTb} {p pos : Pos}
theorem st_dNotIn (hg : Gl X x) (T : Kdi X.K X.w X.mg x t) (ha : SE X W cls a fa) (hd : (x == ("__debug__" : Str)) = false := by decide +kernel) (hm : behindInMarks .NotIn (.Name x p) = false := by first | exact nomark _ | rfl) : ST X W cls (.Compare a [.NotIn] [.Name x p] pos) (tB (eDin true t fa)) := by
  obtain ⟨d, es, n, mg, D, en⟩ := T.ex
  obtain ⟨t1, p1, h1⟩ := ha
  refine ⟨_, pt_cmpR (op_notIn_kd D) p1 (pe_glob (v := .ref d) hg mg rfl hd) hm, fun σ Q w ρ μ S E h => ?_⟩
  have h := PostR.bind h
  refine h1 σ _ w ρ μ S E ((PostR.bind h).imp fun w1 e s1 ⟨μ1, S1, q1⟩ v r1 => ?_)
  cases e with
  | str s =>
    obtain ⟨μ2, S2, q2⟩ := q1 w1 Step.refl S1
    have q := q2 w1 Step.refl S2
    rcases ns_found D en s with ⟨k, tk, e1, e2⟩ | ⟨e1, e2⟩
    · refine ⟨_, _, r1, rfl, e1, _, rfl, ?_⟩
      simpa [e2] using q
    · refine ⟨_, _, r1, rfl, e1, _, rfl, ?_⟩
      simpa [e2] using q
  | _ => exact q1.elim
end
end Fw
set_option Elab.async false
set_option linter.all false
set_option maxRecDepth 100000
set_option maxHeartbeats 2000000
set_option autoImplicit false
namespace Fw
open PySem L2 PyProof.Rows
section
variable {X : Cx} {CX : CXT} {k : Nat} {g C : Addr} {fd : FuncData} {ps : List Str} {sp : Sp} {E : L2.St → XK} {x : Str} {p pos : Pos} {a : Expr} {es : List Expr} {t : TA}
theorem made_at {pins : List (Addr × Obj)} {σ : L2.St} {H : Hp} {s : Shared} {Q : VK} {us : List Value} {vs : List V} {E : XK} (M : Mk X.K C g) (F : FnOk X.prog X.w X.K X.mg X.base CX k g fd ps sp) (room : Room (k + 1) X.A) (bs : Binds X.K fd ps []) (out : PassesAt CX X σ E) (I : Inv X pins σ H s) (rel : Vals vs us)
    (wish : ∀ y dy, H y = none → H dy = none → dy ≠ y → sp (.ref y :: vs) (upd (upd H dy (.own y)) y (.ins C dy [])) (fun v H2 => v = .non ∧ Q (.ref y) H2) E) : wpAny (model X.prog X.w) X.A (call (.ref C) us) (EP X pins σ Q) X.xe s := by
  obtain ⟨n, hn⟩ : ∃ n, n = s.heap.objs.size := ⟨_, rfl⟩
  have J : Inv X pins σ _ _ := Inv.made (C := C) I
  have all : Vals (V.ref (n + 1) :: vs) (Value.ref (n + 1) :: us) := .cons rfl rel
  have todo := wish (n + 1) n (I.hok.fresh (hn ▸ Nat.le_succ _)) (I.hok.fresh (hn ▸ Nat.le_refl _)) (Nat.ne_of_lt (Nat.lt_succ_self n))
  have many := (F.len _ _ _ _ todo).symm.trans all.length
  subst hn
  have body := F.run _ X.stack _ _ ⟨_ :: us, []⟩ _ _ _ E (room.make C us []) (J.env0.make C us []) (by simpa using bs _ _ J.kIn (by simpa using many.symm)) all todo
  refine wpAny_call (make_map (f := g) I.kIn M.makes M.init (beq_iff_eq.mp M.fn) (codeAny_mono body fun r s' got => ?_))
  match r, got with
  | .error e, got => exact out pins _ _ e s' J got
  | .ok (.ret u), got => exact (let ⟨v, H', J', rv, ev, q⟩ := J.after got; by subst ev; exact ⟨rv, .ref _, H', J', rfl, q⟩)
  | .ok .next, got => exact got.elim
  | .ok .brk, got => exact got.elim
  | .ok .cont, got => exact got.elim
theorem pe_makeS (M : Mk X.K C g) (F : FnOk X.prog X.w X.K X.mg X.base CX k g fd ps sp) (hr : Room (k + 1) X.A) (hg : Gl X x) (hm : X.mg x = some (.ref C)) (hb : Binds X.K fd ps []) (hx : ∀ σ, PassesAt CX X σ (E σ)) (ha : PA X (a :: es) t)
    (hdb : (x == ("__debug__" : Str)) = false) (he : starEach (a :: es) X.env = (false, eval a X.env) :: starEach es X.env) (hpl : (backTo pos (starEach es X.env)).any (·.1) = false) : PE X (.Call (.Name x p) (a :: es) [] pos) (fun σ => tMake C sp [] (E σ) t σ) := by
  constructor
  intro pins s σ H Q I h
  have args := thn (ha.run pos pins s σ H _ I h) fun us s1 ⟨vs, H1, I1, r, q⟩ => (⟨I1.kIn, made_at M F hr hb (hx σ) I1 r (by simpa using q)⟩ : _ ∧ _)
  exact wpAny_Call_Name_kw (ld_glob I hg hm (PySem.W.callWith_K (h₀ := X.base) I.ok.mod.kin M.kp args he hpl) hdb)
end
section
variable {X : Cx} {W : WX} {cls : Nat → Option Addr} {c : Nat} {C : Addr} {pos : Pos}
theorem se_makeS (tk : Takes X W) {k n : Nat} {g : Addr} {x : Str} {p : Pos} {a : Expr} {es : List Expr} {fs : FA} {F : List D → Store → Res D} (T : Kl1 X.K cls c C) (M : Mk X.K C g) (G : Dm X.prog X.w X.K cls X.mg X.base k g n F) (hr : Room (k + 1) X.A) (hg : Gl X x) (hm : X.mg x = some (.ref C)) (ha : SA X W cls (a :: es) fs)
    (hdb : (x == ("__debug__" : Str)) = false := by decide +kernel) (he : starEach (a :: es) X.env = (false, eval a X.env) :: starEach es X.env := by rfl) (hpl : (backTo pos (starEach es X.env)).any (·.1) = false := by rfl) :
    SE X W cls (.Call (.Name x p) (a :: es) [] pos) (eMake c n F fs) := by
  obtain ⟨t1, p1, h1⟩ := ha
  obtain ⟨fd, ps, hf, hbd, hl⟩ := G.ex
  refine ⟨_, pe_makeS (E := WE W) M hf hr hg hm hbd (passAt tk) p1 hdb he hpl, fun σ Q w ρ μ S E h => ?_⟩
  refine h1 σ _ w ρ μ S E ((PostR.bind h).imp fun w1 ds s1 ⟨μ1, S1, q1⟩ vs r1 => ?_)
  split at q1
  · rename_i hn
    intro y dy hy hdy hne
    rw [List.append_nil]
    have hy2 : (w1.up dy (.own y)).H y = none := by
      show upd w1.H dy _ y = none
      rw [upd_ne (Ne.symm hne)]
      exact hy
    have S2 := (S1.new (o := .own y) hdy).add (c := .ins c [] []) (o := .ins C dy []) hy2 ⟨C, dy, [], T.at_, upd_same, rfl, rfl⟩
    have st : Step w1 ⟨w1.x, w1.ι ++ [y], w1.B, upd (upd w1.H dy (.own y)) y (.ins C dy [])⟩ := (step_new hdy).trans (step_add hy2)
    refine ⟨_, .loc μ1.length :: ds, μ1 ++ [.ins c [] []], rfl, hn, S2, ⟨.ref y, vs, rfl, ⟨y, rfl, ?_⟩, r1.mono st.kp⟩, ?_⟩
    · show (w1.ι ++ [y])[μ1.length]? = some y
      rw [List.getElem?_append_right (by rw [S1.len]; omega), S1.len, Nat.sub_self]
      rfl
    · cases hF : F (.loc μ1.length :: ds) (μ1 ++ [.ins c [] []]) with
      | stuck => rw [hF] at q1; exact q1.elim
      | err k' ns es μ2 =>
        rw [hF] at q1
        simp only at q1
        split at q1
        · rename_i hcond
          rw [Bool.and_eq_true] at hcond
          intro w' cv d s' S' x
          have stt := st.trans s'
          have hk := kl_cut stt
          rw [S1.len] at hk
          obtain ⟨C', e1, e2, e3⟩ := x
          refine q1 ⟨w1.x, w1.ι, w'.B, w'.H⟩ cv d (step_cut stt) (S1.cut stt S' hcond.2) ⟨C', e1, e2, ?_⟩
          rcases e3 with e3 | ⟨dd, vs, e3, ⟨e4, e5, e6⟩, e7, e8⟩
          · exact .inl e3
          · exact .inr ⟨dd, vs, e3, hk.at_ dd _ e5 e6 e4, e7, RVs.low hk hcond.1 e8⟩
        · exact q1.elim
      | ok d μ2 =>
        rw [hF] at q1
        cases d with
        | non =>
          simp only at q1
          split at q1
          · rename_i c' ns es hm2
            split at q1
            · rename_i hcond
              simp only [Bool.and_eq_true, decide_eq_true_eq] at hcond
              obtain ⟨⟨⟨hcc, hlen⟩, hlow⟩, hall⟩ := hcond
              subst hcc
              intro w' s' S' v rv
              have stt := st.trans s'
              obtain ⟨a', h3, C', dx, us, e2, e3, e4, e5⟩ := S'.cell μ1.length _ hm2
              have hy3 : w'.ι[μ1.length]? = some y := s'.loc (by
                show (w1.ι ++ [y])[μ1.length]? = some y
                rw [List.getElem?_append_right (by rw [S1.len]; omega), S1.len, Nat.sub_self]
                rfl)
              rw [hy3] at h3
              cases h3
              rw [T.at_] at e2
              cases e2
              have hk := kl_cut stt
              rw [S1.len] at hk
              refine ⟨rv, q1 ⟨w1.x, w1.ι, w'.B, w'.H⟩ (step_cut stt) (S1.cut stt S' hall) _ ⟨y, C, dx, us, rfl, T.at_, ⟨e3, (S1.free hy).1, ?_⟩, e4, RVs.low hk hlow e5⟩⟩
              show y ∉ w'.B
              rw [stt.ban]
              exact (S1.free hy).2
            · exact q1.elim
          · exact q1.elim
        | _ => exact q1.elim
  · exact q1.elim
end
end Fw
set_option Elab.async false
set_option linter.all false
set_option maxRecDepth 100000
set_option autoImplicit false
namespace Pg
open PySem L2 Fw
def B_Negativedd__lendd_ : FS :=
  sRet (eCall cLen (aCons (eFld 0 "figures" (eVar 0)) (aNil)))
def M_Negativedd__lendd_ : List D → Store → Res D := mD 1 B_Negativedd__lendd_
def B_Negative_densities : FS :=
  sRet (eFld 0 "figures" (eVar 0))
def M_Negative_densities : List D → Store → Res D := mD 1 B_Negative_densities
def B_Negative_width : FS :=
  sRet (eFld 0 "columns" (eVar 0))
def M_Negative_width : List D → Store → Res D := mD 1 B_Negative_width
def B_l_open : FS :=
  sSeq (sIf (tB (eBin oEq (eBin oIx (eVar 1) (eC (.int 0))) (eC (.str (lit "flip"))))) (
  sRet (eBin oMul (eLst (aCons (eC (.int 0)) (aNil))) (eCall (cLenO 0 M_Negativedd__lendd_) (aCons (eVar 0) (aNil))))) (
  sNext)) (
  sSeq (sIf (tB (eBin oEq (eBin oIx (eVar 1) (eC (.int 0))) (eC (.str (lit "expose"))))) (
  sRet (eLc [2] (iRange1 (eCall (cLenO 0 M_Negativedd__lendd_) (aCons (eVar 0) (aNil)))) (gVar 2) (fun _ μ => .ok true μ) (eBin oMul (eBin oIx (eVar 1) (eC (.int 1))) (eCall cInt (aCons (eBin (oIn true) (eVar 2) (eBin oIx (eVar 1) (eC (.int 2)))) (aNil)))))) (
  sNext)) (
  sRet (eLc [2] (iRange1 (eCall (cLenO 0 M_Negativedd__lendd_) (aCons (eVar 0) (aNil)))) (gVar 2) (fun _ μ => .ok true μ) (eCall cMax2 (aCons (eC (.int 0)) (aCons (eBin oSub (eBin oIx (eVar 1) (eC (.int 1))) (eBin oMul (eBin oIx (eVar 1) (eC (.int 2))) (eBin oMod (eCall cInt (aCons (eVar 2) (aNil))) (eProp 0 M_Negative_width (eVar 0))))) (aNil)))))))
def M_l_open : List D → Store → Res D := mD 3 B_l_open
def B_is_number : FS :=
  sRet (eAnd (eIsi "int" (eVar 0)) (eAnd (eNot (eIsi "bool" (eVar 0))) (eChain oLe oLe (eVar 1) (eVar 0) (eVar 2))))
def M_is_number : List D → Store → Res D := mD 3 B_is_number
def B_wrong_side : FS :=
  sSeq (sIf (tNot (tB (eCallD 3 M_is_number (aCons (eVar 0) (aCons (eC (.int 1)) (aCons (eC (.int 4)) (aNil))))))) (
  sRet (eC (.str (lit "width")))) (
  sNext)) (
  sSeq (sIf (tOr (tNot (tB (eCallD 3 M_is_number (aCons (eVar 1) (aCons (eC (.int 1)) (aCons (eC (.int 4)) (aNil))))))) (tB (eBin oGt (eBin oMul (eVar 0) (eVar 1)) (eC (.int 9))))) (
  sRet (eC (.str (lit "height")))) (
  sNext)) (
  sRet (eC .non)))
def M_wrong_side : List D → Store → Res D := mD 2 B_wrong_side
def B_wrong_part : FS :=
  sSeq (sAsg (gVar 3) (eCallD 2 M_wrong_side (aCons (eVar 0) (aCons (eVar 1) (aNil))))) (
  sSeq (sIf (tB (eBin oNotN (eVar 3) (eC .non))) (
  sRet (eVar 3)) (
  sNext)) (
  sSeq (sIf (tOr (tB (eBin oNe (eCall (cLenO 0 M_Negativedd__lendd_) (aCons (eVar 2) (aNil))) (eBin oMul (eVar 0) (eVar 1)))) (tNot (tB (eCall cAll (aCons (eLc [4] (iOf (eVar 2)) (gVar 4) (fun _ μ => .ok true μ) (eBin (oIn false) (eVar 4) (eC (.str (lit "01234"))))) (aNil)))))) (
  sRet (eC (.str (lit "densities")))) (
  sNext)) (
  sRet (eC .non))))
def M_wrong_part : List D → Store → Res D := mD 5 B_wrong_part
def B_Negativedd__initdd_ : FS :=
  sSeq (sAsg (gVar 4) (eCallD 3 M_wrong_part (aCons (eVar 1) (aCons (eVar 2) (aCons (eVar 3) (aNil)))))) (
  sSeq (sIf (tB (eBin oNotN (eVar 4) (eC .non))) (
  sNever) (
  sNext)) (
  sSeq (sFld 0 "columns" (eVar 0) (eVar 1)) (
  sSeq (sFld 0 "lines" (eVar 0) (eVar 2)) (
  sFld 0 "figures" (eVar 0) (eVar 3)))))
def M_Negativedd__initdd_ : List D → Store → Res D := mD 5 B_Negativedd__initdd_
def B_l_taken : FS :=
  sSeq (sIf (tB (eBin oGt (eBin oIx (eVar 0) (eC (.int 3))) (eC (.int 0)))) (
  sSeq (sAsg (gVar 2) (eBin oMod (eCall cInt (aCons (eBin oIx (eVar 0) (eC (.int 3))) (aNil))) (eVar 1))) (
  sSeq (sAsg (gIx (eVar 0) (eC (.int 3))) (eBin oFdv (eBin oIx (eVar 0) (eC (.int 3))) (eVar 1))) (
  sRet (eVar 2)))) (
  sNext)) (
  sSeq (sAsg (gIx (eVar 0) (eC (.int 1))) (eBin oAdd (eBin oIx (eVar 0) (eC (.int 1))) (eC (.int 1)))) (
  sSeq (sIf (tB (eBin oGt (eBin oIx (eVar 0) (eC (.int 1))) (eCall (cLenO 0 M_Negativedd__lendd_) (aCons (eBin oIx (eVar 0) (eC (.int 0))) (aNil))))) (
  sSeq (sAsg (gIx (eVar 0) (eC (.int 2))) (eBin oMod (eCall cInt (aCons (eBin oAdd (eBin oMul (eBin oIx (eVar 0) (eC (.int 2))) (eC (.int 48271))) (eC (.int 11))) (aNil))) (eC (.int 2147483647)))) (
  sRet (eBin oMod (eCall cInt (aCons (eBin oFdv (eBin oIx (eVar 0) (eC (.int 2))) (eC (.int 7))) (aNil))) (eVar 1)))) (
  sNext)) (
  sSeq (sAsg (gVar 3) (eBin oIx (eBin oIx (eVar 0) (eC (.int 0))) (eBin oSub (eBin oIx (eVar 0) (eC (.int 1))) (eC (.int 1))))) (
  sSeq (sAsg (gIx (eVar 0) (eC (.int 2))) (eBin oMod (eCall cInt (aCons (eBin oAdd (eBin oAdd (eBin oMul (eBin oIx (eVar 0) (eC (.int 2))) (eC (.int 48271))) (eVar 3)) (eC (.int 11))) (aNil))) (eC (.int 2147483647)))) (
  sSeq (sIf (tB (eBin oGe (eVar 3) (eBin oPow (eC (.int 10)) (eC (.int 18))))) (
  sAsg (gIx (eVar 0) (eC (.int 3))) (eBin oFdv (eVar 3) (eVar 1))) (
  sNext)) (
  sRet (eBin oMod (eCall cInt (aCons (eVar 3) (aNil))) (eVar 1))))))))
def M_l_taken : List D → Store → Res D := mD 4 B_l_taken
def B_l_negative : FS :=
  sSeq (sPar 2 3 (eBin oAdd (eC (.int 1)) (eCallD 2 M_l_taken (aCons (eVar 0) (aCons (eC (.int 3)) (aNil))))) (eBin oAdd (eC (.int 1)) (eCallD 2 M_l_taken (aCons (eVar 0) (aCons (eVar 1) (aNil)))))) (
  sRet (eMake 0 4 M_Negativedd__initdd_ (aCons (eVar 2) (aCons (eVar 3) (aCons (eJoin (eC (.str (lit ""))) (eLc [4] (iRange1 (eBin oMul (eVar 2) (eVar 3))) (gVar 4) (fun _ μ => .ok true μ) (eBin oIx (eC (.str (lit "01234"))) (eCallD 2 M_l_taken (aCons (eVar 0) (aCons (eC (.int 5)) (aNil))))))) (aNil))))))
def M_l_negative : List D → Store → Res D := mD 5 B_l_negative
def B_l_deed : FS :=
  sSeq (sAsg (gVar 2) (eCallD 2 M_l_taken (aCons (eVar 0) (aCons (eC (.int 5)) (aNil))))) (
  sSeq (sIf (tB (eBin oLt (eVar 2) (eC (.int 3)))) (
  sSeq (sAsg (gVar 3) (eCall cTuple (aCons (eLc [4] (iRange1 (eCall (cLenO 0 M_Negativedd__lendd_) (aCons (eVar 1) (aNil)))) (gVar 4) (tB (eBin oEq (eCallD 2 M_l_taken (aCons (eVar 0) (aCons (eC (.int 3)) (aNil)))) (eC (.int 0)))) (eVar 4)) (aNil)))) (
  sRet (eTup (aCons (eC (.str (lit "expose"))) (aCons (eBin oAdd (eC (.int 1)) (eCallD 2 M_l_taken (aCons (eVar 0) (aCons (eBin oIx (eLst (aCons (eC (.int 6)) (aCons (eC (.int 99)) (aNil)))) (eCallD 2 M_l_taken (aCons (eVar 0) (aCons (eC (.int 2)) (aNil))))) (aNil))))) (aCons (eVar 3) (aNil))))))) (
  sNext)) (
  sSeq (sIf (tB (eBin oEq (eVar 2) (eC (.int 3)))) (
  sRet (eTup (aCons (eC (.str (lit "draw"))) (aCons (eBin oAdd (eC (.int 1)) (eCallD 2 M_l_taken (aCons (eVar 0) (aCons (eC (.int 20)) (aNil))))) (aCons (eBin oAdd (eC (.int 1)) (eCallD 2 M_l_taken (aCons (eVar 0) (aCons (eC (.int 9)) (aNil))))) (aNil)))))) (
  sNext)) (
  sRet (eTup (aCons (eC (.str (lit "flip"))) (aNil))))))
def M_l_deed : List D → Store → Res D := mD 5 B_l_deed
def B_l_recipe : FS :=
  sRet (eCall cTuple (aCons (eLc [3] (iRange1 (eCallD 2 M_l_taken (aCons (eVar 0) (aCons (eBin oAdd (eVar 2) (eC (.int 1))) (aNil))))) (gVar 3) (fun _ μ => .ok true μ) (eCallD 2 M_l_deed (aCons (eVar 0) (aCons (eVar 1) (aNil))))) (aNil)))
def M_l_recipe : List D → Store → Res D := mD 4 B_l_recipe
def B_ascends : FS :=
  sSeq (sFor (iOf (eVar 0)) (gVar 3) (
  sSeq (sIf (tNot (tB (eCallD 3 M_is_number (aCons (eVar 3) (aCons (eVar 1) (aCons (eVar 2) (aNil))))))) (
  sRet (eC (.bl false))) (
  sNext)) (
  sAsg (gVar 1) (eBin oAdd (eVar 3) (eC (.int 1)))))) (
  sRet (eC (.bl true)))
def M_ascends : List D → Store → Res D := mD 4 B_ascends
def B_is_mask : FS :=
  sRet (eAnd (eIsi "tuple" (eVar 0)) (eCallD 3 M_ascends (aCons (eVar 0) (aCons (eC (.int 0)) (aCons (eBin oSub (eVar 1) (eC (.int 1))) (aNil))))))
def M_is_mask : List D → Store → Res D := mD 2 B_is_mask
def B_is_deed : FS :=
  sSeq (sIf (tB (eBin oEq (eVar 0) (eC (.tup [.str (lit "flip")])))) (
  sRet (eC (.bl true))) (
  sNext)) (
  sSeq (sIf (tOr (tB (eBin oNe (eCall (cLenO 0 M_Negativedd__lendd_) (aCons (eVar 0) (aNil))) (eC (.int 3)))) (tNot (tB (eCallD 3 M_is_number (aCons (eBin oIx (eVar 0) (eC (.int 1))) (aCons (eC (.int 1)) (aCons (eC (.int 99)) (aNil)))))))) (
  sRet (eC (.bl false))) (
  sNext)) (
  sSeq (sIf (tB (eBin oEq (eBin oIx (eVar 0) (eC (.int 0))) (eC (.str (lit "expose"))))) (
  sRet (eCallD 2 M_is_mask (aCons (eBin oIx (eVar 0) (eC (.int 2))) (aCons (eVar 1) (aNil))))) (
  sNext)) (
  sRet (eAnd (eBin oEq (eBin oIx (eVar 0) (eC (.int 0))) (eC (.str (lit "draw")))) (eCallD 3 M_is_number (aCons (eBin oIx (eVar 0) (eC (.int 2))) (aCons (eC (.int 1)) (aCons (eC (.int 99)) (aNil)))))))))
def M_is_deed : List D → Store → Res D := mD 2 B_is_deed
def B_check_recipe : FS :=
  sFor (iEnumD (eVar 0)) (gTup 2 (gCons (gVar 2) (gCons (gVar 3) (gNil)))) (
  sIf (tOr (tB (eBin oEq (eVar 2) (eC (.int 8)))) (tNot (tB (eCallD 2 M_is_deed (aCons (eVar 3) (aCons (eVar 1) (aNil))))))) (
  sNever) (
  sNext))
def M_check_recipe : List D → Store → Res D := mD 4 B_check_recipe
def B_light_by : FS :=
  sSeq (sAsg (gTup 2 (gCons (gVar 3) (gCons (gVar 4) (gNil)))) (eVar 0)) (
  sRet (eBin oAdd (eBin oMul (eVar 3) (eBin oIx (eC (.tup [.int 16, .int 8, .int 4, .int 2, .int 1])) (eVar 1))) (eBin oMul (eVar 4) (eBin oIx (eC (.tup [.int 16, .int 8, .int 4, .int 2, .int 1])) (eVar 2)))))
def M_light_by : List D → Store → Res D := mD 5 B_light_by
def B_mirrored : FS :=
  sSeq (sAsg (gVar 2) (eBin oMod (eVar 0) (eVar 1))) (
  sRet (eBin oSub (eBin oSub (eBin oAdd (eBin oSub (eVar 0) (eVar 2)) (eVar 1)) (eC (.int 1))) (eVar 2)))
def M_mirrored : List D → Store → Res D := mD 3 B_mirrored
def B_ticks_of : FS :=
  sSeq (sIf (tB (eBin oEq (eBin oIx (eVar 0) (eC (.int 0))) (eC (.str (lit "expose"))))) (
  sRet (eIf (tB (eBin (oIn false) (eVar 2) (eBin oIx (eVar 0) (eC (.int 2))))) (eC (.int 0)) (eBin oIx (eVar 0) (eC (.int 1))))) (
  sNext)) (
  sRet (eCall cMax2 (aCons (eC (.int 0)) (aCons (eBin oSub (eBin oIx (eVar 0) (eC (.int 1))) (eBin oMul (eBin oIx (eVar 0) (eC (.int 2))) (eBin oMod (eVar 2) (eVar 1)))) (aNil)))))
def M_ticks_of : List D → Store → Res D := mD 3 B_ticks_of
def B_open_pair : FS :=
  sSeq (sAsg2 (gVar 3) (gVar 4) (eC (.int 0))) (
  sSeq (sAsg (gVar 5) (eC (.bl false))) (
  sSeq (sFor (iOf (eVar 1)) (gVar 6) (
  sIf (tB (eBin oEq (eVar 6) (eC (.tup [.str (lit "flip")])))) (
  sAsg (gVar 5) (eNot (eVar 5))) (
  sIf (tB (eVar 5)) (
  sAug 4 oAddI (eCallD 3 M_ticks_of (aCons (eVar 6) (aCons (eVar 0) (aCons (eVar 2) (aNil)))))) (
  sAug 3 oAddI (eCallD 3 M_ticks_of (aCons (eVar 6) (aCons (eVar 0) (aCons (eVar 2) (aNil))))))))) (
  sRet (eTup (aCons (eVar 3) (aCons (eVar 4) (aNil)))))))
def M_open_pair : List D → Store → Res D := mD 7 B_open_pair
def B_are_steps : FS :=
  sRet (eAnd (eChain oLe oLe (eC (.int 1)) (eCall (cLenO 0 M_Negativedd__lendd_) (aCons (eVar 0) (aNil))) (eC (.int 5))) (eCallD 3 M_ascends (aCons (eVar 0) (aCons (eC (.int 1)) (aCons (eC (.int 9999)) (aNil))))))
def M_are_steps : List D → Store → Res D := mD 1 B_are_steps
def B_check_steps : FS :=
  sIf (tNot (tB (eCallD 1 M_are_steps (aCons (eVar 0) (aNil))))) (
  sRaise 104) (
  sNext)
def M_check_steps : List D → Store → Res D := mD 1 B_check_steps
end Pg
set_option Elab.async false
set_option linter.all false
set_option maxRecDepth 100000
set_option autoImplicit false
namespace Pg
open PySem L2 Fw
def B_tone_of : FS :=
  sRet (eCall (cLenO 0 M_Negativedd__lendd_) (aCons (eLc [2] (iOf (eVar 1)) (gVar 2) (tB (eBin oLe (eVar 2) (eVar 0))) (eVar 2)) (aNil)))
def M_tone_of : List D → Store → Res D := mD 3 B_tone_of
end Pg
set_option Elab.async false
set_option linter.all false
set_option maxRecDepth 100000
set_option autoImplicit false
namespace Pg
open PySem L2 Fw
def B_Negative_height : FS :=
  sRet (eFld 0 "lines" (eVar 0))
def M_Negative_height : List D → Store → Res D := mD 1 B_Negative_height
def B_check_size : FS :=
  sIf (tB (eBin oNotN (eCallD 2 M_wrong_side (aCons (eVar 0) (aCons (eVar 1) (aNil)))) (eC .non))) (
  sRaise 102) (
  sNext)
def M_check_size : List D → Store → Res D := mD 2 B_check_size
end Pg
set_option Elab.async false
set_option linter.all false
set_option maxRecDepth 100000
set_option autoImplicit false
namespace Pg
open PySem L2 Fw
end Pg
set_option Elab.async false
set_option linter.all false
set_option maxRecDepth 100000
set_option autoImplicit false
namespace Pg
open PySem L2 Fw
def B_Negativedd__initdd__2 : FS :=
  sSeq (sAsg (gVar 4) (eCallD 3 M_wrong_part (aCons (eVar 1) (aCons (eVar 2) (aCons (eVar 3) (aNil)))))) (
  sSeq (sIf (tB (eBin oNotN (eVar 4) (eC .non))) (
  sRaise1 101 "part" (eVar 4)) (
  sNext)) (
  sSeq (sFld 0 "columns" (eVar 0) (eVar 1)) (
  sSeq (sFld 0 "lines" (eVar 0) (eVar 2)) (
  sFld 0 "figures" (eVar 0) (eVar 3)))))
def M_Negativedd__initdd__2 : List D → Store → Res D := mD 5 B_Negativedd__initdd__2
def B_l_negative_3 : FS :=
  sSeq (sPar 2 3 (eBin oAdd (eC (.int 1)) (eCallD 2 M_l_taken (aCons (eVar 0) (aCons (eC (.int 3)) (aNil))))) (eBin oAdd (eC (.int 1)) (eCallD 2 M_l_taken (aCons (eVar 0) (aCons (eVar 1) (aNil)))))) (
  sRet (eMake 0 4 M_Negativedd__initdd__2 (aCons (eVar 2) (aCons (eVar 3) (aCons (eJoin (eC (.str (lit ""))) (eLc [4] (iRange1 (eBin oMul (eVar 2) (eVar 3))) (gVar 4) (fun _ μ => .ok true μ) (eBin oIx (eC (.str (lit "01234"))) (eCallD 2 M_l_taken (aCons (eVar 0) (aCons (eC (.int 5)) (aNil))))))) (aNil))))))
def M_l_negative_3 : List D → Store → Res D := mD 5 B_l_negative_3
end Pg
set_option Elab.async false
set_option linter.all false
set_option maxRecDepth 100000
set_option autoImplicit false
namespace Pg
open PySem L2 Fw
def B_shows : FS :=
  sRet (eOr (eBin oEq (eVar 0) (eC (.str (lit "?")))) (eBin oEq (eCall cInt (aCons (eVar 0) (aNil))) (eCallD 2 M_tone_of (aCons (eVar 1) (aCons (eVar 2) (aNil))))))
def M_shows : List D → Store → Res D := mD 3 B_shows
def B_check_figures : FS :=
  sIf (tOr (tNot (tB (eIsi "str" (eVar 0)))) (tOr (tB (eBin oNe (eCall (cLenO 0 M_Negativedd__lendd_) (aCons (eVar 0) (aNil))) (eVar 2))) (tNot (tB (eCall cAll (aCons (eLc [3] (iOf (eVar 0)) (gVar 3) (fun _ μ => .ok true μ) (eBin (oIn false) (eVar 3) (eVar 1))) (aNil))))))) (
  sRaise 108) (
  sNext)
def M_check_figures : List D → Store → Res D := mD 4 B_check_figures
def B_check_seen : FS :=
  sExpr (eCallD 3 M_check_figures (aCons (eVar 0) (aCons (eBin oAdd (eCut (eC (.str (lit "012345"))) (oNone) (oSome (eBin oAdd (eVar 1) (eC (.int 1))))) (eC (.str (lit "?")))) (aCons (eVar 2) (aNil)))))
def M_check_seen : List D → Store → Res D := mD 3 B_check_seen
end Pg
set_option Elab.async false
set_option linter.all false
set_option maxRecDepth 100000
set_option autoImplicit false
namespace Pg
open PySem L2 Fw
end Pg
set_option Elab.async false
set_option linter.all false
set_option maxRecDepth 100000
set_option autoImplicit false
namespace Pg
open PySem L2 Fw
def B_product : FS :=
  sSeq (sAsg (gVar 1) (eC (.int 1))) (
  sSeq (sFor (iOf (eVar 0)) (gVar 2) (
  sAug 1 oMulI (eVar 2))) (
  sRet (eVar 1)))
def M_product : List D → Store → Res D := mD 3 B_product
end Pg
set_option Elab.async false
set_option linter.all false
set_option maxRecDepth 100000
set_option autoImplicit false
namespace Pg
open PySem L2 Fw
def B_check_recipe_2 : FS :=
  sFor (iEnumD (eVar 0)) (gTup 2 (gCons (gVar 2) (gCons (gVar 3) (gNil)))) (
  sIf (tOr (tB (eBin oEq (eVar 2) (eC (.int 8)))) (tNot (tB (eCallD 2 M_is_deed (aCons (eVar 3) (aCons (eVar 1) (aNil))))))) (
  sRaise1 103 "index" (eVar 2)) (
  sNext))
def M_check_recipe_2 : List D → Store → Res D := mD 4 B_check_recipe_2
end Pg
set_option Elab.async false
set_option linter.all false
set_option maxRecDepth 100000
set_option autoImplicit false
namespace Pg
open PySem L2 Fw
def B_l_mirror : FS :=
  sRet (eBin oSub (eBin oSub (eBin oAdd (eBin oMul (eBin oFdv (eVar 1) (eBin oIx (eVar 0) (eC (.int 0)))) (eBin oIx (eVar 0) (eC (.int 0)))) (eBin oIx (eVar 0) (eC (.int 0)))) (eC (.int 1))) (eBin oMod (eVar 1) (eBin oIx (eVar 0) (eC (.int 0)))))
def M_l_mirror : List D → Store → Res D := mD 2 B_l_mirror
def B_l_ticks : FS :=
  sSeq (sIf (tB (eBin oEq (eBin oIx (eVar 1) (eC (.int 0))) (eC (.str (lit "expose"))))) (
  sRet (eBin oMul (eBin oIx (eVar 1) (eC (.int 1))) (eCall cInt (aCons (eBin (oIn true) (eVar 2) (eBin oIx (eVar 1) (eC (.int 2)))) (aNil))))) (
  sNext)) (
  sRet (eIf (tB (eBin oEq (eBin oIx (eVar 1) (eC (.int 0))) (eC (.str (lit "draw"))))) (eCall cMax2 (aCons (eC (.int 0)) (aCons (eBin oSub (eBin oIx (eVar 1) (eC (.int 1))) (eBin oMul (eBin oIx (eVar 1) (eC (.int 2))) (eBin oMod (eVar 2) (eBin oIx (eVar 0) (eC (.int 0)))))) (aNil)))) (eC (.int 0))))
def M_l_ticks : List D → Store → Res D := mD 3 B_l_ticks
def B_l_weight : FS :=
  sRet (eBin oIx (eLst (aCons (eC (.int 16)) (aCons (eC (.int 8)) (aCons (eC (.int 4)) (aCons (eC (.int 2)) (aCons (eC (.int 1)) (aNil))))))) (eCall cInt (aCons (eVar 0) (aNil))))
def M_l_weight : List D → Store → Res D := mD 1 B_l_weight
def B_l_rows : FS :=
  sSeq (sPar 3 4 (eThaw (eBin oMul (eLst (aCons (eC (.int 0)) (aNil))) (eCall (cLenO 0 M_Negativedd__lendd_) (aCons (eVar 1) (aNil))))) (eC (.bl false))) (
  sSeq (sAsg (gVar 5) (eThaw (eLst (aCons (eCall cTuple (aCons (eVar 3) (aNil))) (aNil))))) (
  sSeq (sFor (iOf (eVar 2)) (gVar 6) (
  sSeq (sAsg (gVar 4) (eBin oNe (eVar 4) (eBin oEq (eBin oIx (eVar 6) (eC (.int 0))) (eC (.str (lit "flip")))))) (
  sSeq (sFor (iRange1 (eCall (cLenO 0 M_Negativedd__lendd_) (aCons (eVar 3) (aNil)))) (gVar 7) (
  sSeq (sAsg (gVar 8) (eBin oIx (eVar 1) (eIf (tB (eVar 4)) (eCallD 2 M_l_mirror (aCons (eVar 0) (aCons (eVar 7) (aNil)))) (eVar 7)))) (
  sAsg (gIx (eVar 3) (eVar 7)) (eBin oAdd (eBin oIx (eVar 3) (eVar 7)) (eBin oMul (eCallD 3 M_l_ticks (aCons (eVar 0) (aCons (eVar 6) (aCons (eVar 7) (aNil))))) (eCallD 1 M_l_weight (aCons (eVar 8) (aNil)))))))) (
  sExpr (eLm oApp (eVar 5) (eCall cTuple (aCons (eVar 3) (aNil)))))))) (
  sRet (eVar 5))))
def M_l_rows : List D → Store → Res D := mDf 9 B_l_rows
def B_l_taken_2 : FS :=
  sSeq (sIf (tB (eBin oGt (eBin oIx (eVar 0) (eC (.int 3))) (eC (.int 0)))) (
  sSeq (sAsg (gVar 2) (eBin oMod (eCall cInt (aCons (eBin oIx (eVar 0) (eC (.int 3))) (aNil))) (eVar 1))) (
  sSeq (sAsg (gIx (eVar 0) (eC (.int 3))) (eBin oFdv (eBin oIx (eVar 0) (eC (.int 3))) (eVar 1))) (
  sRet (eVar 2)))) (
  sNext)) (
  sSeq (sAsg (gIx (eVar 0) (eC (.int 1))) (eBin oAdd (eBin oIx (eVar 0) (eC (.int 1))) (eC (.int 1)))) (
  sSeq (sIf (tB (eBin oGt (eBin oIx (eVar 0) (eC (.int 1))) (eCall (cLenO 0 M_Negativedd__lendd_) (aCons (eBin oIx (eVar 0) (eC (.int 0))) (aNil))))) (
  sSeq (sAsg (gIx (eVar 0) (eC (.int 2))) (eBin oMod (eCall cInt (aCons (eBin oAdd (eBin oMul (eBin oIx (eVar 0) (eC (.int 2))) (eC (.int 48271))) (eC (.int 11))) (aNil))) (eC (.int 2147483647)))) (
  sRet (eBin oMod (eCall cInt (aCons (eBin oFdv (eBin oIx (eVar 0) (eC (.int 2))) (eC (.int 7))) (aNil))) (eVar 1)))) (
  sNext)) (
  sSeq (sAsg (gVar 3) (eBin oIx (eBin oIx (eVar 0) (eC (.int 0))) (eBin oSub (eBin oIx (eVar 0) (eC (.int 1))) (eC (.int 1))))) (
  sSeq (sAsg (gIx (eVar 0) (eC (.int 2))) (eBin oMod (eCall cInt (aCons (eBin oAdd (eBin oAdd (eBin oMul (eBin oIx (eVar 0) (eC (.int 2))) (eC (.int 48271))) (eVar 3)) (eC (.int 11))) (aNil))) (eC (.int 2147483647)))) (
  sSeq (sAsg (gIx (eVar 0) (eC (.int 3))) (eIf (tB (eBin oGe (eVar 3) (eBin oPow (eC (.int 10)) (eC (.int 18))))) (eBin oFdv (eVar 3) (eVar 1)) (eC (.int 0)))) (
  sRet (eBin oMod (eCall cInt (aCons (eVar 3) (aNil))) (eVar 1))))))))
def M_l_taken_2 : List D → Store → Res D := mD 4 B_l_taken_2
def B_l_tone : FS :=
  sRet (eCall cStr (aCons (eCall (cLenO 0 M_Negativedd__lendd_) (aCons (eLc [2] (iOf (eVar 0)) (gVar 2) (tB (eBin oGe (eVar 1) (eVar 2))) (eVar 2)) (aNil))) (aNil)))
def M_l_tone : List D → Store → Res D := mD 3 B_l_tone
def B_l_print_2 : FS :=
  sRet (eJoin (eC (.str (lit ""))) (eLc [2] (iOf (eVar 1)) (gVar 2) (fun _ μ => .ok true μ) (eCallD 2 M_l_tone (aCons (eVar 0) (aCons (eVar 2) (aNil))))))
def M_l_print_2 : List D → Store → Res D := mD 3 B_l_print_2
def B_l_covered : FS :=
  sSeq (sAsg (gVar 2) (eBin oAdd (eC (.int 1)) (eCallD 2 M_l_taken_2 (aCons (eVar 0) (aCons (eC (.int 4)) (aNil)))))) (
  sRet (eCall cTuple (aCons (eLc [3] (iRange1 (eBin oMul (eBin oIx (eVar 1) (eC (.int 0))) (eBin oIx (eVar 1) (eC (.int 1))))) (gVar 3) (tAnd (tB (eBin oEq (eCallD 2 M_l_taken_2 (aCons (eVar 0) (aCons (eVar 2) (aNil)))) (eC (.int 0)))) (tB (eBin oLt (eVar 2) (eC (.int 4))))) (eVar 3)) (aNil))))
def M_l_covered : List D → Store → Res D := mD 4 B_l_covered
def B_l_pick : FS :=
  sRet (eBin oIx (eVar 1) (eCallD 2 M_l_taken_2 (aCons (eVar 0) (aCons (eCall (cLenO 0 M_Negativedd__lendd_) (aCons (eVar 1) (aNil))) (aNil)))))
def M_l_pick : List D → Store → Res D := mD 2 B_l_pick
def B_l_deed_2 : FS :=
  sSeq (sPar 2 3 (eCallD 2 M_l_taken_2 (aCons (eVar 0) (aCons (eC (.int 5)) (aNil)))) (eBin oAdd (eC (.int 1)) (eCallD 2 M_l_pick (aCons (eVar 0) (aCons (eLst (aCons (eCallD 2 M_l_taken_2 (aCons (eVar 0) (aCons (eC (.int 4)) (aNil)))) (aCons (eCallD 2 M_l_taken_2 (aCons (eVar 0) (aCons (eC (.int 12)) (aNil)))) (aCons (eCallD 2 M_l_taken_2 (aCons (eVar 0) (aCons (eC (.int 99)) (aNil)))) (aNil))))) (aNil)))))) (
  sSeq (sIf (tB (eBin oEq (eVar 2) (eC (.int 0)))) (
  sRet (eTup (aCons (eC (.str (lit "flip"))) (aNil)))) (
  sNext)) (
  sSeq (sIf (tB (eBin oEq (eVar 2) (eC (.int 1)))) (
  sRet (eTup (aCons (eC (.str (lit "draw"))) (aCons (eVar 3) (aCons (eBin oAdd (eC (.int 1)) (eCallD 2 M_l_pick (aCons (eVar 0) (aCons (eLst (aCons (eCallD 2 M_l_taken_2 (aCons (eVar 0) (aCons (eC (.int 3)) (aNil)))) (aCons (eCallD 2 M_l_taken_2 (aCons (eVar 0) (aCons (eC (.int 99)) (aNil)))) (aNil)))) (aNil))))) (aNil)))))) (
  sNext)) (
  sRet (eTup (aCons (eC (.str (lit "expose"))) (aCons (eVar 3) (aCons (eCallD 2 M_l_covered (aCons (eVar 0) (aCons (eVar 1) (aNil)))) (aNil))))))))
def M_l_deed_2 : List D → Store → Res D := mD 4 B_l_deed_2
def B_l_recipe_2 : FS :=
  sRet (eCall cTuple (aCons (eLc [3] (iRange1 (eCallD 2 M_l_taken_2 (aCons (eVar 0) (aCons (eBin oAdd (eVar 2) (eC (.int 1))) (aNil))))) (gVar 3) (fun _ μ => .ok true μ) (eCallD 2 M_l_deed_2 (aCons (eVar 0) (aCons (eVar 1) (aNil))))) (aNil)))
def M_l_recipe_2 : List D → Store → Res D := mD 4 B_l_recipe_2
def B_l_sides : FS :=
  sSeq (sAsg (gVar 1) (eLst (aNil))) (
  sSeq (sFor (iOf (eTup (aCons (eC (.int 1)) (aCons (eC (.int 2)) (aCons (eC (.int 3)) (aCons (eC (.int 4)) (aNil))))))) (gVar 2) (
  sAsg (gVar 1) (eBin oAdd (eVar 1) (eLc [3] (iOf (eTup (aCons (eC (.int 1)) (aCons (eC (.int 2)) (aCons (eC (.int 3)) (aCons (eC (.int 4)) (aNil))))))) (gVar 3) (tB (eBin oLe (eBin oMul (eVar 2) (eVar 3)) (eVar 0))) (eTup (aCons (eVar 2) (aCons (eVar 3) (aNil)))))))) (
  sRet (eVar 1)))
def M_l_sides : List D → Store → Res D := mD 4 B_l_sides
def B_l_scheme : FS :=
  sSeq (sAsg (gVar 2) (eCallD 1 M_l_sides (aCons (eVar 1) (aNil)))) (
  sSeq (sAsg (gTup 2 (gCons (gVar 3) (gCons (gVar 4) (gNil)))) (eCallD 2 M_l_pick (aCons (eVar 0) (aCons (eBin oAdd (eVar 2) (eLc [6] (iOf (eVar 2)) (gVar 6) (tB (eBin oGt (eBin oIx (eVar 6) (eC (.int 0))) (eC (.int 1)))) (eVar 6))) (aNil))))) (
  sSeq (sAsg (gVar 5) (eCallD 2 M_l_pick (aCons (eVar 0) (aCons (eLst (aCons (eC (.str (lit "01234"))) (aCons (eC (.str (lit "01234"))) (aCons (eC (.str (lit "02"))) (aCons (eC (.str (lit "4"))) (aNil)))))) (aNil))))) (
  sRet (eTup (aCons (eVar 3) (aCons (eVar 4) (aCons (eJoin (eC (.str (lit ""))) (eLc [7] (iRange1 (eBin oMul (eVar 3) (eVar 4))) (gVar 7) (fun _ μ => .ok true μ) (eCallD 2 M_l_pick (aCons (eVar 0) (aCons (eVar 5) (aNil)))))) (aNil))))))))
def M_l_scheme : List D → Store → Res D := mD 8 B_l_scheme
def B_l_steps_2 : FS :=
  sSeq (sAsg (gVar 2) (eCallD 2 M_l_pick (aCons (eVar 0) (aCons (eLst (aCons (eC (.int 20)) (aCons (eC (.int 100)) (aCons (eC (.int 600)) (aCons (eC (.int 9999)) (aNil)))))) (aNil))))) (
  sRet (eCall cTuple (aCons (eSortSetM (eLc [3] (iRange1 (eBin oAdd (eC (.int 1)) (eCallD 2 M_l_taken_2 (aCons (eVar 0) (aCons (eVar 1) (aNil)))))) (gVar 3) (fun _ μ => .ok true μ) (eBin oAdd (eC (.int 1)) (eCallD 2 M_l_taken_2 (aCons (eVar 0) (aCons (eVar 2) (aNil))))))) (aNil))))
def M_l_steps_2 : List D → Store → Res D := mD 4 B_l_steps_2
end Pg
set_option Elab.async false
set_option linter.all false
set_option maxRecDepth 100000
set_option autoImplicit false
namespace Pg
open PySem L2 Fw
def B_l_like : FS :=
  sRet (eBin oEq (eLc [2] (iRange1 (eCall (cLenO 0 M_Negativedd__lendd_) (aCons (eVar 1) (aNil)))) (gVar 2) (tB (eBin (oIn true) (eBin oIx (eVar 0) (eVar 2)) (eTup (aCons (eC (.str (lit "?"))) (aCons (eBin oIx (eVar 1) (eVar 2)) (aNil)))))) (eVar 2)) (eLst (aNil)))
def M_l_like : List D → Store → Res D := mD 3 B_l_like
def B_l_seen : FS :=
  sRet (eJoin (eC (.str (lit ""))) (eLc [2] (iOf (eVar 1)) (gVar 2) (fun _ μ => .ok true μ) (eCallD 2 M_l_pick (aCons (eVar 0) (aCons (eLst (aCons (eVar 2) (aCons (eVar 2) (aCons (eC (.str (lit "?"))) (aNil))))) (aNil))))))
def M_l_seen : List D → Store → Res D := mD 3 B_l_seen
end Pg
set_option Elab.async false
set_option linter.all false
set_option maxRecDepth 100000
set_option autoImplicit false
namespace Pg
open PySem L2 Fw
def B_l_texts : FS :=
  sSeq (sAsg (gVar 2) (eLst (aCons (eC (.str (lit ""))) (aNil)))) (
  sSeq (sFor (iRange1 (eVar 1)) (gVar 3) (
  sSeq (sAsg (gVar 4) (eLst (aNil))) (
  sSeq (sFor (iOf (eVar 2)) (gVar 5) (
  sAsg (gVar 4) (eBin oAdd (eVar 4) (eLc [6] (iOf (eVar 0)) (gVar 6) (fun _ μ => .ok true μ) (eBin oAdd (eVar 5) (eVar 6)))))) (
  sAsg (gVar 2) (eVar 4))))) (
  sRet (eVar 2)))
def M_l_texts : List D → Store → Res D := mD 7 B_l_texts
def B_density_pairs : FS :=
  sSeq (sAsg (gVar 1) (eLstRg (iRange1 (eCall (cLenO 0 M_Negativedd__lendd_) (aCons (eC (.tup [.int 16, .int 8, .int 4, .int 2, .int 1])) (aNil)))))) (
  sRet (eLc2 [2, 3] [3] (iOf (eVar 1)) (gVar 2) (fun _ μ => .ok true μ) (iOf (eVar 1)) (gVar 3) (tOr (tB (eBin oEq (eVar 2) (eVar 3))) (tNot (tB (eVar 0)))) (eTup (aCons (eVar 2) (aCons (eVar 3) (aNil))))))
def M_density_pairs : List D → Store → Res D := mD 4 B_density_pairs
def B_ways_of : FS :=
  sSeq (sAsg (gVar 5) (eCallD 2 M_mirrored (aCons (eVar 4) (aCons (eVar 0) (aNil))))) (
  sSeq (sPar 6 7 (eCallD 3 M_open_pair (aCons (eVar 0) (aCons (eVar 2) (aCons (eVar 4) (aNil))))) (eCallD 3 M_open_pair (aCons (eVar 0) (aCons (eVar 2) (aCons (eVar 5) (aNil)))))) (
  sSeq (sAsg (gVar 8) (eThaw (eLst (aNil)))) (
  sSeq (sFor (iOf (eCallD 1 M_density_pairs (aCons (eBin oEq (eVar 5) (eVar 4)) (aNil)))) (gTup 2 (gCons (gVar 9) (gCons (gVar 10) (gNil)))) (
  sSeq (sPar 11 12 (eCallD 3 M_light_by (aCons (eVar 6) (aCons (eVar 9) (aCons (eVar 10) (aNil))))) (eCallD 3 M_light_by (aCons (eVar 7) (aCons (eVar 10) (aCons (eVar 9) (aNil)))))) (
  sIf (tAnd (tB (eCallD 3 M_shows (aCons (eBin oIx (eVar 3) (eVar 4)) (aCons (eVar 11) (aCons (eVar 1) (aNil)))))) (tB (eCallD 3 M_shows (aCons (eBin oIx (eVar 3) (eVar 5)) (aCons (eVar 12) (aCons (eVar 1) (aNil))))))) (
  sExpr (eLm oApp (eVar 8) (eTup (aCons (eVar 9) (aCons (eVar 10) (aNil)))))) (
  sNext)))) (
  sRet (eVar 8)))))
def M_ways_of : List D → Store → Res D := mDf 13 B_ways_of
def B_all_ways : FS :=
  sSeq (sExpr (eCallD 2 M_check_size (aCons (eVar 0) (aCons (eVar 1) (aNil))))) (
  sSeq (sExpr (eCallD 1 M_check_steps (aCons (eVar 2) (aNil)))) (
  sSeq (sExpr (eCallD 2 M_check_recipe (aCons (eVar 3) (aCons (eBin oMul (eVar 0) (eVar 1)) (aNil))))) (
  sSeq (sExpr (eCallD 3 M_check_seen (aCons (eVar 4) (aCons (eCall (cLenO 0 M_Negativedd__lendd_) (aCons (eVar 2) (aNil))) (aCons (eBin oMul (eVar 0) (eVar 1)) (aNil)))))) (
  sRet (eLc [5] (iRange1 (eBin oMul (eVar 0) (eVar 1))) (gVar 5) (fun _ μ => .ok true μ) (eCallD 5 M_ways_of (aCons (eVar 0) (aCons (eVar 2) (aCons (eVar 3) (aCons (eVar 4) (aCons (eVar 5) (aNil))))))))))))
def M_all_ways : List D → Store → Res D := mD 6 B_all_ways
def B_first_negative : FS :=
  sSeq (sAsg (gVar 5) (eCallD 5 M_all_ways (aCons (eVar 0) (aCons (eVar 1) (aCons (eVar 2) (aCons (eVar 3) (aCons (eVar 4) (aNil)))))))) (
  sSeq (sIf (tB (eBin (oInX false) (eLst (aNil)) (eVar 5))) (
  sRet (eC .non)) (
  sNext)) (
  sSeq (sAsg (gVar 6) (eThaw (eBin oMul (eLst (aCons (eC (.str (lit ""))) (aNil))) (eCall (cLenO 0 M_Negativedd__lendd_) (aCons (eVar 5) (aNil)))))) (
  sSeq (sFor (iEnumD (eVar 5)) (gTup 2 (gCons (gVar 7) (gCons (gVar 8) (gNil)))) (
  sSeq (sAsg (gVar 9) (eCallD 2 M_mirrored (aCons (eVar 7) (aCons (eVar 0) (aNil))))) (
  sIf (tB (eBin oLe (eVar 7) (eVar 9))) (
  sSeq (sAsg (gTup 2 (gCons (gVar 10) (gCons (gVar 11) (gNil)))) (eBin oIx (eVar 8) (eC (.int 0)))) (
  sSeq (sAsg (gIx (eVar 6) (eVar 7)) (eCall cStr (aCons (eVar 10) (aNil)))) (
  sAsg (gIx (eVar 6) (eVar 9)) (eCall cStr (aCons (eVar 11) (aNil)))))) (
  sNext)))) (
  sRet (eJoin (eC (.str (lit ""))) (eVar 6))))))
def M_first_negative : List D → Store → Res D := mDf 12 B_first_negative
def B_negative_count : FS :=
  sSeq (sAsg (gVar 5) (eCallD 5 M_all_ways (aCons (eVar 0) (aCons (eVar 1) (aCons (eVar 2) (aCons (eVar 3) (aCons (eVar 4) (aNil)))))))) (
  sRet (eCallD 1 M_product (aCons (eLc [6, 7] (iEnumD (eVar 5)) (gTup 2 (gCons (gVar 6) (gCons (gVar 7) (gNil)))) (tB (eBin oLe (eVar 6) (eCallD 2 M_mirrored (aCons (eVar 6) (aCons (eVar 0) (aNil)))))) (eCall (cLenO 0 M_Negativedd__lendd_) (aCons (eVar 7) (aNil)))) (aNil))))
def M_negative_count : List D → Store → Res D := mD 8 B_negative_count
def B_sure_figure : FS :=
  sSeq (sAsg (gVar 1) (eSortSetM (eVar 0))) (
  sRet (eIf (tB (eBin oEq (eCall (cLenO 0 M_Negativedd__lendd_) (aCons (eVar 1) (aNil))) (eC (.int 1)))) (eCall cStr (aCons (eBin oIx (eVar 1) (eC (.int 0))) (aNil))) (eC (.str (lit "?")))))
def M_sure_figure : List D → Store → Res D := mD 2 B_sure_figure
def B_told : FS :=
  sSeq (sAsg (gVar 5) (eCallD 5 M_all_ways (aCons (eVar 0) (aCons (eVar 1) (aCons (eVar 2) (aCons (eVar 3) (aCons (eVar 4) (aNil)))))))) (
  sSeq (sIf (tB (eBin (oInX false) (eLst (aNil)) (eVar 5))) (
  sRet (eC .non)) (
  sNext)) (
  sRet (eJoin (eC (.str (lit ""))) (eLc [6] (iOf (eVar 5)) (gVar 6) (fun _ μ => .ok true μ) (eCallD 1 M_sure_figure (aCons (eLc [7, 8] (iOf (eVar 6)) (gTup 2 (gCons (gVar 7) (gCons (gVar 8) (gNil)))) (fun _ μ => .ok true μ) (eVar 7)) (aNil)))))))
def M_told : List D → Store → Res D := mD 9 B_told
end Pg
namespace K10
open PySem L2 Fw Pg
def B_law : FS :=
  sSeq (sAsg (gVar 1) (eThaw (eLst (aCons (eVar 0) (aCons (eC (.int 0)) (aCons (eC (.int 0)) (aCons (eC (.int 0)) (aNil)))))))) (
  sSeq (sAsg (gVar 2) (eCallD 2 M_l_scheme (aCons (eVar 1) (aCons (eC (.int 4)) (aNil))))) (
  sSeq (sPar3 3 4 5 (eCall (cLenO 0 M_Negativedd__lendd_) (aCons (eBin oIx (eVar 2) (eC (.int 2))) (aNil))) (eCallD 3 M_l_recipe_2 (aCons (eVar 1) (aCons (eVar 2) (aCons (eC (.int 5)) (aNil))))) (eCallD 2 M_l_steps_2 (aCons (eVar 1) (aCons (eC (.int 5)) (aNil))))) (
  sSeq (sAsg (gVar 6) (eCallD 2 M_l_seen (aCons (eVar 1) (aCons (eCallD 2 M_l_print_2 (aCons (eVar 5) (aCons (eBin oIx (eCallD 3 M_l_rows (aCons (eVar 2) (aCons (eBin oIx (eVar 2) (eC (.int 2))) (aCons (eVar 4) (aNil))))) (eNeg (eC (.int 1)))) (aNil)))) (aNil))))) (
  sSeq (sIf (tB (eBin oEq (eCallD 2 M_l_taken_2 (aCons (eVar 1) (aCons (eC (.int 4)) (aNil)))) (eC (.int 0)))) (
  sSeq (sAsg (gVar 7) (eCallD 2 M_l_taken_2 (aCons (eVar 1) (aCons (eVar 3) (aNil))))) (
  sAsg (gVar 6) (eBin oAdd (eBin oAdd (eCut (eVar 6) (oNone) (oSome (eVar 7))) (eCall cStr (aCons (eCallD 2 M_l_taken_2 (aCons (eVar 1) (aCons (eBin oAdd (eCall (cLenO 0 M_Negativedd__lendd_) (aCons (eVar 5) (aNil))) (eC (.int 1))) (aNil)))) (aNil)))) (eCut (eVar 6) (oSome (eBin oAdd (eVar 7) (eC (.int 1)))) (oNone))))) (
  sNext)) (
  sSeq (sAsg (gVar 8) (eThaw (eLst (aNil)))) (
  sSeq (sFor (iOf (eCallD 2 M_l_texts (aCons (eC (.str (lit "01234"))) (aCons (eVar 3) (aNil))))) (gVar 9) (
  sIf (tB (eCallD 2 M_l_like (aCons (eVar 6) (aCons (eCallD 2 M_l_print_2 (aCons (eVar 5) (aCons (eBin oIx (eCallD 3 M_l_rows (aCons (eVar 2) (aCons (eVar 9) (aCons (eVar 4) (aNil))))) (eNeg (eC (.int 1)))) (aNil)))) (aNil))))) (
  sExpr (eLm oApp (eVar 8) (eVar 9))) (
  sNext))) (
  sSeq (sAsg (gVar 10) (eThaw (eLst (aNil)))) (
  sSeq (sFor (iRange1 (eVar 3)) (gVar 11) (
  sSeq (sAsg (gVar 12) (eSortSetT (eLc [9] (iOf (eVar 8)) (gVar 9) (fun _ μ => .ok true μ) (eBin oIx (eVar 9) (eVar 11))))) (
  sExpr (eLm oApp (eVar 10) (eIf (tB (eBin oEq (eCall (cLenO 0 M_Negativedd__lendd_) (aCons (eVar 12) (aNil))) (eC (.int 1)))) (eBin oIx (eVar 12) (eC (.int 0))) (eC (.str (lit "?")))))))) (
  sSeq (sIf (tB (eBin oNe (eCallD 5 M_told (aCons (eBin oIx (eVar 2) (eC (.int 0))) (aCons (eBin oIx (eVar 2) (eC (.int 1))) (aCons (eVar 5) (aCons (eVar 4) (aCons (eVar 6) (aNil))))))) (eIf (tB (eBin oNe (eVar 8) (eLst (aNil)))) (eJoin (eC (.str (lit ""))) (eVar 10)) (eC .non)))) (
  sRet (eC (.bl false))) (
  sNext)) (
  sSeq (sIf (tB (eBin oNe (eCallD 5 M_first_negative (aCons (eBin oIx (eVar 2) (eC (.int 0))) (aCons (eBin oIx (eVar 2) (eC (.int 1))) (aCons (eVar 5) (aCons (eVar 4) (aCons (eVar 6) (aNil))))))) (eIf (tB (eBin oNe (eVar 8) (eLst (aNil)))) (eBin oIx (eVar 8) (eC (.int 0))) (eC .non)))) (
  sRet (eC (.bl false))) (
  sNext)) (
  sRet (eBin oEq (eCallD 5 M_negative_count (aCons (eBin oIx (eVar 2) (eC (.int 0))) (aCons (eBin oIx (eVar 2) (eC (.int 1))) (aCons (eVar 5) (aCons (eVar 4) (aCons (eVar 6) (aNil))))))) (eCall (cLenO 0 M_Negativedd__lendd_) (aCons (eVar 8) (aNil)))))))))))))))
def M_law : List D → Store → Res D := mDf 13 B_law
end K10
set_option Elab.async false
set_option linter.all false
set_option maxRecDepth 100000
set_option autoImplicit false
namespace Pg
open PySem L2 Fw
def B_all_ways_2 : FS :=
  sSeq (sExpr (eCallD 2 M_check_size (aCons (eVar 0) (aCons (eVar 1) (aNil))))) (
  sSeq (sExpr (eCallD 1 M_check_steps (aCons (eVar 2) (aNil)))) (
  sSeq (sExpr (eCallD 2 M_check_recipe_2 (aCons (eVar 3) (aCons (eBin oMul (eVar 0) (eVar 1)) (aNil))))) (
  sSeq (sExpr (eCallD 3 M_check_seen (aCons (eVar 4) (aCons (eCall (cLenO 0 M_Negativedd__lendd_) (aCons (eVar 2) (aNil))) (aCons (eBin oMul (eVar 0) (eVar 1)) (aNil)))))) (
  sRet (eLc [5] (iRange1 (eBin oMul (eVar 0) (eVar 1))) (gVar 5) (fun _ μ => .ok true μ) (eCallD 5 M_ways_of (aCons (eVar 0) (aCons (eVar 2) (aCons (eVar 3) (aCons (eVar 4) (aCons (eVar 5) (aNil))))))))))))
def M_all_ways_2 : List D → Store → Res D := mD 6 B_all_ways_2
def B_negative_count_2 : FS :=
  sSeq (sAsg (gVar 5) (eCallD 5 M_all_ways_2 (aCons (eVar 0) (aCons (eVar 1) (aCons (eVar 2) (aCons (eVar 3) (aCons (eVar 4) (aNil)))))))) (
  sRet (eCallD 1 M_product (aCons (eLc [6, 7] (iEnumD (eVar 5)) (gTup 2 (gCons (gVar 6) (gCons (gVar 7) (gNil)))) (tB (eBin oLe (eVar 6) (eCallD 2 M_mirrored (aCons (eVar 6) (aCons (eVar 0) (aNil)))))) (eCall (cLenO 0 M_Negativedd__lendd_) (aCons (eVar 7) (aNil)))) (aNil))))
def M_negative_count_2 : List D → Store → Res D := mD 8 B_negative_count_2
def B_Viewer_negatives_left : FS :=
  sRet (eCallD 5 M_negative_count_2 (aCons (eFld 1 "columns" (eVar 0)) (aCons (eFld 1 "lines" (eVar 0)) (aCons (eFld 1 "paper_steps" (eVar 0)) (aCons (eFld 1 "deeds" (eVar 0)) (aCons (eVar 1) (aNil)))))))
def M_Viewer_negatives_left : List D → Store → Res D := mD 2 B_Viewer_negatives_left
def B_Viewerdd__initdd_ : FS :=
  sSeq (sExpr (eCallD 2 M_check_size (aCons (eVar 1) (aCons (eVar 2) (aNil))))) (
  sSeq (sExpr (eCallD 1 M_check_steps (aCons (eVar 3) (aNil)))) (
  sSeq (sExpr (eCallD 2 M_check_recipe_2 (aCons (eVar 4) (aCons (eBin oMul (eVar 1) (eVar 2)) (aNil))))) (
  sSeq (sFld 1 "columns" (eVar 0) (eVar 1)) (
  sSeq (sFld 1 "lines" (eVar 0) (eVar 2)) (
  sSeq (sFld 1 "paper_steps" (eVar 0) (eVar 3)) (
  sSeq (sFld 1 "deeds" (eVar 0) (eVar 4)) (
  sSeq (sFld 1 "tones" (eVar 0) (eBin oMul (eC (.str (lit "?"))) (eBin oMul (eVar 1) (eVar 2)))) (
  sSeq (sFld 1 "looks" (eVar 0) (eThaw (eLst (aNil)))) (
  sFld 1 "possible" (eVar 0) (eMeth 1 2 "negatives_left" M_Viewer_negatives_left (eVar 0) (aCons (eFld 1 "tones" (eVar 0)) (aNil))))))))))))
def M_Viewerdd__initdd_ : List D → Store → Res D := mD 5 B_Viewerdd__initdd_
end Pg
set_option Elab.async false
set_option linter.all false
set_option maxRecDepth 100000
set_option autoImplicit false
namespace Pg
open PySem L2 Fw
def B_in_rows : FS :=
  sRet (eLc [2] (iStep (eC (.int 0)) (eCall (cLenO 0 M_Negativedd__lendd_) (aCons (eVar 0) (aNil))) (eVar 1)) (gVar 2) (fun _ μ => .ok true μ) (eCut (eVar 0) (oSome (eVar 2)) (oSome (eBin oAdd (eVar 2) (eVar 1)))))
def M_in_rows : List D → Store → Res D := mD 3 B_in_rows
def B_open_times : FS :=
  sSeq (sExpr (eCallD 2 M_check_size (aCons (eVar 0) (aCons (eVar 1) (aNil))))) (
  sSeq (sExpr (eCallD 2 M_check_recipe_2 (aCons (eVar 2) (aCons (eBin oMul (eVar 0) (eVar 1)) (aNil))))) (
  sRet (eCall cTuple (aCons (eLc [3] (iRange1 (eBin oMul (eVar 0) (eVar 1))) (gVar 3) (fun _ μ => .ok true μ) (eCallD 3 M_open_pair (aCons (eVar 0) (aCons (eVar 2) (aCons (eVar 3) (aNil)))))) (aNil)))))
def M_open_times : List D → Store → Res D := mD 4 B_open_times
def B_open_map : FS :=
  sSeq (sAsg (gVar 3) (eLc [4, 5] (iOf (eCallD 3 M_open_times (aCons (eVar 0) (aCons (eVar 1) (aCons (eVar 2) (aNil)))))) (gTup 2 (gCons (gVar 4) (gCons (gVar 5) (gNil)))) (fun _ μ => .ok true μ) (eJs [eFmt (eVar 4), eC (.str (lit "/")), eFmt (eVar 5)] []))) (
  sRet (eJoin (eC (.str (lit "\n"))) (eLc [6] (iOf (eCallD 2 M_in_rows (aCons (eVar 3) (aCons (eVar 0) (aNil))))) (gVar 6) (fun _ μ => .ok true μ) (eJoin (eC (.str (lit " "))) (eVar 6)))))
def M_open_map : List D → Store → Res D := mD 7 B_open_map
end Pg
set_option Elab.async false
set_option linter.all false
set_option maxRecDepth 100000
set_option autoImplicit false
namespace Pg
open PySem L2 Fw
def B_deed_of : FS :=
  sSeq (sAsg (gVar 1) (eLc [2] (iOf (eCut (eVar 0) (oSome (eC (.int 1))) (oNone))) (gVar 2) (fun _ μ => .ok true μ) (eCall cInt (aCons (eVar 2) (aNil))))) (
  sSeq (sIf (tB (eBin oEq (eBin oIx (eVar 0) (eC (.int 0))) (eC (.str (lit "expose"))))) (
  sRet (eTup (aCons (eC (.str (lit "expose"))) (aCons (eBin oIx (eVar 1) (eC (.int 0))) (aCons (eCall cTuple (aCons (eCut (eVar 1) (oSome (eC (.int 1))) (oNone)) (aNil))) (aNil)))))) (
  sNext)) (
  sRet (eTup (aCons (eBin oIx (eVar 0) (eC (.int 0))) (aStar (eVar 1) (aNil))))))
def M_deed_of : List D → Store → Res D := mD 3 B_deed_of
def B_worded_rows : FS :=
  sSeq (sIf (tB (eBin oEq (eVar 0) (eC (.str (lit ""))))) (
  sRet (eLst (aNil))) (
  sNext)) (
  sRet (eLc [1] (iOf (eSplit (eVar 0) (eC (.str (lit "\n"))))) (gVar 1) (fun _ μ => .ok true μ) (eSplit (eVar 1) (eC (.str (lit " "))))))
def M_worded_rows : List D → Store → Res D := mD 2 B_worded_rows
def B_number_of : FS :=
  sSeq (sIf (tOr (tB (eBin oGt (eCall (cLenO 0 M_Negativedd__lendd_) (aCons (eVar 0) (aNil))) (eC (.int 2)))) (tOr (tNot (tB (eTxt Txt.isascii (eVar 0)))) (tNot (tB (eTxt Txt.isdigit (eVar 0)))))) (
  sRet (eC .non)) (
  sNext)) (
  sSeq (sAsg (gVar 1) (eCall cInt (aCons (eVar 0) (aNil)))) (
  sRet (eIf (tB (eBin oEq (eCall cStr (aCons (eVar 1) (aNil))) (eVar 0))) (eVar 1) (eC .non))))
def M_number_of : List D → Store → Res D := mD 2 B_number_of
def B_wrong_cell : FS :=
  sSeq (sAsg (gVar 3) (eC (.int 0))) (
  sSeq (sFor (iRange2 (eVar 1) (eCall (cLenO 0 M_Negativedd__lendd_) (aCons (eVar 0) (aNil)))) (gVar 4) (
  sSeq (sAsg (gVar 5) (eCallD 1 M_number_of (aCons (eBin oIx (eVar 0) (eVar 4)) (aNil)))) (
  sSeq (sIf (tNot (tB (eCallD 3 M_is_number (aCons (eVar 5) (aCons (eVar 3) (aCons (eBin oSub (eVar 2) (eC (.int 1))) (aNil))))))) (
  sRet (eVar 4)) (
  sNext)) (
  sAsg (gVar 3) (eBin oAdd (eVar 5) (eC (.int 1))))))) (
  sRet (eC .non)))
def M_wrong_cell : List D → Store → Res D := mD 6 B_wrong_cell
def B_wrong_word : FS :=
  sSeq (sIf (tB (eDin true [(lit "expose", 1), (lit "draw", 2), (lit "flip", 0)] (eBin oIx (eVar 0) (eC (.int 0))))) (
  sRet (eC (.int 0))) (
  sNext)) (
  sSeq (sAsg (gVar 2) (eBin oAdd (eC (.int 1)) (eDix [(lit "expose", 1), (lit "draw", 2), (lit "flip", 0)] (eBin oIx (eVar 0) (eC (.int 0)))))) (
  sSeq (sFor (iEnumFrom 1 (eCut (eVar 0) (oSome (eC (.int 1))) (oSome (eVar 2)))) (gTup 2 (gCons (gVar 3) (gCons (gVar 4) (gNil)))) (
  sIf (tNot (tB (eCallD 3 M_is_number (aCons (eCallD 1 M_number_of (aCons (eVar 4) (aNil))) (aCons (eC (.int 1)) (aCons (eC (.int 99)) (aNil))))))) (
  sRet (eVar 3)) (
  sNext))) (
  sSeq (sIf (tB (eBin oLt (eCall (cLenO 0 M_Negativedd__lendd_) (aCons (eVar 0) (aNil))) (eVar 2))) (
  sRet (eCall (cLenO 0 M_Negativedd__lendd_) (aCons (eVar 0) (aNil)))) (
  sNext)) (
  sSeq (sIf (tB (eBin oEq (eBin oIx (eVar 0) (eC (.int 0))) (eC (.str (lit "expose"))))) (
  sRet (eCallD 3 M_wrong_cell (aCons (eVar 0) (aCons (eVar 2) (aCons (eVar 1) (aNil)))))) (
  sNext)) (
  sRet (eIf (tB (eBin oGt (eCall (cLenO 0 M_Negativedd__lendd_) (aCons (eVar 0) (aNil))) (eVar 2))) (eVar 2) (eC .non)))))))
def M_wrong_word : List D → Store → Res D := mD 5 B_wrong_word
def B_read_recipe : FS :=
  sSeq (sAsg (gVar 2) (eThaw (eLst (aNil)))) (
  sSeq (sFor (iEnumD (eCallD 1 M_worded_rows (aCons (eVar 1) (aNil)))) (gTup 2 (gCons (gVar 3) (gCons (gVar 4) (gNil)))) (
  sSeq (sAsg (gVar 5) (eIf (tB (eBin oEq (eVar 3) (eC (.int 8)))) (eC (.int 0)) (eCallD 2 M_wrong_word (aCons (eVar 4) (aCons (eCall (cLenO 0 M_Negativedd__lendd_) (aCons (eVar 0) (aNil))) (aNil)))))) (
  sSeq (sIf (tB (eBin oNotN (eVar 5) (eC .non))) (
  sRaise2 117 "row" "word" (eVar 3) (eVar 5)) (
  sNext)) (
  sExpr (eLm oApp (eVar 2) (eCallD 1 M_deed_of (aCons (eVar 4) (aNil)))))))) (
  sRet (eCall cTuple (aCons (eVar 2) (aNil)))))
def M_read_recipe : List D → Store → Res D := mDf 6 B_read_recipe
end Pg
set_option Elab.async false
set_option linter.all false
set_option maxRecDepth 100000
set_option autoImplicit false
namespace Pg
open PySem L2 Fw
def B_picture : FS :=
  sRet (eJoin (eC (.str (lit "\n"))) (eCallD 2 M_in_rows (aCons (eProp 0 M_Negative_densities (eVar 0)) (aCons (eProp 0 M_Negative_width (eVar 0)) (aNil)))))
def M_picture : List D → Store → Res D := mD 1 B_picture
end Pg
set_option Elab.async false
set_option linter.all false
set_option maxRecDepth 100000
set_option autoImplicit false
namespace Pg
open PySem L2 Fw
def B_l_words : FS :=
  sSeq (sAsg (gVar 1) (eIf (tB (eBin oEq (eBin oIx (eVar 0) (eC (.int 0))) (eC (.str (lit "expose"))))) (eBin oAdd (eLst (aCons (eBin oIx (eVar 0) (eC (.int 1))) (aNil))) (eCall cList (aCons (eBin oIx (eVar 0) (eC (.int 2))) (aNil)))) (eCall cList (aCons (eCut (eVar 0) (oSome (eC (.int 1))) (oNone)) (aNil))))) (
  sRet (eBin oAdd (eLst (aCons (eBin oIx (eVar 0) (eC (.int 0))) (aNil))) (eLc [2] (iOf (eVar 1)) (gVar 2) (fun _ μ => .ok true μ) (eCall cStr (aCons (eVar 2) (aNil))))))
def M_l_words : List D → Store → Res D := mD 3 B_l_words
def B_deed_text : FS :=
  sSeq (sAsg (gVar 1) (eIf (tB (eBin oEq (eBin oIx (eVar 0) (eC (.int 0))) (eC (.str (lit "expose"))))) (eBin oAdd (eTup (aCons (eBin oIx (eVar 0) (eC (.int 1))) (aNil))) (eBin oIx (eVar 0) (eC (.int 2)))) (eCut (eVar 0) (oSome (eC (.int 1))) (oNone)))) (
  sRet (eJoin (eC (.str (lit " "))) (eBin oAdd (eLst (aCons (eBin oIx (eVar 0) (eC (.int 0))) (aNil))) (eLc [2] (iOf (eVar 1)) (gVar 2) (fun _ μ => .ok true μ) (eCall cStr (aCons (eVar 2) (aNil)))))))
def M_deed_text : List D → Store → Res D := mD 3 B_deed_text
def B_recipe_text : FS :=
  sRet (eJoin (eC (.str (lit "\n"))) (eLc [1] (iOf (eVar 0)) (gVar 1) (fun _ μ => .ok true μ) (eCallD 1 M_deed_text (aCons (eVar 1) (aNil)))))
def M_recipe_text : List D → Store → Res D := mD 2 B_recipe_text
end Pg
namespace K42
open PySem L2 Fw Pg
def B_law : FS :=
  sSeq (sAsg (gVar 1) (eThaw (eLst (aCons (eVar 0) (aCons (eC (.int 0)) (aCons (eC (.int 0)) (aCons (eC (.int 0)) (aNil)))))))) (
  sSeq (sFor (iRange1 (eC (.int 5))) (gVar 2) (
  sSeq (sAsg (gVar 3) (eCallD 2 M_l_negative_3 (aCons (eVar 1) (aCons (eC (.int 3)) (aNil))))) (
  sSeq (sAsg (gTup 3 (gCons (gVar 4) (gCons (gVar 5) (gCons (gVar 6) (gNil))))) (eTup (aCons (eCallD 3 M_l_recipe (aCons (eVar 1) (aCons (eVar 3) (aCons (eC (.int 8)) (aNil))))) (aCons (eProp 0 M_Negative_width (eVar 3)) (aCons (eCall (cLenO 0 M_Negativedd__lendd_) (aCons (eVar 3) (aNil))) (aNil)))))) (
  sSeq (sAsg (gVar 7) (eLc [17] (iStep (eC (.int 0)) (eVar 6) (eVar 5)) (gVar 17) (fun _ μ => .ok true μ) (eCut (eProp 0 M_Negative_densities (eVar 3)) (oSome (eVar 17)) (oSome (eBin oAdd (eVar 17) (eVar 5)))))) (
  sSeq (sAsg (gVar 8) (eJoin (eC (.str (lit "\n"))) (eLc [11] (iOf (eVar 4)) (gVar 11) (fun _ μ => .ok true μ) (eJoin (eC (.str (lit " "))) (eCallD 1 M_l_words (aCons (eVar 11) (aNil))))))) (
  sSeq (sIf (tOr (tB (eBin oNe (eCallD 1 M_picture (aCons (eVar 3) (aNil))) (eJoin (eC (.str (lit "\n"))) (eVar 7)))) (tOr (tB (eBin oNe (eCallD 1 M_recipe_text (aCons (eVar 4) (aNil))) (eVar 8))) (tB (eBin oNe (eCallD 2 M_read_recipe (aCons (eVar 3) (aCons (eVar 8) (aNil)))) (eVar 4))))) (
  sRet (eC (.bl false))) (
  sNext)) (
  sSeq (sAsg (gTup 2 (gCons (gVar 9) (gCons (gVar 10) (gNil)))) (eTup (aCons (eLst (aCons (eThaw (eBin oMul (eLst (aCons (eC (.int 0)) (aNil))) (eVar 6))) (aCons (eThaw (eBin oMul (eLst (aCons (eC (.int 0)) (aNil))) (eVar 6))) (aNil)))) (aCons (eC (.bl false)) (aNil))))) (
  sSeq (sFor (iOf (eVar 4)) (gVar 11) (
  sSeq (sAsg (gVar 10) (eBin oNe (eVar 10) (eBin oEq (eBin oIx (eVar 11) (eC (.int 0))) (eC (.str (lit "flip")))))) (
  sSeq (sPar 12 13 (eCallD 2 M_l_open (aCons (eVar 3) (aCons (eVar 11) (aNil)))) (eBin oIx (eVar 9) (eCall cInt (aCons (eVar 10) (aNil))))) (
  sFor (iRange1 (eVar 6)) (gVar 14) (
  sAsg (gIx (eVar 13) (eVar 14)) (eBin oAdd (eBin oIx (eVar 13) (eVar 14)) (eBin oIx (eVar 12) (eVar 14)))))))) (
  sSeq (sAsg (gVar 15) (eLc [14] (iRange1 (eVar 6)) (gVar 14) (fun _ μ => .ok true μ) (eBin oAdd (eBin oAdd (eCall cStr (aCons (eBin oIx (eBin oIx (eVar 9) (eC (.int 0))) (eVar 14)) (aNil))) (eC (.str (lit "/")))) (eCall cStr (aCons (eBin oIx (eBin oIx (eVar 9) (eC (.int 1))) (eVar 14)) (aNil)))))) (
  sSeq (sAsg (gVar 16) (eLc [17] (iStep (eC (.int 0)) (eVar 6) (eVar 5)) (gVar 17) (fun _ μ => .ok true μ) (eJoin (eC (.str (lit " "))) (eCut (eVar 15) (oSome (eVar 17)) (oSome (eBin oAdd (eVar 17) (eVar 5))))))) (
  sIf (tB (eBin oNe (eCallD 3 M_open_map (aCons (eVar 5) (aCons (eProp 0 M_Negative_height (eVar 3)) (aCons (eVar 4) (aNil))))) (eJoin (eC (.str (lit "\n"))) (eVar 16)))) (
  sRet (eC (.bl false))) (
  sNext)))))))))))) (
  sRet (eAnd (eBin oEq (eCallD 2 M_read_recipe (aCons (eMake 0 4 M_Negativedd__initdd__2 (aCons (eC (.int 1)) (aCons (eC (.int 1)) (aCons (eC (.str (lit "0"))) (aNil))))) (aCons (eC (.str (lit ""))) (aNil)))) (eTup (aNil))) (eBin oEq (eCallD 1 M_recipe_text (aCons (eTup (aNil)) (aNil))) (eC (.str (lit "")))))))
def M_law : List D → Store → Res D := mDf 18 B_law
end K42
set_option Elab.async false
set_option linter.all false
set_option maxRecDepth 100000
set_option autoImplicit false
namespace Pg
open PySem L2 Fw
theorem cLenO_ev {F : List D → Store → Res D} {d : D} {μ : Store} (h : insOf 0 μ d = none) : cLenO 0 F [d] μ = cLen [d] μ := by simp [cLenO, h]
def Row0 (c : Cell) : Prop := ∃ (ns : List Int) (a b d : Int), ns.length ≤ 63 ∧ c = .lst [.flst ns, .int a, .int b, .int d] ∧ 0 ≤ a
theorem ixN_in {n : Nat} {i : Int} (h : 0 ≤ i) (h2 : i < n) : ixN n i = some i.toNat := by simp [ixN, h, h2]
theorem atI_in {α : Type} {xs : List α} {i : Int} (h : 0 ≤ i) (h2 : i < xs.length) : atI xs i = xs[i.toNat]? := by simp [atI, ixN_in h h2]
theorem oPow18 {μ : Store} : oPow (.int 10) (.int 18) μ = .ok (.int 1000000000000000000) μ := by rfl
structure Sz (w h n : Nat) : Prop where
  w1 : 1 ≤ w
  w4 : w ≤ 4
  h1 : 1 ≤ h
  h4 : h ≤ 4
  n1 : 1 ≤ n
  n9 : n ≤ 9
  e : w * h = n
theorem mulN {w h n : Nat} (s : Sz w h n) {μ : Store} : oMul (.int (w : Nat)) (.int (h : Nat)) μ = .ok (.int (n : Nat)) μ := by
  rw [oMul_int, ← s.e]
  · simp
  · have := s.w4
    have : Sm (w : Nat) = true := by simp [Sm]; omega
    simp [this]
@[simp] theorem l01234 : lit "01234" = [48, 49, 50, 51, 52] := by decide +kernel
@[simp] theorem l02 : lit "02" = [48, 50] := by decide +kernel
@[simp] theorem l4 : lit "4" = [52] := by decide +kernel
@[simp] theorem l0 : lit "0" = [48] := by decide +kernel
@[simp] theorem lE : lit "" = [] := by decide +kernel
def OkT (n : Nat) (T : List Nat) : Prop := T.length = n ∧ ∀ c ∈ T, 48 ≤ c ∧ c ≤ 52
theorem len_rg {n : Nat} : (rg n).length = n := by simp [rg]
inductive Deed where
  | flip
  | draw (t s : Int)
  | expo (t : Int) (m : List Nat)
@[simp] theorem len_flip : lit "flip" = [102, 108, 105, 112] := by decide +kernel
@[simp] theorem len_draw : lit "draw" = [100, 114, 97, 119] := by decide +kernel
@[simp] theorem len_expo : lit "expose" = [101, 120, 112, 111, 115, 101] := by decide +kernel
def encD : Deed → D
  | .flip => .tup [.str [102, 108, 105, 112]]
  | .draw t s => .tup [.str [100, 114, 97, 119], .int t, .int s]
  | .expo t m => .tup [.str [101, 120, 112, 111, 115, 101], .int t, .tup (m.map fun k => .int (k : Nat))]
def OkD (n : Nat) : Deed → Prop
  | .flip => True
  | .draw t s => 1 ≤ t ∧ t ≤ 99 ∧ 1 ≤ s ∧ s ≤ 99
  | .expo t m => 1 ≤ t ∧ t ≤ 99 ∧ m.Sublist (List.range n)
def isF : Deed → Bool
  | .flip => true
  | _ => false
def tk (w c : Nat) : Deed → Int
  | .flip => 0
  | .draw t s => if t - s * ((c % w : Nat) : Int) > 0 then t - s * ((c % w : Nat) : Int) else 0
  | .expo t m => if c ∈ m then 0 else t
def stp (w c : Nat) (q : Bool × Int × Int) (d : Deed) : Bool × Int × Int :=
  if (q.1 != isF d) = true then (true, q.2.1, q.2.2 + tk w c d) else (false, q.2.1 + tk w c d, q.2.2)
def op (w : Nat) (R : List Deed) (c : Nat) : Bool × Int × Int := R.foldl (stp w c) (false, 0, 0)
theorem oEq_str {a b : List Nat} {μ : Store} (ha : (a.all (· < 0x110000)) = true := by decide) (hb : (b.all (· < 0x110000)) = true := by decide) : oEq (.str a) (.str b) μ = .ok (.bl (decide (a = b))) μ := by
  rw [oEq_pl (k := 0) (j := 0) (by simpa [rd, pl] using ha) (by simpa [rd, pl] using hb)]; simp [rd]
theorem enc0 {d : Deed} {μ : Store} : oIx (encD d) (.int 0) μ = .ok (.str (match d with | .flip => [102, 108, 105, 112] | .draw _ _ => [100, 114, 97, 119] | .expo _ _ => [101, 120, 112, 111, 115, 101])) μ := by
  cases d <;> rfl
theorem inD_nat {c : Nat} {m : List Nat} : inD (.int c) (m.map fun k => .int (k : Nat)) = decide (c ∈ m) := by
  induction m with
  | nil => simp [inD]
  | cons a m ih =>
    have e : inD (.int c) ((a :: m).map fun k => .int (k : Nat)) = (((a : Int) == (c : Int)) || inD (.int c) (m.map fun k => .int (k : Nat))) := rfl
    rw [e, ih, Bool.eq_iff_iff]
    simp only [Bool.or_eq_true, beq_iff_eq, decide_eq_true_eq, List.mem_cons]
    constructor
    · rintro (h | h)
      · exact .inl (by omega)
      · exact .inr h
    · rintro (h | h)
      · exact .inl (by omega)
      · exact .inr h
theorem oIn_nat {c : Nat} {m : List Nat} {neg : Bool} {μ : Store} : oIn neg (.int c) (.tup (m.map fun k => .int (k : Nat))) μ = .ok (.bl (if neg then !decide (c ∈ m) else decide (c ∈ m))) μ := by
  have h : (m.map fun k => D.int (k : Nat)).all flatD = true := by simp [flatD]
  simp only [oIn, seqOf, h, flatD, Bool.and_self, if_true, inD_nat]
theorem sm_nat {i : Nat} (h : i < 1000) : Sm (i : Int) = true := by simp [Sm]; omega
theorem mod_lt' {w h n c : Nat} (hs : Sz w h n) : c % w < 1000 := by have := Nat.mod_lt c (show w > 0 from hs.w1); have := hs.w4; omega
theorem oMod_nat {w h n c : Nat} (hs : Sz w h n) {μ : Store} : oMod (.int (c : Nat)) (.int (w : Nat)) μ = .ok (.int ((c % w : Nat) : Int)) μ := by
  rw [oMod_int (by have := hs.w1; omega)]; simp
theorem d1 {t s : Int} {μ : Store} : oIx (encD (.draw t s)) (.int 1) μ = .ok (.int t) μ := (rfl)
theorem d2 {t s : Int} {μ : Store} : oIx (encD (.draw t s)) (.int 2) μ = .ok (.int s) μ := (rfl)
theorem x1 {t : Int} {m : List Nat} {μ : Store} : oIx (encD (.expo t m)) (.int 1) μ = .ok (.int t) μ := (rfl)
theorem x2 {t : Int} {m : List Nat} {μ : Store} : oIx (encD (.expo t m)) (.int 2) μ = .ok (.tup (m.map fun k => .int (k : Nat))) μ := (rfl)
theorem oMul_sm {a : Int} {i : Nat} (h : i < 1000) {μ : Store} : oMul (.int a) (.int (i : Nat)) μ = .ok (.int (a * i)) μ := oMul_int (by simp [sm_nat h])
theorem ticks_of {w h n c : Nat} (hs : Sz w h n) {d : Deed} (hd : isF d = false) {μ : Store} : M_ticks_of [encD d, .int w, .int c] μ = .ok (.int (tk w c d)) μ := by
  unfold M_ticks_of B_ticks_of
  cases d with
  | flip => simp [isF] at hd
  | draw t s =>
    have e1 : ∀ μ, oEq (.str [100, 114, 97, 119]) (.str [101, 120, 112, 111, 115, 101]) μ = .ok (.bl false) μ := fun μ => by rw [oEq_str]; rfl
    simp_arith [enc0, len_expo, e1, Bool.false_eq_true, if_false, d1, d2, oMod_nat hs, oMul_sm (mod_lt' hs), oSub_int, cMax2_ev, tk]
  | expo t m =>
    have e1 : ∀ μ, oEq (.str [101, 120, 112, 111, 115, 101]) (.str [101, 120, 112, 111, 115, 101]) μ = .ok (.bl true) μ := fun μ => by rw [oEq_str]; rfl
    by_cases hm : c ∈ m
    all_goals simp_arith [enc0, len_expo, e1, x1, x2, oIn_nat, Bool.false_eq_true, if_false, hm, decide_true, decide_false, tk]
theorem pl_enc {n : Nat} {d : Deed} : pl 2 (encD d) = true := by
  cases d with
  | flip => rfl
  | draw t s => rfl
  | expo t m =>
    have : pls 0 (m.map fun k => D.int (k : Nat)) = true := pls_iff.mpr (by simp [pl])
    simp [pl, pls, encD, this]
theorem isFlip {d : Deed} {μ : Store} : oEq (encD d) (.tup [.str (lit "flip")]) μ = .ok (.bl (isF d)) μ := by
  have h2 : pl 2 (rd μ (.tup [.str (lit "flip")])) = true := by rw [len_flip]; rfl
  have h1 : rd μ (encD d) = encD d := by cases d <;> rfl
  rw [oEq_pl (k := 2) (j := 2) (by rw [h1]; exact pl_enc (n := 0)) h2, h1, len_flip]
  cases d <;> simp [encD, rd, isF]
theorem isFlip0 {d : Deed} {μ : Store} : oEq (.str (match d with | .flip => [102, 108, 105, 112] | .draw _ _ => [100, 114, 97, 119] | .expo _ _ => [101, 120, 112, 111, 115, 101])) (.str [102, 108, 105, 112]) μ = .ok (.bl (isF d)) μ := by
  have a1 : oEq (.str [102, 108, 105, 112]) (.str [102, 108, 105, 112]) μ = .ok (.bl true) μ := by rw [oEq_str]; rfl
  have a2 : oEq (.str [100, 114, 97, 119]) (.str [102, 108, 105, 112]) μ = .ok (.bl false) μ := by rw [oEq_str]; rfl
  have a3 : oEq (.str [101, 120, 112, 111, 115, 101]) (.str [102, 108, 105, 112]) μ = .ok (.bl false) μ := by rw [oEq_str]; rfl
  cases d
  · exact a1
  · exact a2
  · exact a3
theorem open_in {w h n c : Nat} (hs : Sz w h n) {items : List D} {r : D} {μ : Store} : ∀ (R : List Deed) (q : Bool × Int × Int) (x : Option D), ∃ x', forL items none (gVar 6) (sIf (tB (eBin oEq (eVar 6) (eC (.tup [.str (lit "flip")])))) (
  sAsg (gVar 5) (eNot (eVar 5))) (
  sIf (tB (eVar 5)) (
  sAug 4 oAddI (eCallD 3 M_ticks_of (aCons (eVar 6) (aCons (eVar 0) (aCons (eVar 2) (aNil)))))) (
  sAug 3 oAddI (eCallD 3 M_ticks_of (aCons (eVar 6) (aCons (eVar 0) (aCons (eVar 2) (aNil)))))))) (R.map encD) [some (.int w), some r, some (.int c), some (.int q.2.1), some (.int q.2.2), some (.bl q.1), x] μ =
   .nx [some (.int w), some r, some (.int c), some (.int (R.foldl (stp w c) q).2.1), some (.int (R.foldl (stp w c) q).2.2), some (.bl (R.foldl (stp w c) q).1), x'] μ
  | [], q, x => ⟨x, by rw [List.map_nil, for_nil]; rfl⟩
  | d :: R, (b, s, o), x => by
    obtain ⟨x', e⟩ := open_in hs (items := items) (r := r) (μ := μ) R (stp w c (b, s, o) d) (some (encD d))
    refine ⟨x', ?_⟩
    rw [List.foldl_cons, ← e]
    cases hd : isF d with
    | true =>
      obtain rfl : d = .flip := by cases d <;> simp [isF] at hd ⊢
      rw [List.map_cons, for_cons]
      cases b
      all_goals
        simp_arith [isFlip, isF, Bool.not_true, Bool.not_false]
        simp only [stp, isF, tk, bne_self_eq_false, Bool.false_eq_true, if_false, if_true, Int.add_zero, show (false != true) = true from rfl]
    | false =>
      rw [List.map_cons, for_cons]
      cases b
      all_goals
        simp_arith [isFlip, hd, Bool.false_eq_true, if_false, ticks_of hs hd, oAddI_int]
        simp only [stp, hd, bne_self_eq_false, Bool.false_eq_true, if_false, if_true, show (true != false) = true from rfl]
theorem open_pair {w h n c : Nat} (hs : Sz w h n) {R : List Deed} {μ : Store} : M_open_pair [.int w, .tup (R.map encD), .int c] μ = .ok (.tup [.int (op w R c).2.1, .int (op w R c).2.2]) μ := by
  obtain ⟨x', e⟩ := open_in (c := c) hs (items := R.map encD) (r := .tup (R.map encD)) (μ := μ) R (false, 0, 0) none
  have hL2 : (2 : Nat) ≤ LIM := by decide
  unfold M_open_pair B_open_pair
  simp_arith [e, hL2]
  rfl
def mir (w c : Nat) : Nat := c / w * w + w - 1 - c % w
theorem mir_lt {w h n c : Nat} (hs : Sz w h n) (hc : c < n) : mir w c < n := by
  obtain ⟨w1, w4, h1, h4, _, _, e⟩ := hs
  obtain rfl | rfl | rfl | rfl : w = 1 ∨ w = 2 ∨ w = 3 ∨ w = 4 := by omega
  all_goals unfold mir; omega
theorem mirrored {w h n c : Nat} (hs : Sz w h n) {μ : Store} : M_mirrored [.int (c : Nat), .int (w : Nat)] μ = .ok (.int ((mir w c : Nat) : Int)) μ := by
  unfold M_mirrored B_mirrored
  simp_arith [oMod_nat hs, oSub_int, oAdd_int]
  congr 2
  obtain ⟨w1, w4, h1, h4, _, _, e⟩ := hs
  obtain rfl | rfl | rfl | rfl : w = 1 ∨ w = 2 ∨ w = 3 ∨ w = 4 := by omega
  all_goals unfold mir; omega
def wt (ch : Nat) : Int := if ch = 48 then 16 else if ch = 49 then 8 else if ch = 50 then 4 else if ch = 51 then 2 else 1
def W (T : List Nat) (c : Nat) : Int := wt (T.getD c 48)
theorem at5 {ch : Nat} (h : 48 ≤ ch ∧ ch ≤ 52) {μ : Store} : oIx (.tup [.int 16, .int 8, .int 4, .int 2, .int 1]) (.int ((ch : Int) - 48)) μ = .ok (.int (wt ch)) μ := by
  obtain rfl | rfl | rfl | rfl | rfl : ch = 48 ∨ ch = 49 ∨ ch = 50 ∨ ch = 51 ∨ ch = 52 := by omega
  all_goals rfl
theorem sm_wt {ch : Nat} : Sm (wt ch) = true := by
  unfold wt Sm
  repeat' split
  all_goals decide
theorem mul_wt {a : Int} {ch : Nat} {μ : Store} : oMul (.int a) (.int (wt ch)) μ = .ok (.int (a * wt ch)) μ := oMul_int (by rw [sm_wt]; simp)
def lt (w : Nat) (T : List Nat) (R : List Deed) (c : Nat) : Int := (op w R c).2.1 * W T c + (op w R c).2.2 * W T (mir w c)
theorem light_by {a b : Int} {c d : Nat} (hc : 48 ≤ c ∧ c ≤ 52) (hd : 48 ≤ d ∧ d ≤ 52) {μ : Store} : M_light_by [.tup [.int a, .int b], .int ((c : Int) - 48), .int ((d : Int) - 48)] μ = .ok (.int (a * wt c + b * wt d)) μ := by
  unfold M_light_by B_light_by
  simp_arith [at5 hc, at5 hd, mul_wt, oAdd_int]
theorem is_number {v a b : Int} {μ : Store} : M_is_number [.int v, .int a, .int b] μ = .ok (.bl (decide (a ≤ v) && decide (v ≤ b))) μ := by
  have e1 : ∀ (ρ : Fw.Env) μ, eIsi "int" (eVar 0) (some (.int v) :: ρ) μ = .ok (.bl true) μ := fun ρ μ => by rfl
  have e2 : ∀ (ρ : Fw.Env) μ, eIsi "bool" (eVar 0) (some (.int v) :: ρ) μ = .ok (.bl false) μ := fun ρ μ => by rfl
  unfold M_is_number B_is_number
  by_cases h : a ≤ v
  all_goals simp_arith [e1, e2, Bool.not_false, eChain_ev, oLe_int, h, decide_true, decide_false, Bool.false_eq_true, if_false, Bool.true_and, Bool.false_and]
theorem asc_in {vs : D} {n : Nat} {items : List D} {μ : Store} : ∀ (m : List Nat) (l : Nat) (x : Option D), m.Pairwise (· < ·) → (∀ k ∈ m, l ≤ k ∧ k < n) → ∃ l' x', forL items none (gVar 3) (
  sSeq (sIf (tNot (tB (eCallD 3 M_is_number (aCons (eVar 3) (aCons (eVar 1) (aCons (eVar 2) (aNil))))))) (
  sRet (eC (.bl false))) (
  sNext)) (
  sAsg (gVar 1) (eBin oAdd (eVar 3) (eC (.int 1))))) (m.map fun k => .int (k : Nat)) [some vs, some (.int (l : Nat)), some (.int ((n : Int) - 1)), x] μ = .nx [some vs, some (.int l'), some (.int ((n : Int) - 1)), x'] μ
  | [], l, x, _, _ => ⟨l, x, by rw [List.map_nil, for_nil]⟩
  | k :: m, l, x, hp, hk => by
    obtain ⟨hp1, hp2⟩ := List.pairwise_cons.mp hp
    obtain ⟨l', x', e⟩ := asc_in (vs := vs) (n := n) (items := items) (μ := μ) m (k + 1) (some (.int (k : Nat))) hp2 (fun j hj => ⟨hp1 j hj, (hk j (by simp [hj])).2⟩)
    have h1 := hk k (by simp)
    refine ⟨l', x', ?_⟩
    rw [List.map_cons, for_cons]
    simp_arith [is_number, show ((l : Int) ≤ (k : Nat)) from by omega, show (((k : Nat) : Int) ≤ (n : Int) - 1) from by omega, decide_true, Bool.and_self, Bool.not_true, Bool.false_eq_true, if_false, oAdd_int]
    exact e
theorem is_mask {m : List Nat} {n : Nat} (hm : m.Sublist (List.range n)) {μ : Store} : M_is_mask [.tup (m.map fun k => .int (k : Nat)), .int (n : Nat)] μ = .ok (.bl true) μ := by
  have e1 : ∀ (ρ : Fw.Env) μ, eIsi "tuple" (eVar 0) (some (.tup (m.map fun k => .int (k : Nat))) :: ρ) μ = .ok (.bl true) μ := fun ρ μ => by rfl
  obtain ⟨l', x', e⟩ := asc_in (vs := .tup (m.map fun k => .int (k : Nat))) (n := n) (items := m.map fun k => .int (k : Nat)) (μ := μ) m 0 none (List.pairwise_lt_range.sublist hm) (fun k hk => ⟨by omega, List.mem_range.mp (hm.subset hk)⟩)
  have e2 : M_ascends [.tup (m.map fun k => .int (k : Nat)), .int 0, .int ((n : Int) - 1)] μ = .ok (.bl true) μ := by
    unfold M_ascends B_ascends
    simp only [Int.ofNat_zero, Int.natCast_zero] at e
    simp_arith [e]
  unfold M_is_mask B_is_mask
  simp_arith [e1, oSub_int, e2]
theorem is_deed {d : Deed} {n : Nat} (hd : OkD n d) {μ : Store} : M_is_deed [encD d, .int (n : Nat)] μ = .ok (.bl true) μ := by
  unfold M_is_deed B_is_deed
  cases d with
  | flip => simp_arith [isFlip, isF]
  | draw t s =>
    have e0 : ∀ μ, cLenO 0 M_Negativedd__lendd_ [encD (.draw t s)] μ = .ok (.int 3) μ := fun μ => by rfl
    have e1 : ∀ μ, oEq (.str [100, 114, 97, 119]) (.str [101, 120, 112, 111, 115, 101]) μ = .ok (.bl false) μ := fun μ => by rw [oEq_str]; rfl
    have e2 : ∀ μ, oEq (.str [100, 114, 97, 119]) (.str [100, 114, 97, 119]) μ = .ok (.bl true) μ := fun μ => by rw [oEq_str]; rfl
    obtain ⟨a1, a2, a3, a4⟩ := hd
    simp_arith [isFlip, isF, e0, oNe_int, decide_true, Bool.not_true, Bool.false_eq_true, if_false, d1, d2, is_number, a1, a2, a3, a4, Bool.and_self, enc0, len_expo, len_draw, e1, e2]
  | expo t m =>
    have e0 : ∀ μ, cLenO 0 M_Negativedd__lendd_ [encD (.expo t m)] μ = .ok (.int 3) μ := fun μ => by rfl
    have e1 : ∀ μ, oEq (.str [101, 120, 112, 111, 115, 101]) (.str [101, 120, 112, 111, 115, 101]) μ = .ok (.bl true) μ := fun μ => by rw [oEq_str]; rfl
    obtain ⟨a1, a2, a3⟩ := hd
    simp_arith [isFlip, isF, e0, oNe_int, decide_true, Bool.not_true, Bool.false_eq_true, if_false, x1, x2, is_number, a1, a2, Bool.and_self, enc0, len_expo, e1, is_mask a3]
theorem chk_in {n : Nat} {items : List D} {r : D} {μ : Store} : ∀ (R : List Deed) (i : Nat) (x y : Option D), i + R.length ≤ 8 → (∀ d ∈ R, OkD n d) → ∃ x' y', forL items none (gTup 2 (gCons (gVar 2) (gCons (gVar 3) (gNil)))) (
  sIf (tOr (tB (eBin oEq (eVar 2) (eC (.int 8)))) (tNot (tB (eCallD 2 M_is_deed (aCons (eVar 3) (aCons (eVar 1) (aNil))))))) (
  sNever) (
  sNext)) (((R.map encD).zipIdx i).map fun p => .tup [.int (p.2 : Nat), p.1]) [some r, some (.int (n : Nat)), x, y] μ = .nx [some r, some (.int (n : Nat)), x', y'] μ
  | [], i, x, y, _, _ => ⟨x, y, by rw [List.map_nil, List.zipIdx_nil, List.map_nil, for_nil]⟩
  | d :: R, i, x, y, hl, hd => by
    simp only [List.length_cons] at hl
    obtain ⟨x', y', e⟩ := chk_in (n := n) (items := items) (r := r) (μ := μ) R (i + 1) (some (.int (i : Nat))) (some (encD d)) (by omega) (fun d h => hd d (by simp [h]))
    refine ⟨x', y', ?_⟩
    rw [List.map_cons, List.zipIdx_cons, List.map_cons, for_cons]
    simp_arith [oEq_int, show ¬ ((i : Int) = 8) from by omega, decide_false, Bool.false_eq_true, if_false, is_deed (hd d (by simp)), Bool.not_true]
    exact e
theorem check_recipe {R : List Deed} {n : Nat} (hl : R.length ≤ 8) (hd : ∀ d ∈ R, OkD n d) {μ : Store} : M_check_recipe [.tup (R.map encD), .int (n : Nat)] μ = .ok .non μ := by
  obtain ⟨x', y', e⟩ := chk_in (n := n) (items := enumD (R.map encD)) (r := .tup (R.map encD)) (μ := μ) R 0 none none (by omega) hd
  unfold M_check_recipe B_check_recipe
  simp_arith [iEnumD_ev, oEnum]
  rw [show forL (enumD (R.map encD)) none _ _ (enumD (R.map encD)) _ μ = _ from e]
theorem wrong_side {w h n : Nat} (hs : Sz w h n) {μ : Store} : M_wrong_side [.int (w : Nat), .int (h : Nat)] μ = .ok .non μ := by
  have := hs.w1
  have := hs.w4
  have := hs.h1
  have := hs.h4
  have := hs.n9
  unfold M_wrong_side B_wrong_side
  simp_arith [is_number, show (1 : Int) ≤ (w : Nat) from by omega, show ((w : Nat) : Int) ≤ 4 from by omega, show (1 : Int) ≤ (h : Nat) from by omega, show ((h : Nat) : Int) ≤ 4 from by omega, decide_true, Bool.and_self, Bool.not_true, Bool.false_eq_true, if_false, mulN hs, oGt_int, show ¬ (9 : Int) < (n : Nat) from by omega, decide_false]
theorem range_n {w h n : Nat} (hs : Sz w h n) {μ : Store} : rangeR (.int (n : Nat)) μ = .ok (rg n, none) μ := rangeR_nat (by have := hs.n9; omega)
theorem lc_range {n : Nat} {items : List D} {v : Nat} {fe : FE} {ρ : Fw.Env} {μ : Store} {f : Nat → D} (hn : n ≤ 1000000) (hv : v < ρ.length) (h : ∀ c < n, fe (ρ.set v (some (.int (c : Nat)))) μ = .ok (f c) μ) :
    lcL items none (gVar v) (fun _ μ => .ok true μ) fe ρ (rg n) μ [] = .ok (.lst ((List.range n).map f)) μ := by
  have := lc_pure (items := items) (g := gVar v) (ft := fun _ μ => .ok true μ) (fe := fe) (ρ := ρ) (μ := μ) (fun _ => true) (fun d => match d with | .int i => f i.toNat | _ => .non) (ds := rg n) (acc := [])
    (by
      intro d hd
      obtain ⟨c, hc, rfl⟩ := List.mem_map.mp hd
      refine ⟨_, by rw [gVar_ev, if_pos hv], rfl, fun _ => ?_⟩
      rw [h c (List.mem_range.mp hc)]; simp)
    (by rw [len_rg]; exact (Nat.zero_add n).symm ▸ hn)
  rw [this]
  have e : (rg n).filter (fun _ => true) = rg n := List.filter_eq_self.mpr (fun _ _ => rfl)
  rw [e]
  simp [rg, Function.comp_def]
def neg (w h : Nat) (T : List Nat) : D := .obj 0 ["columns", "lines", "figures"] [.int (w : Nat), .int (h : Nat), .str T]
theorem ins_neg {w h : Nat} {T : List Nat} {μ : Store} : insOf 0 μ (neg w h T) = some ((["columns", "lines", "figures"] : List Str), ([.int (w : Nat), .int (h : Nat), .str T] : List D)) := (rfl)
theorem fig {w h : Nat} {T : List Nat} : ((["columns", "lines", "figures"] : List Str).zip [D.int (w : Nat), D.int (h : Nat), D.str T]).lookup ("figures" : Str) = some (.str T) := by rfl
theorem col {w h : Nat} {T : List Nat} : ((["columns", "lines", "figures"] : List Str).zip [D.int (w : Nat), D.int (h : Nat), D.str T]).lookup ("columns" : Str) = some (.int (w : Nat)) := by rfl
theorem lenT {n : Nat} {T : List Nat} (ok : OkT n T) (h : n ≤ 9) {μ : Store} : cLen [.str T] μ = .ok (.int (n : Nat)) μ := by
  have hL : T.length ≤ LIM := by rw [ok.1]; show _ ≤ 1000000; omega
  rw [ok.1] at hL
  simp only [cLen, ok.1, hL, if_true]
theorem len_neg {w h n : Nat} (hs : Sz w h n) {T : List Nat} (ok : OkT n T) {μ : Store} : cLenO 0 M_Negativedd__lendd_ [neg w h T] μ = .ok (.int (n : Nat)) μ := by
  have := hs.n9
  have e : M_Negativedd__lendd_ [neg w h T] μ = .ok (.int (n : Nat)) μ := by
    unfold M_Negativedd__lendd_ B_Negativedd__lendd_
    simp_arith [eFld_ev, ins_neg, fig, lenT ok hs.n9]
  have h2 : (0 : Int) ≤ (n : Nat) ∧ ((n : Nat) : Int) < 1000000 := by omega
  simp only [cLenO, ins_neg, e, Res.mute_ok, bok, h2, and_self, if_true]
theorem blsAll : ∀ {T : List Nat} {p : Nat → Bool}, (∀ c ∈ T, p c = true) → blsOf (T.map fun c => D.bl (p c)) = some (T.map p) ∧ (T.map p).all id = true
  | [], p, _ => ⟨rfl, rfl⟩
  | c :: T, p, h => by
    have := blsAll (T := T) (p := p) (fun c hc => h c (by simp [hc]))
    simp [blsOf, this.1, h c (by simp)]
    simpa using this.2
theorem lc_map {items : List D} {v : Nat} {fe : FE} {ρ : Fw.Env} {μ : Store} {ds : List D} {f : D → D} (hn : ds.length ≤ 1000000) (hv : v < ρ.length) (h : ∀ d ∈ ds, fe (ρ.set v (some d)) μ = .ok (f d) μ) :
    lcL items none (gVar v) (fun _ μ => .ok true μ) fe ρ ds μ [] = .ok (.lst (ds.map f)) μ := by
  have := lc_pure (items := items) (g := gVar v) (ft := fun _ μ => .ok true μ) (fe := fe) (ρ := ρ) (μ := μ) (fun _ => true) f (ds := ds) (acc := [])
    (fun d hd => ⟨_, by rw [gVar_ev, if_pos hv], rfl, fun _ => h d hd⟩)
    (by exact (Nat.zero_add _).symm ▸ hn)
  rw [this]
  have e : ds.filter (fun _ => true) = ds := List.filter_eq_self.mpr (fun _ _ => rfl)
  rw [e]; rfl
theorem wrong_part {w h n : Nat} (hs : Sz w h n) {T : List Nat} (ok : OkT n T) {μ : Store} : M_wrong_part [.int (w : Nat), .int (h : Nat), .str T] μ = .ok .non μ := by
  have e := lc_map (items := T.map fun c => D.str [c]) (v := 4) (fe := eBin (oIn false) (eVar 4) (eC (.str (lit "01234")))) (ρ := [some (.int (w : Nat)), some (.int (h : Nat)), some (.str T), some .non, none]) (μ := μ) (ds := T.map fun c => D.str [c]) (f := fun _ => .bl true)
    (by have := ok.1; have := hs.n9; simp; omega) (by simp) (fun d hd => by
      obtain ⟨c, hc, rfl⟩ := List.mem_map.mp hd
      have := ok.2 c hc
      have : c ∈ [48, 49, 50, 51, 52] := by simp; omega
      simp_arith [l01234]
      simp only [oIn, this, decide_true, Bool.false_eq_true, if_false])
  have e3 : ∀ μ, cAll [.lst ((T.map fun c => D.str [c]).map fun _ => D.bl true)] μ = .ok (.bl true) μ := fun μ => by
    have := blsAll (T := T) (p := fun _ => true) (fun _ _ => rfl)
    simp only [List.map_map, Function.comp_def, cAll, lstOf, this]
  have e4 : ∀ μ, cLenO 0 M_Negativedd__lendd_ [.str T] μ = .ok (.int (n : Nat)) μ := fun μ => by
    rw [cLenO_ev rfl]; exact lenT ok hs.n9
  unfold M_wrong_part B_wrong_part
  simp_arith [wrong_side hs, oNotN_ev, D.isNon, Bool.not_true, Bool.false_eq_true, if_false, e4, mulN hs, oNe_int, decide_true, e, e3]
theorem make {w h n : Nat} (hs : Sz w h n) {T : List Nat} (ok : OkT n T) {ρ : Fw.Env} {μ : Store} {fs : FA} (hμ : μ.all (lowC μ.length) = true) (hf : fs ρ μ = .ok [.int (w : Nat), .int (h : Nat), .str T] μ) :
    eMake 0 4 M_Negativedd__initdd_ fs ρ μ = .ok (neg w h T) μ := by
  have e : M_Negativedd__initdd_ [.loc μ.length, .int (w : Nat), .int (h : Nat), .str T] (μ ++ [.ins 0 [] []]) = .ok .non (μ ++ [.ins 0 ["columns", "lines", "figures"] [.int (w : Nat), .int (h : Nat), .str T]]) := by
    have p1 : ∀ e, putNs ("columns" : Str) [] = (["columns"] : List Str) ∧ putXs (α := D) ("columns" : Str) e [] [] = [e] := fun e => ⟨rfl, rfl⟩
    have p2 : ∀ a e, putNs ("lines" : Str) ["columns"] = (["columns", "lines"] : List Str) ∧ putXs (α := D) ("lines" : Str) e ["columns"] [a] = [a, e] := fun a e => ⟨rfl, rfl⟩
    have p3 : ∀ a b e, putNs ("figures" : Str) ["columns", "lines"] = (["columns", "lines", "figures"] : List Str) ∧ putXs (α := D) ("figures" : Str) e ["columns", "lines"] [a, b] = [a, b, e] := fun a b e => ⟨rfl, rfl⟩
    unfold M_Negativedd__initdd_ B_Negativedd__initdd_
    simp_arith [wrong_part hs ok, oNotN_ev, D.isNon, Bool.not_true, Bool.false_eq_true, if_false, sFld_ev, getElem?_mid, set_mid, (p1 .non).1, (p1 _).2, (p2 .non .non).1, (p2 _ _).2, (p3 .non .non .non).1, (p3 _ _ _).2, true_and]
  rw [eMake_ev, hf]
  have t : (μ ++ [Cell.ins 0 ["columns", "lines", "figures"] [D.int (w : Nat), D.int (h : Nat), D.str T]]).take μ.length = μ := by simp
  simp_arith [e, getElem?_mid, t, hμ, lows, low, Bool.and_self, decide_true, List.length_append]
  rfl
abbrev nI (L : List Nat) : List D := L.map fun k => .int (k : Nat)
structure OkS (S : List Nat) : Prop where
  ne : 1 ≤ S.length
  le : S.length ≤ 5
  asc : S.Pairwise (· < ·)
  rg : ∀ a ∈ S, 1 ≤ a ∧ a ≤ 9999
theorem check_steps {S : List Nat} (ok : OkS S) {μ : Store} : M_check_steps [.tup (nI S)] μ = .ok .non μ := by
  obtain ⟨l', x', e⟩ := asc_in (vs := .tup (nI S)) (n := 10000) (items := nI S) (μ := μ) S 1 none ok.asc (fun k hk => by have := ok.rg k hk; omega)
  have e2 : M_ascends [.tup (nI S), .int 1, .int 9999] μ = .ok (.bl true) μ := by
    rw [show ((1 : Nat) : Int) = 1 from rfl, show ((10000 : Nat) : Int) - 1 = 9999 from rfl] at e
    change forL (nI S) none _ _ (nI S) _ _ = _ at e
    unfold M_ascends B_ascends
    generalize hz : nI S = zz at *
    simp_arith [e]
  have e3 : ∀ μ, cLenO 0 M_Negativedd__lendd_ [.tup (nI S)] μ = .ok (.int (S.length : Nat)) μ := fun μ => by
    rw [cLenO_ev rfl]
    simp [cLen, seqOf]
  have h1 : (1 : Int) ≤ (S.length : Nat) := by have := ok.ne; omega
  have h5 : ((S.length : Nat) : Int) ≤ 5 := by have := ok.le; omega
  have e4 : M_are_steps [.tup (nI S)] μ = .ok (.bl true) μ := by
    unfold M_are_steps B_are_steps
    generalize hz : nI S = zz at *
    simp_arith [eChain_ev, e3, oLe_int, h1, h5, decide_true, e2]
  unfold M_check_steps B_check_steps
  generalize hz : nI S = zz at *
  simp_arith [e4, Bool.not_true, Bool.false_eq_true, if_false]
def tn (S : List Nat) (L : Int) : Nat := (S.filter fun s : Nat => decide ((s : Int) ≤ L)).length
theorem int9 {k : Nat} (h : k < 10) {μ : Store} : cInt [.str [48 + k]] μ = .ok (.int (k : Nat)) μ := by
  have : ∀ k, k < 10 → PySem.intText? ⟨[48 + k].toArray⟩ = some ((k : Nat) : Int) := by decide +kernel
  have e := this k h
  simp only [cInt, e]
  rfl
theorem lc_filter {items : List D} {v : Nat} {ft : FT} {ρ : Fw.Env} {μ : Store} {S : List Nat} (p : Nat → Bool) (hn : S.length ≤ 1000000) (hv : v < ρ.length)
    (h : ∀ s ∈ S, ft (ρ.set v (some (.int (s : Nat)))) μ = .ok (p s) μ) : lcL items none (gVar v) ft (eVar v) ρ (nI S) μ [] = .ok (.lst (nI (S.filter p))) μ := by
  have := lc_pure (items := items) (g := gVar v) (ft := ft) (fe := eVar v) (ρ := ρ) (μ := μ) (fun d => match d with | .int i => p i.toNat | _ => false) (fun d => d) (ds := nI S) (acc := [])
    (by
      intro d hd
      obtain ⟨i, hi, rfl⟩ := List.mem_map.mp hd
      refine ⟨_, by rw [gVar_ev, if_pos hv], by rw [h i hi]; simp, fun _ => ?_⟩
      rw [eVar_ev, List.getElem?_set_self hv])
    (by simp; exact hn)
  rw [this, List.map_id', List.nil_append, nI, List.filter_map]
  congr 1
theorem neg_w {w h : Nat} {T : List Nat} {μ : Store} : M_Negative_width [neg w h T] μ = .ok (.int (w : Nat)) μ := by
  unfold M_Negative_width B_Negative_width
  simp_arith [eFld_ev, ins_neg, col]
theorem neg_d {w h : Nat} {T : List Nat} {μ : Store} : M_Negative_densities [neg w h T] μ = .ok (.str T) μ := by
  unfold M_Negative_densities B_Negative_densities
  simp_arith [eFld_ev, ins_neg, fig]
end Pg
set_option Elab.async false
set_option linter.all false
set_option maxRecDepth 100000
set_option autoImplicit false
namespace Pg
open PySem L2 Fw
theorem for_step {items ds : List D} {g : D → Fw.Env → Store → Res Fw.Env} {body : FS} {d : D} {ρ ρ1 ρ2 : Fw.Env} {μ μ1 μ2 : Store} (hg : g d ρ μ = .ok ρ1 μ1) (hb : body ρ1 μ1 = .nx ρ2 μ2) : forL items none g body (d :: ds) ρ μ = forL items none g body ds ρ2 μ2 := by
  rw [for_cons, hg, rS_ok, hb]
theorem taken {c : Cell} {r : Store} {m : Int} (hc : Row0 c) (h0 : 0 < m) (hm : m < 1073741824) : ∃ (k : Int) (c' : Cell), M_l_taken [.loc 0, .int m] (c :: r) = .ok (.int k) (c' :: r) ∧ Row0 c' ∧ 0 ≤ k ∧ k < m := by
  obtain ⟨ns, a, b, d, hn, rfl, ha⟩ := hc
  unfold M_l_taken B_l_taken
  by_cases h : 0 < d
  · refine ⟨d % m, .lst [.flst ns, .int a, .int b, .int (d / m)], ?_, ⟨ns, a, b, _, hn, rfl, ha⟩, Int.emod_nonneg _ (by omega), Int.emod_lt_of_pos _ h0⟩
    simp [oIx, seqOf, ixN, atI, h, oMod_int h0, oFdv_int h0 hm, List.replicate]
  · by_cases h2 : (ns.length : Int) < a + 1
    · refine ⟨(b * 48271 + 11) % 2147483647 / 7 % m, .lst [.flst ns, .int (a + 1), .int ((b * 48271 + 11) % 2147483647), .int d], ?_, ⟨ns, _, _, _, hn, rfl, by omega⟩, Int.emod_nonneg _ (by omega), Int.emod_lt_of_pos _ h0⟩
      simp [oIx, seqOf, ixN, atI, h, oMod_int, oFdv_int, List.replicate, cLenO, insOf, cLen, h2, oMul_int, Sm, h0]
    · have hi : ∃ x, ns[a.toNat]? = some x := by
        rw [List.getElem?_eq_getElem (by omega)]; exact ⟨_, rfl⟩
      obtain ⟨x, hx⟩ := hi
      refine ⟨x % m, .lst [.flst ns, .int (a + 1), .int ((b * 48271 + x + 11) % 2147483647), .int (if 1000000000000000000 ≤ x then x / m else d)], ?_, ⟨ns, _, _, _, hn, rfl, by omega⟩, Int.emod_nonneg _ (by omega), Int.emod_lt_of_pos _ h0⟩
      have e : atI (ns.map D.int) a = some (.int x) := by
        rw [atI_in (by omega) (by simp; omega)]; simp [hx]
      by_cases h4 : 1000000000000000000 ≤ x
      all_goals simp [oIx, seqOf, ixN, h, oMod_int, oFdv_int h0 hm, List.replicate, cLenO, insOf, cLen, h2, oMul_int, Sm, h0, oPow18, h4, e, show ∀ (a b c d : D) , atI [a, b, c, d] 0 = some a from fun _ _ _ _ => rfl, show ∀ (a b c d : D) , atI [a, b, c, d] 1 = some b from fun _ _ _ _ => rfl, show ∀ (a b c d : D) , atI [a, b, c, d] 2 = some c from fun _ _ _ _ => rfl, show ∀ (a b c d : D) , atI [a, b, c, d] 3 = some d from fun _ _ _ _ => rfl]
theorem takenN {c : Cell} {r : Store} {m : Nat} (hc : Row0 c) (h0 : 0 < m) (hm : m < 1000000000) : ∃ (k : Nat) (c' : Cell), M_l_taken [.loc 0, .int (m : Nat)] (c :: r) = .ok (.int (k : Nat)) (c' :: r) ∧ Row0 c' ∧ k < m := by
  obtain ⟨k, c', e, h, k0, k1⟩ := taken (r := r) (m := (m : Nat)) hc (by omega) (by omega)
  obtain ⟨j, rfl⟩ := Int.eq_ofNat_of_zero_le k0
  exact ⟨j, c', e, h, by omega⟩
theorem rowC {c : Cell} (hc : Row0 c) {k : Nat} : lowC k c = true := by
  obtain ⟨ns, a, b, d, _, rfl, _⟩ := hc
  rfl
theorem ix_fig {k : Nat} (h : k < 5) {μ : Store} : oIx (.str [48, 49, 50, 51, 52]) (.int (k : Nat)) μ = .ok (.str [48 + k]) μ :=
  match k, h with
  | 0, _ => (rfl) | 1, _ => (rfl) | 2, _ => (rfl) | 3, _ => (rfl) | 4, _ => (rfl)
/-- what may stand behind the row -/
abbrev Rest (r : Store) : Prop := r.all (lowC (r.length + 1)) = true
theorem all_row {c : Cell} {r : Store} (hc : Row0 c) (hr : Rest r) : (c :: r).all (lowC (c :: r).length) = true := by
  rw [List.all_cons, rowC hc, Bool.true_and]
  exact hr
theorem make2 {w h n : Nat} (hs : Sz w h n) {T : List Nat} (ok : OkT n T) {ρ : Fw.Env} {μ μ' : Store} {fs : FA} (hμ : μ'.all (lowC μ'.length) = true) (hf : fs ρ μ = .ok [.int (w : Nat), .int (h : Nat), .str T] μ') :
    eMake 0 4 M_Negativedd__initdd_ fs ρ μ = .ok (neg w h T) μ' := by
  have := make hs ok (ρ := ρ) (μ := μ') (fs := fun _ m => .ok [.int (w : Nat), .int (h : Nat), .str T] m) hμ rfl
  rw [eMake_ev, bok] at this
  rw [eMake_ev, hf, bok]
  exact this
theorem negative {c : Cell} {r : Store} {m : Nat} (hm : 1 ≤ m ∧ m ≤ 3) (hr : Rest r) (hc : Row0 c) : ∃ (w h n : Nat) (T : List Nat) (c' : Cell), M_l_negative [.loc 0, .int (m : Nat)] (c :: r) = .ok (neg w h T) (c' :: r) ∧ Row0 c' ∧ Sz w h n ∧ OkT n T ∧ w ≤ 3 ∧ h ≤ m := by
  obtain ⟨a, c1, e1, h1, a1⟩ := takenN (r := r) (m := 3) hc (by omega) (by omega)
  obtain ⟨b, c2, e2, h2, b1⟩ := takenN (r := r) (m := m) h1 (by omega) (by omega)
  obtain ⟨w, hw⟩ : ∃ w : Nat, w = 1 + a := ⟨_, rfl⟩
  obtain ⟨h, hh⟩ : ∃ h : Nat, h = 1 + b := ⟨_, rfl⟩
  have hw' : (1 : Int) + (a : Nat) = (w : Nat) := by omega
  have hh' : (1 : Int) + (b : Nat) = (h : Nat) := by omega
  obtain ⟨n, hn⟩ : ∃ n, n = w * h := ⟨_, rfl⟩
  have hn9 : n ≤ 9 := by rw [hn]; exact Nat.mul_le_mul (show w ≤ 3 by omega) (show h ≤ 3 by omega)
  have hn1 : 1 ≤ n := by rw [hn]; exact Nat.mul_le_mul (show 1 ≤ w by omega) (show 1 ≤ h by omega)
  have hs : Sz w h n := ⟨by omega, by omega, by omega, by omega, hn1, hn9, hn.symm⟩
  obtain ⟨ys, μ', e3, ⟨c3, rfl, h3⟩, f⟩ := lc_all (items := rg n) (g := gVar 4) (ft := fun _ μ => .ok true μ) (fe := eBin oIx (eC (.str (lit "01234"))) (eCallD 2 M_l_taken (aCons (eVar 0) (aCons (eC (.int 5)) (aNil)))))
    (ρ := [some (.loc 0), some (.int (m : Nat)), some (.int (w : Nat)), some (.int (h : Nat)), none]) (fun μ => ∃ c, μ = c :: r ∧ Row0 c) (fun _ y => ∃ k, y = .str [k] ∧ (48 ≤ k ∧ k ≤ 52)) (ds := rg n) (acc := []) (μ := c2 :: r) ⟨c2, rfl, h2⟩
    (by
      rintro d - _ ⟨c, rfl, hc⟩
      obtain ⟨k, c', e, h, k1⟩ := takenN (r := r) (m := 5) hc (by omega) (by omega)
      refine ⟨_, _, rfl, _, rfl, .str [48 + k], c' :: r, ?_, ⟨c', rfl, h⟩, 48 + k, rfl, by omega, by omega⟩
      rw [show ((5 : Nat) : Int) = 5 from rfl] at e
      simp_arith [e, l01234, ix_fig k1])
    (by rw [len_rg]; show 0 + n ≤ 1000000; omega)
  obtain ⟨T, rfl, hl, hT⟩ := f.map_of (Q := fun c => 48 ≤ c ∧ c ≤ 52) (f := fun c => D.str [c]) (fun _ _ ⟨k, e, m⟩ => ⟨k, e, m⟩)
  rw [len_rg] at hl
  have ok : OkT n T := ⟨hl, hT⟩
  refine ⟨w, h, n, T, c3, ?_, h3, hs, ok, by omega, by omega⟩
  have hTL : T.length ≤ LIM := by rw [hl]; show _ ≤ 1000000; omega
  have mn := fun μ => mulN hs (μ := μ)
  have rn := fun μ => range_n hs (μ := μ)
  rw [List.nil_append] at e3
  have jo := fun μ => oJoin_one hTL (μ := μ)
  have q3 : (aCons (eVar 2) (aCons (eVar 3) (aCons (eJoin (eC (.str (lit ""))) (eLc [4] (iRange1 (eBin oMul (eVar 2) (eVar 3))) (gVar 4) (fun _ μ => .ok true μ) (eBin oIx (eC (.str (lit "01234"))) (eCallD 2 M_l_taken (aCons (eVar 0) (aCons (eC (.int 5)) (aNil))))))) (aNil))))
      [some (.loc 0), some (.int (m : Nat)), some (.int (w : Nat)), some (.int (h : Nat)), none] (c2 :: r) = .ok [.int (w : Nat), .int (h : Nat), .str T] (c3 :: r) := by
    generalize (T.map fun c => D.str [c]) = cc at *
    simp_arith [mn, rn, e3, lE, jo]
  have q2 := make2 hs ok (all_row h3 hr) q3
  rw [show ((3 : Nat) : Int) = 3 from rfl] at e1
  unfold M_l_negative B_l_negative
  simp_arith [e1, oAdd_int, hw', e2, hh', q2]
end Pg
set_option Elab.async false
set_option linter.all false
set_option maxRecDepth 100000
set_option autoImplicit false
namespace Pg
open PySem L2 Fw
theorem ix2 {a b : Int} {k : Nat} (h : k < 2) {μ : Store} : oIx (.lst [.int a, .int b]) (.int (k : Nat)) μ = .ok (.int (if k = 0 then a else b)) μ :=
  match k, h with
  | 0, _ => (rfl) | 1, _ => (rfl)
theorem fin_tup {n : Nat} {ds : List D} {μ : Store} (h1 : lows n ds = true) (h2 : (μ.take n).all (lowC n) = true) : fin n (.ok (.tup ds) μ) = .ok (.tup ds) (μ.take n) := by
  simp only [fin, low, h1, h2, Bool.and_self, if_true]
theorem low_nI {k : Nat} : ∀ {S : List Nat}, lows k (nI S) = true
  | [] => rfl
  | a :: S => by simp [nI, lows, low]; exact low_nI (S := S)
end Pg
set_option Elab.async false
set_option linter.all false
set_option maxRecDepth 100000
set_option autoImplicit false
namespace Pg
open PySem L2 Fw
mutual
theorem low_mono {n m : Nat} (h : n ≤ m) : ∀ {d : D}, low n d = true → low m d = true
  | .loc k, e => by simp only [low, decide_eq_true_eq] at e ⊢; omega
  | .tup ds, e => by simp only [low] at e ⊢; exact lows_mono h e
  | .lst ds, e => by simp only [low] at e ⊢; exact lows_mono h e
  | .obj _ _ ds, e => by simp only [low] at e ⊢; exact lows_mono h e
  | .dct _ ds, e => by simp only [low] at e ⊢; exact lows_mono h e
  | .non, _ => rfl
  | .bl _, _ => rfl
  | .int _, _ => rfl
  | .str _, _ => rfl
  | .flst _, _ => rfl
  | .ptr _, _ => rfl
theorem lows_mono {n m : Nat} (h : n ≤ m) : ∀ {ds : List D}, lows n ds = true → lows m ds = true
  | [], _ => rfl
  | d :: ds, e => by
    simp only [lows, Bool.and_eq_true] at e ⊢
    exact ⟨low_mono h e.1, lows_mono h e.2⟩
end
theorem lowC_mono {n m : Nat} (h : n ≤ m) {c : Cell} (e : lowC n c = true) : lowC m c = true := by
  cases c with
  | lst ds => exact lows_mono h e
  | ins _ _ ds => exact lows_mono h e
  | dct _ ds => exact lows_mono h e
theorem lows_all {k : Nat} : ∀ {L : List D}, (∀ d ∈ L, low k d = true) → lows k L = true
  | [], _ => rfl
  | d :: L, h => by
    simp only [lows, h d (by simp), lows_all (k := k) (L := L) fun d m => h d (by simp [m]), Bool.and_self]
theorem rest_more {r : Store} {x : Cell} (hr : Rest r) (hx : ∀ k, lowC k x = true) : Rest (r ++ [x]) := by
  unfold Rest at *
  rw [List.all_append, List.all_cons, List.all_nil, hx, Bool.and_true, Bool.and_true]
  rw [List.all_eq_true] at *
  intro c hc
  exact lowC_mono (by simp) (hr c hc)
end Pg
set_option Elab.async false
set_option linter.all false
set_option maxRecDepth 100000
set_option autoImplicit false
namespace Pg
open PySem L2 Fw
def rowOf (n : Nat) (f : Nat → Int) : List D := (List.range n).map fun c => .int (f c)
theorem len_row {n : Nat} {f : Nat → Int} : (rowOf n f).length = n := by simp [rowOf]
theorem set_row {n k : Nat} {f : Nat → Int} {x : Int} : (rowOf n f).set k (.int x) = rowOf n (fun c => if c = k then x else f c) := by
  apply List.ext_getElem?
  intro i
  rw [List.getElem?_set]
  simp only [rowOf, List.length_map, List.length_range, List.getElem?_map, List.getElem?_range]
  by_cases hk : k = i
  · subst hk
    by_cases hn : k < n <;> simp [hn]
  · rw [if_neg hk]
    by_cases hn : i < n
    · simp [hn, show ¬ i = k from fun e => hk e.symm]
    · simp [hn]
theorem at_row {n k : Nat} {f : Nat → Int} (h : k < n) : atI (rowOf n f) (k : Nat) = some (.int (f k)) := by
  rw [atI_in (by omega) (by rw [len_row]; omega), Int.toNat_natCast]
  simp [rowOf, h]
theorem row_congr {n : Nat} {f g : Nat → Int} (h : ∀ c < n, f c = g c) : rowOf n f = rowOf n g := by
  unfold rowOf
  exact List.map_congr_left fun c hc => by rw [h c (List.mem_range.mp hc)]
def add (w : Nat) (T : List Nat) (b : Bool) (d : Deed) (c : Nat) : Int := tk w c d * W T (if b = true then mir w c else c)
def val (w : Nat) (T : List Nat) (c : Nat) (q : Bool × Int × Int) : Int := q.2.1 * W T c + q.2.2 * W T (mir w c)
theorem b_stp {w c : Nat} {q : Bool × Int × Int} {d : Deed} : (stp w c q d).1 = (q.1 != isF d) := by
  unfold stp
  cases hb : (q.1 != isF d) <;> simp
theorem rep0 {n : Nat} : (List.replicate n [D.int 0]).flatten = rowOf n fun _ => 0 := by
  simp [rowOf, List.map_const']
theorem ix_row {n k : Nat} {f : Nat → Int} (h : k < n) {μ : Store} : oIx (.lst (rowOf n f)) (.int (k : Nat)) μ = .ok (.int (f k)) μ := by
  simp only [oIx, seqOf, at_row h]
theorem low_row {k n : Nat} {f : Nat → Int} : lows k (rowOf n f) = true := by
  have : ∀ L : List Nat, lows k (L.map fun c => D.int (f c)) = true := fun L => by
    induction L with
    | nil => rfl
    | cons a L ih => simp [lows, low, ih]
  exact this _
theorem nI_is (m : List Nat) : (m.map fun k => D.int (k : Nat)) = nI m := rfl
theorem covers {c : Cell} {r : Store} {w h n : Nat} {T : List Nat} {x2 x3 : Option D} (hs : Sz w h n) (hc : Row0 c) : ∃ (m : List Nat) (c' : Cell), lcL (rg n) none (gVar 4) (tB (eBin oEq (eCallD 2 M_l_taken (aCons (eVar 0) (aCons (eC (.int 3)) (aNil)))) (eC (.int 0)))) (eVar 4)
    [some (.loc 0), some (neg w h T), x2, x3, none] (rg n) (c :: r) [] = .ok (.lst (nI m)) (c' :: r) ∧ Row0 c' ∧ m.Sublist (List.range n) := by
  obtain ⟨ys, zs, μ', e, ⟨c', rfl, h'⟩, sb, f⟩ := lc_st (items := rg n) (g := gVar 4) (ft := (tB (eBin oEq (eCallD 2 M_l_taken (aCons (eVar 0) (aCons (eC (.int 3)) (aNil)))) (eC (.int 0))))) (fe := eVar 4)
    (ρ := [some (.loc 0), some (neg w h T), x2, x3, none]) (fun μ => ∃ c, μ = c :: r ∧ Row0 c) (fun d y => d = y) (ds := rg n) (acc := []) (μ := c :: r) ⟨c, rfl, hc⟩
    (by
      rintro d - _ ⟨c, rfl, hc⟩
      obtain ⟨j, c', e, h, _, _⟩ := taken (r := r) (m := 3) hc (by omega) (by omega)
      by_cases hj : j = 0
      · exact ⟨_, _, rfl, true, c' :: r, by subst hj; simp_arith [e, oEq_int, decide_true], fun _ => ⟨c', rfl, h⟩, fun _ => ⟨d, c' :: r, by simp_arith [], ⟨c', rfl, h⟩, rfl⟩⟩
      · exact ⟨_, _, rfl, false, c' :: r, by simp_arith [e, oEq_int, hj, decide_false], fun _ => ⟨c', rfl, h⟩, fun hh => nomatch hh⟩)
    (by rw [len_rg]; have := hs.n9; show 0 + n ≤ 1000000; omega)
  have : ys = zs := by
    clear e sb
    induction f with
    | nil => rfl
    | cons h _ ih => rw [h, ih]
  subst this
  obtain ⟨m, hm, rfl⟩ := List.sublist_map_iff.mp sb
  exact ⟨m, c', e, h', hm⟩
/-- deeds as these laws draw them -/
def OkE (n : Nat) (d : Deed) : Prop := OkD n d ∧ match d with
  | .draw t s => t ≤ 20 ∧ s ≤ 9
  | _ => True
theorem deed {c : Cell} {r : Store} {w h n : Nat} {T : List Nat} (hs : Sz w h n) (ok : OkT n T) (hc : Row0 c) : ∃ (d : Deed) (c' : Cell), M_l_deed [.loc 0, neg w h T] (c :: r) = .ok (encD d) (c' :: r) ∧ Row0 c' ∧ OkE n d := by
  obtain ⟨k, c1, e1, h1, k1⟩ := takenN (r := r) (m := 5) hc (by omega) (by omega)
  rw [show ((5 : Nat) : Int) = 5 from rfl] at e1
  have hL3 : (3 : Nat) ≤ LIM := by decide
  have hL2 : (2 : Nat) ≤ LIM := by decide
  have hL1 : (1 : Nat) ≤ LIM := by decide
  have ln := fun μ => len_neg hs ok (μ := μ)
  have rn := fun μ => range_n hs (μ := μ)
  unfold M_l_deed B_l_deed
  by_cases g0 : k < 3
  · obtain ⟨m, c2, e2, h2, sb⟩ := covers (r := r) (T := T) (x2 := some (.int (k : Nat))) (x3 := none) hs h1
    obtain ⟨j, c3, e3, h3, j1⟩ := takenN (r := r) (m := 2) h2 (by omega) (by omega)
    rw [show ((2 : Nat) : Int) = 2 from rfl] at e3
    obtain ⟨q, hq, q1, q2⟩ : ∃ q : Nat, (if j = 0 then (6 : Int) else 99) = (q : Nat) ∧ 1 ≤ q ∧ q ≤ 99 := by
      refine ⟨if j = 0 then 6 else 99, ?_, ?_, ?_⟩
      all_goals split
      all_goals first | rfl | decide
    obtain ⟨t, c4, e4, h4, t1⟩ := takenN (r := r) (m := q) h3 (by omega) (by omega)
    have ix := fun μ => ix2 (a := 6) (b := 99) j1 (μ := μ)
    rw [hq] at ix
    refine ⟨.expo (1 + (t : Nat)) m, c4, ?_, h4, ⟨by omega, by omega, sb⟩, trivial⟩
    have ct : ∀ μ, cTuple [.lst (nI m)] μ = .ok (.tup (nI m)) μ := fun μ => rfl
    have g0' : ((k : Nat) : Int) < 3 := by omega
    rw [encD, nI_is]
    generalize nI m = mm at *
    simp_arith [e1, oLt_int, g0', decide_true, ln, rn, e2, ct, hL2, e3, ix, e4, oAdd_int, hL3, len_expo]
  · have g0' : ¬ ((k : Nat) : Int) < 3 := by omega
    by_cases g1 : k = 3
    · obtain ⟨t, c2, e2, h2, t1⟩ := takenN (r := r) (m := 20) h1 (by omega) (by omega)
      obtain ⟨u, c3, e3, h3, u1⟩ := takenN (r := r) (m := 9) h2 (by omega) (by omega)
      rw [show ((20 : Nat) : Int) = 20 from rfl] at e2
      rw [show ((9 : Nat) : Int) = 9 from rfl] at e3
      refine ⟨.draw (1 + (t : Nat)) (1 + (u : Nat)), c3, ?_, h3, ⟨by omega, by omega, by omega, by omega⟩, by omega, by omega⟩
      subst g1
      rw [show ((3 : Nat) : Int) = 3 from rfl] at e1
      simp_arith [e1, oLt_int, show ¬ (3 : Int) < 3 by decide, decide_false, Bool.false_eq_true, if_false, oEq_int, decide_true, e2, e3, oAdd_int, hL3, len_draw, encD]
    · have g1' : ¬ ((k : Nat) : Int) = 3 := by omega
      refine ⟨.flip, c1, ?_, h1, trivial, trivial⟩
      simp_arith [e1, oLt_int, g0', decide_false, Bool.false_eq_true, if_false, oEq_int, g1', hL1, len_flip, encD]
theorem recipe {c : Cell} {r : Store} {w h n m : Nat} {T : List Nat} (hm : m ≤ 100) (hs : Sz w h n) (ok : OkT n T) (hc : Row0 c) : ∃ (R : List Deed) (c' : Cell), M_l_recipe [.loc 0, neg w h T, .int (m : Nat)] (c :: r) = .ok (.tup (R.map encD)) (c' :: r) ∧ Row0 c' ∧ R.length ≤ m ∧ ∀ d ∈ R, OkE n d := by
  obtain ⟨j, c1, e1, h1, j1⟩ := takenN (r := r) (m := m + 1) hc (by omega) (by omega)
  obtain ⟨ys, μ', e, ⟨c', rfl, h'⟩, f⟩ := lc_all (items := rg j) (g := gVar 3) (ft := fun _ μ => .ok true μ) (fe := eCallD 2 M_l_deed (aCons (eVar 0) (aCons (eVar 1) (aNil))))
    (ρ := [some (.loc 0), some (neg w h T), some (.int (m : Nat)), none]) (fun μ => ∃ c, μ = c :: r ∧ Row0 c) (fun _ y => ∃ d, y = encD d ∧ OkE n d) (ds := rg j) (acc := []) (μ := c1 :: r) ⟨c1, rfl, h1⟩
    (by
      rintro d - _ ⟨c, rfl, hc⟩
      obtain ⟨x, c', e, h, m⟩ := deed (r := r) (T := T) hs ok hc
      exact ⟨_, _, rfl, _, rfl, encD x, c' :: r, by simp_arith [e], ⟨c', rfl, h⟩, x, rfl, m⟩)
    (by rw [len_rg]; show 0 + j ≤ 1000000; omega)
  obtain ⟨R, rfl, hl, hR⟩ := f.map_of (Q := OkE n) (f := encD) (fun _ _ ⟨k, e, m⟩ => ⟨k, e, m⟩)
  rw [len_rg] at hl
  refine ⟨R, c', ?_, h', by omega, hR⟩
  have e5 : ∀ μ, rangeR (.int (j : Nat)) μ = .ok (rg j, none) μ := fun μ => rangeR_nat (by omega)
  have e6 : ((m + 1 : Nat) : Int) = (m : Nat) + 1 := by omega
  rw [e6] at e1
  rw [List.nil_append] at e
  have ct : ∀ μ, cTuple [.lst (R.map encD)] μ = .ok (.tup (R.map encD)) μ := fun μ => rfl
  unfold M_l_recipe B_l_recipe
  generalize R.map encD = rr at *
  simp_arith [oAdd_int, e1, e5, e, ct]
theorem l_open {w h n : Nat} {T : List Nat} (hs : Sz w h n) (ok : OkT n T) {d : Deed} {μ : Store} : M_l_open [neg w h T, encD d] μ = .ok (.lst (rowOf n fun c => tk w c d)) μ := by
  have ln := fun μ => len_neg hs ok (μ := μ)
  have rn := fun μ => range_n hs (μ := μ)
  have nw := fun μ => neg_w (w := w) (h := h) (T := T) (μ := μ)
  have hn9 := hs.n9
  have hL1 : (1 : Nat) ≤ LIM := by decide
  cases d with
  | flip =>
    have i0 : ∀ μ, oIx (encD .flip) (.int 0) μ = .ok (.str [102, 108, 105, 112]) μ := fun μ => rfl
    have q : ∀ μ, oEq (.str [102, 108, 105, 112]) (.str [102, 108, 105, 112]) μ = .ok (.bl true) μ := fun μ => by rw [oEq_str]; rfl
    have m0 : ∀ μ, oMul (.lst [.int 0]) (.int (n : Nat)) μ = .ok (.lst (rowOf n fun c => tk w c .flip)) μ := fun μ => by
      have c1 : ((n : Nat) : Int) ≤ 1000 ∧ (-1000 : Int) ≤ (n : Nat) ∧ ([D.int 0] : List D).length ≤ 1000 := ⟨by omega, by omega, by simp⟩
      simp only [oMul, lstOf, c1, and_self, if_true, Int.toNat_natCast, rep0]
      rfl
    unfold M_l_open B_l_open
    generalize (rowOf n fun c => tk w c .flip) = zz at *
    generalize encD .flip = dd at *
    simp_arith [i0, len_flip, q, ln, hL1, m0]
  | expo t m =>
    have i0 : ∀ μ, oIx (encD (.expo t m)) (.int 0) μ = .ok (.str [101, 120, 112, 111, 115, 101]) μ := fun μ => rfl
    have q1 : ∀ μ, oEq (.str [101, 120, 112, 111, 115, 101]) (.str [102, 108, 105, 112]) μ = .ok (.bl false) μ := fun μ => by rw [oEq_str]; rfl
    have q2 : ∀ μ, oEq (.str [101, 120, 112, 111, 115, 101]) (.str [101, 120, 112, 111, 115, 101]) μ = .ok (.bl true) μ := fun μ => by rw [oEq_str]; rfl
    have e := lc_range (n := n) (items := rg n) (v := 2) (fe := eBin oMul (eBin oIx (eVar 1) (eC (.int 1))) (eCall cInt (aCons (eBin (oIn true) (eVar 2) (eBin oIx (eVar 1) (eC (.int 2)))) (aNil)))) (ρ := [some (neg w h T), some (encD (.expo t m)), none]) (μ := μ) (f := fun c => .int (tk w c (.expo t m))) (by omega) (by simp)
      (fun c hc => by
        have a1 := fun μ => x1 (t := t) (m := m) (μ := μ)
        have a2 := fun μ => x2 (t := t) (m := m) (μ := μ)
        have a3 := fun μ => oIn_nat (c := c) (m := m) (neg := true) (μ := μ)
        generalize (m.map fun k => D.int (k : Nat)) = mm at *
        by_cases hm : c ∈ m
        · have o : ∀ μ, oMul (.int t) (.int 0) μ = .ok (.int (tk w c (.expo t m))) μ := fun μ => by rw [oMul_int (by simp [Sm])]; simp [tk, hm]
          generalize encD (.expo t m) = dd at *
          simp_arith [a1, a2, a3, hm, decide_true, Bool.not_true, cInt_bl, Bool.false_eq_true, if_false, o]
        · have o : ∀ μ, oMul (.int t) (.int 1) μ = .ok (.int (tk w c (.expo t m))) μ := fun μ => by rw [oMul_int (by simp [Sm])]; simp [tk, hm]
          generalize encD (.expo t m) = dd at *
          simp_arith [a1, a2, a3, hm, decide_false, Bool.not_false, cInt_bl, o])
    unfold M_l_open B_l_open
    rw [show (rowOf n fun c => tk w c (.expo t m)) = (List.range n).map fun c => .int (tk w c (.expo t m)) from rfl]
    generalize ((List.range n).map fun c => D.int (tk w c (.expo t m))) = zz at *
    generalize encD (.expo t m) = dd at *
    simp_arith [i0, len_flip, len_expo, q1, q2, Bool.false_eq_true, if_false, ln, rn, e]
  | draw t s =>
    have i0 : ∀ μ, oIx (encD (.draw t s)) (.int 0) μ = .ok (.str [100, 114, 97, 119]) μ := fun μ => rfl
    have q1 : ∀ μ, oEq (.str [100, 114, 97, 119]) (.str [102, 108, 105, 112]) μ = .ok (.bl false) μ := fun μ => by rw [oEq_str]; rfl
    have q2 : ∀ μ, oEq (.str [100, 114, 97, 119]) (.str [101, 120, 112, 111, 115, 101]) μ = .ok (.bl false) μ := fun μ => by rw [oEq_str]; rfl
    have e := lc_range (n := n) (items := rg n) (v := 2) (fe := eCall cMax2 (aCons (eC (.int 0)) (aCons (eBin oSub (eBin oIx (eVar 1) (eC (.int 1))) (eBin oMul (eBin oIx (eVar 1) (eC (.int 2))) (eBin oMod (eCall cInt (aCons (eVar 2) (aNil))) (eProp 0 M_Negative_width (eVar 0))))) (aNil)))) (ρ := [some (neg w h T), some (encD (.draw t s)), none]) (μ := μ) (f := fun c => .int (tk w c (.draw t s))) (by omega) (by simp)
      (fun c hc => by
        have a1 := fun μ => d1 (t := t) (s := s) (μ := μ)
        have a2 := fun μ => d2 (t := t) (s := s) (μ := μ)
        have md := fun μ => oMod_nat (c := c) hs (μ := μ)
        have ml := fun μ => oMul_sm (a := s) (mod_lt' (c := c) hs) (μ := μ)
        have mx : ∀ μ, cMax2 [.int 0, .int (t - s * ((c % w : Nat) : Int))] μ = .ok (.int (tk w c (.draw t s))) μ := fun μ => by rw [cMax2_ev]; rfl
        have i2 := fun μ => ins_neg (w := w) (h := h) (T := T) (μ := μ)
        generalize encD (.draw t s) = dd at *
        generalize neg w h T = nn at *
        simp_arith [a1, a2, cInt_int, eProp_ev, i2, nw, md, ml, oSub_int, mx])
    unfold M_l_open B_l_open
    rw [show (rowOf n fun c => tk w c (.draw t s)) = (List.range n).map fun c => .int (tk w c (.draw t s)) from rfl]
    generalize ((List.range n).map fun c => D.int (tk w c (.draw t s))) = zz at *
    generalize encD (.draw t s) = dd at *
    simp_arith [i0, len_flip, len_expo, q1, q2, Bool.false_eq_true, if_false, ln, rn, e]
end Pg
set_option Elab.async false
set_option linter.all false
set_option maxRecDepth 100000
set_option autoImplicit false
namespace Pg
open PySem L2 Fw
def Go (Q : SR → Prop) (r : SR) : Prop := Q r
def NxQ (I : Fw.Env → Store → Prop) (r : SR) : Prop := ∃ ρ μ, r = .nx ρ μ ∧ I ρ μ
def thenQ (b : FS) (Q : SR → Prop) (r : SR) : Prop := match r with
  | .nx ρ μ => Go Q (b ρ μ)
  | r => Q r
def toR (r : SR) : Res D := match r with
  | .rt d μ' => .ok d μ'
  | .nx _ μ' => .ok .non μ'
  | .er k ns es _ μ' => .err k ns es μ'
  | _ => .stuck
section
variable {Q : SR → Prop} {items : List D} {g : D → Fw.Env → Store → Res Fw.Env} {body a b : FS} {ρ ρ1 : Fw.Env} {μ μ1 : Store} {n : Nat} {ds : List D} {res : Res D} {fe : FE} {c : FT} {fi : FI} {I : Fw.Env → Store → Prop} {d : D}
theorem mD_of (h : Go (fun r => toR r = res) (a (ds.map some ++ List.replicate (n - ds.length) none) μ)) : mD n a ds μ = res := by
  rw [mD_ev]
  exact h
theorem mD_P {P : Res D → Prop} (h : Go (fun r => P (toR r)) (a (ds.map some ++ List.replicate (n - ds.length) none) μ)) : P (mD n a ds μ) := by
  rw [mD_ev]
  exact h
theorem go_seq (h : a ρ μ = .nx ρ1 μ1) (k : Go Q (b ρ1 μ1)) : Go Q (sSeq a b ρ μ) := by
  show Q _
  rw [sSeq_ev, h]; exact k
theorem go_seqC (h : Go (thenQ b Q) (a ρ μ)) : Go Q (sSeq a b ρ μ) := by
  show Q _
  rw [sSeq_ev]
  unfold Go thenQ at h
  split <;> simp_all [Go]
theorem go_then (k : Go Q (b ρ μ)) : thenQ b Q (.nx ρ μ) := k
theorem go_st (h : a ρ μ = .nx ρ1 μ1) (k : Q (.nx ρ1 μ1)) : Go Q (a ρ μ) := by
  show Q _
  rw [h]; exact k
theorem go_ret (h : fe ρ μ = .ok d μ1) (k : Q (.rt d μ1)) : Go Q (sRet fe ρ μ) := by
  show Q _
  rw [sRet_ev, h]; exact k
theorem go_T (h : c ρ μ = .ok true μ1) (k : Go Q (a ρ μ1)) : Go Q (sIf c a b ρ μ) := by
  show Q _
  rw [sIf_ev, h]; exact k
theorem go_for {it : List D} {src : Option Nat} (h : fi ρ μ = .ok (it, src) μ1) (k : Go Q (forL it src g body it ρ μ1)) : Go Q (sFor fi g body ρ μ) := by
  show Q _
  rw [sFor_ev, h]; exact k
theorem nxq (h : I ρ μ) : NxQ I (.nx ρ μ) := ⟨_, _, rfl, h⟩
theorem go_ix (J : Nat → Fw.Env → Store → Prop) (hJ : J 0 ρ μ)
    (h : ∀ (i : Nat) (d : D), ds[i]? = some d → ∀ ρ μ, J i ρ μ → ∃ ρ1 μ1, g d ρ μ = .ok ρ1 μ1 ∧ Go (NxQ (J (i + 1))) (body ρ1 μ1))
    (k : ∀ ρ' μ', J ds.length ρ' μ' → Q (.nx ρ' μ')) : Go Q (forL items none g body ds ρ μ) := by
  show Q _
  induction ds generalizing J ρ μ with
  | nil => rw [for_nil]; exact k _ _ hJ
  | cons d ds ih =>
    obtain ⟨ρ1, μ1, h1, ρ2, μ2, h2, h3⟩ := h 0 d rfl ρ μ hJ
    rw [for_step h1 h2]
    exact ih (fun i => J (i + 1)) h3 (fun i d' hd ρ μ hj => h (i + 1) d' (by simpa using hd) ρ μ hj) (fun ρ' μ' hj => k ρ' μ' (by simpa using hj))
theorem rg_get {n i : Nat} {d : D} (h : (rg n)[i]? = some d) : i < n ∧ d = .int (i : Nat) := by
  have hi : i < (rg n).length := (List.getElem?_eq_some_iff.mp h).1
  rw [len_rg] at hi
  refine ⟨hi, ?_⟩
  simp [rg, List.getElem?_range hi] at h
  exact h.symm
theorem go_rg {n : Nat} (J : Nat → Fw.Env → Store → Prop) (hJ : J 0 ρ μ)
    (h : ∀ i : Nat, i < n → ∀ ρ μ, J i ρ μ → ∃ ρ1 μ1, g (.int (i : Nat)) ρ μ = .ok ρ1 μ1 ∧ Go (NxQ (J (i + 1))) (body ρ1 μ1))
    (k : ∀ ρ' μ', J n ρ' μ' → Q (.nx ρ' μ')) : Go Q (forL items none g body (rg n) ρ μ) :=
  go_ix J hJ (fun i d hd ρ μ hj => by obtain ⟨h1, rfl⟩ := rg_get hd; exact h i h1 ρ μ hj) (fun ρ' μ' hj => k ρ' μ' (by rwa [len_rg] at hj))
theorem go_mp {α : Type} {f : α → D} {L : List α} (J : Nat → Fw.Env → Store → Prop) (hJ : J 0 ρ μ)
    (h : ∀ (i : Nat) (x : α), L[i]? = some x → ∀ ρ μ, J i ρ μ → ∃ ρ1 μ1, g (f x) ρ μ = .ok ρ1 μ1 ∧ Go (NxQ (J (i + 1))) (body ρ1 μ1))
    (k : ∀ ρ' μ', J L.length ρ' μ' → Q (.nx ρ' μ')) : Go Q (forL items none g body (L.map f) ρ μ) :=
  go_ix J hJ (fun i d hd ρ μ hj => by
    rw [List.getElem?_map, Option.map_eq_some_iff] at hd
    obtain ⟨x, hx, rfl⟩ := hd
    exact h i x hx ρ μ hj) (fun ρ' μ' hj => k ρ' μ' (by rwa [List.length_map] at hj))
end
def TurnQ (m : Nat) (ns : List Int) (t : Option D) : Fw.Env → Store → Prop := fun ρ μ => ∃ (ys : List (Option D)) (c : Cell) (r : Store), ys.length = m ∧ Row0 c ∧ Rest r ∧ ρ = some (.flst ns) :: some (.loc 0) :: t :: ys ∧ μ = c :: r
theorem go_law {cnt m N : Nat} {K : Int} {ns : List Int} {body last : FS} (hN : N = m + 3) (hK : K = (cnt : Nat)) (hc6 : cnt ≤ 1000000) (hn : ns.length ≤ 63)
    (turn : ∀ (t : Option D) (ys : List (Option D)) (c : Cell) (r : Store), ys.length = m → Row0 c → Rest r → Go (NxQ (TurnQ m ns t)) (body (some (.flst ns) :: some (.loc 0) :: t :: ys) (c :: r)))
    (hl : ∀ (t : Option D) (ys : List (Option D)) (c : Cell) (r : Store), ys.length = m → Row0 c → Rest r → Go (fun r => ∃ μ', r = .rt (.bl true) μ') (last (some (.flst ns) :: some (.loc 0) :: t :: ys) (c :: r))) :
    ∃ μ, mDf N (sSeq (sAsg (gVar 1) (eThaw (eLst (aCons (eVar 0) (aCons (eC (.int 0)) (aCons (eC (.int 0)) (aCons (eC (.int 0)) (aNil)))))))) (sSeq (sFor (iRange1 (eC (.int K))) (gVar 2) body) last)) [.flst ns] [] = .ok (.bl true) μ := by
  refine ⟨[], ?_⟩
  have hL4 : (4 : Nat) ≤ LIM := by decide
  have q : ∃ μ', mD N (sSeq (sAsg (gVar 1) (eThaw (eLst (aCons (eVar 0) (aCons (eC (.int 0)) (aCons (eC (.int 0)) (aCons (eC (.int 0)) (aNil)))))))) (sSeq (sFor (iRange1 (eC (.int K))) (gVar 2) body) last)) [.flst ns] [] = .ok (.bl true) μ' := by
    refine mD_P (P := fun r => ∃ μ', r = .ok (.bl true) μ') ?_
    subst hN hK
    rw [show (List.map some [D.flst ns] ++ List.replicate (m + 3 - [D.flst ns].length) none) = some (.flst ns) :: none :: none :: List.replicate m none by
      rw [show m + 3 - [D.flst ns].length = (m + 1) + 1 by simp, List.replicate_succ, List.replicate_succ]
      rfl]
    refine go_seq (ρ1 := some (.flst ns) :: some (.loc 0) :: none :: List.replicate m none) (μ1 := [.lst [.flst ns, .int 0, .int 0, .int 0]]) ?_ (go_seqC (go_for (it := rg cnt) (src := none) (μ1 := [.lst [.flst ns, .int 0, .int 0, .int 0]]) ?_ ?_))
    · simp only [sAsg_ev, eThaw_ev, eLst_ev, aCons_ev, aNil_ev, eVar_ev, eC_ev, bok, List.getElem?_cons_zero, List.length_cons, List.length_nil, Nat.reduceAdd, hL4, if_true, thaw_ev, sok, gVar_ev, List.nil_append, show (1 : Nat) < (List.replicate m (none : Option D)).length + 1 + 1 + 1 by omega, List.set_cons_succ, List.set_cons_zero]
    · simp only [iRange1_ev, eC_ev, bok, rangeR_nat hc6]
    refine go_rg (J := fun _ ρ μ => ∃ (t : Option D), TurnQ m ns t ρ μ) ?_ ?_ ?_
    · exact ⟨none, List.replicate m none, _, [], by simp, ⟨ns, 0, 0, 0, hn, rfl, Int.le_refl 0⟩, rfl, rfl, rfl⟩
    · rintro i hi _ _ ⟨t, ys, c, r, hy, hc, hr, rfl, rfl⟩
      refine ⟨some (.flst ns) :: some (.loc 0) :: some (.int (i : Nat)) :: ys, c :: r, by rw [gVar_ev]; rfl, ?_⟩
      obtain ⟨ρ, μ, e, h⟩ := turn (some (.int (i : Nat))) ys c r hy hc hr
      exact ⟨ρ, μ, e, _, h⟩
    · rintro _ _ ⟨t, ys, c, r, hy, hc, hr, rfl, rfl⟩
      obtain ⟨μ', e⟩ := hl t ys c r hy hc hr
      refine go_then ?_
      show ∃ μ', toR _ = _
      exact ⟨μ', by rw [e]; rfl⟩
  obtain ⟨μ', e⟩ := q
  rw [mDf_ev, e]
  rfl
theorem turn_end {m : Nat} {ns : List Int} {t : Option D} {ys : List (Option D)} {c : Cell} {r : Store} (hy : ys.length = m) (hc : Row0 c) (hr : Rest r) : NxQ (TurnQ m ns t) (.nx (some (.flst ns) :: some (.loc 0) :: t :: ys) (c :: r)) := ⟨_, _, rfl, ys, c, r, hy, hc, hr, rfl, rfl⟩
theorem go_not {Q : SR → Prop} {a b : FS} {c : FT} {ρ : Fw.Env} {μ μ1 : Store} (h : c ρ μ = .ok false μ1) (k : Go Q (b ρ μ1)) : Go Q (sSeq (sIf c a sNext) b ρ μ) := by
  show Q _
  rw [sSeq_ev, sIf_ev, h]
  exact k
theorem go_not1 {Q : SR → Prop} {a : FS} {c : FT} {ρ : Fw.Env} {μ μ1 : Store} (h : c ρ μ = .ok false μ1) (k : Q (.nx ρ μ1)) : Go Q (sIf c a sNext ρ μ) := by
  show Q _
  rw [sIf_ev, h]
  exact k
theorem go_forS {Q : SR → Prop} {a b : FS} {fi : FI} {g : D → Fw.Env → Store → Res Fw.Env} {it : List D} {src : Option Nat} {ρ : Fw.Env} {μ μ1 : Store} (h : fi ρ μ = .ok (it, src) μ1) (k : Go (thenQ b Q) (forL it src g a it ρ μ1)) : Go Q (sSeq (sFor fi g a) b ρ μ) := go_seqC (go_for h k)
theorem len_lst {L : List D} {μ : Store} : cLenO 0 M_Negativedd__lendd_ [.lst L] μ = .ok (.int (L.length : Nat)) μ := by
  rw [cLenO_ev rfl]
  simp [cLen, seqOf]
end Pg
set_option Elab.async false
set_option linter.all false
set_option maxRecDepth 100000
set_option autoImplicit false
namespace Pg
open PySem L2 Fw
theorem there {w h n c : Nat} (hs : Sz w h n) : ((c : Nat) : Int) + (w : Nat) - 1 - 2 * ((c % w : Nat) : Int) = ((mir w c : Nat) : Int) := by
  have h1 := Nat.div_add_mod c w
  have h2 := Nat.mod_lt c (show w > 0 from hs.w1)
  rw [Nat.mul_comm] at h1
  unfold mir
  generalize c / w * w = q at *
  generalize c % w = m at *
  omega
def over (b : Bool) (R : List Deed) : Bool := R.foldl (fun b d => b != isF d) b
end Pg
set_option Elab.async false
set_option linter.all false
set_option maxRecDepth 100000
set_option autoImplicit false
namespace Pg
open PySem L2 Fw
theorem tk_pos {n w c : Nat} {d : Deed} (hd : OkD n d) : 0 ≤ tk w c d := by
  cases d with
  | flip => simp [tk]
  | draw t s => simp only [tk]; split <;> omega
  | expo t m => have := hd.1; simp only [tk]; split <;> omega
theorem tk_le {n w c : Nat} {d : Deed} (hd : OkD n d) : tk w c d ≤ 99 := by
  cases d with
  | flip => simp [tk]
  | draw t s =>
    obtain ⟨h1, h2, h3, h4⟩ := hd
    have : 0 ≤ s * ((c % w : Nat) : Int) := Int.mul_nonneg (by omega) (by omega)
    simp only [tk]
    split <;> omega
  | expo t m => have := hd.2.1; simp only [tk]; split <;> omega
def snd (w : Nat) (T : List Nat) (R : List Deed) (c : Nat) : Int := lt w T (R ++ R) c - lt w T R c
/-- the light behind k times, f at odd ones, s at even ones -/
def lk (f s : Int) (k : Int) : Int := (k + 1) / 2 * f + k / 2 * s
theorem len_tupS {S : List Nat} {μ : Store} : cLenO 0 M_Negativedd__lendd_ [.tup (nI S)] μ = .ok (.int (S.length : Nat)) μ := by
  rw [cLenO_ev rfl]; simp [cLen, seqOf]
end Pg
set_option Elab.async false
set_option linter.all false
set_option maxRecDepth 100000
set_option autoImplicit false
namespace Pg
open PySem L2 Fw
/-- the number of times that the division tells -/
def un (f s L : Int) : Int := 2 * ((L - 1) / (f + s)) + (if (L - 1) % (f + s) < f then 1 else 2)
end Pg
set_option Elab.async false
set_option linter.all false
set_option maxRecDepth 100000
set_option autoImplicit false
namespace Pg
open PySem L2 Fw
theorem tone_of {S : List Nat} (ok : OkS S) {L : Int} {μ : Store} : M_tone_of [.int L, .tup (nI S)] μ = .ok (.int (tn S L : Nat)) μ := by
  have e := lc_filter (items := nI S) (v := 2) (ft := tB (eBin oLe (eVar 2) (eVar 0))) (ρ := [some (.int L), some (.tup (nI S)), none]) (μ := μ) (S := S) (fun s : Nat => decide ((s : Int) ≤ L)) (by have := ok.le; omega) (by simp) (fun s hs => by simp_arith [oLe_int])
  have e3 : ∀ μ, cLenO 0 M_Negativedd__lendd_ [.lst (nI (S.filter fun s : Nat => decide ((s : Int) ≤ L)))] μ = .ok (.int (tn S L : Nat)) μ := fun μ => by
    rw [cLenO_ev rfl]
    simp [cLen, seqOf, tn]
  unfold M_tone_of B_tone_of
  generalize hz : nI (S.filter fun s : Nat => decide ((s : Int) ≤ L)) = zz at *
  generalize hy : nI S = yy at *
  simp_arith [e, e3]
def lkc (w : Nat) (T : List Nat) (R : List Deed) (c : Nat) (k : Int) : Int := lk (lt w T R c) (snd w T R c) k
def tv (w n : Nat) (T S : List Nat) (R : List Deed) (k : Int) : List Nat := (List.range n).map fun c => tn S (lkc w T R c k)
end Pg
set_option Elab.async false
set_option linter.all false
set_option maxRecDepth 100000
set_option autoImplicit false
namespace Pg
open PySem L2 Fw
theorem lin {w h : Nat} {T : List Nat} : ((["columns", "lines", "figures"] : List Str).zip [D.int (w : Nat), D.int (h : Nat), D.str T]).lookup ("lines" : Str) = some (.int (h : Nat)) := by rfl
theorem neg_h {w h : Nat} {T : List Nat} {μ : Store} : M_Negative_height [neg w h T] μ = .ok (.int (h : Nat)) μ := by
  unfold M_Negative_height B_Negative_height
  simp_arith [eFld_ev, ins_neg, lin]
theorem wk_tup {L : List D} {μ : Store} : oWalk (.tup L) μ = .ok (L, none) μ := (rfl)
end Pg
set_option Elab.async false
set_option linter.all false
set_option maxRecDepth 100000
set_option autoImplicit false
namespace Pg
open PySem L2 Fw
theorem gl0 {μ : Store} {x : Cell} : (μ ++ [x])[μ.length]? = some x := by simp
theorem sl0 {μ : Store} {x y : Cell} : (μ ++ [x]).set μ.length y = μ ++ [y] := by simp
theorem app0 {μ : Store} {ds : List D} {d : D} (h : ds.length < 1000000) : oApp (.loc μ.length) d (μ ++ [.lst ds]) = .ok .non (μ ++ [.lst (ds ++ [d])]) := by
  have : ds.length < LIM := h
  simp only [oApp, gl0, this, if_true, sl0]
theorem isl0 {μ : Store} {ds : List D} : isL (μ ++ [.lst ds]) (.loc μ.length) = true := by simp only [isL, gl0]
end Pg
set_option Elab.async false
set_option linter.all false
set_option maxRecDepth 100000
set_option autoImplicit false
set_option Elab.async false
set_option linter.all false
set_option maxRecDepth 100000
set_option autoImplicit false
namespace Pg
open PySem L2 Fw
theorem check_size {w h n : Nat} (hs : Sz w h n) {μ : Store} : M_check_size [.int (w : Nat), .int (h : Nat)] μ = .ok .non μ := by
  unfold M_check_size B_check_size
  simp_arith [wrong_side hs, oNotN_ev, D.isNon, Bool.not_true, Bool.false_eq_true, if_false]
end Pg
set_option Elab.async false
set_option linter.all false
set_option maxRecDepth 100000
set_option autoImplicit false
namespace Pg
open PySem L2 Fw
end Pg
set_option Elab.async false
set_option linter.all false
set_option maxRecDepth 100000
set_option autoImplicit false
namespace Sc
open PySem L2 Fw Pg
theorem taken {c : Cell} {r : Store} {m : Int} (hc : Row0 c) (h0 : 0 < m) (hm : m < 1073741824) : ∃ (k : Int) (c' : Cell), M_l_taken_2 [.loc 0, .int m] (c :: r) = .ok (.int k) (c' :: r) ∧ Row0 c' ∧ 0 ≤ k ∧ k < m := by
  obtain ⟨ns, a, b, d, hn, rfl, ha⟩ := hc
  unfold M_l_taken_2 B_l_taken_2
  by_cases h : 0 < d
  · refine ⟨d % m, .lst [.flst ns, .int a, .int b, .int (d / m)], ?_, ⟨ns, a, b, _, hn, rfl, ha⟩, Int.emod_nonneg _ (by omega), Int.emod_lt_of_pos _ h0⟩
    simp [oIx, seqOf, ixN, atI, h, oMod_int h0, oFdv_int h0 hm, List.replicate]
  · by_cases h2 : (ns.length : Int) < a + 1
    · refine ⟨(b * 48271 + 11) % 2147483647 / 7 % m, .lst [.flst ns, .int (a + 1), .int ((b * 48271 + 11) % 2147483647), .int d], ?_, ⟨ns, _, _, _, hn, rfl, by omega⟩, Int.emod_nonneg _ (by omega), Int.emod_lt_of_pos _ h0⟩
      simp [oIx, seqOf, ixN, atI, h, oMod_int, oFdv_int, List.replicate, cLenO, insOf, cLen, h2, oMul_int, Sm, h0]
    · have hi : ∃ x, ns[a.toNat]? = some x := by
        rw [List.getElem?_eq_getElem (by omega)]; exact ⟨_, rfl⟩
      obtain ⟨x, hx⟩ := hi
      refine ⟨x % m, .lst [.flst ns, .int (a + 1), .int ((b * 48271 + x + 11) % 2147483647), .int (if 1000000000000000000 ≤ x then x / m else 0)], ?_, ⟨ns, _, _, _, hn, rfl, by omega⟩, Int.emod_nonneg _ (by omega), Int.emod_lt_of_pos _ h0⟩
      have e : atI (ns.map D.int) a = some (.int x) := by
        rw [atI_in (by omega) (by simp; omega)]; simp [hx]
      by_cases h4 : 1000000000000000000 ≤ x
      all_goals simp [oIx, seqOf, ixN, h, oMod_int, oFdv_int h0 hm, List.replicate, cLenO, insOf, cLen, h2, oMul_int, Sm, h0, oPow18, h4, e, show ∀ (a b c d : D) , atI [a, b, c, d] 0 = some a from fun _ _ _ _ => rfl, show ∀ (a b c d : D) , atI [a, b, c, d] 1 = some b from fun _ _ _ _ => rfl, show ∀ (a b c d : D) , atI [a, b, c, d] 2 = some c from fun _ _ _ _ => rfl, show ∀ (a b c d : D) , atI [a, b, c, d] 3 = some d from fun _ _ _ _ => rfl]
theorem pick_lst {c : Cell} {r : Store} {ds : List D} (hc : Row0 c) (hne : ds ≠ []) (hl : ds.length < 1000000) : ∃ (x : D) (c' : Cell), M_l_pick [.loc 0, .lst ds] (c :: r) = .ok x (c' :: r) ∧ Row0 c' ∧ x ∈ ds := by
  have hp : 0 < ds.length := List.length_pos_iff.mpr hne
  obtain ⟨k, c', e, h, h0, h1⟩ := taken (r := r) (m := ds.length) hc (by omega) (by omega)
  have hk : k.toNat < ds.length := by omega
  refine ⟨ds[k.toNat], c', ?_, h, List.getElem_mem hk⟩
  simp [M_l_pick, B_l_pick, cLenO, insOf, cLen, seqOf, e, oIx, atI_in h0 h1, List.getElem?_eq_getElem hk]
@[simp] theorem l02 : lit "02" = [48, 50] := by decide +kernel
@[simp] theorem l4 : lit "4" = [52] := by decide +kernel
@[simp] theorem l0 : lit "0" = [48] := by decide +kernel
def sD (w h : Nat) (T : List Nat) : D := .tup [.int (w : Nat), .int (h : Nat), .str T]
theorem sD0 {w h : Nat} {T : List Nat} {μ : Store} : oIx (sD w h T) (.int 0) μ = .ok (.int (w : Nat)) μ := (rfl)
theorem sD1 {w h : Nat} {T : List Nat} {μ : Store} : oIx (sD w h T) (.int 1) μ = .ok (.int (h : Nat)) μ := (rfl)
theorem covered {c : Cell} {r : Store} {w h n : Nat} {T : List Nat} (hs : Sz w h n) (hc : Row0 c) : ∃ (m : List Nat) (c' : Cell), M_l_covered [.loc 0, sD w h T] (c :: r) = .ok (.tup (m.map fun k => .int (k : Nat))) (c' :: r) ∧ Row0 c' ∧ m.Sublist (List.range n) := by
  obtain ⟨k, c1, e1, h1, k0, k4⟩ := taken (r := r) (m := 4) hc (by omega) (by omega)
  obtain ⟨ys, zs, μ', e, ⟨c', rfl, h'⟩, sb, f⟩ := lc_st (items := rg n) (g := gVar 3) (ft := (tAnd (tB (eBin oEq (eCallD 2 M_l_taken_2 (aCons (eVar 0) (aCons (eVar 2) (aNil)))) (eC (.int 0)))) (tB (eBin oLt (eVar 2) (eC (.int 4)))))) (fe := eVar 3)
    (ρ := [some (.loc 0), some (sD w h T), some (.int (1 + k)), none]) (fun μ => ∃ c, μ = c :: r ∧ Row0 c) (fun d y => d = y) (ds := rg n) (acc := []) (μ := c1 :: r) ⟨c1, rfl, h1⟩
    (by
      rintro d - _ ⟨c, rfl, hc⟩
      obtain ⟨j, c', e, h, _, _⟩ := taken (r := r) (m := 1 + k) hc (by omega) (by omega)
      by_cases hj : j = 0
      · exact ⟨_, _, rfl, decide (1 + k < 4), c' :: r, by subst hj; simp_arith [e, oEq_int, decide_true, oLt_int], fun _ => ⟨c', rfl, h⟩, fun _ => ⟨d, c' :: r, by simp_arith [], ⟨c', rfl, h⟩, rfl⟩⟩
      · exact ⟨_, _, rfl, false, c' :: r, by simp_arith [e, oEq_int, hj, decide_false, Bool.false_eq_true, if_false], fun _ => ⟨c', rfl, h⟩, fun hh => nomatch hh⟩)
    (by rw [len_rg]; have := hs.n9; show 0 + n ≤ 1000000; omega)
  have : ys = zs := by
    clear e sb
    induction f with
    | nil => rfl
    | cons h _ ih => rw [h, ih]
  subst this
  obtain ⟨m, hm, rfl⟩ := List.sublist_map_iff.mp sb
  refine ⟨m, c', ?_, h', hm⟩
  have e5 : ∀ μ, rangeR (.int (n : Int)) μ = .ok (rg n, none) μ := fun μ => rangeR_nat (by have := hs.n9; omega)
  unfold M_l_covered B_l_covered
  simp_arith [e1, oAdd_int, sD0, sD1, mulN hs, e5, e, cTuple, seqOf]
theorem deed {c : Cell} {r : Store} {w h n : Nat} {T : List Nat} (hs : Sz w h n) (hc : Row0 c) : ∃ (d : Deed) (c' : Cell), M_l_deed_2 [.loc 0, sD w h T] (c :: r) = .ok (encD d) (c' :: r) ∧ Row0 c' ∧ OkD n d := by
  obtain ⟨k1, c1, e1, h1, _, _⟩ := taken (r := r) (m := 5) hc (by omega) (by omega)
  obtain ⟨k2, c2, e2, h2, _, _⟩ := taken (r := r) (m := 4) h1 (by omega) (by omega)
  obtain ⟨k3, c3, e3, h3, _, _⟩ := taken (r := r) (m := 12) h2 (by omega) (by omega)
  obtain ⟨k4, c4, e4, h4, _, _⟩ := taken (r := r) (m := 99) h3 (by omega) (by omega)
  obtain ⟨x, c5, e5, h5, m5⟩ := pick_lst (r := r) (ds := [.int k2, .int k3, .int k4]) h4 (by simp) (by simp)
  obtain ⟨t, rfl, t0, t1⟩ : ∃ t, x = .int t ∧ 0 ≤ t ∧ t < 99 := by
    simp at m5
    rcases m5 with rfl | rfl | rfl
    all_goals exact ⟨_, rfl, by omega, by omega⟩
  have hL3 : (3 : Nat) ≤ LIM := by decide
  have hL2 : (2 : Nat) ≤ LIM := by decide
  have hL1 : (1 : Nat) ≤ LIM := by decide
  unfold M_l_deed_2 B_l_deed_2
  by_cases g0 : k1 = 0
  · refine ⟨.flip, c5, ?_, h5, trivial⟩
    subst g0
    simp_arith [e1, e2, e3, e4, hL3, e5, oAdd_int, oEq_int, decide_true, hL1, len_flip, encD]
  · by_cases g1 : k1 = 1
    · obtain ⟨k6, c6, e6, h6, _, _⟩ := taken (r := r) (m := 3) h5 (by omega) (by omega)
      obtain ⟨k7, c7, e7, h7, _, _⟩ := taken (r := r) (m := 99) h6 (by omega) (by omega)
      obtain ⟨x, c8, e8, h8, m8⟩ := pick_lst (r := r) (ds := [.int k6, .int k7]) h7 (by simp) (by simp)
      obtain ⟨u, rfl, u0, u1⟩ : ∃ t, x = .int t ∧ 0 ≤ t ∧ t < 99 := by
        simp at m8
        rcases m8 with rfl | rfl
        all_goals exact ⟨_, rfl, by omega, by omega⟩
      refine ⟨.draw (1 + t) (1 + u), c8, ?_, h8, by simp only [OkD]; omega⟩
      subst g1
      simp_arith [e1, e2, e3, e4, hL3, e5, oAdd_int, oEq_int, decide_false, Bool.false_eq_true, if_false, g0, decide_true, e6, e7, e8, hL2, len_draw, encD]
    · obtain ⟨m, c6, e6, h6, sb⟩ := covered (r := r) (T := T) hs h5
      refine ⟨.expo (1 + t) m, c6, ?_, h6, by simp only [OkD]; exact ⟨by omega, by omega, sb⟩⟩
      simp_arith [e1, e2, e3, e4, hL3, e5, oAdd_int, oEq_int, decide_false, Bool.false_eq_true, if_false, g0, g1, e6, len_expo, encD]
theorem recipe {c : Cell} {r : Store} {w h n : Nat} {T : List Nat} (hs : Sz w h n) (hc : Row0 c) : ∃ (R : List Deed) (c' : Cell), M_l_recipe_2 [.loc 0, sD w h T, .int 8] (c :: r) = .ok (.tup (R.map encD)) (c' :: r) ∧ Row0 c' ∧ R.length ≤ 8 ∧ ∀ d ∈ R, OkD n d := by
  obtain ⟨k, c1, e1, h1, k0, k9⟩ := taken (r := r) (m := 9) hc (by omega) (by omega)
  obtain ⟨j, rfl⟩ := Int.eq_ofNat_of_zero_le k0
  obtain ⟨ys, μ', e, ⟨c', rfl, h'⟩, f⟩ := lc_all (items := rg j) (g := gVar 3) (ft := fun _ μ => .ok true μ) (fe := eCallD 2 M_l_deed_2 (aCons (eVar 0) (aCons (eVar 1) (aNil))))
    (ρ := [some (.loc 0), some (sD w h T), some (.int 8), none]) (fun μ => ∃ c, μ = c :: r ∧ Row0 c) (fun _ y => ∃ d, y = encD d ∧ OkD n d) (ds := rg j) (acc := []) (μ := c1 :: r) ⟨c1, rfl, h1⟩
    (by
      rintro d - _ ⟨c, rfl, hc⟩
      obtain ⟨x, c', e, h, m⟩ := deed (r := r) (T := T) hs hc
      exact ⟨_, _, rfl, _, rfl, encD x, c' :: r, by simp_arith [e], ⟨c', rfl, h⟩, x, rfl, m⟩)
    (by rw [len_rg]; show 0 + j ≤ 1000000; omega)
  obtain ⟨R, rfl, hl, hR⟩ := f.map_of (Q := OkD n) (f := encD) (fun _ _ ⟨k, e, m⟩ => ⟨k, e, m⟩)
  rw [len_rg] at hl
  refine ⟨R, c', ?_, h', by omega, hR⟩
  have e5 : ∀ μ, rangeR (.int (j : Int)) μ = .ok (rg j, none) μ := fun μ => rangeR_nat (by omega)
  unfold M_l_recipe_2 B_l_recipe_2
  simp_arith [oAdd_int, Int.reduceAdd, e1, e5, e, cTuple, seqOf]
section
variable {μ r l : Store} {a b c : Cell} {ds : List D}
theorem g0 : (μ ++ a :: r)[μ.length]? = some a := by simp
theorem s0 : (μ ++ a :: r).set μ.length c = μ ++ c :: r := by simp
theorem g1 : (μ ++ a :: b :: r)[μ.length + 1]? = some b := by simp
theorem s1 : (μ ++ a :: b :: r).set (μ.length + 1) c = μ ++ a :: c :: r := by simp
theorem app0 {e : D} (h : ds.length < LIM) : oApp (.loc μ.length) e (μ ++ .lst ds :: r) = .ok .non (μ ++ .lst (ds ++ [e]) :: r) := by simp [oApp, h]
end
theorem last {α : Type} {pre : List α} {x : α} : atI (pre ++ [x]) (-1) = some x := by
  have h1 : ixN (pre ++ [x]).length (-1) = some pre.length := by
    unfold ixN
    rw [if_neg (by omega), if_pos (by simp; omega)]
    congr 1
    simp; omega
  simp only [atI, h1, Option.bind_some]
  simp
end Sc
set_option Elab.async false
set_option linter.all false
set_option maxRecDepth 100000
set_option autoImplicit false
namespace Pg
open PySem L2 Fw
def tzN (f s : Int) (S : List Nat) (t : Nat) : Int := if t = 0 then 0 else un f s (S.getD (t - 1) 0 : Nat)
structure Lt (f s : Int) (S : List Nat) (k : Nat) : Prop where
  pos : 1 ≤ tzN f s S k
  le : tzN f s S k ≤ 20000
  ge : ((S.getD (k - 1) 0 : Nat) : Int) ≤ lk f s (tzN f s S k)
  lt : lk f s (tzN f s S k - 1) < ((S.getD (k - 1) 0 : Nat) : Int)
  mono : tzN f s S (k - 1) ≤ tzN f s S k
end Pg
set_option Elab.async false
set_option linter.all false
set_option maxRecDepth 100000
set_option autoImplicit false
namespace Sc
open PySem L2 Fw Pg
def rep (R : List Deed) (k : Nat) : List Deed := (List.replicate k R).flatten
end Sc
set_option Elab.async false
set_option linter.all false
set_option maxRecDepth 100000
set_option autoImplicit false
namespace Pg
open PySem L2 Fw
structure OkV (n m : Nat) (V : List Nat) : Prop where
  len : V.length = n
  ch : ∀ c ∈ V, c = 63 ∨ (48 ≤ c ∧ c ≤ 48 + m)
@[simp] theorem lq : lit "?" = [63] := by decide +kernel
@[simp] theorem l_c : lit "c" = [99] := by decide +kernel
@[simp] theorem l_o : lit "o" = [111] := by decide +kernel
theorem cut_tones {m : Nat} (h1 : 1 ≤ m) (h5 : m ≤ 5) {μ : Store} : oCut (.str [48, 49, 50, 51, 52, 53]) none (some ((m : Int) + 1)) μ = .ok (.str ((List.range (m + 1)).map fun i => 48 + i)) μ := by
  obtain rfl | rfl | rfl | rfl | rfl : m = 1 ∨ m = 2 ∨ m = 3 ∨ m = 4 ∨ m = 5 := by omega
  all_goals rfl
@[simp] theorem l012345 : lit "012345" = [48, 49, 50, 51, 52, 53] := by decide +kernel
def sh (S : List Nat) (v : Nat) (L : Int) : Bool := decide (v = 63) || decide (v = 48 + tn S L)
theorem shows {S : List Nat} (ok : OkS S) {v : Nat} (hv : v = 63 ∨ (48 ≤ v ∧ v ≤ 57)) {L : Int} {μ : Store} : M_shows [.str [v], .int L, .tup (nI S)] μ = .ok (.bl (sh S v L)) μ := by
  have e1 : ∀ μ, oEq (.str [v]) (.str [63]) μ = .ok (.bl (decide (v = 63))) μ := fun μ => by
    rw [oEq_str (by simp; omega) (by decide)]
    congr 2
    rw [Bool.eq_iff_iff]
    simp
  have t := fun μ => tone_of ok (L := L) (μ := μ)
  unfold M_shows B_shows
  by_cases h : v = 63
  · have e2 : ∀ μ, oEq (.str [v]) (.str [63]) μ = .ok (.bl true) μ := fun μ => by rw [e1, decide_eq_true h]
    have hs : sh S v L = true := by simp [sh, h]
    rw [hs]
    generalize nI S = zz at *
    simp_arith [eOr_ev, lq, e2]
  · have e2 : ∀ μ, oEq (.str [v]) (.str [63]) μ = .ok (.bl false) μ := fun μ => by rw [e1, decide_eq_false h]
    obtain ⟨k, rfl⟩ : ∃ k, v = 48 + k := ⟨v - 48, by omega⟩
    have i9 := fun μ => int9 (k := k) (by omega) (μ := μ)
    have hs : sh S (48 + k) L = decide (((k : Nat) : Int) = (tn S L : Nat)) := by
      rw [sh, decide_eq_false h, Bool.false_or, Bool.eq_iff_iff]
      simp only [decide_eq_true_eq]
      omega
    rw [hs]
    generalize nI S = zz at *
    simp_arith [eOr_ev, lq, e2, Bool.false_eq_true, if_false, i9, t, oEq_int]
theorem check_seen {n m : Nat} (h1 : 1 ≤ m) (h5 : m ≤ 5) (h9 : n ≤ 9) {V : List Nat} (ok : OkV n m V) {μ : Store} : M_check_seen [.str V, .int (m : Nat), .int (n : Nat)] μ = .ok .non μ := by
  have hG2 : n ≤ LIM := by show _ ≤ 1000000; omega
  have lG : ∀ μ, cLenO 0 M_Negativedd__lendd_ [.str V] μ = .ok (.int (n : Nat)) μ := fun μ => by
    rw [cLenO_ev rfl]
    simp only [cLen, ok.len, hG2, if_true]
  have e := lc_map (items := V.map fun c => D.str [c]) (v := 3) (fe := eBin (oIn false) (eVar 3) (eVar 1)) (ρ := [some (.str V), some (.str (((List.range (m + 1)).map fun i => 48 + i) ++ [63])), some (.int (n : Nat)), none]) (μ := μ) (ds := V.map fun c => D.str [c]) (f := fun _ => .bl true)
    (by simp; rw [ok.len]; omega) (by simp) (fun d hd => by
      obtain ⟨c, hc, rfl⟩ := List.mem_map.mp hd
      have hh := ok.ch c hc
      have : c ∈ ((List.range (m + 1)).map fun i => 48 + i) ++ [63] := by
        rcases hh with rfl | hh
        · simp
        · exact List.mem_append_left _ (List.mem_map.mpr ⟨c - 48, List.mem_range.mpr (by omega), by omega⟩)
      generalize ((List.range (m + 1)).map fun i => 48 + i) ++ [63] = tt at *
      simp_arith []
      simp only [oIn, this, decide_true, Bool.false_eq_true, if_false])
  have e3 : ∀ μ, cAll [.lst ((V.map fun c => D.str [c]).map fun _ => D.bl true)] μ = .ok (.bl true) μ := fun μ => by
    have := blsAll (T := V) (p := fun _ => true) (fun _ _ => rfl)
    simp only [List.map_map, Function.comp_def, cAll, lstOf, this]
  have e4 : ∀ (ρ : Fw.Env) μ, eIsi "str" (eVar 0) (some (.str V) :: ρ) μ = .ok (.bl true) μ := fun ρ μ => by rfl
  have ct := fun μ => cut_tones h1 h5 (μ := μ)
  have ad : ∀ μ, oAdd (.str ((List.range (m + 1)).map fun i => 48 + i)) (.str [63]) μ = .ok (.str (((List.range (m + 1)).map fun i => 48 + i) ++ [63])) μ := fun μ => by
    have : ((List.range (m + 1)).map fun i => 48 + i).length + [63].length ≤ LIM := by simp; show _ ≤ 1000000; omega
    simp only [oAdd, this, if_true]
  have cf : M_check_figures [.str V, .str (((List.range (m + 1)).map fun i => 48 + i) ++ [63]), .int (n : Nat)] μ = .ok .non μ := by
    generalize hz : (V.map fun c => D.str [c]) = gg at *
    generalize (gg.map fun _ => D.bl true) = bb at *
    generalize ((List.range (m + 1)).map fun i => 48 + i) ++ [63] = tt at *
    have ow : ∀ μ, oWalk (.str V) μ = .ok (gg, none) μ := fun μ => by rw [← hz]; rfl
    unfold M_check_figures B_check_figures
    simp only [mD_ev, sIf_ev, tOr_ev, tNot_ev, tB_ev, e4, List.map_cons, List.map_nil, List.length_cons, List.length_nil, Nat.reduceAdd, Nat.reduceSub, List.reduceReplicate, List.cons_append, List.nil_append, bok, Bool.not_true, Bool.false_eq_true, if_false, eBin_ev, eCall_ev, aCons_ev, aNil_ev, eVar_ev, List.getElem?_cons_zero, List.getElem?_cons_succ, lG, oNe_int, decide_true, eLc_ev, iOf_ev, ow, wipeE, List.set_cons_succ, List.set_cons_zero, e, e3, sok, sNext_ev]
  generalize (((List.range (m + 1)).map fun i => 48 + i) ++ [63]) = t2 at *
  unfold M_check_seen B_check_seen
  simp_arith [l012345, lq, eCut_ev, oNone_ev, oSome_ev, oAdd_int, ct, ad, cf]
theorem ch_seen {n m c : Nat} {V : List Nat} (ok : OkV n m V) (hc : c < n) : V.getD c 63 = 63 ∨ (48 ≤ V.getD c 63 ∧ V.getD c 63 ≤ 48 + m) := by
  have hl := ok.len
  refine ok.ch _ ?_
  rw [List.getD_eq_getElem?_getD, List.getElem?_eq_getElem (by omega)]
  exact List.getElem_mem _
end Pg
set_option Elab.async false
set_option linter.all false
set_option maxRecDepth 100000
set_option autoImplicit false
namespace Pg
open PySem L2 Fw
/-- a comprehension over plain things -/
theorem lc_mp {α : Type} {F : α → D} {items : List D} {g : D → Fw.Env → Store → Res Fw.Env} {ft : FT} {fe : FE} {ρ : Fw.Env} {μ : Store} (p : α → Bool) (f : α → D) {L : List α}
    (h : ∀ x ∈ L, ∃ ρ1, g (F x) ρ μ = .ok ρ1 μ ∧ ft ρ1 μ = .ok (p x) μ ∧ (p x = true → fe ρ1 μ = .ok (f x) μ)) (hl : L.length ≤ LIM) :
    lcL items none g ft fe ρ (L.map F) μ [] = .ok (.lst ((L.filter p).map f)) μ := by
  have gen : ∀ (L : List α) (acc : List D), (∀ x ∈ L, ∃ ρ1, g (F x) ρ μ = .ok ρ1 μ ∧ ft ρ1 μ = .ok (p x) μ ∧ (p x = true → fe ρ1 μ = .ok (f x) μ)) → acc.length + L.length ≤ LIM → lcL items none g ft fe ρ (L.map F) μ acc = .ok (.lst (acc ++ (L.filter p).map f)) μ := by
    intro L
    induction L with
    | nil => intro acc _ _; simp [lcL, srcOk]
    | cons d ds ih =>
      intro acc h hl
      obtain ⟨ρ1, h1, h2, h3⟩ := h d (by simp)
      simp only [List.map_cons, lcL, srcOk, if_true, h1, Res.mute_ok, Res.bind_ok, h2]
      simp only [List.length_cons] at hl
      cases hp : p d with
      | false =>
        simp only [Bool.false_eq_true, if_false]
        rw [ih acc (fun d' m => h d' (by simp [m])) (by omega)]
        simp [hp]
      | true =>
        simp only [if_true, h3 hp, Res.mute_ok, Res.bind_ok]
        rw [if_pos (by omega), ih _ (fun d' m => h d' (by simp [m])) (by simp; omega)]
        simp [hp]
  have := gen L [] h (by simpa using hl)
  rwa [List.nil_append] at this
theorem lc_mpA {α : Type} {F : α → D} {items : List D} {g : D → Fw.Env → Store → Res Fw.Env} {fe : FE} {ρ : Fw.Env} {μ : Store} (f : α → D) {L : List α}
    (h : ∀ x ∈ L, ∃ ρ1, g (F x) ρ μ = .ok ρ1 μ ∧ fe ρ1 μ = .ok (f x) μ) (hl : L.length ≤ LIM) :
    lcL items none g (fun _ μ => .ok true μ) fe ρ (L.map F) μ [] = .ok (.lst (L.map f)) μ := by
  have := lc_mp (items := items) (F := F) (g := g) (ft := fun _ μ => .ok true μ) (fe := fe) (ρ := ρ) (μ := μ) (fun _ => true) f (L := L) (fun x hx => by
    obtain ⟨ρ1, h1, h2⟩ := h x hx
    exact ⟨ρ1, h1, rfl, fun _ => h2⟩) hl
  rwa [List.filter_eq_self.mpr (fun _ _ => rfl)] at this
theorem lc_acc {α : Type} {F : α → D} {items : List D} {g : D → Fw.Env → Store → Res Fw.Env} {fe : FE} {ρ : Fw.Env} {μ : Store} (f : α → D) {L : List α} {acc : List D}
    (h : ∀ x ∈ L, ∃ ρ1, g (F x) ρ μ = .ok ρ1 μ ∧ fe ρ1 μ = .ok (f x) μ) (hl : acc.length + L.length ≤ LIM) :
    lcL items none g (fun _ μ => .ok true μ) fe ρ (L.map F) μ acc = .ok (.lst (acc ++ L.map f)) μ := by
  induction L generalizing acc with
  | nil => simp [lcL, srcOk]
  | cons d ds ih =>
    obtain ⟨ρ1, h1, h3⟩ := h d (by simp)
    simp only [List.length_cons] at hl
    simp only [List.map_cons, lcL, srcOk, if_true, h1, Res.mute_ok, Res.bind_ok, h3]
    rw [if_pos (by omega), ih (fun d' m => h d' (by simp [m])) (by simp; omega)]
    simp
abbrev tI (is : List Nat) : D := .tup (nI is)
theorem enum_rg {n : Nat} {F : Nat → D} : enumD ((List.range n).map F) = (List.range n).map fun c => .tup [.int (c : Nat), F c] := by
  unfold enumD
  apply List.ext_getElem?
  intro i
  by_cases hi : i < n
  · simp [List.getElem?_range hi]
  · rw [List.getElem?_eq_none (by simp; omega), List.getElem?_eq_none (by simp; omega)]
end Pg
set_option Elab.async false
set_option linter.all false
set_option maxRecDepth 100000
set_option autoImplicit false
namespace Pg
open PySem L2 Fw
def cvr (S V : List Nat) (c : Nat) : Bool := sh S (V.getD c 63) 0
def opn (T S V : List Nat) (t c : Nat) : Bool := sh S (V.getD c 63) ((t : Nat) * W T c)
def way (T S V : List Nat) (t c : Nat) : List Nat := (if cvr S V c = true then [99] else []) ++ (if opn T S V t c = true then [111] else [])
theorem fin_locS {μ : Store} {ds : List D} (h : lows μ.length ds = true) (hμ : μ.all (lowC μ.length) = true) : Fw.fin μ.length (.ok (.loc μ.length) (μ ++ [.lst ds])) = .ok (.lst ds) μ := by
  simp only [Fw.fin, Nat.lt_irrefl, if_false, gl0, h, List.take_left', hμ, Bool.and_self, if_true]
def prodN : List Nat → Nat
  | [] => 1
  | a :: L => a * prodN L
theorem prodN_app {A B : List Nat} : prodN (A ++ B) = prodN A * prodN B := by
  induction A with
  | nil => simp [prodN]
  | cons a A ih => simp [prodN, ih, Nat.mul_assoc]
def lens (n : Nat) (T S V : List Nat) (t : Nat) : List Nat := (List.range n).map fun c => (way T S V t c).length
def cnt (n : Nat) (T S V : List Nat) (t : Nat) : Nat := prodN (lens n T S V t)
end Pg
set_option Elab.async false
set_option linter.all false
set_option maxRecDepth 100000
set_option autoImplicit false
namespace Pg
open PySem L2 Fw
end Pg
set_option Elab.async false
set_option linter.all false
set_option maxRecDepth 100000
set_option autoImplicit false
namespace Pg
open PySem L2 Fw
end Pg
set_option Elab.async false
set_option linter.all false
set_option maxRecDepth 100000
set_option autoImplicit false
set_option Elab.async false
set_option linter.all false
set_option maxRecDepth 100000
set_option autoImplicit false
set_option Elab.async false
set_option linter.all false
set_option maxRecDepth 100000
set_option autoImplicit false
set_option Elab.async false
set_option linter.all false
set_option maxRecDepth 100000
set_option autoImplicit false
namespace Pg
open PySem L2 Fw
end Pg
set_option Elab.async false
set_option linter.all false
set_option maxRecDepth 100000
set_option autoImplicit false
namespace Pg
def lastN (r : List Nat) : Nat := r.getD (r.length - 1) 0
def nxt (q : Nat → Nat → Bool) (n : Nat) (r : List Nat) : List Nat := ((List.range n).filter fun j => q (lastN r) j).filter fun j => !decide (j ∈ r)
def lev (q : Nat → Nat → Bool) (n : Nat) : Nat → List (List Nat)
  | 0 => (List.range n).map fun i => [i]
  | k + 1 => (lev q n k).flatMap fun r => (nxt q n r).map fun j => r ++ [j]
/-- how many lengths there are -/
def tops (q : Nat → Nat → Bool) (n : Nat) : Nat → Nat → Nat
  | 0, k => k
  | b + 1, k => if lev q n k = [] then k else tops q n b (k + 1)
def top (q : Nat → Nat → Bool) (n : Nat) : Nat := tops q n n 0
end Pg
set_option Elab.async false
set_option linter.all false
set_option maxRecDepth 100000
set_option autoImplicit false
namespace Pg
end Pg
set_option Elab.async false
set_option linter.all false
set_option maxRecDepth 100000
set_option autoImplicit false
namespace Pg
open PySem L2 Fw
end Pg
set_option Elab.async false
set_option linter.all false
set_option maxRecDepth 100000
set_option autoImplicit false
namespace K51
open PySem L2 Fw Pg
theorem okX : OkS [1, 2, 3, 4, 5] := ⟨by decide, by decide, by decide, by decide⟩
def one (b : Bool) : Nat := if b = true then 1 else 0
end K51
set_option Elab.async false
set_option linter.all false
set_option maxRecDepth 100000
set_option autoImplicit false
set_option Elab.async false
set_option linter.all false
set_option maxRecDepth 100000
set_option autoImplicit false
set_option Elab.async false
set_option linter.all false
set_option maxRecDepth 100000
set_option autoImplicit false
namespace K72
open PySem L2 Fw Pg Sc
def made (n : Nat) (T S : List Nat) (t : Nat) (m : List Nat) : List Nat := (List.range n).map fun c => if c ∈ m then 48 else 48 + tn S ((t : Nat) * W T c)
end K72
set_option Elab.async false
set_option linter.all false
set_option maxRecDepth 100000
set_option autoImplicit false
namespace K10
open PySem L2 Fw Pg Sc
section
variable {w h n : Nat} {R : List Deed} {S V X : List Nat} {c a b : Nat}
/-- the light at a cell under figures a and b -/
def lgt (w : Nat) (R : List Deed) (c a b : Nat) : Int := (op w R c).2.1 * wt a + (op w R c).2.2 * wt b
def okp (w : Nat) (R : List Deed) (S V : List Nat) (c a b : Nat) : Bool := sh S (V.getD c 63) (lgt w R c a b) && sh S (V.getD (mir w c) 63) (lgt w R (mir w c) b a)
/-- the pairs of figures -/
def dp (one : Bool) : List (Nat × Nat) := (List.range 5).flatMap fun a => ((List.range 5).filter fun b => decide (a = b) || !one).map fun b => (a, b)
theorem mem_dp {one : Bool} {p : Nat × Nat} : p ∈ dp one ↔ p.1 < 5 ∧ p.2 < 5 ∧ (one = true → p.1 = p.2) := by
  unfold dp
  simp only [List.mem_flatMap, List.mem_map, List.mem_filter, List.mem_range]
  constructor
  · rintro ⟨a, ha, b, ⟨hb, h⟩, rfl⟩
    refine ⟨ha, hb, fun e => ?_⟩
    subst e
    simpa using h
  · rintro ⟨h1, h2, h3⟩
    refine ⟨p.1, h1, p.2, ⟨h2, ?_⟩, rfl⟩
    cases one with
    | true => simpa using h3 rfl
    | false => simp
def wys (w : Nat) (R : List Deed) (S V : List Nat) (c : Nat) : List (Nat × Nat) := (dp (decide (mir w c = c))).filter fun p => okp w R S V c (48 + p.1) (48 + p.2)
/-- a text by a way for each pair of cells -/
def mk (w n : Nat) (f : Nat → Nat × Nat) : List Nat := (List.range n).map fun c => 48 + if c ≤ mir w c then (f c).1 else (f (mir w c)).2
def free (w n : Nat) (R : List Deed) (S V : List Nat) : Bool := (List.range n).all fun c => !(wys w R S V c).isEmpty
def c5 (f : Nat → Nat) : Nat := f 0 + (f 1 + (f 2 + (f 3 + (f 4 + 0))))
/-- the cells that come first of their pair -/
def fro (w n : Nat) : List Nat := (List.range n).filter fun c => decide (c ≤ mir w c)
end
end K10
set_option Elab.async false
set_option linter.all false
set_option maxRecDepth 100000
set_option autoImplicit false
namespace Vw
open PySem L2 Fw Pg Sc K10
section
variable {w h n : Nat} {R : List Deed} {S V T : List Nat} {c d t : Nat}
def tpr (w : Nat) (R : List Deed) (S : List Nat) (c : Nat) (p : Nat × Nat) : Nat := tn S (lgt w R c (48 + p.1) (48 + p.2))
def tl (w : Nat) (R : List Deed) (S V : List Nat) (c : Nat) : List Nat := (wys w R S V c).map (tpr w R S c)
def nc (w n : Nat) (R : List Deed) (S V : List Nat) : Nat := prodN ((fro w n).map fun c => (wys w R S V c).length)
def rest (w n : Nat) (R : List Deed) (S V : List Nat) (c : Nat) : Nat := prodN (((fro w n).erase (if c ≤ mir w c then c else mir w c)).map fun d => (wys w R S V d).length)
def mx (L : List Nat) : Nat := (L.map fun t => L.count t).foldr max 0
end
end Vw
set_option Elab.async false
set_option linter.all false
set_option maxRecDepth 100000
set_option autoImplicit false
namespace K10
open PySem L2 Fw Pg Sc
abbrev pP (p : Nat × Nat) : D := .tup [.int (p.1 : Nat), .int (p.2 : Nat)]
theorem density_pairs {one : Bool} {μ : Store} : M_density_pairs [.bl one] μ = .ok (.lst ((dp one).map pP)) μ := by
  cases one <;> rfl
theorem ix_text {Q : List Nat} {n c z : Nat} (hQ : Q.length = n) (hn : n ≤ 9) (hc : c < n) {μ : Store} : oIx (.str Q) (.int (c : Nat)) μ = .ok (.str [Q.getD c z]) μ := by
  have hL : Q.length ≤ LIM := by rw [hQ]; show n ≤ 1000000; omega
  have e : atI Q (c : Nat) = some (Q.getD c z) := by
    rw [atI_in (by omega) (by omega), Int.toNat_natCast, List.getD_eq_getElem?_getD, List.getElem?_eq_getElem (by omega)]; rfl
  simp only [oIx, hL, if_true, e]
theorem light2 {x y : Int} {a b : Nat} (ha : a < 5) (hb : b < 5) {μ : Store} : M_light_by [.tup [.int x, .int y], .int (a : Nat), .int (b : Nat)] μ = .ok (.int (x * wt (48 + a) + y * wt (48 + b))) μ := by
  have := light_by (a := x) (b := y) (c := 48 + a) (d := 48 + b) (by omega) (by omega) (μ := μ)
  rw [show (((48 + a : Nat) : Int) - 48) = (a : Nat) by omega, show (((48 + b : Nat) : Int) - 48) = (b : Nat) by omega] at this
  exact this
theorem low_pP {k : Nat} {L : List (Nat × Nat)} : lows k (L.map pP) = true := by
  induction L with
  | nil => rfl
  | cons p L ih =>
    rw [List.map_cons, lows, ih]
    rfl
theorem ways_of {w h n c : Nat} {R : List Deed} {S V : List Nat} (hs : Sz w h n) (ok : OkS S) (okV : OkV n S.length V) (hc : c < n) {μ : Store} (hμ : μ.all (lowC μ.length) = true) :
    M_ways_of [.int (w : Nat), .tup (nI S), .tup (R.map encD), .str V, .int (c : Nat)] μ = .ok (.lst ((wys w R S V c).map pP)) μ := by
  have h9 := hs.n9
  have s5 := ok.le
  have hm := mir_lt hs hc
  have hL0 : 0 ≤ LIM := by decide
  have hL2 : 2 ≤ LIM := by decide
  have m1 : mD 13 B_ways_of [.int (w : Nat), .tup (nI S), .tup (R.map encD), .str V, .int (c : Nat)] μ = .ok (.loc μ.length) (μ ++ [.lst ((wys w R S V c).map pP)]) := by
    unfold B_ways_of
    refine mD_of ?_
    have mi : ∀ μ, M_mirrored [.int (c : Nat), .int (w : Nat)] μ = .ok (.int ((mir w c : Nat) : Int)) μ := fun μ => mirrored hs
    have o1 : ∀ μ, M_open_pair [.int (w : Nat), .tup (R.map encD), .int (c : Nat)] μ = .ok (.tup [.int (op w R c).2.1, .int (op w R c).2.2]) μ := fun μ => open_pair hs
    have o2 : ∀ μ, M_open_pair [.int (w : Nat), .tup (R.map encD), .int ((mir w c : Nat) : Int)] μ = .ok (.tup [.int (op w R (mir w c)).2.1, .int (op w R (mir w c)).2.2]) μ := fun μ => open_pair hs
    have e0 : (decide (((mir w c : Nat) : Int) = (c : Nat))) = decide (mir w c = c) := by
      rw [Bool.eq_iff_iff, decide_eq_true_eq, decide_eq_true_eq]
      omega
    have d1 := fun μ => density_pairs (one := decide (mir w c = c)) (μ := μ)
    have iv : ∀ c, c < n → ∀ μ, oIx (.str V) (.int (c : Nat)) μ = .ok (.str [V.getD c 63]) μ := fun c hc μ => ix_text okV.len h9 hc
    have i1 := iv c hc
    have i2 := iv (mir w c) hm
    refine go_seq (ρ1 := [some (.int (w : Nat)), some (.tup (nI S)), some (.tup (R.map encD)), some (.str V), some (.int (c : Nat)), some (.int ((mir w c : Nat) : Int)), none, none, none, none, none, none, none]) (μ1 := μ) ?_ ?_
    · generalize R.map encD = gg0 at *
      generalize nI S = gg1 at *
      simp_arith [mi]
    refine go_seq (ρ1 := [some (.int (w : Nat)), some (.tup (nI S)), some (.tup (R.map encD)), some (.str V), some (.int (c : Nat)), some (.int ((mir w c : Nat) : Int)), some (.tup [.int (op w R c).2.1, .int (op w R c).2.2]), some (.tup [.int (op w R (mir w c)).2.1, .int (op w R (mir w c)).2.2]), none, none, none, none, none]) (μ1 := μ) ?_ ?_
    · generalize R.map encD = gg0 at *
      generalize nI S = gg1 at *
      simp_arith [o1, o2]
    refine go_seq (ρ1 := [some (.int (w : Nat)), some (.tup (nI S)), some (.tup (R.map encD)), some (.str V), some (.int (c : Nat)), some (.int ((mir w c : Nat) : Int)), some (.tup [.int (op w R c).2.1, .int (op w R c).2.2]), some (.tup [.int (op w R (mir w c)).2.1, .int (op w R (mir w c)).2.2]), some (.loc μ.length), none, none, none, none]) (μ1 := μ ++ [.lst []]) ?_ ?_
    · generalize R.map encD = gg0 at *
      generalize nI S = gg1 at *
      simp_arith [hL0]
    refine go_forS (it := (dp (decide (mir w c = c))).map pP) (src := none) (μ1 := μ ++ [.lst []]) ?_ ?_
    · generalize R.map encD = gg0 at *
      generalize nI S = gg1 at *
      generalize (dp (decide (mir w c = c))).map pP = gg2 at *
      simp_arith [oEq_int, e0, d1]
    refine go_mp (f := pP) (L := dp (decide (mir w c = c))) (J := fun i ρ μ' => ∃ x9 x10 x11 x12, ρ = [some (.int (w : Nat)), some (.tup (nI S)), some (.tup (R.map encD)), some (.str V), some (.int (c : Nat)), some (.int ((mir w c : Nat) : Int)), some (.tup [.int (op w R c).2.1, .int (op w R c).2.2]), some (.tup [.int (op w R (mir w c)).2.1, .int (op w R (mir w c)).2.2]), some (.loc μ.length), x9, x10, x11, x12] ∧ μ' = μ ++ [.lst ((((dp (decide (mir w c = c))).take i).filter fun p => okp w R S V c (48 + p.1) (48 + p.2)).map pP)]) ⟨_, _, _, _, rfl, rfl⟩ ?_ ?_
    · rintro i p hp _ _ ⟨x9, x10, x11, x12, rfl, rfl⟩
      obtain ⟨a5, b5, _⟩ := mem_dp.mp (List.mem_of_getElem? hp)
      refine ⟨[some (.int (w : Nat)), some (.tup (nI S)), some (.tup (R.map encD)), some (.str V), some (.int (c : Nat)), some (.int ((mir w c : Nat) : Int)), some (.tup [.int (op w R c).2.1, .int (op w R c).2.2]), some (.tup [.int (op w R (mir w c)).2.1, .int (op w R (mir w c)).2.2]), some (.loc μ.length), some (.int (p.1 : Nat)), some (.int (p.2 : Nat)), x11, x12], _, rfl, ?_⟩
      have et : (dp (decide (mir w c = c))).take (i + 1) = (dp (decide (mir w c = c))).take i ++ [p] := by rw [List.take_add_one, hp]; rfl
      have hlen : ((((dp (decide (mir w c = c))).take i).filter fun p => okp w R S V c (48 + p.1) (48 + p.2)).map pP).length < 1000000 := by
        rw [List.length_map]
        have h1 := List.length_filter_le (fun p => okp w R S V c (48 + p.1) (48 + p.2)) ((dp (decide (mir w c = c))).take i)
        have h2 : (dp (decide (mir w c = c))).length ≤ 25 := by cases decide (mir w c = c) <;> decide
        rw [List.length_take] at h1
        omega
      rw [et, List.filter_append, List.map_append]
      generalize ((((dp (decide (mir w c = c))).take i).filter fun p => okp w R S V c (48 + p.1) (48 + p.2)).map pP) = A at *
      have l1 : ∀ μ, M_light_by [.tup [.int (op w R c).2.1, .int (op w R c).2.2], .int (p.1 : Nat), .int (p.2 : Nat)] μ = .ok (.int (lgt w R c (48 + p.1) (48 + p.2))) μ := fun μ => light2 a5 b5
      have l2 : ∀ μ, M_light_by [.tup [.int (op w R (mir w c)).2.1, .int (op w R (mir w c)).2.2], .int (p.2 : Nat), .int (p.1 : Nat)] μ = .ok (.int (lgt w R (mir w c) (48 + p.2) (48 + p.1))) μ := fun μ => light2 b5 a5
      have hv := fun c hc => ch_seen okV (c := c) hc
      have v1 := hv c hc
      have v2 := hv (mir w c) hm
      have s1 : ∀ μ, M_shows [.str [V.getD c 63], .int (lgt w R c (48 + p.1) (48 + p.2)), .tup (nI S)] μ = .ok (.bl (sh S (V.getD c 63) (lgt w R c (48 + p.1) (48 + p.2)))) μ := fun μ => shows ok (by omega)
      have s2 : ∀ μ, M_shows [.str [V.getD (mir w c) 63], .int (lgt w R (mir w c) (48 + p.2) (48 + p.1)), .tup (nI S)] μ = .ok (.bl (sh S (V.getD (mir w c) 63) (lgt w R (mir w c) (48 + p.2) (48 + p.1)))) μ := fun μ => shows ok (by omega)
      refine go_seq (ρ1 := [some (.int (w : Nat)), some (.tup (nI S)), some (.tup (R.map encD)), some (.str V), some (.int (c : Nat)), some (.int ((mir w c : Nat) : Int)), some (.tup [.int (op w R c).2.1, .int (op w R c).2.2]), some (.tup [.int (op w R (mir w c)).2.1, .int (op w R (mir w c)).2.2]), some (.loc μ.length), some (.int (p.1 : Nat)), some (.int (p.2 : Nat)), some (.int (lgt w R c (48 + p.1) (48 + p.2))), some (.int (lgt w R (mir w c) (48 + p.2) (48 + p.1)))]) (μ1 := μ ++ [.lst A]) ?_ ?_
      · generalize R.map encD = gg0 at *
        generalize nI S = gg1 at *
        simp_arith [l1, l2]
      have isl : isL (μ ++ [.lst A]) (.loc μ.length) = true := isl0
      have ap : oApp (.loc μ.length) (.tup [.int (p.1 : Nat), .int (p.2 : Nat)]) (μ ++ [.lst A]) = .ok .non (μ ++ [.lst (A ++ [pP p])]) := Pg.app0 hlen
      by_cases hk : okp w R S V c (48 + p.1) (48 + p.2) = true
      · have hk2 := hk
        unfold okp at hk2
        rw [Bool.and_eq_true] at hk2
        rw [hk2.1] at s1
        rw [hk2.2] at s2
        refine ⟨[some (.int (w : Nat)), some (.tup (nI S)), some (.tup (R.map encD)), some (.str V), some (.int (c : Nat)), some (.int ((mir w c : Nat) : Int)), some (.tup [.int (op w R c).2.1, .int (op w R c).2.2]), some (.tup [.int (op w R (mir w c)).2.1, .int (op w R (mir w c)).2.2]), some (.loc μ.length), some (.int (p.1 : Nat)), some (.int (p.2 : Nat)), some (.int (lgt w R c (48 + p.1) (48 + p.2))), some (.int (lgt w R (mir w c) (48 + p.2) (48 + p.1)))], μ ++ [.lst (A ++ [pP p])], ?_, _, _, _, _, rfl, ?_⟩
        · generalize R.map encD = gg0 at *; generalize nI S = gg1 at *
          simp_arith [i1, i2, s1, s2, eLm_ev, isl, hL2, ap]
        · rw [List.filter_cons, if_pos hk]
          rfl
      · refine ⟨[some (.int (w : Nat)), some (.tup (nI S)), some (.tup (R.map encD)), some (.str V), some (.int (c : Nat)), some (.int ((mir w c : Nat) : Int)), some (.tup [.int (op w R c).2.1, .int (op w R c).2.2]), some (.tup [.int (op w R (mir w c)).2.1, .int (op w R (mir w c)).2.2]), some (.loc μ.length), some (.int (p.1 : Nat)), some (.int (p.2 : Nat)), some (.int (lgt w R c (48 + p.1) (48 + p.2))), some (.int (lgt w R (mir w c) (48 + p.2) (48 + p.1)))], μ ++ [.lst A], ?_, _, _, _, _, rfl, ?_⟩
        · rw [Bool.not_eq_true] at hk
          unfold okp at hk
          cases hb1 : sh S (V.getD c 63) (lgt w R c (48 + p.1) (48 + p.2))
          · rw [hb1] at s1
            generalize R.map encD = gg0 at *; generalize nI S = gg1 at *
            simp_arith [i1, i2, s1, Bool.false_eq_true, if_false]
          · rw [hb1] at s1 hk
            rw [show sh S (V.getD (mir w c) 63) (lgt w R (mir w c) (48 + p.2) (48 + p.1)) = false by simpa using hk] at s2
            generalize R.map encD = gg0 at *; generalize nI S = gg1 at *
            simp_arith [i1, i2, s1, s2, Bool.false_eq_true, if_false]
        · rw [List.filter_cons, if_neg hk]
          simp
    · rintro _ _ ⟨x9, x10, x11, x12, rfl, rfl⟩
      rw [List.take_length]
      exact go_then (go_ret (d := .loc μ.length) (μ1 := μ ++ [.lst ((wys w R S V c).map pP)]) rfl rfl)
  unfold M_ways_of
  rw [mDf_ev, m1]
  exact fin_locS low_pP hμ
end K10
set_option Elab.async false
set_option linter.all false
set_option maxRecDepth 100000
set_option autoImplicit false
namespace K10
open PySem L2 Fw Pg Sc
def wsD (w n : Nat) (R : List Deed) (S V : List Nat) : List D := (List.range n).map fun c => .lst ((wys w R S V c).map pP)
theorem all_ways {w h n : Nat} {R : List Deed} {S V : List Nat} (hs : Sz w h n) (hR : R.length ≤ 8) (hd : ∀ d ∈ R, OkD n d) (ok : OkS S) (okV : OkV n S.length V) {μ : Store} (hμ : μ.all (lowC μ.length) = true) :
    M_all_ways [.int (w : Nat), .int (h : Nat), .tup (nI S), .tup (R.map encD), .str V] μ = .ok (.lst (wsD w n R S V)) μ := by
  have h9 := hs.n9
  have s1 := ok.ne
  have s5 := ok.le
  unfold M_all_ways B_all_ways
  refine mD_of ?_
  have k1 : ∀ μ, M_check_size [.int (w : Nat), .int (h : Nat)] μ = .ok .non μ := fun μ => check_size hs
  have k2 : ∀ μ, M_check_steps [.tup (nI S)] μ = .ok .non μ := fun μ => check_steps ok
  have k3 : ∀ μ, M_check_recipe [.tup (R.map encD), .int (n : Nat)] μ = .ok .non μ := fun μ => check_recipe hR hd
  have k4 : ∀ μ, M_check_seen [.str V, .int (S.length : Nat), .int (n : Nat)] μ = .ok .non μ := fun μ => check_seen s1 s5 h9 okV
  have mu := fun μ => mulN hs (μ := μ)
  have lS := fun μ => len_tupS (S := S) (μ := μ)
  have rn : ∀ μ, rangeR (.int (n : Nat)) μ = .ok (rg n, none) μ := fun μ => rangeR_nat (by omega)
  have wo : ∀ c, c < n → M_ways_of [.int (w : Nat), .tup (nI S), .tup (R.map encD), .str V, .int (c : Nat)] μ = .ok (.lst ((wys w R S V c).map pP)) μ := fun c hc => ways_of hs ok okV hc hμ
  have lc : lcL (rg n) none (gVar 5) (fun _ μ => .ok true μ) (eCallD 5 M_ways_of (aCons (eVar 0) (aCons (eVar 2) (aCons (eVar 3) (aCons (eVar 4) (aCons (eVar 5) (aNil))))))) ([some (.int (w : Nat)), some (.int (h : Nat)), some (.tup (nI S)), some (.tup (R.map encD)), some (.str V), none]) (rg n) μ [] = .ok (.lst (wsD w n R S V)) μ := by
    have := lc_acc (F := fun c : Nat => D.int (c : Nat)) (items := rg n) (g := gVar 5) (fe := eCallD 5 M_ways_of (aCons (eVar 0) (aCons (eVar 2) (aCons (eVar 3) (aCons (eVar 4) (aCons (eVar 5) (aNil))))))) (ρ := [some (.int (w : Nat)), some (.int (h : Nat)), some (.tup (nI S)), some (.tup (R.map encD)), some (.str V), none]) (μ := μ) (fun c => D.lst ((wys w R S V c).map pP)) (L := List.range n) (acc := []) (by
      intro c hc
      have hc := List.mem_range.mp hc
      have w1 := wo c hc
      refine ⟨[some (.int (w : Nat)), some (.int (h : Nat)), some (.tup (nI S)), some (.tup (R.map encD)), some (.str V), some (.int (c : Nat))], rfl, ?_⟩
      generalize R.map encD = rr at *
      generalize nI S = zz at *
      simp_arith [w1]) (by simp; show n ≤ 1000000; omega)
    exact this
  refine go_seq (ρ1 := [some (.int (w : Nat)), some (.int (h : Nat)), some (.tup (nI S)), some (.tup (R.map encD)), some (.str V), none]) (μ1 := μ) ?_ ?_
  · generalize R.map encD = gg0 at *
    generalize nI S = gg1 at *
    generalize wsD w n R S V = gg2 at *
    simp_arith [k1]
  refine go_seq (ρ1 := [some (.int (w : Nat)), some (.int (h : Nat)), some (.tup (nI S)), some (.tup (R.map encD)), some (.str V), none]) (μ1 := μ) ?_ ?_
  · generalize R.map encD = gg0 at *
    generalize nI S = gg1 at *
    generalize wsD w n R S V = gg2 at *
    simp_arith [k2]
  refine go_seq (ρ1 := [some (.int (w : Nat)), some (.int (h : Nat)), some (.tup (nI S)), some (.tup (R.map encD)), some (.str V), none]) (μ1 := μ) ?_ ?_
  · generalize R.map encD = gg0 at *
    generalize nI S = gg1 at *
    generalize wsD w n R S V = gg2 at *
    simp_arith [mu, k3]
  refine go_seq (ρ1 := [some (.int (w : Nat)), some (.int (h : Nat)), some (.tup (nI S)), some (.tup (R.map encD)), some (.str V), none]) (μ1 := μ) ?_ ?_
  · generalize R.map encD = gg0 at *
    generalize nI S = gg1 at *
    generalize wsD w n R S V = gg2 at *
    simp_arith [mu, lS, k4]
  refine go_ret (d := .lst (wsD w n R S V)) (μ1 := μ) ?_ rfl
  generalize R.map encD = gg0 at *; generalize nI S = gg1 at *; generalize wsD w n R S V = gg2 at *
  simp_arith [mu, rn, lc]
theorem prodN_25 {L : List Nat} (h : ∀ a ∈ L, a ≤ 25) : prodN L ≤ 25 ^ L.length := by
  induction L with
  | nil => simp [prodN]
  | cons a L ih =>
    have h1 := ih fun b hb => h b (by simp [hb])
    have h2 := h a (by simp)
    rw [prodN, List.length_cons, Nat.pow_succ, Nat.mul_comm (25 ^ _) 25]
    exact Nat.mul_le_mul h2 h1
theorem wys_le {w : Nat} {R : List Deed} {S V : List Nat} {c : Nat} : (wys w R S V c).length ≤ 25 := by
  refine Nat.le_trans (List.length_filter_le _ _) ?_
  cases decide (mir w c = c) <;> decide
end K10
set_option Elab.async false
set_option linter.all false
set_option maxRecDepth 100000
set_option autoImplicit false
namespace Rf
open PySem L2 Fw
def LR {α : Type} (a b : Res α) : Prop := a = .stuck ∨ a = b
def LS (a b : SR) : Prop := a = .stuck ∨ a = b
def LF {α : Type} (f g : Fw.Env → Store → Res α) : Prop := ∀ ρ μ, LR (f ρ μ) (g ρ μ)
def LB (f g : FS) : Prop := ∀ ρ μ, LS (f ρ μ) (g ρ μ)
def LM (F G : List D → Store → Res D) : Prop := ∀ ds μ, LR (F ds μ) (G ds μ)
theorem LM.ok {F G : List D → Store → Res D} (h : LM F G) {ds : List D} {μ μ' : Store} {d : D} (e : F ds μ = .ok d μ') : G ds μ = .ok d μ' := by
  rcases h ds μ with z | z
  · rw [z] at e; cases e
  · rw [← z]; exact e
section
variable {α β : Type} {a b : Res α} {f g : α → Store → Res β}
theorem lr_bind (h : LR a b) (k : ∀ x μ, LR (f x μ) (g x μ)) : LR (a.bind f) (b.bind g) := by
  rcases h with rfl | rfl
  · exact .inl rfl
  · cases a with
    | ok x μ => exact k x μ
    | err _ _ _ _ => exact .inr rfl
    | stuck => exact .inl rfl
theorem lr_mute (h : LR a b) : LR a.mute b.mute := by
  rcases h with rfl | rfl
  · exact .inl rfl
  · exact .inr rfl
theorem ls_rS {ρ : Fw.Env} {f g : α → Store → SR} (h : LR a b) (k : ∀ x μ, LS (f x μ) (g x μ)) : LS (rS ρ a f) (rS ρ b g) := by
  rcases h with rfl | rfl
  · exact .inl rfl
  · cases a with
    | ok x μ => exact k x μ
    | err _ _ _ _ => exact .inr rfl
    | stuck => exact .inl rfl
theorem lr_ite {c : Prop} [Decidable c] {a b a' b' : Res α} (h : LR a a') (k : LR b b') : LR (if c then a else b) (if c then a' else b') := by
  split
  · exact h
  · exact k
theorem ls_ite {c : Prop} [Decidable c] {a b a' b' : SR} (h : LS a a') (k : LS b b') : LS (if c then a else b) (if c then a' else b') := by
  split
  · exact h
  · exact k
end
section
variable {α : Type} {n i j k c : Nat} {fa fa' fb fb' fc fc' fe fe' fd fd' : FE} {fs fs' : FA} {ft ft' fu fu' : FT} {fi fi' fj fj' : FI} {s s' t t' : FS} {g : D → D → Store → Res D} {F G : List D → Store → Res D} {fl fl' fh fh' fk fk' : FO}
theorem lf_refl {f : Fw.Env → Store → Res α} : LF f f := fun _ _ => .inr rfl
theorem lb_refl : LB s s := fun _ _ => .inr rfl
theorem lm_refl : LM F F := fun _ _ => .inr rfl
theorem lf_cons (h : LF fa fa') (k : LF fs fs') : LF (aCons fa fs) (aCons fa' fs') := fun ρ μ => lr_bind (h ρ μ) fun _ μ1 => lr_bind (k ρ μ1) fun _ _ => .inr rfl
theorem lf_bin (h : LF fa fa') (k : LF fb fb') : LF (eBin g fa fb) (eBin g fa' fb') := fun ρ μ => lr_bind (h ρ μ) fun _ μ1 => lr_bind (k ρ μ1) fun _ _ => .inr rfl
theorem lf_tup (h : LF fs fs') : LF (eTup fs) (eTup fs') := fun ρ μ => lr_bind (h ρ μ) fun _ _ => .inr rfl
theorem lf_lst (h : LF fs fs') : LF (eLst fs) (eLst fs') := fun ρ μ => lr_bind (h ρ μ) fun _ _ => .inr rfl
theorem lf_call (hF : LM F G) (h : LF fs fs') : LF (eCall F fs) (eCall G fs') := fun ρ μ => lr_bind (h ρ μ) fun ds μ1 => hF ds μ1
theorem lf_callD (hF : LM F G) (h : LF fs fs') : LF (eCallD n F fs) (eCallD n G fs') := fun ρ μ => lr_bind (h ρ μ) fun ds μ1 => lr_ite (hF ds μ1) (.inr rfl)
theorem lf_tB (h : LF fa fa') : LF (tB fa) (tB fa') := fun ρ μ => lr_bind (h ρ μ) fun _ _ => .inr rfl
theorem lf_tNot (h : LF ft ft') : LF (tNot ft) (tNot ft') := fun ρ μ => lr_bind (h ρ μ) fun _ _ => .inr rfl
theorem lf_tAnd (h : LF ft ft') (k : LF fu fu') : LF (tAnd ft fu) (tAnd ft' fu') := fun ρ μ => lr_bind (h ρ μ) fun _ μ1 => lr_ite (k ρ μ1) (.inr rfl)
theorem lf_tOr (h : LF ft ft') (k : LF fu fu') : LF (tOr ft fu) (tOr ft' fu') := fun ρ μ => lr_bind (h ρ μ) fun _ μ1 => lr_ite (.inr rfl) (k ρ μ1)
theorem lf_if (h : LF ft ft') (k : LF fa fa') (l : LF fb fb') : LF (eIf ft fa fb) (eIf ft' fa' fb') := fun ρ μ => lr_bind (h ρ μ) fun _ μ1 => lr_ite (k ρ μ1) (l ρ μ1)
theorem lf_join (h : LF fa fa') (k : LF fb fb') : LF (eJoin fa fb) (eJoin fa' fb') := fun ρ μ => lr_bind (h ρ μ) fun d μ1 => by
  cases d with
  | str s => exact lr_bind (k ρ μ1) fun _ _ => .inr rfl
  | _ => exact .inr rfl
theorem lf_prop {P : List D → Store → Res D} (h : LF fa fa') : LF (eProp c P fa) (eProp c P fa') := fun ρ μ => lr_bind (h ρ μ) fun _ _ => .inr rfl
theorem lf_some (h : LF fa fa') : LF (oSome fa) (oSome fa') := fun ρ μ => lr_bind (h ρ μ) fun _ _ => .inr rfl
theorem lf_cutSt (h : LF fa fa') (k : LF fl fl') (l : LF fh fh') (m : LF fk fk') : LF (eCutSt fa fl fh fk) (eCutSt fa' fl' fh' fk') := fun ρ μ => lr_bind (h ρ μ) fun _ μ1 => lr_bind (k ρ μ1) fun _ μ2 => lr_bind (l ρ μ2) fun _ μ3 => lr_bind (m ρ μ3) fun _ _ => .inr rfl
theorem lf_of (h : LF fa fa') : LF (iOf fa) (iOf fa') := fun ρ μ => lr_bind (h ρ μ) fun _ _ => .inr rfl
theorem lf_enum (h : LF fa fa') : LF (iEnumD fa) (iEnumD fa') := fun ρ μ => lr_bind (h ρ μ) fun _ _ => .inr rfl
theorem lf_rg1 (h : LF fa fa') : LF (iRange1 fa) (iRange1 fa') := fun ρ μ => lr_bind (h ρ μ) fun _ _ => .inr rfl
theorem lf_thaw (h : LF fa fa') : LF (eThaw fa) (eThaw fa') := fun ρ μ => by
  show LR (thaw _) (thaw _)
  rcases h ρ μ with z | z
  · exact .inl (by rw [z]; rfl)
  · exact .inr (by rw [z])
theorem lf_lm (h : LF fa fa') (k : LF fb fb') : LF (eLm g fa fb) (eLm g fa' fb') := fun ρ μ => lr_bind (h ρ μ) fun _ μ1 => lr_ite (lr_bind (k ρ μ1) fun _ _ => .inr rfl) (.inr rfl)
theorem lr_lc {items : List D} {src : Option Nat} {gt : D → Fw.Env → Store → Res Fw.Env} (h : LF ft ft') (k : LF fe fe') {ρ : Fw.Env} : ∀ {ds : List D} {μ : Store} {acc : List D}, LR (lcL items src gt ft fe ρ ds μ acc) (lcL items src gt ft' fe' ρ ds μ acc)
  | [], _, _ => .inr rfl
  | d :: ds, μ, acc => by
    rw [lcL, lcL]
    refine lr_ite (lr_bind (.inr rfl) fun ρ1 μ1 => lr_bind (lr_mute (h ρ1 μ1)) fun b μ2 => lr_ite (lr_bind (lr_mute (k ρ1 μ2)) fun y μ3 => lr_ite ?_ (.inr rfl)) ?_) (.inr rfl)
    · exact lr_lc h k
    · exact lr_lc h k
theorem lf_lc {vs : List Nat} {gt : D → Fw.Env → Store → Res Fw.Env} (l : LF fi fi') (h : LF ft ft') (k : LF fe fe') : LF (eLc vs fi gt ft fe) (eLc vs fi' gt ft' fe') := fun ρ μ => lr_bind (l ρ μ) fun _ _ => lr_lc h k
theorem lb_seq (h : LB s s') (k : LB t t') : LB (sSeq s t) (sSeq s' t') := fun ρ μ => by
  rw [sSeq_ev, sSeq_ev]
  rcases h ρ μ with z | z
  · exact .inl (by rw [z])
  · rw [← z]
    cases s ρ μ with
    | nx ρ1 μ1 => exact k ρ1 μ1
    | _ => exact .inr rfl
theorem lb_if (h : LF ft ft') (k : LB s s') (l : LB t t') : LB (sIf ft s t) (sIf ft' s' t') := fun ρ μ => ls_rS (h ρ μ) fun _ μ1 => ls_ite (k ρ μ1) (l ρ μ1)
theorem lb_ret (h : LF fa fa') : LB (sRet fa) (sRet fa') := fun ρ μ => ls_rS (h ρ μ) fun _ _ => .inr rfl
theorem lb_expr (h : LF fa fa') : LB (sExpr fa) (sExpr fa') := fun ρ μ => ls_rS (h ρ μ) fun _ _ => .inr rfl
theorem lb_asg {gt : D → Fw.Env → Store → Res Fw.Env} (h : LF fa fa') : LB (sAsg gt fa) (sAsg gt fa') := fun ρ μ => ls_rS (h ρ μ) fun _ _ => .inr rfl
theorem lb_never : LB sNever s := fun _ _ => .inl rfl
theorem ls_for {items : List D} {src : Option Nat} {gt : D → Fw.Env → Store → Res Fw.Env} (h : LB s s') : ∀ {ds : List D} {ρ : Fw.Env} {μ : Store}, LS (forL items src gt s ds ρ μ) (forL items src gt s' ds ρ μ)
  | [], _, _ => .inr rfl
  | d :: ds, ρ, μ => by
    rw [forL, forL]
    refine ls_ite (ls_rS (.inr rfl) fun ρ1 μ1 => ?_) (.inr rfl)
    rcases h ρ1 μ1 with z | z
    · exact .inl (by rw [z])
    · rw [← z]
      cases s ρ1 μ1 with
      | nx ρ2 μ2 => exact ls_for h
      | ct ρ2 μ2 => exact ls_for h
      | _ => exact .inr rfl
theorem lb_for {gt : D → Fw.Env → Store → Res Fw.Env} (l : LF fi fi') (h : LB s s') : LB (sFor fi gt s) (sFor fi' gt s') := fun ρ μ => ls_rS (l ρ μ) fun _ _ => ls_for h
theorem ls_while (h : LF ft ft') (k : LB s s') : ∀ {n : Nat} {ρ : Fw.Env} {μ : Store}, LS (whileL ft s n ρ μ) (whileL ft' s' n ρ μ)
  | 0, _, _ => .inl rfl
  | n + 1, ρ, μ => by
    rw [whileL, whileL]
    refine ls_rS (h ρ μ) fun b μ1 => ls_ite ?_ (.inr rfl)
    rcases k ρ μ1 with z | z
    · exact .inl (by rw [z])
    · rw [← z]
      cases s ρ μ1 with
      | nx ρ2 μ2 => exact ls_while h k
      | ct ρ2 μ2 => exact ls_while h k
      | _ => exact .inr rfl
theorem lb_while (h : LF ft ft') (k : LB s s') : LB (sWhile n ft s) (sWhile n ft' s') := fun _ _ => ls_while h k
theorem lm_mD (h : LB s s') : LM (mD n s) (mD n s') := fun ds μ => by
  rw [mD_ev, mD_ev]
  rcases h (ds.map some ++ List.replicate (n - ds.length) none) μ with z | z
  · exact .inl (by rw [z])
  · exact .inr (by rw [z])
end
end Rf
set_option Elab.async false
set_option linter.all false
set_option maxRecDepth 100000
set_option autoImplicit false
namespace Rf
open PySem L2 Fw Pg
theorem rf_check_recipe_2 : LM M_check_recipe M_check_recipe_2 := lm_mD (by
  unfold B_check_recipe B_check_recipe_2
  repeat (first | with_reducible exact lb_refl | with_reducible exact lf_refl | with_reducible exact lm_refl | exact lb_never | refine lb_seq ?_ ?_ | refine lb_if ?_ ?_ ?_ | refine lb_for ?_ ?_ | refine lb_while ?_ ?_ | refine lb_ret ?_ | refine lb_expr ?_ | refine lb_asg ?_ | refine lf_cons ?_ ?_ | refine lf_callD ?_ ?_ | refine lf_call ?_ ?_ | refine lf_bin ?_ ?_ | refine lf_tup ?_ | refine lf_lst ?_ | refine lf_tB ?_ | refine lf_tNot ?_ | refine lf_tAnd ?_ ?_ | refine lf_tOr ?_ ?_ | refine lf_if ?_ ?_ ?_ | refine lf_join ?_ ?_ | refine lf_prop ?_ | refine lf_some ?_ | refine lf_cutSt ?_ ?_ ?_ ?_ | refine lf_of ?_ | refine lf_enum ?_ | refine lf_rg1 ?_ | refine lf_thaw ?_ | refine lf_lm ?_ ?_ | refine lf_lc ?_ ?_ ?_))
end Rf
set_option Elab.async false
set_option linter.all false
set_option maxRecDepth 100000
set_option autoImplicit false
namespace Rf
open PySem L2 Fw Pg
theorem rf_all_ways_2 : LM M_all_ways M_all_ways_2 := lm_mD (by
  unfold B_all_ways B_all_ways_2
  repeat (first | with_reducible exact lb_refl | with_reducible exact lf_refl | with_reducible exact lm_refl | exact lb_never | exact rf_check_recipe_2 | refine lb_seq ?_ ?_ | refine lb_if ?_ ?_ ?_ | refine lb_for ?_ ?_ | refine lb_while ?_ ?_ | refine lb_ret ?_ | refine lb_expr ?_ | refine lb_asg ?_ | refine lf_cons ?_ ?_ | refine lf_callD ?_ ?_ | refine lf_call ?_ ?_ | refine lf_bin ?_ ?_ | refine lf_tup ?_ | refine lf_lst ?_ | refine lf_tB ?_ | refine lf_tNot ?_ | refine lf_tAnd ?_ ?_ | refine lf_tOr ?_ ?_ | refine lf_if ?_ ?_ ?_ | refine lf_join ?_ ?_ | refine lf_prop ?_ | refine lf_some ?_ | refine lf_cutSt ?_ ?_ ?_ ?_ | refine lf_of ?_ | refine lf_enum ?_ | refine lf_rg1 ?_ | refine lf_thaw ?_ | refine lf_lm ?_ ?_ | refine lf_lc ?_ ?_ ?_))
theorem rf_negative_count_2 : LM M_negative_count M_negative_count_2 := lm_mD (by
  unfold B_negative_count B_negative_count_2
  repeat (first | with_reducible exact lb_refl | with_reducible exact lf_refl | with_reducible exact lm_refl | exact lb_never | exact rf_check_recipe_2 | exact rf_all_ways_2 | refine lb_seq ?_ ?_ | refine lb_if ?_ ?_ ?_ | refine lb_for ?_ ?_ | refine lb_while ?_ ?_ | refine lb_ret ?_ | refine lb_expr ?_ | refine lb_asg ?_ | refine lf_cons ?_ ?_ | refine lf_callD ?_ ?_ | refine lf_call ?_ ?_ | refine lf_bin ?_ ?_ | refine lf_tup ?_ | refine lf_lst ?_ | refine lf_tB ?_ | refine lf_tNot ?_ | refine lf_tAnd ?_ ?_ | refine lf_tOr ?_ ?_ | refine lf_if ?_ ?_ ?_ | refine lf_join ?_ ?_ | refine lf_prop ?_ | refine lf_some ?_ | refine lf_cutSt ?_ ?_ ?_ ?_ | refine lf_of ?_ | refine lf_enum ?_ | refine lf_rg1 ?_ | refine lf_thaw ?_ | refine lf_lm ?_ ?_ | refine lf_lc ?_ ?_ ?_))
end Rf
set_option Elab.async false
set_option linter.all false
set_option maxRecDepth 100000
set_option autoImplicit false
namespace Pg
open PySem L2 Fw
end Pg
set_option Elab.async false
set_option linter.all false
set_option maxRecDepth 100000
set_option autoImplicit false
set_option maxHeartbeats 1000000
namespace Vw
open PySem L2 Fw Pg Sc K10 Rf
section
variable {w h n : Nat} {R : List Deed} {S V T : List Nat} {c d t : Nat} {μ : Store}
theorem prod_25 {L : List Nat} (h : ∀ a ∈ L, a ≤ 25) (hl : L.length ≤ 6) : M_product [.lst (nI L)] μ = .ok (.int (prodN L : Nat)) μ := by
  unfold M_product B_product
  refine mD_of ?_
  refine go_seq (ρ1 := [some (.lst (nI L)), some (.int 1), none]) (μ1 := μ) (by generalize nI L = ll; simp_arith []) ?_
  refine go_forS (it := nI L) (src := none) (μ1 := μ) rfl ?_
  refine go_mp (f := fun k : Nat => D.int (k : Nat)) (L := L) (J := fun i ρ μ' => ∃ x2, ρ = [some (.lst (nI L)), some (.int (prodN (L.take i) : Nat)), x2] ∧ μ' = μ) ⟨_, rfl, rfl⟩ ?_ ?_
  · rintro i a ha _ μ2 ⟨x2, rfl, rfl⟩
    refine ⟨[some (.lst (nI L)), some (.int (prodN (L.take i) : Nat)), some (.int (a : Nat))], μ2, rfl, ?_⟩
    have hb := K10.prodN_25 (L := L.take i) fun b hb => h b (List.mem_of_mem_take hb)
    have hi : (L.take i).length ≤ 6 := by rw [List.length_take]; omega
    have hp : 25 ^ (L.take i).length ≤ 244140625 := Nat.le_trans (Nat.pow_le_pow_right (by omega) hi) (by decide)
    have a2 := h a (List.mem_of_getElem? ha)
    have e : prodN (L.take (i + 1)) = prodN (L.take i) * a := by
      rw [List.take_succ, ha, prodN_app]
      simp [prodN]
    have m : ∀ μ, oMulI (.int (prodN (L.take i) : Nat)) (.int (a : Nat)) μ = .ok (.int (prodN (L.take (i + 1)) : Nat)) μ := fun μ => by
      have s1 : Sm ((prodN (L.take i) : Nat) : Int) = true := by
        simp only [Sm, Bool.and_eq_true, decide_eq_true_eq]
        omega
      have s2 : Sm ((a : Nat) : Int) = true := by
        simp only [Sm, Bool.and_eq_true, decide_eq_true_eq]
        omega
      simp only [oMulI, s1, s2, Bool.and_self, if_true, e]
      congr 2
    refine go_st (ρ1 := [some (.lst (nI L)), some (.int (prodN (L.take (i + 1)) : Nat)), some (.int (a : Nat))]) (μ1 := μ2) ?_ (nxq ⟨_, rfl, rfl⟩)
    generalize nI L = ll at *
    simp_arith [m]
  · rintro _ μ2 ⟨x2, rfl, rfl⟩
    rw [List.take_length]
    exact go_then (go_ret (d := .int (prodN L : Nat)) (μ1 := μ2) rfl rfl)
theorem fro_len (hs : Sz w h n) : (fro w n).length ≤ 6 := by
  have hw := hs.w1; have hw4 := hs.w4; have hh := hs.h1; have hh4 := hs.h4; have he := hs.e; have h9 := hs.n9
  have hw' : w = 1 ∨ w = 2 ∨ w = 3 ∨ w = 4 := by omega
  have hh' : h = 1 ∨ h = 2 ∨ h = 3 ∨ h = 4 := by omega
  rcases hw' with rfl | rfl | rfl | rfl <;> rcases hh' with rfl | rfl | rfl | rfl <;> (subst he; first | (exfalso; omega) | decide +kernel)
theorem ncount (hs : Sz w h n) (hR : R.length ≤ 8) (hd : ∀ d ∈ R, OkD n d) (ok : OkS S) (okV : OkV n S.length V) (hμ : μ.all (lowC μ.length) = true) :
    M_negative_count_2 [.int (w : Nat), .int (h : Nat), .tup (nI S), .tup (R.map encD), .str V] μ = .ok (.int (nc w n R S V : Nat)) μ := by
  refine rf_negative_count_2.ok ?_
  have aw := all_ways hs hR hd ok okV hμ
  have h9 := hs.n9
  unfold M_negative_count B_negative_count
  refine mD_of ?_
  refine go_seq (ρ1 := [some (.int (w : Nat)), some (.int (h : Nat)), some (.tup (nI S)), some (.tup (R.map encD)), some (.str V), some (.lst (wsD w n R S V)), none, none]) (μ1 := μ) ?_ ?_
  · generalize R.map encD = gg0 at *
    generalize nI S = gg1 at *
    generalize wsD w n R S V = gg2 at *
    simp_arith [aw]
  have en : ∀ μ, oEnum (.lst (wsD w n R S V)) μ = .ok (((List.range n).map fun c => .tup [.int (c : Nat), .lst ((wys w R S V c).map pP)]), none) μ := fun μ => by
    rw [← enum_rg]
    rfl
  have lc := lc_mp (F := fun c : Nat => D.tup [.int (c : Nat), .lst ((wys w R S V c).map pP)]) (items := (List.range n).map fun c => D.tup [.int (c : Nat), .lst ((wys w R S V c).map pP)]) (g := gTup 2 (gCons (gVar 6) (gCons (gVar 7) (gNil)))) (ft := tB (eBin oLe (eVar 6) (eCallD 2 M_mirrored (aCons (eVar 6) (aCons (eVar 0) (aNil)))))) (fe := eCall (cLenO 0 M_Negativedd__lendd_) (aCons (eVar 7) (aNil))) (ρ := [some (.int (w : Nat)), some (.int (h : Nat)), some (.tup (nI S)), some (.tup (R.map encD)), some (.str V), some (.lst (wsD w n R S V)), none, none]) (μ := μ) (fun c => decide (c ≤ mir w c)) (fun c => D.int ((wys w R S V c).length : Nat)) (L := List.range n) (by
    intro c hc
    have mi : ∀ μ, M_mirrored [.int (c : Nat), .int (w : Nat)] μ = .ok (.int ((mir w c : Nat) : Int)) μ := fun μ => mirrored hs
    have ln : ∀ μ, cLenO 0 M_Negativedd__lendd_ [.lst ((wys w R S V c).map pP)] μ = .ok (.int ((wys w R S V c).length : Nat)) μ := fun μ => by rw [len_lst, List.length_map]
    have e0 : decide (((c : Nat) : Int) ≤ ((mir w c : Nat) : Int)) = decide (c ≤ mir w c) := by
      rw [Bool.eq_iff_iff, decide_eq_true_eq, decide_eq_true_eq]
      omega
    refine ⟨[some (.int (w : Nat)), some (.int (h : Nat)), some (.tup (nI S)), some (.tup (R.map encD)), some (.str V), some (.lst (wsD w n R S V)), some (.int (c : Nat)), some (.lst ((wys w R S V c).map pP))], rfl, ?_, fun _ => ?_⟩
    · generalize R.map encD = gg0 at *; generalize nI S = gg1 at *; generalize wsD w n R S V = gg2 at *
      generalize (wys w R S V c).map pP = ww at *
      simp_arith [mi, oLe_int, e0]
    · generalize R.map encD = gg0 at *; generalize nI S = gg1 at *; generalize wsD w n R S V = gg2 at *
      generalize (wys w R S V c).map pP = ww at *
      simp_arith [ln]) (by simp; show n ≤ 1000000; omega)
  have e1 : ((List.range n).filter fun c => decide (c ≤ mir w c)).map (fun c => D.int ((wys w R S V c).length : Nat)) = nI ((fro w n).map fun c => (wys w R S V c).length) := by
    unfold fro nI
    rw [List.map_map]
    rfl
  rw [e1] at lc
  have pr := fun μ => prod_25 (L := (fro w n).map fun c => (wys w R S V c).length) (by
    intro a ha
    obtain ⟨c, _, rfl⟩ := List.mem_map.mp ha
    exact wys_le) (by rw [List.length_map]; exact fro_len hs) (μ := μ)
  refine go_ret (d := .int (nc w n R S V : Nat)) (μ1 := μ) ?_ rfl
  unfold nc
  generalize ((List.range n).map fun c => D.tup [.int (c : Nat), .lst ((wys w R S V c).map pP)]) = it at *
  generalize R.map encD = gg0 at *; generalize nI S = gg1 at *; generalize wsD w n R S V = gg2 at *; generalize nI ((fro w n).map fun c => (wys w R S V c).length) = gg3 at *
  simp_arith [iEnumD_ev, en, lc, pr]
abbrev vN : List Str := ["columns", "lines", "paper_steps", "deeds", "tones", "looks", "possible"]
def vD (w h : Nat) (S : List Nat) (R : List Deed) (V : List Nat) (q k : Nat) : List D := [.int (w : Nat), .int (h : Nat), .tup (nI S), .tup (R.map encD), .str V, .loc q, .int (k : Nat)]
def vw (w h : Nat) (S : List Nat) (R : List Deed) (V : List Nat) (q k : Nat) : Cell := .ins 1 vN (vD w h S R V q k)
variable {p q k : Nat}
structure Ok (w h n : Nat) (S : List Nat) (R : List Deed) (V : List Nat) : Prop where
  hs : Sz w h n
  hR : R.length ≤ 8
  hd : ∀ d ∈ R, OkD n d
  oS : OkS S
  oV : OkV n S.length V
theorem left (X : Ok w h n S R V) {V' : List Nat} (oV' : OkV n S.length V') (hμ : μ.all (lowC μ.length) = true) {N : List Str} {Dv : List D} (ii : insOf 1 μ (.loc p) = some (N, Dv)) (a : (N.zip Dv).lookup ("columns" : Str) = some (.int (w : Nat))) (b : (N.zip Dv).lookup ("lines" : Str) = some (.int (h : Nat))) (c : (N.zip Dv).lookup ("paper_steps" : Str) = some (.tup (nI S))) (d : (N.zip Dv).lookup ("deeds" : Str) = some (.tup (R.map encD))) : M_Viewer_negatives_left [.loc p, .str V'] μ = .ok (.int (nc w n R S V' : Nat)) μ := by
  have nn := ncount X.hs X.hR X.hd X.oS oV' hμ
  unfold M_Viewer_negatives_left B_Viewer_negatives_left
  refine mD_of (go_ret (d := .int (nc w n R S V' : Nat)) (μ1 := μ) ?_ rfl)
  simp_arith [eFld_ev, ii, a, b, c, d, nn]
theorem len_str (h9 : n ≤ 9) (hl : V.length = n) : cLenO 0 M_Negativedd__lendd_ [.str V] μ = .ok (.int (n : Nat)) μ := by
  have hL : n ≤ LIM := by show n ≤ 1000000; omega
  rw [cLenO_ev rfl]
  simp only [cLen, hl, hL, if_true]
theorem neStr {a b : List Nat} (ha : a.all (· < 0x110000) = true) (hb : b.all (· < 0x110000) = true) : oNe (.str a) (.str b) μ = .ok (.bl (!decide (a = b))) μ := by
  have h1 : pl 1 (rd μ (.str a)) = true := by simp only [rd, pl, ha]
  have h2 : pl 1 (rd μ (.str b)) = true := by simp only [rd, pl, hb]
  rw [oNe_pl h1 h2]
  simp only [rd, D.str.injEq]
theorem setF {f : Str} {N N' : List Str} {Dv Dv' : List D} {e : D} {fo fv : FE} {ρ : Fw.Env} (hfv : fv ρ μ = .ok e μ) (hfo : fo ρ μ = .ok (.loc p) μ) (hp : μ[p]? = some (.ins 1 N Dv)) (hl : N.length < 900) (h1 : putNs f N = N') (h2 : putXs f e N Dv = Dv') : sFld 1 f fo fv ρ μ = .nx ρ (μ.set p (.ins 1 N' Dv')) := by
  rw [sFld_ev, hfv, sok, hfo, sok]
  dsimp only
  rw [hp]
  dsimp only
  rw [if_pos ⟨rfl, hl⟩, h1, h2]
end
end Vw
set_option Elab.async false
set_option linter.all false
set_option maxRecDepth 100000
set_option autoImplicit false
set_option maxHeartbeats 1000000
namespace Mv
open PySem L2 Fw Pg Vw K10
end Mv
set_option Elab.async false
set_option linter.all false
set_option maxRecDepth 100000
set_option autoImplicit false
set_option maxHeartbeats 1000000
namespace Vw
open PySem L2 Fw Pg Sc K10 Rf
section
variable {w h n : Nat} {R : List Deed} {S V T : List Nat} {c d t : Nat} {μ : Store}
def V0 (n : Nat) : List Nat := List.replicate n 63
theorem V0_ok {m : Nat} : OkV n m (V0 n) := ⟨by simp [V0], fun c hc => .inl (List.mem_replicate.mp hc).2⟩
theorem cr2 (hR : R.length ≤ 8) (hd : ∀ d ∈ R, OkD n d) : M_check_recipe_2 [.tup (R.map encD), .int (n : Nat)] μ = .ok .non μ := rf_check_recipe_2.ok (check_recipe hR hd)
theorem un_str (h9 : n ≤ 9) : oMul (.str [63]) (.int (n : Nat)) μ = .ok (.str (V0 n)) μ := by
  have c : (((n : Nat) : Int) ≤ 1000 ∧ -1000 ≤ ((n : Nat) : Int) ∧ ([63] : List Nat).length ≤ 1000) := ⟨by omega, by omega, by simp⟩
  have f : (List.replicate n [63]).flatten = List.replicate n 63 := by simp
  simp only [oMul, c, and_self, if_true, Int.toNat_natCast, f, V0]
theorem all_two {a b : Cell} {m : Nat} (hμ : μ.all (lowC μ.length) = true) (ha : lowC (μ.length + 2) a = true) (hb : lowC (μ.length + 2) b = true) : (μ ++ [a, b]).all (lowC (μ ++ [a, b]).length) = true := by
  rw [List.all_append, List.length_append]
  simp only [List.length_cons, List.length_nil, List.all_cons, List.all_nil, Bool.and_true, Bool.and_eq_true]
  refine ⟨List.all_eq_true.mpr fun c hc => lowC_mono (by omega) (List.all_eq_true.mp hμ c hc), ha, hb⟩
def newV (w h n : Nat) (S : List Nat) (R : List Deed) (μ : Store) : Store := μ ++ [vw w h S R (V0 n) (μ.length + 1) (nc w n R S (V0 n)), .lst []]
theorem init (hs : Sz w h n) (hR : R.length ≤ 8) (hd : ∀ d ∈ R, OkD n d) (oS : OkS S) (hμ : μ.all (lowC μ.length) = true) :
    M_Viewerdd__initdd_ [.loc μ.length, .int (w : Nat), .int (h : Nat), .tup (nI S), .tup (R.map encD)] (μ ++ [.ins 1 [] []]) = .ok .non (newV w h n S R μ) := by
  have X : Ok w h n S R (V0 n) := ⟨hs, hR, hd, oS, V0_ok⟩
  have n9 := hs.n9
  have l0' : (0 : Nat) ≤ LIM := by decide
  have cz := fun μ => check_size hs (μ := μ)
  have cs := fun μ => check_steps oS (μ := μ)
  have cr := fun μ => cr2 hR hd (n := n) (μ := μ)
  have mn := fun μ => mulN hs (μ := μ)
  have us := fun μ => un_str n9 (μ := μ)
  obtain ⟨E, hE⟩ : ∃ E : Fw.Env, E = [some (.loc μ.length), some (.int (w : Nat)), some (.int (h : Nat)), some (.tup (nI S)), some (.tup (R.map encD))] := ⟨_, rfl⟩
  have e0 : ∀ μ', (eVar 0) E μ' = .ok (.loc μ.length) μ' := fun μ' => by rw [hE]; rfl
  have e1 : ∀ μ', (eVar 1) E μ' = .ok (.int (w : Nat)) μ' := fun μ' => by rw [hE]; rfl
  have e2 : ∀ μ', (eVar 2) E μ' = .ok (.int (h : Nat)) μ' := fun μ' => by rw [hE]; rfl
  have e3 : ∀ μ', (eVar 3) E μ' = .ok (.tup (nI S)) μ' := fun μ' => by rw [hE]; rfl
  have e4 : ∀ μ', (eVar 4) E μ' = .ok (.tup (R.map encD)) μ' := fun μ' => by rw [hE]; rfl
  have g : ∀ c : Cell, (μ ++ [c])[μ.length]? = some c := fun c => by simp
  have s : ∀ c c' : Cell, (μ ++ [c]).set μ.length c' = μ ++ [c'] := fun c c' => by simp
  have st : ∀ (f : Str) (N N' : List Str) (Dv Dv' : List D) (e : D) (fv : FE), (∀ μ', fv E μ' = .ok e μ') → N.length < 900 → putNs f N = N' → putXs f e N Dv = Dv' → sFld 1 f (eVar 0) fv E (μ ++ [.ins 1 N Dv]) = .nx E (μ ++ [.ins 1 N' Dv']) := fun f N N' Dv Dv' e fv hf hN h1 h2 => by
    rw [setF (N := N) (N' := N') (Dv := Dv) (Dv' := Dv') (hf _) (e0 _) (g _) hN h1 h2, s]
  unfold M_Viewerdd__initdd_ B_Viewerdd__initdd_
  refine mD_of ?_
  rw [show (List.map some [D.loc μ.length, .int (w : Nat), .int (h : Nat), .tup (nI S), .tup (R.map encD)] ++ List.replicate (5 - [D.loc μ.length, .int (w : Nat), .int (h : Nat), .tup (nI S), .tup (R.map encD)].length) none) = E by rw [hE]; rfl]
  refine go_seq (ρ1 := E) (μ1 := μ ++ [.ins 1 [] []]) (by rw [sExpr_ev, eCallD_ev, aCons_ev, e1, bok, aCons_ev, e2, bok]; simp_arith [cz]) ?_
  refine go_seq (ρ1 := E) (μ1 := μ ++ [.ins 1 [] []]) (by rw [sExpr_ev, eCallD_ev, aCons_ev, e3, bok]; simp_arith [cs]) ?_
  refine go_seq (ρ1 := E) (μ1 := μ ++ [.ins 1 [] []]) (by rw [sExpr_ev, eCallD_ev, aCons_ev, e4, bok, aCons_ev, eBin_ev, e1, bok, e2, bok, mn]; simp_arith [cr]) ?_
  refine go_seq (st "columns" [] ["columns"] [] [.int (w : Nat)] _ _ e1 (by decide) rfl rfl) ?_
  refine go_seq (st "lines" ["columns"] ["columns", "lines"] [.int (w : Nat)] [.int (w : Nat), .int (h : Nat)] _ _ e2 (by decide) rfl rfl) ?_
  refine go_seq (st "paper_steps" ["columns", "lines"] ["columns", "lines", "paper_steps"] [.int (w : Nat), .int (h : Nat)] [.int (w : Nat), .int (h : Nat), .tup (nI S)] _ _ e3 (by decide) rfl rfl) ?_
  refine go_seq (st "deeds" ["columns", "lines", "paper_steps"] ["columns", "lines", "paper_steps", "deeds"] [.int (w : Nat), .int (h : Nat), .tup (nI S)] [.int (w : Nat), .int (h : Nat), .tup (nI S), .tup (R.map encD)] _ _ e4 (by decide) rfl rfl) ?_
  refine go_seq (st "tones" ["columns", "lines", "paper_steps", "deeds"] ["columns", "lines", "paper_steps", "deeds", "tones"] [.int (w : Nat), .int (h : Nat), .tup (nI S), .tup (R.map encD)] [.int (w : Nat), .int (h : Nat), .tup (nI S), .tup (R.map encD), .str (V0 n)] (.str (V0 n)) _ (fun μ' => by rw [eBin_ev, eC_ev, bok, eBin_ev, e1, bok, e2, bok, mn, bok, lq, us]) (by decide) rfl rfl) ?_
  -- the list of looks
  obtain ⟨c6, hc6⟩ : ∃ c6, c6 = Cell.ins 1 ["columns", "lines", "paper_steps", "deeds", "tones", "looks"] [.int (w : Nat), .int (h : Nat), .tup (nI S), .tup (R.map encD), .str (V0 n), .loc (μ.length + 1)] := ⟨_, rfl⟩
  refine go_seq (ρ1 := E) (μ1 := μ ++ [c6, .lst []]) ?_ ?_
  · have fv : (eThaw (eLst aNil)) E (μ ++ [.ins 1 ["columns", "lines", "paper_steps", "deeds", "tones"] [.int (w : Nat), .int (h : Nat), .tup (nI S), .tup (R.map encD), .str (V0 n)]]) = .ok (.loc (μ.length + 1)) (μ ++ [.ins 1 ["columns", "lines", "paper_steps", "deeds", "tones"] [.int (w : Nat), .int (h : Nat), .tup (nI S), .tup (R.map encD), .str (V0 n)], .lst []]) := by
      simp_arith [l0']
      simp
    rw [sFld_ev, fv, sok, e0, sok]
    dsimp only
    rw [show (μ ++ [Cell.ins 1 ["columns", "lines", "paper_steps", "deeds", "tones"] [.int (w : Nat), .int (h : Nat), .tup (nI S), .tup (R.map encD), .str (V0 n)], .lst []])[μ.length]? = some (.ins 1 ["columns", "lines", "paper_steps", "deeds", "tones"] [.int (w : Nat), .int (h : Nat), .tup (nI S), .tup (R.map encD), .str (V0 n)]) by simp]
    dsimp only
    rw [if_pos ⟨rfl, by decide⟩, hc6]
    simp
    exact ⟨rfl, rfl⟩
  have g2 : (μ ++ [c6, .lst []])[μ.length]? = some c6 := by simp
  have ii : insOf 1 (μ ++ [c6, .lst []]) (.loc μ.length) = some ((["columns", "lines", "paper_steps", "deeds", "tones", "looks"] : List Str), ([.int (w : Nat), .int (h : Nat), .tup (nI S), .tup (R.map encD), .str (V0 n), .loc (μ.length + 1)] : List D)) := by
    simp [insOf, hc6]
  have low6 : lowC (μ.length + 2) c6 = true := by
    have a : ∀ L : List Nat, lows (μ.length + 2) (nI L) = true := fun L => lows_all fun d hd => by
      obtain ⟨x, _, rfl⟩ := List.mem_map.mp hd
      rfl
    have b : lows (μ.length + 2) (R.map encD) = true := lows_all fun d hd => by
      obtain ⟨x, _, rfl⟩ := List.mem_map.mp hd
      cases x with
      | expo t m' => simp only [encD, low, lows, a, Bool.and_true]
      | _ => rfl
    rw [hc6]
    simp only [lowC, lows, low, a, b, Bool.true_and, Bool.and_true]
    simp
  have lf := left X (V0_ok (n := n)) (all_two (m := 0) hμ low6 rfl) ii rfl rfl rfl rfl
  refine go_st (ρ1 := E) (μ1 := newV w h n S R μ) ?_ rfl
  have ft : ((["columns", "lines", "paper_steps", "deeds", "tones", "looks"] : List Str).zip [D.int (w : Nat), .int (h : Nat), .tup (nI S), .tup (R.map encD), .str (V0 n), .loc (μ.length + 1)]).lookup ("tones" : Str) = some (.str (V0 n)) := by rfl
  have nn : hasN ("negatives_left" : Str) ["columns", "lines", "paper_steps", "deeds", "tones", "looks"] = false := by decide +kernel
  have fv : (eMeth 1 2 "negatives_left" M_Viewer_negatives_left (eVar 0) (aCons (eFld 1 "tones" (eVar 0)) (aNil))) E (μ ++ [c6, .lst []]) = .ok (.int (nc w n R S (V0 n) : Nat)) (μ ++ [c6, .lst []]) := by
    rw [eMeth_ev, e0, bok, ii]
    dsimp only
    rw [nn, if_neg Bool.false_ne_true, aCons_ev, eFld_ev, e0, bok, ii]
    dsimp only
    rw [ft]
    simp_arith [lf]
  rw [sFld_ev, fv, sok, e0, sok]
  dsimp only
  rw [g2, hc6]
  dsimp only
  rw [if_pos ⟨rfl, by decide⟩]
  unfold newV vw vD
  simp
  exact ⟨rfl, rfl⟩
end
end Vw
set_option Elab.async false
set_option linter.all false
set_option maxRecDepth 100000
set_option autoImplicit false
set_option maxHeartbeats 1000000
namespace Pg
open PySem L2 Fw
end Pg
namespace Vw
open PySem L2 Fw Pg Sc K10 Rf
section
variable {w h n : Nat} {R : List Deed} {S V T : List Nat} {c d t k : Nat} {μ tail : Store} {ls : List D}
def St (μ : Store) (w h : Nat) (S : List Nat) (R : List Deed) (V : List Nat) (k : Nat) (ls : List D) (tail : Store) : Store := μ ++ vw w h S R V (μ.length + 1) k :: .lst ls :: tail
end
end Vw
set_option Elab.async false
set_option linter.all false
set_option maxRecDepth 100000
set_option autoImplicit false
set_option maxHeartbeats 1000000
namespace Mv
open PySem L2 Fw Pg Vw K10
section
variable {w h n c d : Nat} {R : List Deed} {S V T L : List Nat} {μ : Store}
theorem sizes {P : Nat → Nat → Bool} (hP : ((List.range 5).all fun w => (List.range 5).all fun h => !(decide (1 ≤ w) && decide (1 ≤ h) && decide (w * h ≤ 9)) || P w h) = true) (hs : Sz w h n) : P w h = true := by
  rw [List.all_eq_true] at hP
  have h1 := hP w (List.mem_range.mpr (by have := hs.w4; omega))
  rw [List.all_eq_true] at h1
  have h2 := h1 h (List.mem_range.mpr (by have := hs.h4; omega))
  have e : (decide (1 ≤ w) && decide (1 ≤ h) && decide (w * h ≤ 9)) = true := by
    simp only [Bool.and_eq_true, decide_eq_true_eq]
    exact ⟨⟨hs.w1, hs.h1⟩, by rw [hs.e]; exact hs.n9⟩
  rw [e] at h2
  simpa using h2
theorem in_row (hs : Sz w h n) {x y : Nat} (hx : x < w) (hy : y < h) : y * w + x < n := by
  have : y * w + w ≤ h * w := by
    have := Nat.mul_le_mul_right w (show y + 1 ≤ h by omega)
    rwa [Nat.succ_mul] at this
  rw [Nat.mul_comm h w, hs.e] at this
  omega
/-- the rows of what stands at the cells -/
def rw_ {α : Type} (w : Nat) (f : Nat → α) (y : Nat) : List α := (List.range w).map fun x => f (y * w + x)
def RW {α : Type} (w h : Nat) (f : Nat → α) : List (List α) := (List.range h).map (rw_ w f)
theorem cut_row {α : Type} (hs : Sz w h n) {f : Nat → α} {y : Nat} (hy : y < h) : cutD ((List.range n).map f) (some ((y * w : Nat) : Int)) (some ((y * w + w : Nat) : Int)) = rw_ w f y := by
  have hl : y * w + w ≤ n := by
    have := in_row hs (x := w - 1) (y := y) (by have := hs.w1; omega) hy
    have := hs.w1
    omega
  unfold cutD rw_
  simp only [HT.sIx_nat, List.length_map, List.length_range]
  rw [Nat.min_eq_left (show y * w ≤ n by omega)]
  apply List.ext_getElem
  · simp
    omega
  · intro i h1 h2
    simp
theorem str_map (hl : L.length = n) : L = (List.range n).map fun c => L.getD c 0 := by
  apply List.ext_getElem
  · simp [hl]
  · intro i h1 h2
    simp [List.getD_eq_getElem?_getD, List.getElem?_eq_getElem h1]
theorem up_ok (hs : Sz w h n) : okStep 0 (n : Nat) (w : Nat) = true ∧ (Builtin.Range.rangeSize 0 (n : Nat) (w : Nat)).toNat = h := by
  have := sizes (P := fun w h => okStep 0 ((w * h : Nat) : Int) (w : Nat) && decide ((Builtin.Range.rangeSize 0 ((w * h : Nat) : Int) (w : Nat)).toNat = h)) (by decide +kernel) hs
  rw [hs.e, Bool.and_eq_true, decide_eq_true_eq] at this
  exact this
theorem iStep_ev {fa fb fc : FE} {ρ : Fw.Env} {i j k : Int} (ha : fa ρ μ = .ok (.int i) μ) (hb : fb ρ μ = .ok (.int j) μ) (hc : fc ρ μ = .ok (.int k) μ) (ok : okStep i j k = true) : iStep fa fb fc ρ μ = .ok ((List.range (Builtin.Range.rangeSize i j k).toNat).map fun q => .int (i + (q : Nat) * k), none) μ := by
  unfold iStep
  rw [ha, bok, hb, bok, hc, bok]
  simp only [ok, if_true]
end
end Mv
set_option Elab.async false
set_option linter.all false
set_option maxRecDepth 100000
set_option autoImplicit false
set_option maxHeartbeats 1000000
namespace Mv
open PySem L2 Fw Pg Vw K10
section
variable {c : Nat}
theorem joinD_str : ∀ {ys : List Str}, (Str.join ⟨#[c]⟩ ys).cps.toList = joinD [c] (ys.map fun y => y.cps.toList)
  | [] => rfl
  | [y] => rfl
  | y :: z :: r => by
    have ih := joinD_str (ys := z :: r)
    show (y ++ ⟨#[c]⟩ ++ Str.join ⟨#[c]⟩ (z :: r)).cps.toList = _
    show ((y.cps ++ #[c]) ++ (Str.join ⟨#[c]⟩ (z :: r)).cps).toList = _
    rw [Array.toList_append, Array.toList_append, ih]
    simp [joinD]
theorem join_splitL {s : List Nat} : joinD [c] (splitL c s) = s := by
  unfold splitL
  rw [← joinD_str, StrLaws.join_split]
theorem splitL_free {s p : List Nat} (h : p ∈ splitL c s) : c ∉ p := by
  obtain ⟨y, hy, rfl⟩ := List.mem_map.mp h
  exact StrLaws.split_free _ c y hy
theorem splitL_ne {s : List Nat} : splitL c s ≠ [] := fun h => by
  have := PyProof.Rows.split_pos ⟨s.toArray⟩ ⟨#[c]⟩
  have e := congrArg List.length h
  unfold splitL at e
  rw [List.length_map, List.length_nil] at e
  omega
theorem take_free {p t : List Nat} (h : c ∉ p) : (p ++ t).takeWhile (fun x => x != c) = p ++ t.takeWhile (fun x => x != c) := List.takeWhile_append_of_pos fun a ha => by
  rw [bne_iff_ne]
  rintro rfl
  exact h ha
theorem join_inj : ∀ {A B : List (List Nat)}, A ≠ [] → B ≠ [] → (∀ p ∈ A, c ∉ p) → (∀ p ∈ B, c ∉ p) → joinD [c] A = joinD [c] B → A = B
  | [], _, h, _, _, _, _ => absurd rfl h
  | _ :: _, [], _, h, _, _, _ => absurd rfl h
  | [p], [q], _, _, _, _, e => by
    simp only [joinD] at e
    rw [e]
  | [p], q :: q2 :: B, _, _, ha, hb, e => by
    simp only [joinD] at e
    have : c ∈ p := by rw [e]; simp
    exact absurd this (ha p (by simp))
  | p :: p2 :: A, [q], _, _, ha, hb, e => by
    simp only [joinD] at e
    have : c ∈ q := by rw [← e]; simp
    exact absurd this (hb q (by simp))
  | p :: p2 :: A, q :: q2 :: B, _, _, ha, hb, e => by
    simp only [joinD] at e
    have e1 := congrArg (List.takeWhile fun x => x != c) e
    rw [take_free (ha p (by simp)), take_free (hb q (by simp))] at e1
    simp at e1
    subst e1
    have e2 := List.append_cancel_left e
    simp at e2
    rw [join_inj (A := p2 :: A) (B := q2 :: B) (by simp) (by simp) (fun x hx => ha x (by simp [hx])) (fun x hx => hb x (by simp [hx])) e2]
theorem split_join {A : List (List Nat)} (h : A ≠ []) (hf : ∀ p ∈ A, c ∉ p) : splitL c (joinD [c] A) = A := join_inj splitL_ne h (fun _ hp => splitL_free hp) hf join_splitL
end
end Mv
set_option Elab.async false
set_option linter.all false
set_option maxRecDepth 100000
set_option autoImplicit false
set_option maxHeartbeats 1000000
namespace Mv
open PySem L2 Fw Pg Vw K10 Rf
section
variable {w h n c d : Nat} {R : List Deed} {S V T L : List Nat} {μ : Store}
theorem strsOf_map : ∀ {A : List (List Nat)}, strsOf (A.map D.str) = some A
  | [] => rfl
  | a :: A => by
    rw [List.map_cons, strsOf, strsOf_map]
    rfl
theorem join_strs {s : List Nat} {A : List (List Nat)} (hb : (A.map List.length).sum + A.length * s.length ≤ 1000000) : oJoin (.str s) (.lst (A.map D.str)) μ = .ok (.str (joinD s A)) μ := by
  have hb : (A.map List.length).sum + A.length * s.length ≤ LIM := hb
  simp only [oJoin, seqOf, strsOf_map, hb, if_true]
theorem step_up {ρ : Fw.Env} (hs : Sz w h n) {fb fc : FE} (hb : fb ρ μ = .ok (.int (n : Nat)) μ) (hc : fc ρ μ = .ok (.int (w : Nat)) μ) : iStep (eC (.int 0)) fb fc ρ μ = .ok ((List.range h).map fun q => .int (0 + (q : Nat) * (w : Nat)), none) μ := by
  obtain ⟨d1, d2⟩ := up_ok hs
  have := iStep_ev (μ := μ) (fa := eC (.int 0)) (fb := fb) (fc := fc) (ρ := ρ) rfl hb hc d1
  rw [d2] at this
  exact this
theorem in_rows_str (hs : Sz w h n) (hl : L.length = n) : M_in_rows [.str L, .int (w : Nat)] μ = .ok (.lst ((RW w h fun c => L.getD c 0).map D.str)) μ := by
  have n9 := hs.n9
  have lL : ∀ μ, cLenO 0 M_Negativedd__lendd_ [.str L] μ = .ok (.int (n : Nat)) μ := fun μ => len_str n9 hl
  have it := step_up (μ := μ) (ρ := [some (.str L), some (.int (w : Nat)), none]) hs (fb := eCall (cLenO 0 M_Negativedd__lendd_) (aCons (eVar 0) (aNil))) (fc := eVar 1) (by simp_arith [lL]) rfl
  have lc := lc_mpA (F := fun q : Nat => D.int (0 + (q : Nat) * (w : Nat))) (items := (List.range h).map fun q => D.int (0 + (q : Nat) * (w : Nat))) (g := gVar 2) (fe := eCut (eVar 0) (oSome (eVar 2)) (oSome (eBin oAdd (eVar 2) (eVar 1)))) (ρ := [some (.str L), some (.int (w : Nat)), none]) (μ := μ) (fun q => D.str (rw_ w (fun c => L.getD c 0) q)) (L := List.range h) (by
    intro q hq
    have hq := List.mem_range.mp hq
    have e1 : (0 : Int) + (q : Nat) * (w : Nat) = ((q * w : Nat) : Int) := by push_cast; omega
    have e2 : ((q * w : Nat) : Int) + (w : Nat) = ((q * w + w : Nat) : Int) := by omega
    have ct : ∀ μ, oCut (.str L) (some ((q * w : Nat) : Int)) (some ((q * w + w : Nat) : Int)) μ = .ok (.str (rw_ w (fun c => L.getD c 0) q)) μ := fun μ => by
      have hL : L.length ≤ LIM := by show _ ≤ 1000000; omega
      have := cut_row hs (f := fun c => L.getD c 0) hq
      rw [← str_map hl] at this
      simp only [oCut, hL, if_true, this]
    refine ⟨[some (.str L), some (.int (w : Nat)), some (.int ((q * w : Nat) : Int))], by rw [e1]; rfl, ?_⟩
    generalize rw_ w (fun c => L.getD c 0) q = rr at *
    simp_arith [eCut_ev, oSome_ev, oAdd_int, e2, ct]) (by have := hs.h4; simp; show _ ≤ 1000000; omega)
  unfold M_in_rows B_in_rows
  refine mD_of (go_ret (d := .lst ((RW w h fun c => L.getD c 0).map D.str)) (μ1 := μ) ?_ rfl)
  unfold RW
  rw [List.map_map]
  have lc' : lcL ((List.range h).map fun q => D.int (0 + (q : Nat) * (w : Nat))) none (gVar 2) (fun _ μ => .ok true μ) (eCut (eVar 0) (oSome (eVar 2)) (oSome (eBin oAdd (eVar 2) (eVar 1)))) [some (.str L), some (.int (w : Nat)), none] ((List.range h).map fun q => D.int (0 + (q : Nat) * (w : Nat))) μ [] = .ok (.lst ((List.range h).map (D.str ∘ rw_ w fun c => L.getD c 0))) μ := lc
  generalize ((List.range h).map fun q => D.int (0 + (q : Nat) * (w : Nat))) = itt at *
  show eLc [2] _ _ _ _ [some (.str L), some (.int (w : Nat)), none] μ = _
  rw [eLc_ev, it, bok]
  exact lc'
theorem in_rows_lst (hs : Sz w h n) {f : Nat → D} : M_in_rows [.lst ((List.range n).map f), .int (w : Nat)] μ = .ok (.lst ((RW w h f).map D.lst)) μ := by
  have n9 := hs.n9
  have lL : ∀ μ, cLenO 0 M_Negativedd__lendd_ [.lst ((List.range n).map f)] μ = .ok (.int (n : Nat)) μ := fun μ => by rw [len_lst]; simp
  have it := step_up (μ := μ) (ρ := [some (.lst ((List.range n).map f)), some (.int (w : Nat)), none]) hs (fb := eCall (cLenO 0 M_Negativedd__lendd_) (aCons (eVar 0) (aNil))) (fc := eVar 1) (by
    generalize (List.range n).map f = ll at *
    simp_arith [lL]) rfl
  have lc := lc_mpA (F := fun q : Nat => D.int (0 + (q : Nat) * (w : Nat))) (items := (List.range h).map fun q => D.int (0 + (q : Nat) * (w : Nat))) (g := gVar 2) (fe := eCut (eVar 0) (oSome (eVar 2)) (oSome (eBin oAdd (eVar 2) (eVar 1)))) (ρ := [some (.lst ((List.range n).map f)), some (.int (w : Nat)), none]) (μ := μ) (fun q => D.lst (rw_ w f q)) (L := List.range h) (by
    intro q hq
    have hq := List.mem_range.mp hq
    have e1 : (0 : Int) + (q : Nat) * (w : Nat) = ((q * w : Nat) : Int) := by push_cast; omega
    have e2 : ((q * w : Nat) : Int) + (w : Nat) = ((q * w + w : Nat) : Int) := by omega
    have ct : ∀ μ, oCut (.lst ((List.range n).map f)) (some ((q * w : Nat) : Int)) (some ((q * w + w : Nat) : Int)) μ = .ok (.lst (rw_ w f q)) μ := fun μ => by
      have := cut_row hs (f := f) hq
      simp only [oCut, seqOf, this]
    refine ⟨[some (.lst ((List.range n).map f)), some (.int (w : Nat)), some (.int ((q * w : Nat) : Int))], by rw [e1]; rfl, ?_⟩
    generalize rw_ w f q = rr at *
    generalize (List.range n).map f = ll at *
    simp_arith [eCut_ev, oSome_ev, oAdd_int, e2, ct]) (by have := hs.h4; simp; show _ ≤ 1000000; omega)
  unfold M_in_rows B_in_rows
  refine mD_of (go_ret (d := .lst ((RW w h f).map D.lst)) (μ1 := μ) ?_ rfl)
  unfold RW
  rw [List.map_map]
  have lc' : lcL ((List.range h).map fun q => D.int (0 + (q : Nat) * (w : Nat))) none (gVar 2) (fun _ μ => .ok true μ) (eCut (eVar 0) (oSome (eVar 2)) (oSome (eBin oAdd (eVar 2) (eVar 1)))) [some (.lst ((List.range n).map f)), some (.int (w : Nat)), none] ((List.range h).map fun q => D.int (0 + (q : Nat) * (w : Nat))) μ [] = .ok (.lst ((List.range h).map (D.lst ∘ rw_ w f))) μ := lc
  generalize ((List.range h).map fun q => D.int (0 + (q : Nat) * (w : Nat))) = itt at *
  show eLc [2] _ _ _ _ [some (.lst ((List.range n).map f)), some (.int (w : Nat)), none] μ = _
  rw [eLc_ev, it, bok]
  exact lc'
theorem sum_le {α : Type} {f : α → Nat} {b : Nat} : ∀ {A : List α}, (∀ a ∈ A, f a ≤ b) → (A.map f).sum ≤ A.length * b
  | [], _ => by simp
  | a :: A, h => by
    rw [List.map_cons, List.sum_cons, List.length_cons, Nat.succ_mul]
    have h1 := h a (by simp)
    have h2 := sum_le (A := A) fun x hx => h x (by simp [hx])
    omega
theorem RW_len {α : Type} {f : Nat → α} : (RW w h f).length = h := by simp [RW]
theorem rw_len {α : Type} {f : Nat → α} {y : Nat} : (rw_ w f y).length = w := by simp [rw_]
theorem mem_RW {α : Type} {f : Nat → α} {r : List α} (hr : r ∈ RW w h f) : ∃ y, y < h ∧ r = rw_ w f y := by
  obtain ⟨y, hy, rfl⟩ := List.mem_map.mp hr
  exact ⟨y, List.mem_range.mp hy, rfl⟩
theorem nl : lit "\n" = [10] := by decide +kernel
theorem sp : lit " " = [32] := by decide +kernel
theorem sl : lit "/" = [47] := by decide +kernel
theorem picture (hs : Sz w h n) (ok : OkT n T) : M_picture [neg w h T] μ = .ok (.str (joinD [10] (RW w h fun c => T.getD c 0))) μ := by
  have nw := fun μ => neg_w (w := w) (h := h) (T := T) (μ := μ)
  have nd := fun μ => neg_d (w := w) (h := h) (T := T) (μ := μ)
  have ins := fun μ => ins_neg (w := w) (h := h) (T := T) (μ := μ)
  have ir := fun μ => in_rows_str hs ok.1 (μ := μ)
  have h4 := hs.h4
  have w4 := hs.w4
  have jo := fun μ => join_strs (μ := μ) (s := [10]) (A := RW w h fun c => T.getD c 0) (by
    have := sum_le (f := List.length) (b := 4) (A := RW w h fun c => T.getD c 0) (fun r hr => by
      obtain ⟨y, _, rfl⟩ := mem_RW hr
      rw [rw_len]
      exact w4)
    rw [RW_len] at this
    rw [RW_len]
    simp only [List.length_cons, List.length_nil]
    omega)
  unfold M_picture B_picture
  refine mD_of (go_ret (d := .str (joinD [10] (RW w h fun c => T.getD c 0))) (μ1 := μ) ?_ rfl)
  generalize neg w h T = nn at *
  generalize (RW w h fun c => T.getD c 0).map D.str = rr at *
  simp_arith [nl, eProp_ev, ins, nd, nw, ir, jo]
def wd (a b : Int) : List Nat := strI a ++ [47] ++ strI b
def fine (k : Nat) : Bool := decide ((strI (k : Nat)).length ≤ 4) && (strI (k : Nat)).all fun c => decide (33 ≤ c) && decide (c < 128)
theorem fine_all : ((List.range 800).all fine) = true := by decide +kernel
theorem fine_at {a : Int} (h0 : 0 ≤ a) (h1 : a < 800) : (strI a).length ≤ 4 ∧ ∀ c ∈ strI a, 33 ≤ c ∧ c < 128 := by
  have := List.all_eq_true.mp fine_all a.toNat (List.mem_range.mpr (by omega))
  unfold fine at this
  rw [Bool.and_eq_true, decide_eq_true_eq, List.all_eq_true] at this
  rw [show ((a.toNat : Nat) : Int) = a by omega] at this
  refine ⟨this.1, fun c hc => ?_⟩
  have := this.2 c hc
  simpa using this
theorem op_bound (hd : ∀ d ∈ R, OkD n d) : 0 ≤ (op w R c).2.1 ∧ (op w R c).2.1 ≤ 99 * (R.length : Nat) ∧ 0 ≤ (op w R c).2.2 ∧ (op w R c).2.2 ≤ 99 * (R.length : Nat) := by
  have gen : ∀ (R : List Deed) (q : Bool × Int × Int) (b : Int), (∀ d ∈ R, OkD n d) → 0 ≤ q.2.1 → q.2.1 ≤ b → 0 ≤ q.2.2 → q.2.2 ≤ b → 0 ≤ (R.foldl (stp w c) q).2.1 ∧ (R.foldl (stp w c) q).2.1 ≤ b + 99 * (R.length : Nat) ∧ 0 ≤ (R.foldl (stp w c) q).2.2 ∧ (R.foldl (stp w c) q).2.2 ≤ b + 99 * (R.length : Nat) := by
    intro R
    induction R with
    | nil => intro q b _ h1 h2 h3 h4; simp only [List.foldl_nil, List.length_nil]; omega
    | cons d R ih =>
      intro q b hd h1 h2 h3 h4
      have t1 := tk_pos (w := w) (c := c) (hd d (by simp))
      have t2 := tk_le (w := w) (c := c) (hd d (by simp))
      have := ih (stp w c q d) (b + 99) (fun e he => hd e (by simp [he])) (by unfold stp; split <;> dsimp only <;> omega) (by unfold stp; split <;> dsimp only <;> omega) (by unfold stp; split <;> dsimp only <;> omega) (by unfold stp; split <;> dsimp only <;> omega)
      rw [List.foldl_cons, List.length_cons]
      omega
  have := gen R (false, 0, 0) 0 hd (by simp) (by simp) (by simp) (by simp)
  unfold op
  omega
def wo (w : Nat) (R : List Deed) (c : Nat) : List Nat := wd (op w R c).2.1 (op w R c).2.2
theorem wo_ok (hR : R.length ≤ 8) (hd : ∀ d ∈ R, OkD n d) : (wo w R c).length ≤ 9 ∧ ∀ x ∈ wo w R c, 33 ≤ x ∧ x < 128 := by
  obtain ⟨a0, a1, b0, b1⟩ := op_bound (w := w) (c := c) hd
  obtain ⟨l1, c1⟩ := fine_at a0 (show _ < 800 by omega)
  obtain ⟨l2, c2⟩ := fine_at b0 (show _ < 800 by omega)
  unfold wo wd
  refine ⟨by simp; omega, fun x hx => ?_⟩
  rcases List.mem_append.mp hx with hx | hx
  · rcases List.mem_append.mp hx with hx | hx
    · exact c1 x hx
    · have : x = 47 := by simpa using hx
      omega
  · exact c2 x hx
theorem joinD_len {s : List Nat} : ∀ {A : List (List Nat)}, (joinD s A).length ≤ (A.map List.length).sum + A.length * s.length
  | [] => by simp [joinD]
  | [p] => by simp [joinD]
  | p :: q :: r => by
    have ih := joinD_len (s := s) (A := q :: r)
    simp only [joinD, List.length_append, List.map_cons, List.sum_cons, List.length_cons, Nat.succ_mul] at ih ⊢
    omega
theorem mem_joinD {s : List Nat} {x : Nat} : ∀ {A : List (List Nat)}, x ∈ joinD s A → x ∈ s ∨ ∃ p ∈ A, x ∈ p
  | [], h => by simp [joinD] at h
  | [p], h => .inr ⟨p, by simp, by simpa [joinD] using h⟩
  | p :: q :: r, h => by
    simp only [joinD, List.mem_append] at h
    rcases h with h | h | h
    · exact .inr ⟨p, by simp, h⟩
    · exact .inl h
    · rcases mem_joinD h with z | ⟨p', hp, hx⟩
      · exact .inl z
      · exact .inr ⟨p', by simp [hp], hx⟩
def mapRows (w h : Nat) (R : List Deed) : List (List Nat) := (RW w h (wo w R)).map (joinD [32])
theorem mapRow_ok (hs : Sz w h n) (hR : R.length ≤ 8) (hd : ∀ d ∈ R, OkD n d) {r : List Nat} (hr : r ∈ mapRows w h R) : r.length ≤ 50 ∧ ∀ x ∈ r, 32 ≤ x ∧ x < 128 := by
  obtain ⟨row, hrow, rfl⟩ := List.mem_map.mp hr
  obtain ⟨y, hy, rfl⟩ := mem_RW hrow
  have w4 := hs.w4
  refine ⟨?_, fun x hx => ?_⟩
  · have := joinD_len (s := [32]) (A := rw_ w (wo w R) y)
    have h2 := sum_le (f := List.length) (b := 9) (A := rw_ w (wo w R) y) (fun r hr => by
      obtain ⟨x, _, rfl⟩ := List.mem_map.mp hr
      exact (wo_ok hR hd).1)
    rw [rw_len] at this h2
    simp only [List.length_cons, List.length_nil] at this
    omega
  · rcases mem_joinD hx with z | ⟨p, hp, hx⟩
    · have : x = 32 := by simpa using z
      omega
    · obtain ⟨k, _, rfl⟩ := List.mem_map.mp hp
      have := (wo_ok hR hd).2 x hx
      omega
theorem mapRows_len : (mapRows w h R).length = h := by simp [mapRows, RW]
theorem open_times (hs : Sz w h n) (hR : R.length ≤ 8) (hd : ∀ d ∈ R, OkD n d) : M_open_times [.int (w : Nat), .int (h : Nat), .tup (R.map encD)] μ = .ok (.tup ((List.range n).map fun c => .tup [.int (op w R c).2.1, .int (op w R c).2.2])) μ := by
  have n9 := hs.n9
  have cz := fun μ => check_size hs (μ := μ)
  have cr := fun μ => cr2 hR hd (n := n) (μ := μ)
  have mn := fun μ => mulN hs (μ := μ)
  have op_ := fun c μ => open_pair (c := c) hs (R := R) (μ := μ)
  have rn := fun μ => range_n hs (μ := μ)
  have lc := lc_range (n := n) (items := rg n) (v := 3) (fe := eCallD 3 M_open_pair (aCons (eVar 0) (aCons (eVar 2) (aCons (eVar 3) (aNil))))) (ρ := [some (.int (w : Nat)), some (.int (h : Nat)), some (.tup (R.map encD)), none]) (μ := μ) (f := fun c => .tup [.int (op w R c).2.1, .int (op w R c).2.2]) (by omega) (by simp) (fun c hc => by
    have op_ := op_ c
    generalize R.map encD = rr at *
    simp_arith [op_])
  unfold M_open_times B_open_times
  refine mD_of ?_
  generalize R.map encD = rr at *
  refine go_seq (by simp_arith [cz]; exact rfl) ?_
  refine go_seq (by simp_arith [mn, cr]; exact rfl) ?_
  refine go_ret (d := .tup ((List.range n).map fun c => .tup [.int (op w R c).2.1, .int (op w R c).2.2])) (μ1 := μ) ?_ rfl
  have ct : ∀ L : List D, ∀ μ, cTuple [.lst L] μ = .ok (.tup L) μ := fun L μ => rfl
  generalize ((List.range n).map fun c => D.tup [.int (op w R c).2.1, .int (op w R c).2.2]) = tt at *
  simp_arith [mn, rn, lc, ct]
theorem log_small {a : Int} (h0 : 0 ≤ a) (h1 : a < 800) : a.natAbs.log2 < 1920 := Nat.lt_of_le_of_lt (Nat.log2_le_self _) (by omega)
theorem open_map (hs : Sz w h n) (hR : R.length ≤ 8) (hd : ∀ d ∈ R, OkD n d) : M_open_map [.int (w : Nat), .int (h : Nat), .tup (R.map encD)] μ = .ok (.str (joinD [10] (mapRows w h R))) μ := by
  have n9 := hs.n9
  have h4 := hs.h4
  have w4 := hs.w4
  have ot := fun μ => open_times hs hR hd (μ := μ)
  have lc := lc_mpA (F := fun c : Nat => D.tup [.int (op w R c).2.1, .int (op w R c).2.2]) (items := (List.range n).map fun c => D.tup [.int (op w R c).2.1, .int (op w R c).2.2]) (g := gTup 2 (gCons (gVar 4) (gCons (gVar 5) (gNil)))) (fe := eJs [eFmt (eVar 4), eC (.str (lit "/")), eFmt (eVar 5)] []) (ρ := [some (.int (w : Nat)), some (.int (h : Nat)), some (.tup (R.map encD)), none, none, none, none]) (μ := μ) (fun c => D.str (wo w R c)) (L := List.range n) (by
    intro c hc
    obtain ⟨a0, a1, b0, b1⟩ := op_bound (w := w) (c := c) hd
    have l1 := (fine_at a0 (show _ < 800 by omega)).1
    have l2 := (fine_at b0 (show _ < 800 by omega)).1
    have g1 := log_small a0 (show _ < 800 by omega)
    have g2 := log_small b0 (show _ < 800 by omega)
    refine ⟨[some (.int (w : Nat)), some (.int (h : Nat)), some (.tup (R.map encD)), none, some (.int (op w R c).2.1), some (.int (op w R c).2.2), none], rfl, ?_⟩
    unfold wo wd
    generalize (op w R c).2.1 = a at *
    generalize (op w R c).2.2 = b at *
    have z1 : ([] ++ strI a).length ≤ LIM := by simp; show _ ≤ 1000000; omega
    have z2 : (([] ++ strI a) ++ [47]).length ≤ LIM := by simp; show _ ≤ 1000000; omega
    have z4 : (strI a ++ [47] ++ strI b).length ≤ LIM := by simp; show _ ≤ 1000000; omega
    have z3 : ((([] ++ strI a) ++ [47]) ++ strI b).length ≤ LIM := by simp; show _ ≤ 1000000; omega
    rw [eJs_cons, eFmt_ev]
    simp only [eVar_ev, List.getElem?_cons_zero, List.getElem?_cons_succ, bok, g1, if_true, z1]
    rw [eJs_cons, eC_ev, bok, sl]
    simp only [z2, if_true]
    rw [eJs_cons, eFmt_ev]
    simp only [eVar_ev, List.getElem?_cons_zero, List.getElem?_cons_succ, bok, g2, if_true, z3, eJs_nil, List.nil_append, z4]) (by simp; show _ ≤ 1000000; omega)
  have ir := fun μ => in_rows_lst hs (f := fun c => D.str (wo w R c)) (μ := μ)
  have lc2 := lc_mpA (F := D.lst) (items := (RW w h fun c => D.str (wo w R c)).map D.lst) (g := gVar 6) (fe := eJoin (eC (.str (lit " "))) (eVar 6)) (ρ := [some (.int (w : Nat)), some (.int (h : Nat)), some (.tup (R.map encD)), some (.lst ((List.range n).map fun c => D.str (wo w R c))), none, none, none]) (μ := μ) (fun r => D.str (joinD [32] ((strsOf r).getD []))) (L := RW w h fun c => D.str (wo w R c)) (by
    intro r hr
    obtain ⟨y, hy, rfl⟩ := mem_RW hr
    have er : rw_ w (fun c => D.str (wo w R c)) y = (rw_ w (wo w R) y).map D.str := by
      unfold rw_
      rw [List.map_map]
      rfl
    rw [er, strsOf_map]
    have jo := fun μ => join_strs (μ := μ) (s := [32]) (A := rw_ w (wo w R) y) (by
      have := sum_le (f := List.length) (b := 9) (A := rw_ w (wo w R) y) (fun r hr => by
        obtain ⟨x, _, rfl⟩ := List.mem_map.mp hr
        exact (wo_ok hR hd).1)
      rw [rw_len] at this ⊢
      simp
      omega)
    refine ⟨[some (.int (w : Nat)), some (.int (h : Nat)), some (.tup (R.map encD)), some (.lst ((List.range n).map fun c => D.str (wo w R c))), none, none, some (.lst ((rw_ w (wo w R) y).map D.str))], rfl, ?_⟩
    generalize (rw_ w (wo w R) y).map D.str = rr at *
    generalize ((List.range n).map fun c => D.str (wo w R c)) = ww at *
    simp_arith [sp, jo]
    rfl) (by rw [RW_len]; show _ ≤ 1000000; omega)
  have e2 : ((RW w h fun c => D.str (wo w R c)).map fun r => D.str (joinD [32] ((strsOf r).getD []))) = (mapRows w h R).map D.str := by
    unfold mapRows RW
    rw [List.map_map, List.map_map, List.map_map]
    refine List.map_congr_left fun y _ => ?_
    show D.str (joinD [32] ((strsOf (rw_ w (fun c => D.str (wo w R c)) y)).getD [])) = D.str (joinD [32] (rw_ w (wo w R) y))
    have er : rw_ w (fun c => D.str (wo w R c)) y = (rw_ w (wo w R) y).map D.str := by
      unfold rw_
      rw [List.map_map]
      rfl
    rw [er, strsOf_map]
    rfl
  rw [e2] at lc2
  have jo := fun μ => join_strs (μ := μ) (s := [10]) (A := mapRows w h R) (by
    have := sum_le (f := List.length) (b := 50) (A := mapRows w h R) (fun r hr => (mapRow_ok hs hR hd hr).1)
    rw [mapRows_len] at this ⊢
    simp only [List.length_cons, List.length_nil]
    omega)
  unfold M_open_map B_open_map
  refine mD_of ?_
  generalize R.map encD = rr at *
  refine go_seq (ρ1 := [some (.int (w : Nat)), some (.int (h : Nat)), some (.tup rr), some (.lst ((List.range n).map fun c => D.str (wo w R c))), none, none, none]) (μ1 := μ) (by
    generalize ((List.range n).map fun c => D.tup [.int (op w R c).2.1, .int (op w R c).2.2]) = tt at *
    generalize ((List.range n).map fun c => D.str (wo w R c)) = ww at *
    simp_arith [ot, lc]) ?_
  refine go_ret (d := .str (joinD [10] (mapRows w h R))) (μ1 := μ) ?_ rfl
  generalize ((List.range n).map fun c => D.str (wo w R c)) = ww at *
  generalize ((RW w h fun c => D.str (wo w R c)).map D.lst) = l2 at *
  generalize (mapRows w h R).map D.str = l3 at *
  simp_arith [nl, ir, lc2, jo]
end
end Mv
set_option Elab.async false
set_option linter.all false
set_option maxRecDepth 100000
set_option autoImplicit false
set_option maxHeartbeats 8000000
namespace K42
open PySem L2 Fw Pg
theorem number_of {i : Nat} (h : i < 100) {μ : Store} : M_number_of [.str (strI (i : Nat))] μ = .ok (.int (i : Nat)) μ := by
  obtain rfl | rfl | rfl | rfl | rfl | rfl | rfl | rfl | rfl | rfl | rfl | rfl | rfl | rfl | rfl | rfl | rfl | rfl | rfl | rfl | rfl | rfl | rfl | rfl | rfl | rfl | rfl | rfl | rfl | rfl | rfl | rfl | rfl | rfl | rfl | rfl | rfl | rfl | rfl | rfl | rfl | rfl | rfl | rfl | rfl | rfl | rfl | rfl | rfl | rfl | rfl | rfl | rfl | rfl | rfl | rfl | rfl | rfl | rfl | rfl | rfl | rfl | rfl | rfl | rfl | rfl | rfl | rfl | rfl | rfl | rfl | rfl | rfl | rfl | rfl | rfl | rfl | rfl | rfl | rfl | rfl | rfl | rfl | rfl | rfl | rfl | rfl | rfl | rfl | rfl | rfl | rfl | rfl | rfl | rfl | rfl | rfl | rfl | rfl | rfl : i = 0 ∨ i = 1 ∨ i = 2 ∨ i = 3 ∨ i = 4 ∨ i = 5 ∨ i = 6 ∨ i = 7 ∨ i = 8 ∨ i = 9 ∨ i = 10 ∨ i = 11 ∨ i = 12 ∨ i = 13 ∨ i = 14 ∨ i = 15 ∨ i = 16 ∨ i = 17 ∨ i = 18 ∨ i = 19 ∨ i = 20 ∨ i = 21 ∨ i = 22 ∨ i = 23 ∨ i = 24 ∨ i = 25 ∨ i = 26 ∨ i = 27 ∨ i = 28 ∨ i = 29 ∨ i = 30 ∨ i = 31 ∨ i = 32 ∨ i = 33 ∨ i = 34 ∨ i = 35 ∨ i = 36 ∨ i = 37 ∨ i = 38 ∨ i = 39 ∨ i = 40 ∨ i = 41 ∨ i = 42 ∨ i = 43 ∨ i = 44 ∨ i = 45 ∨ i = 46 ∨ i = 47 ∨ i = 48 ∨ i = 49 ∨ i = 50 ∨ i = 51 ∨ i = 52 ∨ i = 53 ∨ i = 54 ∨ i = 55 ∨ i = 56 ∨ i = 57 ∨ i = 58 ∨ i = 59 ∨ i = 60 ∨ i = 61 ∨ i = 62 ∨ i = 63 ∨ i = 64 ∨ i = 65 ∨ i = 66 ∨ i = 67 ∨ i = 68 ∨ i = 69 ∨ i = 70 ∨ i = 71 ∨ i = 72 ∨ i = 73 ∨ i = 74 ∨ i = 75 ∨ i = 76 ∨ i = 77 ∨ i = 78 ∨ i = 79 ∨ i = 80 ∨ i = 81 ∨ i = 82 ∨ i = 83 ∨ i = 84 ∨ i = 85 ∨ i = 86 ∨ i = 87 ∨ i = 88 ∨ i = 89 ∨ i = 90 ∨ i = 91 ∨ i = 92 ∨ i = 93 ∨ i = 94 ∨ i = 95 ∨ i = 96 ∨ i = 97 ∨ i = 98 ∨ i = 99 := by omega
  all_goals kernel_rfl
theorem int_of {i : Nat} (h : i < 100) {μ : Store} : cInt [.str (strI (i : Nat))] μ = .ok (.int (i : Nat)) μ := by
  obtain rfl | rfl | rfl | rfl | rfl | rfl | rfl | rfl | rfl | rfl | rfl | rfl | rfl | rfl | rfl | rfl | rfl | rfl | rfl | rfl | rfl | rfl | rfl | rfl | rfl | rfl | rfl | rfl | rfl | rfl | rfl | rfl | rfl | rfl | rfl | rfl | rfl | rfl | rfl | rfl | rfl | rfl | rfl | rfl | rfl | rfl | rfl | rfl | rfl | rfl | rfl | rfl | rfl | rfl | rfl | rfl | rfl | rfl | rfl | rfl | rfl | rfl | rfl | rfl | rfl | rfl | rfl | rfl | rfl | rfl | rfl | rfl | rfl | rfl | rfl | rfl | rfl | rfl | rfl | rfl | rfl | rfl | rfl | rfl | rfl | rfl | rfl | rfl | rfl | rfl | rfl | rfl | rfl | rfl | rfl | rfl | rfl | rfl | rfl | rfl : i = 0 ∨ i = 1 ∨ i = 2 ∨ i = 3 ∨ i = 4 ∨ i = 5 ∨ i = 6 ∨ i = 7 ∨ i = 8 ∨ i = 9 ∨ i = 10 ∨ i = 11 ∨ i = 12 ∨ i = 13 ∨ i = 14 ∨ i = 15 ∨ i = 16 ∨ i = 17 ∨ i = 18 ∨ i = 19 ∨ i = 20 ∨ i = 21 ∨ i = 22 ∨ i = 23 ∨ i = 24 ∨ i = 25 ∨ i = 26 ∨ i = 27 ∨ i = 28 ∨ i = 29 ∨ i = 30 ∨ i = 31 ∨ i = 32 ∨ i = 33 ∨ i = 34 ∨ i = 35 ∨ i = 36 ∨ i = 37 ∨ i = 38 ∨ i = 39 ∨ i = 40 ∨ i = 41 ∨ i = 42 ∨ i = 43 ∨ i = 44 ∨ i = 45 ∨ i = 46 ∨ i = 47 ∨ i = 48 ∨ i = 49 ∨ i = 50 ∨ i = 51 ∨ i = 52 ∨ i = 53 ∨ i = 54 ∨ i = 55 ∨ i = 56 ∨ i = 57 ∨ i = 58 ∨ i = 59 ∨ i = 60 ∨ i = 61 ∨ i = 62 ∨ i = 63 ∨ i = 64 ∨ i = 65 ∨ i = 66 ∨ i = 67 ∨ i = 68 ∨ i = 69 ∨ i = 70 ∨ i = 71 ∨ i = 72 ∨ i = 73 ∨ i = 74 ∨ i = 75 ∨ i = 76 ∨ i = 77 ∨ i = 78 ∨ i = 79 ∨ i = 80 ∨ i = 81 ∨ i = 82 ∨ i = 83 ∨ i = 84 ∨ i = 85 ∨ i = 86 ∨ i = 87 ∨ i = 88 ∨ i = 89 ∨ i = 90 ∨ i = 91 ∨ i = 92 ∨ i = 93 ∨ i = 94 ∨ i = 95 ∨ i = 96 ∨ i = 97 ∨ i = 98 ∨ i = 99 := by omega
  all_goals kernel_rfl
theorem str_of {i : Nat} (h : i < 100) {μ : Store} : cStr [.int (i : Nat)] μ = .ok (.str (strI (i : Nat))) μ := by
  show (if _ then _ else _) = _
  rw [if_pos (Nat.lt_of_le_of_lt (Nat.log2_le_self _) (by omega))]
end K42
set_option Elab.async false
set_option linter.all false
set_option maxRecDepth 100000
set_option autoImplicit false
namespace Pg
open PySem L2 Fw
def chk (L : List Nat) : Nat := L.foldl (fun c v => (19 * c + v) % 223) 11
/-- a negative's items -/
def dig (T : List Nat) : List Nat := T.map (· - 48)
def itemsOf (w h : Nat) (T : List Nat) : List Nat := 107 :: w :: h :: dig T
end Pg
set_option Elab.async false
set_option linter.all false
set_option maxRecDepth 100000
set_option autoImplicit false
namespace K45
open PySem L2 Fw Pg
theorem nthD {L : List D} {k : Nat} (h : k < L.length) {μ : Store} : oIx (.lst L) (.int (k : Nat)) μ = .ok (L.getD k .non) μ := by
  have e : atI L (k : Nat) = some (L.getD k .non) := by
    rw [atI_in (by omega) (by omega), Int.toNat_natCast, List.getD_eq_getElem?_getD, List.getElem?_eq_getElem h]; rfl
  simp only [oIx, seqOf, e]
end K45
set_option Elab.async false
set_option linter.all false
set_option maxRecDepth 100000
set_option autoImplicit false
namespace K45
open PySem L2 Fw Pg
theorem make {w h n : Nat} (hs : Sz w h n) {T : List Nat} (ok : OkT n T) {ρ : Fw.Env} {μ : Store} {fs : FA} (hμ : μ.all (lowC μ.length) = true) (hf : fs ρ μ = .ok [.int (w : Nat), .int (h : Nat), .str T] μ) :
    eMake 0 4 M_Negativedd__initdd__2 fs ρ μ = .ok (neg w h T) μ := by
  have e : M_Negativedd__initdd__2 [.loc μ.length, .int (w : Nat), .int (h : Nat), .str T] (μ ++ [.ins 0 [] []]) = .ok .non (μ ++ [.ins 0 ["columns", "lines", "figures"] [.int (w : Nat), .int (h : Nat), .str T]]) := by
    have p1 : ∀ e, putNs ("columns" : Str) [] = (["columns"] : List Str) ∧ putXs (α := D) ("columns" : Str) e [] [] = [e] := fun e => ⟨rfl, rfl⟩
    have p2 : ∀ a e, putNs ("lines" : Str) ["columns"] = (["columns", "lines"] : List Str) ∧ putXs (α := D) ("lines" : Str) e ["columns"] [a] = [a, e] := fun a e => ⟨rfl, rfl⟩
    have p3 : ∀ a b e, putNs ("figures" : Str) ["columns", "lines"] = (["columns", "lines", "figures"] : List Str) ∧ putXs (α := D) ("figures" : Str) e ["columns", "lines"] [a, b] = [a, b, e] := fun a b e => ⟨rfl, rfl⟩
    unfold M_Negativedd__initdd__2 B_Negativedd__initdd__2
    simp_arith [wrong_part hs ok, oNotN_ev, D.isNon, Bool.not_true, Bool.false_eq_true, if_false, sFld_ev, getElem?_mid, set_mid, (p1 .non).1, (p1 _).2, (p2 .non .non).1, (p2 _ _).2, (p3 .non .non .non).1, (p3 _ _ _).2, true_and]
  rw [eMake_ev, hf]
  have t : (μ ++ [Cell.ins 0 ["columns", "lines", "figures"] [D.int (w : Nat), D.int (h : Nat), D.str T]]).take μ.length = μ := by simp
  simp_arith [e, getElem?_mid, t, hμ, lows, low, Bool.and_self, decide_true, List.length_append]
  rfl
theorem make2 {w h n : Nat} (hs : Sz w h n) {T : List Nat} (ok : OkT n T) {ρ : Fw.Env} {μ μ' : Store} {fs : FA} (hμ : μ'.all (lowC μ'.length) = true) (hf : fs ρ μ = .ok [.int (w : Nat), .int (h : Nat), .str T] μ') :
    eMake 0 4 M_Negativedd__initdd__2 fs ρ μ = .ok (neg w h T) μ' := by
  have := make hs ok (ρ := ρ) (μ := μ') (fs := fun _ m => .ok [.int (w : Nat), .int (h : Nat), .str T] m) hμ rfl
  rw [eMake_ev, bok] at this
  rw [eMake_ev, hf, bok]
  exact this
theorem negative {c : Cell} {r : Store} {m : Nat} (hm : 1 ≤ m ∧ m ≤ 3) (hr : Rest r) (hc : Row0 c) : ∃ (w h n : Nat) (T : List Nat) (c' : Cell), M_l_negative_3 [.loc 0, .int (m : Nat)] (c :: r) = .ok (neg w h T) (c' :: r) ∧ Row0 c' ∧ Sz w h n ∧ OkT n T ∧ w ≤ 3 ∧ h ≤ m := by
  obtain ⟨a, c1, e1, h1, a1⟩ := takenN (r := r) (m := 3) hc (by omega) (by omega)
  obtain ⟨b, c2, e2, h2, b1⟩ := takenN (r := r) (m := m) h1 (by omega) (by omega)
  obtain ⟨w, hw⟩ : ∃ w : Nat, w = 1 + a := ⟨_, rfl⟩
  obtain ⟨h, hh⟩ : ∃ h : Nat, h = 1 + b := ⟨_, rfl⟩
  have hw' : (1 : Int) + (a : Nat) = (w : Nat) := by omega
  have hh' : (1 : Int) + (b : Nat) = (h : Nat) := by omega
  obtain ⟨n, hn⟩ : ∃ n, n = w * h := ⟨_, rfl⟩
  have hn9 : n ≤ 9 := by rw [hn]; exact Nat.mul_le_mul (show w ≤ 3 by omega) (show h ≤ 3 by omega)
  have hn1 : 1 ≤ n := by rw [hn]; exact Nat.mul_le_mul (show 1 ≤ w by omega) (show 1 ≤ h by omega)
  have hs : Sz w h n := ⟨by omega, by omega, by omega, by omega, hn1, hn9, hn.symm⟩
  obtain ⟨ys, μ', e3, ⟨c3, rfl, h3⟩, f⟩ := lc_all (items := rg n) (g := gVar 4) (ft := fun _ μ => .ok true μ) (fe := eBin oIx (eC (.str (lit "01234"))) (eCallD 2 M_l_taken (aCons (eVar 0) (aCons (eC (.int 5)) (aNil)))))
    (ρ := [some (.loc 0), some (.int (m : Nat)), some (.int (w : Nat)), some (.int (h : Nat)), none]) (fun μ => ∃ c, μ = c :: r ∧ Row0 c) (fun _ y => ∃ k, y = .str [k] ∧ (48 ≤ k ∧ k ≤ 52)) (ds := rg n) (acc := []) (μ := c2 :: r) ⟨c2, rfl, h2⟩
    (by
      rintro d - _ ⟨c, rfl, hc⟩
      obtain ⟨k, c', e, h, k1⟩ := takenN (r := r) (m := 5) hc (by omega) (by omega)
      refine ⟨_, _, rfl, _, rfl, .str [48 + k], c' :: r, ?_, ⟨c', rfl, h⟩, 48 + k, rfl, by omega, by omega⟩
      rw [show ((5 : Nat) : Int) = 5 from rfl] at e
      simp_arith [e, l01234, ix_fig k1])
    (by rw [len_rg]; show 0 + n ≤ 1000000; omega)
  obtain ⟨T, rfl, hl, hT⟩ := f.map_of (Q := fun c => 48 ≤ c ∧ c ≤ 52) (f := fun c => D.str [c]) (fun _ _ ⟨k, e, m⟩ => ⟨k, e, m⟩)
  rw [len_rg] at hl
  have ok : OkT n T := ⟨hl, hT⟩
  refine ⟨w, h, n, T, c3, ?_, h3, hs, ok, by omega, by omega⟩
  have hTL : T.length ≤ LIM := by rw [hl]; show _ ≤ 1000000; omega
  have mn := fun μ => mulN hs (μ := μ)
  have rn := fun μ => range_n hs (μ := μ)
  rw [List.nil_append] at e3
  have jo := fun μ => oJoin_one hTL (μ := μ)
  have q3 : (aCons (eVar 2) (aCons (eVar 3) (aCons (eJoin (eC (.str (lit ""))) (eLc [4] (iRange1 (eBin oMul (eVar 2) (eVar 3))) (gVar 4) (fun _ μ => .ok true μ) (eBin oIx (eC (.str (lit "01234"))) (eCallD 2 M_l_taken (aCons (eVar 0) (aCons (eC (.int 5)) (aNil))))))) (aNil))))
      [some (.loc 0), some (.int (m : Nat)), some (.int (w : Nat)), some (.int (h : Nat)), none] (c2 :: r) = .ok [.int (w : Nat), .int (h : Nat), .str T] (c3 :: r) := by
    generalize (T.map fun c => D.str [c]) = cc at *
    simp_arith [mn, rn, e3, lE, jo]
  have q2 := make2 hs ok (all_row h3 hr) q3
  rw [show ((3 : Nat) : Int) = 3 from rfl] at e1
  unfold M_l_negative_3 B_l_negative_3
  simp_arith [e1, oAdd_int, hw', e2, hh', q2]
end K45
set_option Elab.async false
set_option linter.all false
set_option maxRecDepth 100000
set_option autoImplicit false
set_option Elab.async false
set_option linter.all false
set_option maxRecDepth 100000
set_option autoImplicit false
set_option maxHeartbeats 1000000
namespace K45
open PySem L2 Fw Pg
abbrev code (w h : Nat) (T : List Nat) : List Nat := itemsOf w h T ++ [chk (itemsOf w h T)]
theorem cutF {L : List D} {a : Nat} (ha : a ≤ L.length) {μ : Store} : oCut (.lst L) (some (a : Nat)) none μ = .ok (.lst (L.drop a)) μ := by
  have e : cutD L (some (a : Nat)) none = L.drop a := by
    unfold cutD
    rw [HT.sIx_none, HT.sIx_nat, Nat.min_eq_left ha]
    rw [List.take_of_length_le (by simp)]
  show Res.ok (D.lst (cutD L (some (a : Nat)) none)) μ = _
  rw [e]
theorem addL {A B : List D} (h : A.length + B.length ≤ 10000) {μ : Store} : oAdd (.lst A) (.lst B) μ = .ok (.lst (A ++ B)) μ := by
  have : A.length + B.length ≤ LIM := by show _ ≤ 1000000; omega
  simp only [oAdd, lstOf, this, if_true]
def base : List Nat := [107, 2, 2, 0, 4, 1, 0]
end K45
set_option Elab.async false
set_option linter.all false
set_option maxRecDepth 100000
set_option autoImplicit false
set_option maxHeartbeats 2000000
namespace K42
open PySem L2 Fw Pg
def numI : Deed → List Int
  | .flip => []
  | .draw t s => [t, s]
  | .expo t m => t :: m.map fun k => ((k : Nat) : Int)
def nameD : Deed → D
  | .flip => .str [102, 108, 105, 112]
  | .draw _ _ => .str [100, 114, 97, 119]
  | .expo _ _ => .str [101, 120, 112, 111, 115, 101]
def wordsD (d : Deed) : List D := nameD d :: (numI d).map fun i => .str (strI i)
theorem numI_ok {n : Nat} {d : Deed} (h : OkD n d) (hn : n ≤ 9) : (numI d).length ≤ 10 ∧ ∀ i ∈ numI d, 0 ≤ i ∧ i < 100 := by
  cases d with
  | flip => exact ⟨by simp [numI], fun i hi => by simp [numI] at hi⟩
  | draw t s =>
    obtain ⟨a, b, c, e⟩ := h
    refine ⟨by simp [numI], fun i hi => ?_⟩
    simp [numI] at hi
    rcases hi with rfl | rfl <;> omega
  | expo t m =>
    obtain ⟨a, b, c⟩ := h
    have l := c.length_le
    rw [List.length_range] at l
    refine ⟨by simp [numI]; omega, fun i hi => ?_⟩
    simp only [numI, List.mem_cons, List.mem_map] at hi
    rcases hi with rfl | ⟨k, hk, rfl⟩
    · omega
    · have := List.mem_range.mp (c.subset hk)
      omega
theorem int_ofI {i : Int} (h : 0 ≤ i ∧ i < 100) {μ : Store} : cInt [.str (strI i)] μ = .ok (.int i) μ := by
  obtain ⟨k, rfl⟩ := Int.eq_ofNat_of_zero_le h.1
  exact int_of (by omega)
def valD (d : D) : D := match cInt [d] [] with
  | .ok x _ => x
  | _ => .non
theorem valD_str {i : Int} (h : 0 ≤ i ∧ i < 100) : valD (.str (strI i)) = .int i := by
  unfold valD
  rw [int_ofI h]
theorem deed_of {n : Nat} {d : Deed} (h : OkD n d) (hn : n ≤ 9) {μ : Store} : M_deed_of [.lst (wordsD d)] μ = .ok (encD d) μ := by
  obtain ⟨hl, hi⟩ := numI_ok h hn
  have cu : oCut (.lst (wordsD d)) (some 1) none μ = .ok (.lst ((numI d).map fun i => .str (strI i))) μ := K45.cutF (L := wordsD d) (a := 1) (by simp [wordsD])
  have lc := lc_map (items := (numI d).map fun i => .str (strI i)) (v := 2) (fe := eCall cInt (aCons (eVar 2) (aNil))) (ρ := [some (.lst (wordsD d)), none, none]) (μ := μ) (ds := (numI d).map fun i => .str (strI i)) (f := valD) (by simp; omega) (by simp)
    (fun d hd => by
      obtain ⟨i, h1, rfl⟩ := List.mem_map.mp hd
      have e := int_ofI (hi i h1) (μ := μ)
      rw [valD_str (hi i h1)]
      generalize strI i = s at *
      simp_arith [e])
  rw [show ((numI d).map fun i => D.str (strI i)).map valD = (numI d).map D.int by
    rw [List.map_map]
    exact List.map_congr_left fun i h1 => valD_str (hi i h1)] at lc
  unfold M_deed_of B_deed_of
  refine mD_of ?_
  refine go_seq (ρ1 := [some (.lst (wordsD d)), some (.lst ((numI d).map D.int)), none]) (μ1 := μ) ?_ ?_
  · generalize wordsD d = w at *
    generalize (numI d).map D.int = m at *
    generalize ((numI d).map fun i => D.str (strI i)) = s at *
    simp_arith [eCut_ev, oSome_ev, oNone_ev, cu, lc]
  · cases d with
    | flip => exact go_not (μ1 := μ) (by kernel_rfl) (go_ret (d := encD .flip) (μ1 := μ) (by kernel_rfl) rfl)
    | draw t s => exact go_not (μ1 := μ) (by kernel_rfl) (go_ret (d := encD (.draw t s)) (μ1 := μ) (by kernel_rfl) rfl)
    | expo t m =>
      have c2 : oCut (.lst ((numI (.expo t m)).map D.int)) (some 1) none μ = .ok (.lst (m.map fun k => D.int (k : Nat))) μ := by
        have := K45.cutF (L := (numI (.expo t m)).map D.int) (a := 1) (by simp [numI]) (μ := μ)
        simpa [numI, List.map_map, Function.comp_def] using this
      have i1 : oIx (.lst ((numI (.expo t m)).map D.int)) (.int 0) μ = .ok (.int t) μ := K45.nthD (L := (numI (.expo t m)).map D.int) (k := 0) (by simp [numI])
      have iw : oIx (.lst (wordsD (.expo t m))) (.int 0) μ = .ok (nameD (.expo t m)) μ := K45.nthD (L := wordsD (.expo t m)) (k := 0) (by simp [wordsD])
      have q : oEq (nameD (.expo t m)) (.str (lit "expose")) μ = .ok (.bl true) μ := by kernel_rfl
      have test : Fw.tB (eBin oEq (eBin oIx (eVar 0) (eC (.int 0))) (eC (.str (lit "expose")))) [some (.lst (wordsD (.expo t m))), some (.lst ((numI (.expo t m)).map D.int)), none] μ = .ok true μ := by
        generalize wordsD (.expo t m) = a at *
        generalize (numI (.expo t m)).map D.int = b at *
        generalize nameD (.expo t m) = c at *
        generalize D.str (lit "expose") = z at *
        simp_arith [iw, q]
      refine go_seqC (go_T (μ1 := μ) test (go_ret (d := encD (.expo t m)) (μ1 := μ) ?_ rfl))
      have hL3 : 3 ≤ LIM := by decide
      have ct : ∀ (b : List D) (μ : Store), cTuple [.lst b] μ = .ok (.tup b) μ := fun _ _ => rfl
      have e : encD (.expo t m) = .tup [.str (lit "expose"), .int t, .tup (m.map fun k => D.int (k : Nat))] := by rw [len_expo]; rfl
      rw [e]
      generalize (numI (.expo t m)).map D.int = a at *
      generalize (m.map fun k => D.int (k : Nat)) = b at *
      simp_arith [eCut_ev, oSome_ev, oNone_ev, c2, i1, ct, hL3]
end K42
set_option Elab.async false
set_option linter.all false
set_option maxRecDepth 100000
set_option autoImplicit false
set_option maxHeartbeats 2000000
namespace K42
open PySem L2 Fw Pg
def strD : D → D
  | .int i => .str (strI i)
  | d => d
theorem str_ofI {i : Int} (h : 0 ≤ i ∧ i < 100) {μ : Store} : cStr [.int i] μ = .ok (.str (strI i)) μ := by
  obtain ⟨k, rfl⟩ := Int.eq_ofNat_of_zero_le h.1
  exact str_of (by omega)
theorem l_words {n : Nat} {d : Deed} (h : OkD n d) (hn : n ≤ 9) {μ : Store} : M_l_words [encD d] μ = .ok (.lst (wordsD d)) μ := by
  obtain ⟨hl, hi⟩ := numI_ok h hn
  have hL1 : 1 ≤ LIM := by decide
  have lc := lc_map (items := (numI d).map D.int) (v := 2) (fe := eCall cStr (aCons (eVar 2) (aNil))) (ρ := [some (encD d), some (.lst ((numI d).map D.int)), none]) (μ := μ) (ds := (numI d).map D.int) (f := strD) (by simp; omega) (by simp)
    (fun x hx => by
      obtain ⟨i, h1, rfl⟩ := List.mem_map.mp hx
      have e := str_ofI (hi i h1) (μ := μ)
      show _ = Res.ok (D.str (strI i)) μ
      generalize strI i = s at *
      simp_arith [e])
  rw [show ((numI d).map D.int).map strD = (numI d).map fun i => D.str (strI i) by rw [List.map_map]; rfl] at lc
  have ix : oIx (encD d) (.int 0) μ = .ok (nameD d) μ := by cases d <;> kernel_rfl
  have ad : oAdd (.lst [nameD d]) (.lst ((numI d).map fun i => .str (strI i))) μ = .ok (.lst (wordsD d)) μ := by
    rw [K45.addL (by simp; omega)]
    rfl
  unfold M_l_words B_l_words
  refine mD_of ?_
  refine go_seq (ρ1 := [some (encD d), some (.lst ((numI d).map D.int)), none]) (μ1 := μ) ?_ ?_
  · cases d with
    | flip => kernel_rfl
    | draw t s => kernel_rfl
    | expo t m =>
      have hm : m.length ≤ 9 := by
        simp [numI] at hl
        omega
      have cl : ∀ (b : List D) (μ : Store), cList [.tup b] μ = .ok (.lst b) μ := fun _ _ => rfl
      have a1 : oAdd (.lst [.int t]) (.lst (m.map fun k => D.int (k : Nat))) μ = .ok (.lst ((numI (.expo t m)).map D.int)) μ := by
        rw [K45.addL (by simp; omega)]
        simp [numI, List.map_map, Function.comp_def]
      have q : oEq (nameD (.expo t m)) (.str (lit "expose")) μ = .ok (.bl true) μ := by kernel_rfl
      have i1 : oIx (encD (.expo t m)) (.int 1) μ = .ok (.int t) μ := by kernel_rfl
      have i2 : oIx (encD (.expo t m)) (.int 2) μ = .ok (.tup (m.map fun k => D.int (k : Nat))) μ := by kernel_rfl
      generalize encD (.expo t m) = a at *
      generalize (numI (.expo t m)).map D.int = b at *
      generalize (m.map fun k => D.int (k : Nat)) = c at *
      generalize nameD (.expo t m) = e at *
      generalize D.str (lit "expose") = z at *
      simp_arith [ix, q, i1, i2, cl, a1, hL1]
  · refine go_ret (d := .lst (wordsD d)) (μ1 := μ) ?_ rfl
    generalize encD d = a at *
    generalize (numI d).map D.int = b at *
    generalize ((numI d).map fun i => D.str (strI i)) = c at *
    generalize nameD d = e at *
    generalize wordsD d = w at *
    simp_arith [ix, lc, ad, hL1]
end K42
set_option Elab.async false
set_option linter.all false
set_option maxRecDepth 100000
set_option autoImplicit false
set_option maxHeartbeats 2000000
namespace K42
open PySem L2 Fw Pg
def nameL : Deed → List Nat
  | .flip => [102, 108, 105, 112]
  | .draw _ _ => [100, 114, 97, 119]
  | .expo _ _ => [101, 120, 112, 111, 115, 101]
def wordsL (d : Deed) : List (List Nat) := nameL d :: (numI d).map strI
theorem wordsD_eq {d : Deed} : wordsD d = (wordsL d).map D.str := by
  cases d <;> simp [wordsD, wordsL, nameD, nameL]
theorem wordsL_ok {n : Nat} {d : Deed} (h : OkD n d) (hn : n ≤ 9) : (wordsL d).length ≤ 11 ∧ ∀ p ∈ wordsL d, p.length ≤ 6 ∧ ∀ c ∈ p, 33 ≤ c ∧ c < 128 := by
  obtain ⟨hl, hi⟩ := numI_ok h hn
  refine ⟨by simp [wordsL]; omega, fun p hp => ?_⟩
  simp only [wordsL, List.mem_cons, List.mem_map] at hp
  rcases hp with rfl | ⟨i, h1, rfl⟩
  · cases d <;> simp [nameL]
  · have := hi i h1
    have f := Mv.fine_at (a := i) (by omega) (by omega)
    exact ⟨by omega, f.2⟩
theorem words_sum {n : Nat} {d : Deed} (h : OkD n d) (hn : n ≤ 9) : ((wordsL d).map List.length).sum + (wordsL d).length * 1 ≤ 1000 := by
  obtain ⟨h1, h2⟩ := wordsL_ok h hn
  have := Mv.sum_le (f := List.length) (b := 6) (A := wordsL d) fun p hp => (h2 p hp).1
  omega
theorem deed_text {n : Nat} {d : Deed} (h : OkD n d) (hn : n ≤ 9) {μ : Store} : M_deed_text [encD d] μ = .ok (.str (joinD [32] (wordsL d))) μ := by
  obtain ⟨hl, hi⟩ := numI_ok h hn
  have hL1 : 1 ≤ LIM := by decide
  have lc := lc_map (items := (numI d).map D.int) (v := 2) (fe := eCall cStr (aCons (eVar 2) (aNil))) (ρ := [some (encD d), some (.tup ((numI d).map D.int)), none]) (μ := μ) (ds := (numI d).map D.int) (f := strD) (by simp; omega) (by simp)
    (fun x hx => by
      obtain ⟨i, h1, rfl⟩ := List.mem_map.mp hx
      have e := str_ofI (hi i h1) (μ := μ)
      show _ = Res.ok (D.str (strI i)) μ
      generalize strI i = s at *
      simp_arith [e])
  rw [show ((numI d).map D.int).map strD = (numI d).map fun i => D.str (strI i) by rw [List.map_map]; rfl] at lc
  have ix : oIx (encD d) (.int 0) μ = .ok (nameD d) μ := by cases d <;> kernel_rfl
  have ad : oAdd (.lst [nameD d]) (.lst ((numI d).map fun i => .str (strI i))) μ = .ok (.lst (wordsD d)) μ := by
    rw [K45.addL (by simp; omega)]
    rfl
  have jn : oJoin (.str (lit " ")) (.lst (wordsD d)) μ = .ok (.str (joinD [32] (wordsL d))) μ := by
    rw [wordsD_eq, Mv.sp]
    have := words_sum h hn
    exact Mv.join_strs (by simpa using (by omega : _ ≤ 1000000))
  unfold M_deed_text B_deed_text
  refine mD_of ?_
  refine go_seq (ρ1 := [some (encD d), some (.tup ((numI d).map D.int)), none]) (μ1 := μ) ?_ ?_
  · cases d with
    | flip => kernel_rfl
    | draw t s => kernel_rfl
    | expo t m =>
      have hm : m.length ≤ 9 := by
        simp [numI] at hl
        omega
      have a1 : oAdd (.tup [.int t]) (.tup (m.map fun k => D.int (k : Nat))) μ = .ok (.tup ((numI (.expo t m)).map D.int)) μ := by
        have : [D.int t].length + (m.map fun k => D.int (k : Nat)).length ≤ LIM := by
          show _ ≤ 1000000
          simp
          omega
        simp only [oAdd, this, if_true]
        simp [numI, List.map_map, Function.comp_def]
      have q : oEq (nameD (.expo t m)) (.str (lit "expose")) μ = .ok (.bl true) μ := by kernel_rfl
      have i1 : oIx (encD (.expo t m)) (.int 1) μ = .ok (.int t) μ := by kernel_rfl
      have i2 : oIx (encD (.expo t m)) (.int 2) μ = .ok (.tup (m.map fun k => D.int (k : Nat))) μ := by kernel_rfl
      generalize encD (.expo t m) = a at *
      generalize (numI (.expo t m)).map D.int = b at *
      generalize (m.map fun k => D.int (k : Nat)) = c at *
      generalize nameD (.expo t m) = e at *
      generalize D.str (lit "expose") = z at *
      simp_arith [ix, q, i1, i2, a1, hL1]
  · refine go_ret (d := .str (joinD [32] (wordsL d))) (μ1 := μ) ?_ rfl
    generalize encD d = a at *
    generalize (numI d).map D.int = b at *
    generalize ((numI d).map fun i => D.str (strI i)) = c at *
    generalize nameD d = e at *
    generalize wordsD d = w at *
    generalize joinD [32] (wordsL d) = j at *
    generalize lit " " = sp at *
    simp_arith [ix, lc, ad, hL1, jn]
end K42
set_option Elab.async false
set_option linter.all false
set_option maxRecDepth 100000
set_option autoImplicit false
set_option maxHeartbeats 2000000
namespace K42
open PySem L2 Fw Pg
def rowL (d : Deed) : List Nat := joinD [32] (wordsL d)
theorem rowL_ok {n : Nat} {d : Deed} (h : OkD n d) (hn : n ≤ 9) : (rowL d).length ≤ 1000 ∧ (∀ c ∈ rowL d, 32 ≤ c) ∧ splitL 32 (rowL d) = wordsL d := by
  have ok := wordsL_ok h hn
  refine ⟨?_, fun c hc => ?_, Mv.split_join (by simp [wordsL]) fun p hp hc => ?_⟩
  · have := words_sum h hn
    have := Mv.joinD_len (s := [32]) (A := wordsL d)
    simp only [List.length_cons, List.length_nil] at this
    unfold rowL
    omega
  · rcases Mv.mem_joinD hc with h1 | ⟨p, hp, h1⟩
    · simp at h1
      omega
    · have := ((ok.2 p hp).2 c h1).1
      omega
  · have := ((ok.2 p hp).2 32 hc).1
    omega
def textL (R : List Deed) : List Nat := joinD [10] (R.map rowL)
section
variable {n : Nat} {R : List Deed} {μ : Store} (hd : ∀ d ∈ R, OkD n d) (hn : n ≤ 9) (hR : R.length ≤ 8)
include hd hn hR
theorem text_bound : ((R.map rowL).map List.length).sum + (R.map rowL).length * 1 ≤ 10000 := by
  have := Mv.sum_le (f := List.length) (b := 1000) (A := R.map rowL) fun p hp => by
    obtain ⟨d, h, rfl⟩ := List.mem_map.mp hp
    exact (rowL_ok (hd d h) hn).1
  simp only [List.length_map] at this ⊢
  omega
theorem recipe_text : M_recipe_text [.tup (R.map encD)] μ = .ok (.str (textL R)) μ := by
  have lc := lc_map (items := R.map encD) (v := 1) (fe := eCallD 1 M_deed_text (aCons (eVar 1) (aNil))) (ρ := [some (.tup (R.map encD)), none]) (μ := μ) (ds := R.map encD) (f := fun x => match M_deed_text [x] [] with | .ok y _ => y | _ => .non) (by simp; omega) (by simp)
    (fun x hx => by
      obtain ⟨d, h1, rfl⟩ := List.mem_map.mp hx
      have e := fun μ => deed_text (hd d h1) hn (μ := μ)
      show _ = Res.ok (match M_deed_text [encD d] [] with | .ok y _ => y | _ => .non) μ
      rw [e []]
      generalize encD d = a at *
      generalize joinD [32] (wordsL d) = j at *
      simp_arith [e])
  rw [show (R.map encD).map (fun x => match M_deed_text [x] [] with | .ok y _ => y | _ => .non) = (R.map rowL).map D.str by
    rw [List.map_map, List.map_map]
    refine List.map_congr_left fun d h1 => ?_
    show (match M_deed_text [encD d] [] with | .ok y _ => y | _ => .non) = D.str (rowL d)
    rw [deed_text (hd d h1) hn]
    rfl] at lc
  have jn : oJoin (.str (lit "\n")) (.lst ((R.map rowL).map D.str)) μ = .ok (.str (textL R)) μ := by
    rw [Mv.nl]
    have := text_bound hd hn hR
    refine Mv.join_strs ?_
    show _ + _ * 1 ≤ _
    omega
  unfold M_recipe_text B_recipe_text
  refine mD_of (go_ret (d := .str (textL R)) (μ1 := μ) ?_ rfl)
  generalize R.map encD = a at *
  generalize (R.map rowL).map D.str = b at *
  generalize textL R = t at *
  generalize lit "\n" = z at *
  simp_arith [lc, jn]
theorem text_split (ne : R ≠ []) : splitL 10 (textL R) = R.map rowL := Mv.split_join (by simpa using ne) fun p hp hc => by
  obtain ⟨d, h, rfl⟩ := List.mem_map.mp hp
  have := (rowL_ok (hd d h) hn).2.1 10 hc
  omega
end
end K42
set_option Elab.async false
set_option linter.all false
set_option maxRecDepth 100000
set_option autoImplicit false
set_option maxHeartbeats 2000000
namespace K42
open PySem L2 Fw Pg
section
variable {n : Nat} {R : List Deed} {μ : Store} (hd : ∀ d ∈ R, OkD n d) (hn : n ≤ 9) (hR : R.length ≤ 8)
include hd hn hR
theorem text_len : (textL R).length ≤ 10000 := by
  have := text_bound hd hn hR
  have := Mv.joinD_len (s := [10]) (A := R.map rowL)
  simp only [List.length_cons, List.length_nil] at this
  unfold textL
  omega
theorem text_low : ((textL R).all fun c => decide (c < 0x110000)) = true := by
  rw [List.all_eq_true]
  intro c hc
  rw [decide_eq_true_eq]
  rcases Mv.mem_joinD hc with h1 | ⟨p, hp, h1⟩
  · simp at h1
    omega
  · obtain ⟨d, h, rfl⟩ := List.mem_map.mp hp
    rcases Mv.mem_joinD h1 with h2 | ⟨q, hq, h2⟩
    · simp at h2
      omega
    · have := (((wordsL_ok (hd d h) hn).2 q hq).2 c h2).2
      omega
theorem text_some (ne : R ≠ []) : textL R ≠ [] := fun e => by
  have h := text_split hd hn hR ne
  rw [e] at h
  obtain ⟨d, r, rfl⟩ := List.exists_cons_of_ne_nil ne
  have h1 : (splitL 10 []).getD 0 [1] = rowL d := by rw [h]; rfl
  have h2 := (rowL_ok (hd d (by simp)) hn).2.2
  rw [← h1] at h2
  have h3 : (splitL 32 ((splitL 10 []).getD 0 [1])).getD 0 [1] = nameL d := by rw [h2]; rfl
  have h4 : (splitL 32 ((splitL 10 []).getD 0 [1])).getD 0 [1] = [] := by decide +kernel
  rw [h4] at h3
  cases d <;> cases h3
theorem worded_rows (ne : R ≠ []) : M_worded_rows [.str (textL R)] μ = .ok (.lst (R.map fun d => .lst (wordsD d))) μ := by
  have low := text_low hd hn hR
  have eq := oEq_str (a := textL R) (b := []) (μ := μ) low (by decide)
  rw [decide_eq_false (text_some hd hn hR ne)] at eq
  have tl : (textL R).length ≤ LIM := Nat.le_trans (text_len hd hn hR) (by decide)
  have sp := text_split hd hn hR ne
  have lc := lc_map (items := (R.map rowL).map D.str) (v := 1) (fe := eSplit (eVar 1) (eC (.str (lit " ")))) (ρ := [some (.str (textL R)), none]) (μ := μ) (ds := (R.map rowL).map D.str) (f := fun x => match x with | .str s => .lst ((splitL 32 s).map D.str) | _ => .non) (by simp; omega) (by simp)
    (fun x hx => by
      obtain ⟨p, hp, rfl⟩ := List.mem_map.mp hx
      obtain ⟨d, h1, rfl⟩ := List.mem_map.mp hp
      have l : (rowL d).length ≤ LIM := Nat.le_trans (rowL_ok (hd d h1) hn).1 (by decide)
      generalize rowL d = r at *
      simp_arith [eSplit_ev, Mv.sp, l])
  rw [show ((R.map rowL).map D.str).map (fun x => match x with | .str s => .lst ((splitL 32 s).map D.str) | _ => .non) = R.map fun d => D.lst (wordsD d) by
    rw [List.map_map, List.map_map]
    refine List.map_congr_left fun d h1 => ?_
    show D.lst ((splitL 32 (rowL d)).map D.str) = _
    rw [(rowL_ok (hd d h1) hn).2.2, ← wordsD_eq]] at lc
  have e0 : lit "" = [] := by decide +kernel
  unfold M_worded_rows B_worded_rows
  refine mD_of ?_
  refine go_not (μ1 := μ) ?_ (go_ret (d := .lst (R.map fun d => .lst (wordsD d))) (μ1 := μ) ?_ rfl)
  · generalize textL R = t at *
    simp_arith [e0, eq]
  · generalize textL R = t at *
    simp_arith [eSplit_ev, Mv.nl, tl, sp, lc]
end
end K42
set_option Elab.async false
set_option linter.all false
set_option maxRecDepth 100000
set_option autoImplicit false
set_option maxHeartbeats 2000000
namespace K42
open PySem L2 Fw Pg
theorem num_ok {i : Int} (h1 : 1 ≤ i) (h9 : i ≤ 99) {a b c x3 : Option D} {μ : Store} : tNot (Fw.tB (eCallD 3 M_is_number (aCons (eCallD 1 M_number_of (aCons (eVar 4) (aNil))) (aCons (eC (.int 1)) (aCons (eC (.int 99)) (aNil)))))) [a, b, c, x3, some (.str (strI i))] μ = .ok false μ := by
  obtain ⟨k, rfl⟩ := Int.eq_ofNat_of_zero_le (show 0 ≤ i by omega)
  have e := fun μ => number_of (i := k) (by omega) (μ := μ)
  have q := fun μ => is_number (v := ((k : Nat) : Int)) (a := 1) (b := 99) (μ := μ)
  simp only [h1, h9, decide_true, Bool.and_true] at q
  generalize strI (k : Nat) = s at *
  simp_arith [e, q, Bool.not_true]
theorem wrong_flip {n : Nat} {μ : Store} : M_wrong_word [.lst (wordsD .flip), .int (n : Nat)] μ = .ok .non μ := by kernel_rfl
theorem wrong_draw {n : Nat} {t s : Int} (h : OkD n (.draw t s)) {μ : Store} : M_wrong_word [.lst (wordsD (.draw t s)), .int (n : Nat)] μ = .ok .non μ := by
  obtain ⟨a, b, c, e⟩ := h
  unfold M_wrong_word B_wrong_word
  refine mD_of ?_
  refine go_not (μ1 := μ) (by kernel_rfl) ?_
  refine go_seq (ρ1 := [some (.lst (wordsD (.draw t s))), some (.int (n : Nat)), some (.int 3), none, none]) (μ1 := μ) (by kernel_rfl) ?_
  refine go_forS (it := [.tup [.int 1, .str (strI t)], .tup [.int 2, .str (strI s)]]) (src := none) (μ1 := μ) (by kernel_rfl) ?_
  refine go_ix (J := fun _ ρ μ' => ∃ x3 x4, ρ = [some (.lst (wordsD (.draw t s))), some (.int (n : Nat)), some (.int 3), x3, x4] ∧ μ' = μ) ⟨_, _, rfl, rfl⟩ ?_ ?_
  · rintro i d hd _ _ ⟨x3, x4, rfl, rfl⟩
    match i, hd with
    | 0, hd =>
      cases hd
      exact ⟨[some (.lst (wordsD (.draw t s))), some (.int (n : Nat)), some (.int 3), some (.int 1), some (.str (strI t))], _, rfl, go_not1 (μ1 := _) (num_ok a b) (nxq ⟨_, _, rfl, rfl⟩)⟩
    | 1, hd =>
      cases hd
      exact ⟨[some (.lst (wordsD (.draw t s))), some (.int (n : Nat)), some (.int 3), some (.int 2), some (.str (strI s))], _, rfl, go_not1 (μ1 := _) (num_ok c e) (nxq ⟨_, _, rfl, rfl⟩)⟩
    | k + 2, hd => simp at hd
  · rintro _ μ2 ⟨x3, x4, rfl, hμ⟩
    subst hμ
    refine go_then ?_
    refine go_not (μ1 := μ2) (by kernel_rfl) ?_
    refine go_not (μ1 := μ2) (by kernel_rfl) ?_
    exact go_ret (d := .non) (μ1 := μ2) (by kernel_rfl) rfl
end K42
set_option Elab.async false
set_option linter.all false
set_option maxRecDepth 100000
set_option autoImplicit false
set_option maxHeartbeats 2000000
namespace K42
open PySem L2 Fw Pg
section
variable {n : Nat} {t : Int} {m : List Nat} {μ : Store}
theorem wcell (hm : m.Sublist (List.range n)) (hn : n ≤ 9) : M_wrong_cell [.lst (wordsD (.expo t m)), .int 2, .int (n : Nat)] μ = .ok .non μ := by
  have ml := hm.length_le
  rw [List.length_range] at ml
  have pw := List.pairwise_lt_range.sublist hm
  have lw : (wordsD (.expo t m)).length = m.length + 2 := by simp [wordsD, numI]
  have ln : ∀ μ, cLenO 0 M_Negativedd__lendd_ [.lst (wordsD (.expo t m))] μ = .ok (.int ((m.length + 2 : Nat) : Int)) μ := fun μ => by rw [len_lst, lw]
  unfold M_wrong_cell B_wrong_cell
  refine mD_of ?_
  refine go_seq (ρ1 := [some (.lst (wordsD (.expo t m))), some (.int 2), some (.int (n : Nat)), some (.int 0), none, none]) (μ1 := μ) (by kernel_rfl) ?_
  refine go_forS (it := (List.range m.length).map fun k => .int (2 + (k : Nat))) (src := none) (μ1 := μ) ?_ ?_
  · have h1 : (-1000000 : Int) ≤ 2 ∧ (2 : Int) ≤ 1000000 ∧ (-1000000 : Int) ≤ ((m.length + 2 : Nat) : Int) ∧ ((m.length + 2 : Nat) : Int) ≤ 1000000 := by omega
    have h2 : (((m.length + 2 : Nat) : Int) - 2).toNat = m.length := by omega
    have ha : (eVar 1) [some (.lst (wordsD (.expo t m))), some (.int 2), some (.int (n : Nat)), some (.int 0), none, none] μ = .ok (.int 2) μ := rfl
    have hb : (eCall (cLenO 0 M_Negativedd__lendd_) (aCons (eVar 0) (aNil))) [some (.lst (wordsD (.expo t m))), some (.int 2), some (.int (n : Nat)), some (.int 0), none, none] μ = .ok (.int ((m.length + 2 : Nat) : Int)) μ := by
      generalize wordsD (.expo t m) = w at *
      simp_arith [ln]
    simp only [iRange2, ha, hb, bok, h1, and_self, if_true, h2]
  refine go_mp (f := fun k : Nat => D.int (2 + (k : Nat))) (L := List.range m.length) (J := fun i ρ μ' => ∃ (l : Nat) (x4 x5 : Option D), ρ = [some (.lst (wordsD (.expo t m))), some (.int 2), some (.int (n : Nat)), some (.int (l : Nat)), x4, x5] ∧ μ' = μ ∧ ∀ j, i ≤ j → (h : j < m.length) → l ≤ m[j]) ⟨0, none, none, rfl, rfl, fun _ _ _ => Nat.zero_le _⟩ ?_ ?_
  · rintro i k hk _ μ2 ⟨l, x4, x5, rfl, hμ, hl⟩
    subst hμ
    have hi : i < m.length := by
      have := (List.getElem?_eq_some_iff.mp hk).1
      simpa using this
    have hk : k = i := by
      rw [List.getElem?_range hi] at hk
      exact (Option.some.inj hk).symm
    subst hk
    have e2 : (2 : Int) + (k : Nat) = ((k + 2 : Nat) : Int) := by omega
    have c1 := hl k (Nat.le_refl _) hi
    have c2 : m[k] < n := List.mem_range.mp (hm.subset (List.getElem_mem hi))
    have ix : ∀ μ, oIx (.lst (wordsD (.expo t m))) (.int ((k + 2 : Nat) : Int)) μ = .ok (.str (strI (m[k] : Nat))) μ := fun μ => by
      rw [K45.nthD (L := wordsD (.expo t m)) (k := k + 2) (by omega)]
      congr 1
      simp [wordsD, numI, hi]
    have nm := fun μ => number_of (i := m[k]) (by omega) (μ := μ)
    have q := fun μ => is_number (v := ((m[k] : Nat) : Int)) (a := (l : Nat)) (b := (n : Int) - 1) (μ := μ)
    rw [decide_eq_true (show ((l : Nat) : Int) ≤ ((m[k] : Nat) : Int) by omega), decide_eq_true (show ((m[k] : Nat) : Int) ≤ (n : Int) - 1 by omega)] at q
    refine ⟨[some (.lst (wordsD (.expo t m))), some (.int 2), some (.int (n : Nat)), some (.int (l : Nat)), some (.int ((k + 2 : Nat) : Int)), x5], μ2, by rw [e2]; rfl, ?_⟩
    have nxt : ∀ j, k + 1 ≤ j → (h : j < m.length) → m[k] + 1 ≤ m[j] := fun j hj h => (List.pairwise_iff_getElem.mp pw) k j hi h (by omega)
    generalize wordsD (.expo t m) = w at *
    generalize m[k] = ck at *
    refine go_seq (ρ1 := [some (.lst w), some (.int 2), some (.int (n : Nat)), some (.int (l : Nat)), some (.int ((k + 2 : Nat) : Int)), some (.int (ck : Nat))]) (μ1 := μ2) ?_ ?_
    · generalize ((k + 2 : Nat) : Int) = kk at *
      generalize strI (ck : Nat) = s at *
      simp_arith [ix, nm]
    refine go_not (μ1 := μ2) ?_ ?_
    · generalize ((k + 2 : Nat) : Int) = kk at *
      simp_arith [oSub_int, q, Bool.and_true, Bool.not_true]
    · refine go_st (ρ1 := [some (.lst w), some (.int 2), some (.int (n : Nat)), some (.int ((ck + 1 : Nat) : Int)), some (.int ((k + 2 : Nat) : Int)), some (.int (ck : Nat))]) (μ1 := μ2) ?_ (nxq ⟨_, _, _, rfl, rfl, nxt⟩)
      have e3 : ((ck : Nat) : Int) + 1 = ((ck + 1 : Nat) : Int) := by omega
      generalize ((k + 2 : Nat) : Int) = kk at *
      simp_arith [oAdd_int, e3]
  · rintro _ μ2 ⟨l, x4, x5, rfl, hμ, -⟩
    subst hμ
    refine go_then ?_
    exact go_ret (d := .non) (μ1 := μ2) (by rfl) rfl
theorem wrong_expo (h : OkD n (.expo t m)) (hn : n ≤ 9) : M_wrong_word [.lst (wordsD (.expo t m)), .int (n : Nat)] μ = .ok .non μ := by
  obtain ⟨t1, t9, hm⟩ := h
  have ml := hm.length_le
  rw [List.length_range] at ml
  have lw : (wordsD (.expo t m)).length = m.length + 2 := by simp [wordsD, numI]
  have ln : ∀ μ, cLenO 0 M_Negativedd__lendd_ [.lst (wordsD (.expo t m))] μ = .ok (.int ((m.length + 2 : Nat) : Int)) μ := fun μ => by rw [len_lst, lw]
  have iw : ∀ μ, oIx (.lst (wordsD (.expo t m))) (.int 0) μ = .ok (.str [101, 120, 112, 111, 115, 101]) μ := fun μ => K45.nthD (L := wordsD (.expo t m)) (k := 0) (by omega)
  have wc := fun μ => wcell (t := t) hm hn (μ := μ)
  have ct : ∀ μ, oCut (.lst (wordsD (.expo t m))) (some 1) (some 2) μ = .ok (.lst [.str (strI t)]) μ := fun μ => by
    have e : cutD (wordsD (.expo t m)) (some 1) (some 2) = [.str (strI t)] := by
      unfold cutD
      rw [show (1 : Int) = ((1 : Nat) : Int) from rfl, show (2 : Int) = ((2 : Nat) : Int) from rfl, HT.sIx_nat, HT.sIx_nat, lw, Nat.min_eq_left (by omega), Nat.min_eq_left (by omega)]
      simp [wordsD, numI]
    show Res.ok (D.lst (cutD _ _ _)) μ = _
    rw [e]
  have eq0 : ∀ μ, oEq (.str [101, 120, 112, 111, 115, 101]) (.str (lit "expose")) μ = .ok (.bl true) μ := fun μ => by kernel_rfl
  have lz : ∀ μ, oLt (.int ((m.length + 2 : Nat) : Int)) (.int 2) μ = .ok (.bl false) μ := fun μ => by rw [oLt_int, decide_eq_false (by omega)]
  unfold M_wrong_word B_wrong_word
  refine mD_of ?_
  simp only [List.map_cons, List.map_nil, List.length_cons, List.length_nil, List.cons_append, List.nil_append, Nat.reduceAdd, Nat.reduceSub, List.replicate]
  generalize wordsD (.expo t m) = w at *
  refine go_not (μ1 := μ) ?_ ?_
  · have e : (found [(lit "expose", 1), (lit "draw", 2), (lit "flip", 0)] [101, 120, 112, 111, 115, 101]).isSome = true := by decide +kernel
    simp_arith [eDin_ev, iw]
    rw [e]
    rfl
  refine go_seq (ρ1 := [some (.lst w), some (.int (n : Nat)), some (.int 2), none, none]) (μ1 := μ) ?_ ?_
  · have : eDix [(lit "expose", 1), (lit "draw", 2), (lit "flip", 0)] (eC (.str [101, 120, 112, 111, 115, 101])) [] μ = .ok (.int 1) μ := by kernel_rfl
    rw [eDix_ev] at this
    simp_arith [eDix_ev, iw]
    simp only [eC_ev, bok] at this
    rw [this]
    rfl
  refine go_forS (it := [.tup [.int 1, .str (strI t)]]) (src := none) (μ1 := μ) ?_ ?_
  · simp_arith [iEnumFrom_ev, eCut_ev, oSome_ev, ct]
    rfl
  refine go_ix (J := fun _ ρ μ' => ∃ x3 x4, ρ = [some (.lst w), some (.int (n : Nat)), some (.int 2), x3, x4] ∧ μ' = μ) ⟨_, _, rfl, rfl⟩ ?_ ?_
  · rintro i d hd _ _ ⟨x3, x4, rfl, rfl⟩
    match i, hd with
    | 0, hd =>
      cases hd
      exact ⟨[some (.lst w), some (.int (n : Nat)), some (.int 2), some (.int 1), some (.str (strI t))], _, rfl, go_not1 (μ1 := _) (num_ok t1 t9) (nxq ⟨_, _, rfl, rfl⟩)⟩
    | k + 1, hd => simp at hd
  · rintro _ μ2 ⟨x3, x4, rfl, hμ⟩
    subst hμ
    refine go_then ?_
    refine go_not (μ1 := μ2) (by simp_arith [ln, lz]) ?_
    refine go_seqC (go_T (μ1 := μ2) ?_ (go_ret (d := .non) (μ1 := μ2) ?_ rfl))
    · generalize lit "expose" = z at *
      simp_arith [iw, eq0]
    · simp_arith [wc]
theorem wrong_word {d : Deed} (h : OkD n d) (hn : n ≤ 9) : M_wrong_word [.lst (wordsD d), .int (n : Nat)] μ = .ok .non μ := by
  cases d with
  | flip => exact wrong_flip
  | draw t s => exact wrong_draw h
  | expo t m => exact wrong_expo h hn
end
end K42
set_option Elab.async false
set_option linter.all false
set_option maxRecDepth 100000
set_option autoImplicit false
set_option maxHeartbeats 2000000
namespace K42
open PySem L2 Fw Pg
section
variable {w h n : Nat} {T : List Nat} {R : List Deed} {μ : Store}
theorem low_encs {k : Nat} : lows k (R.map encD) = true := lows_all fun d hd => by
  obtain ⟨e, _, rfl⟩ := List.mem_map.mp hd
  cases e with
  | flip => rfl
  | draw a b => rfl
  | expo a m =>
    have : lows k (nI m) = true := low_nI
    simpa [encD, low, lows] using this
theorem worded (hd : ∀ d ∈ R, OkD n d) (hn : n ≤ 9) (hR : R.length ≤ 8) : M_worded_rows [.str (textL R)] μ = .ok (.lst (R.map fun d => .lst (wordsD d))) μ := by
  by_cases ne : R = []
  · subst ne
    kernel_rfl
  · exact worded_rows hd hn hR ne
theorem enum_len {L : List D} : (enumD L).length = L.length := by simp [enumD]
theorem read_recipe (hs : Sz w h n) (ok : OkT n T) (hR : R.length ≤ 8) (hd : ∀ d ∈ R, OkD n d) (hμ : μ.all (lowC μ.length) = true) : M_read_recipe [neg w h T, .str (textL R)] μ = .ok (.tup (R.map encD)) μ := by
  have n9 := hs.n9
  have hL0 : (0 : Nat) ≤ LIM := by decide
  have wr := fun μ => worded hd n9 hR (μ := μ)
  have ln := fun μ => len_neg hs ok (μ := μ)
  have q : mD 6 B_read_recipe [neg w h T, .str (textL R)] μ = .ok (.tup (R.map encD)) (μ ++ [.lst (R.map encD)]) := by
    unfold B_read_recipe
    refine mD_of ?_
    simp only [List.map_cons, List.map_nil, List.length_cons, List.length_nil, List.cons_append, List.nil_append, Nat.reduceAdd, Nat.reduceSub, List.replicate]
    generalize textL R = tt at *
    generalize neg w h T = nn at *
    refine go_seq (ρ1 := [some nn, some (.str tt), some (.loc μ.length), none, none, none]) (μ1 := μ ++ [.lst []]) ?_ ?_
    · simp_arith [eThaw_ev, hL0]
    refine go_forS (it := enumD (R.map fun d => .lst (wordsD d))) (src := none) (μ1 := μ ++ [.lst []]) ?_ ?_
    · generalize (R.map fun d => D.lst (wordsD d)) = rr at *
      simp_arith [iEnumD_ev, oEnum, wr]
    refine go_ix (J := fun i ρ μ' => ∃ x3 x4 x5, ρ = [some nn, some (.str tt), some (.loc μ.length), x3, x4, x5] ∧ μ' = μ ++ [.lst ((R.take i).map encD)]) ⟨none, none, none, rfl, rfl⟩ ?_ ?_
    · rintro i d hdi _ _ ⟨x3, x4, x5, rfl, rfl⟩
      obtain ⟨e, he, rfl⟩ := enumD_get hdi
      rw [List.getElem?_map, Option.map_eq_some_iff] at he
      obtain ⟨dd, hdd, rfl⟩ := he
      have okd := hd dd (List.mem_of_getElem? hdd)
      have hi : i < R.length := (List.getElem?_eq_some_iff.mp hdd).1
      have ww := fun μ => wrong_word okd n9 (μ := μ)
      have dof := fun μ => deed_of okd n9 (μ := μ)
      have et : (R.take (i + 1)).map encD = (R.take i).map encD ++ [encD dd] := by
        rw [List.take_add_one, hdd]
        simp
      have hlen : ((R.take i).map encD).length < LIM := by
        simp
        show _ < 1000000
        omega
      refine ⟨[some nn, some (.str tt), some (.loc μ.length), some (.int (i : Nat)), some (.lst (wordsD dd)), x5], _, rfl, ?_⟩
      rw [et]
      have ap := Pg.app0 (μ := μ) (ds := (R.take i).map encD) (d := encD dd) hlen
      generalize (R.take i).map encD = A at *
      generalize wordsD dd = wd at *
      generalize encD dd = ed at *
      refine go_seq (ρ1 := [some nn, some (.str tt), some (.loc μ.length), some (.int (i : Nat)), some (.lst wd), some .non]) (μ1 := μ ++ [.lst A]) ?_ ?_
      · simp_arith [oEq_int, show ¬ ((i : Nat) : Int) = 8 by omega, decide_false, Bool.false_eq_true, if_false, ln, ww]
      refine go_not (μ1 := μ ++ [.lst A]) (by simp_arith [oNotN_ev]; rfl) ?_
      refine go_st (ρ1 := [some nn, some (.str tt), some (.loc μ.length), some (.int (i : Nat)), some (.lst wd), some .non]) (μ1 := μ ++ [.lst (A ++ [ed])]) ?_ (nxq ⟨_, _, _, rfl, rfl⟩)
      simp_arith [eLm_ev, Pg.isl0, dof, ap]
    · rintro _ _ ⟨x3, x4, x5, rfl, rfl⟩
      refine go_then ?_
      rw [enum_len, List.length_map, List.take_length]
      refine go_ret (d := .tup (R.map encD)) (μ1 := μ ++ [.lst (R.map encD)]) ?_ rfl
      have ct : cTuple [.loc μ.length] (μ ++ [.lst (R.map encD)]) = .ok (.tup (R.map encD)) (μ ++ [.lst (R.map encD)]) := by
        have : (μ ++ [Cell.lst (R.map encD)])[μ.length]? = some (.lst (R.map encD)) := by simp
        simp only [cTuple, seqOf, this]
      generalize R.map encD = A at *
      simp_arith [ct]
  show fin μ.length (mD 6 B_read_recipe [neg w h T, .str (textL R)] μ) = _
  rw [q]
  have tk : (μ ++ [Cell.lst (R.map encD)]).take μ.length = μ := by simp
  rw [Pg.fin_tup low_encs (by rw [tk]; exact hμ), tk]
end
end K42
set_option Elab.async false
set_option linter.all false
set_option maxRecDepth 100000
set_option autoImplicit false
set_option maxHeartbeats 4000000
namespace K42
open PySem L2 Fw Pg Mv Vw
theorem set_self {μ : Store} {p : Nat} {x : Cell} (h : μ[p]? = some x) : μ.set p x = μ := by
  obtain ⟨hl, rfl⟩ := List.getElem?_eq_some_iff.mp h
  simp
theorem add_in {Q : SR → Prop} {n p : Nat} {f g : Nat → Int} {μ : Store} {y0 y1 y2 y3 y4 y5 y6 y7 y8 y9 y10 y11 x14 y15 y16 y17 : Option D} (hn : n ≤ 9) (hp : μ[p]? = some (.lst (rowOf n f)))
    (k : ∀ x14, Q (.nx [y0, y1, y2, y3, y4, y5, y6, y7, y8, y9, y10, y11, some (.lst (rowOf n g)), some (.loc p), x14, y15, y16, y17] (μ.set p (.lst (rowOf n fun c => f c + g c))))) :
    Go Q (forL (rg n) none (gVar 14) (sAsg (gIx (eVar 13) (eVar 14)) (eBin oAdd (eBin oIx (eVar 13) (eVar 14)) (eBin oIx (eVar 12) (eVar 14)))) (rg n) [y0, y1, y2, y3, y4, y5, y6, y7, y8, y9, y10, y11, some (.lst (rowOf n g)), some (.loc p), x14, y15, y16, y17] μ) := by
  have pl := (List.getElem?_eq_some_iff.mp hp).1
  refine go_rg (J := fun i ρ μ' => ∃ x14, ρ = [y0, y1, y2, y3, y4, y5, y6, y7, y8, y9, y10, y11, some (.lst (rowOf n g)), some (.loc p), x14, y15, y16, y17] ∧ μ' = μ.set p (.lst (rowOf n fun c => if c < i then f c + g c else f c))) ⟨x14, rfl, ?_⟩ ?_ ?_
  · rw [row_congr (g := f) fun c _ => by simp]
    exact (set_self hp).symm
  · rintro i hi _ _ ⟨x14, rfl, rfl⟩
    refine ⟨[y0, y1, y2, y3, y4, y5, y6, y7, y8, y9, y10, y11, some (.lst (rowOf n g)), some (.loc p), some (.int (i : Nat)), y15, y16, y17], _, rfl, ?_⟩
    have gt : ∀ c : Cell, (μ.set p c)[p]? = some c := fun c => by simp [pl]
    have i1 : oIx (.loc p) (.int (i : Nat)) (μ.set p (.lst (rowOf n fun c => if c < i then f c + g c else f c))) = .ok (.int (f i)) (μ.set p (.lst (rowOf n fun c => if c < i then f c + g c else f c))) := by
      have := at_row (f := fun c => if c < i then f c + g c else f c) hi
      simp only [Nat.lt_irrefl, if_false] at this
      simp only [oIx, seqOf, gt, this]
    have i2 : ∀ μ, oIx (.lst (rowOf n g)) (.int (i : Nat)) μ = .ok (.int (g i)) μ := fun μ => ix_row hi
    have ixn : ixN (rowOf n fun c => if c < i then f c + g c else f c).length (i : Nat) = some i := by
      rw [len_row, ixN_in (by omega) (by omega)]
      simp
    have st : (rowOf n fun c => if c < i then f c + g c else f c).set i (.int (f i + g i)) = rowOf n fun c => if c < i + 1 then f c + g c else f c := by
      rw [set_row]
      exact row_congr fun c _ => by
        by_cases h1 : c = i
        · subst h1
          simp
        · by_cases h2 : c < i
          · simp [h1, h2, show c < i + 1 by omega]
          · simp [h1, h2, show ¬ c < i + 1 by omega]
    refine go_st (ρ1 := [y0, y1, y2, y3, y4, y5, y6, y7, y8, y9, y10, y11, some (.lst (rowOf n g)), some (.loc p), some (.int (i : Nat)), y15, y16, y17]) (μ1 := μ.set p (.lst (rowOf n fun c => if c < i + 1 then f c + g c else f c))) ?_ (nxq ⟨_, rfl, rfl⟩)
    rw [← st]
    generalize (rowOf n fun c => if c < i then f c + g c else f c) = row at *
    generalize rowOf n g = rg' at *
    simp_arith [i1, i2, oAdd_int, gIx_ev, gt, ixn]
    simp
  · rintro _ _ ⟨x14, rfl, rfl⟩
    have := k x14
    rw [row_congr (f := fun c => if c < n then f c + g c else f c) (g := fun c => f c + g c) fun c (hc : c < n) => by simp [hc]]
    exact this
theorem over_take {R : List Deed} {i : Nat} {d : Deed} (h : R[i]? = some d) : over false (R.take (i + 1)) = (over false (R.take i) != isF d) := by
  unfold over
  rw [List.take_add_one, h]
  simp [List.foldl_append]
theorem op_take {w c : Nat} {R : List Deed} {i : Nat} {d : Deed} (h : R[i]? = some d) : op w (R.take (i + 1)) c = stp w c (op w (R.take i) c) d := by
  unfold op
  rw [List.take_add_one, h]
  simp [List.foldl_append]
theorem op_over {w c : Nat} {R : List Deed} : (op w R c).1 = over false R := by
  have gen : ∀ (R : List Deed) (q : Bool × Int × Int), (R.foldl (stp w c) q).1 = R.foldl (fun b d => b != isF d) q.1 := by
    intro R
    induction R with
    | nil => intro q; rfl
    | cons d R ih =>
      intro q
      rw [List.foldl_cons, List.foldl_cons, ih, b_stp]
  exact gen R _
theorem ne_encs {R : List Deed} {μ : Store} : oNe (.tup (R.map encD)) (.tup (R.map encD)) μ = .ok (.bl false) μ := by
  have hr : rd μ (.tup (R.map encD)) = .tup (R.map encD) := rfl
  have hp : pl 3 (.tup (R.map encD)) = true := by
    show pls 2 (R.map encD) = true
    rw [pls_iff]
    intro d hd
    obtain ⟨p, hp, rfl⟩ := List.mem_map.mp hd
    exact pl_enc (n := 0)
  rw [oNe_pl (k := 3) (j := 3) (by rw [hr]; exact hp) (by rw [hr]; exact hp)]
  simp
theorem zero_row {n : Nat} (hn : n ≤ 9) {μ : Store} : oMul (.lst [.int 0]) (.int (n : Nat)) μ = .ok (.lst (rowOf n fun _ => 0)) μ := by
  have c1 : ((n : Nat) : Int) ≤ 1000 ∧ (-1000 : Int) ≤ (n : Nat) ∧ ([D.int 0] : List D).length ≤ 1000 := ⟨by omega, by omega, by simp⟩
  simp only [oMul, lstOf, c1, and_self, if_true, Int.toNat_natCast, rep0]
theorem law_true {ns : List Int} (hn : ns.length ≤ 63) : ∃ μ, M_law [.flst ns] [] = .ok (.bl true) μ := by
  unfold M_law B_law
  refine go_law (m := 15) (cnt := 5) rfl rfl (by decide) hn ?_ ?_
  · intro t ys c r hy hc hr
    obtain ⟨x3, x4, x5, x6, x7, x8, x9, x10, x11, x12, x13, x14, x15, x16, x17, rfl⟩ : ∃ x3 x4 x5 x6 x7 x8 x9 x10 x11 x12 x13 x14 x15 x16 x17, ys = [x3, x4, x5, x6, x7, x8, x9, x10, x11, x12, x13, x14, x15, x16, x17] := by
      match ys, hy with
      | [x3, x4, x5, x6, x7, x8, x9, x10, x11, x12, x13, x14, x15, x16, x17], _ => exact ⟨x3, x4, x5, x6, x7, x8, x9, x10, x11, x12, x13, x14, x15, x16, x17, rfl⟩
    obtain ⟨w, h, n, T, c1, e1, h1, hs, okT, _, _⟩ := K45.negative (r := r) (m := 3) (by omega) hr hc
    rw [show ((3 : Nat) : Int) = 3 from rfl] at e1
    have n9 := hs.n9
    have h4 := hs.h4
    have w4 := hs.w4
    have hL1 : 1 ≤ LIM := by decide
    have hL2 : 2 ≤ LIM := by decide
    have hL3 : 3 ≤ LIM := by decide
    have hL0 : 0 ≤ LIM := by decide
    have ln := fun μ => len_neg hs okT (μ := μ)
    have nw := fun μ => neg_w (w := w) (h := h) (T := T) (μ := μ)
    have nh := fun μ => neg_h (w := w) (h := h) (T := T) (μ := μ)
    have nd := fun μ => neg_d (w := w) (h := h) (T := T) (μ := μ)
    have ins := fun μ => ins_neg (w := w) (h := h) (T := T) (μ := μ)
    obtain ⟨R, c2, e2, h2, hR, hdE⟩ := recipe (r := r) (m := 8) (by omega) hs okT h1
    rw [show ((8 : Nat) : Int) = 8 from rfl] at e2
    have hd : ∀ d ∈ R, OkD n d := fun d m => (hdE d m).1
    refine go_seq (ρ1 := [some (.flst ns), some (.loc 0), t, some (neg w h T), x4, x5, x6, x7, x8, x9, x10, x11, x12, x13, x14, x15, x16, x17]) (μ1 := (c1 :: r)) ?_ ?_
    · simp_arith [e1]
    refine go_seq (ρ1 := [some (.flst ns), some (.loc 0), t, some (neg w h T), some (.tup (R.map encD)), some (.int (w : Nat)), some (.int (n : Nat)), x7, x8, x9, x10, x11, x12, x13, x14, x15, x16, x17]) (μ1 := (c2 :: r)) ?_ ?_
    · generalize neg w h T = gg0 at *
      generalize R.map encD = gg1 at *
      simp_arith [e2, eProp_ev, ins, nw, ln, hL3]
    -- the rows of the negative
    have st0 := fun (x17 : Option D) μ => step_up (μ := μ) (ρ := [some (.flst ns), some (.loc 0), t, some (neg w h T), some (.tup (R.map encD)), some (.int (w : Nat)), some (.int (n : Nat)), x7, x8, x9, x10, x11, x12, x13, x14, x15, x16, x17]) hs (fb := eVar 6) (fc := eVar 5) rfl rfl
    have lcr := fun μ => lc_mpA (F := fun q : Nat => D.int (0 + (q : Nat) * (w : Nat))) (items := (List.range h).map fun q => D.int (0 + (q : Nat) * (w : Nat))) (g := gVar 17) (fe := eCut (eProp 0 M_Negative_densities (eVar 3)) (oSome (eVar 17)) (oSome (eBin oAdd (eVar 17) (eVar 5)))) (ρ := [some (.flst ns), some (.loc 0), t, some (neg w h T), some (.tup (R.map encD)), some (.int (w : Nat)), some (.int (n : Nat)), x7, x8, x9, x10, x11, x12, x13, x14, x15, x16, none]) (μ := μ) (fun q => D.str (rw_ w (fun c => T.getD c 0) q)) (L := List.range h) (by
      intro q hq
      have hq := List.mem_range.mp hq
      have ee1 : (0 : Int) + (q : Nat) * (w : Nat) = ((q * w : Nat) : Int) := by push_cast; omega
      have ee2 : ((q * w : Nat) : Int) + (w : Nat) = ((q * w + w : Nat) : Int) := by omega
      have ct : ∀ μ, oCut (.str T) (some ((q * w : Nat) : Int)) (some ((q * w + w : Nat) : Int)) μ = .ok (.str (rw_ w (fun c => T.getD c 0) q)) μ := fun μ => by
        have hL : T.length ≤ LIM := by rw [okT.1]; show _ ≤ 1000000; omega
        have := cut_row hs (f := fun c => T.getD c 0) hq
        rw [← str_map okT.1] at this
        simp only [oCut, hL, if_true, this]
      refine ⟨[some (.flst ns), some (.loc 0), t, some (neg w h T), some (.tup (R.map encD)), some (.int (w : Nat)), some (.int (n : Nat)), x7, x8, x9, x10, x11, x12, x13, x14, x15, x16, some (.int ((q * w : Nat) : Int))], by rw [ee1]; rfl, ?_⟩
      generalize rw_ w (fun c => T.getD c 0) q = rr at *
      generalize neg w h T = gg0 at *; generalize R.map encD = gg1 at *
      simp_arith [eCut_ev, oSome_ev, oAdd_int, ee2, ct, eProp_ev, ins, nd]) (by simp; show _ ≤ 1000000; omega)
    have rwe : (List.range h).map (fun q => D.str (rw_ w (fun c => T.getD c 0) q)) = (RW w h fun c => T.getD c 0).map D.str := by
      unfold RW
      rw [List.map_map]
      rfl
    rw [rwe] at lcr
    refine go_seq (ρ1 := [some (.flst ns), some (.loc 0), t, some (neg w h T), some (.tup (R.map encD)), some (.int (w : Nat)), some (.int (n : Nat)), some (.lst ((RW w h fun c => T.getD c 0).map D.str)), x8, x9, x10, x11, x12, x13, x14, x15, x16, x17]) (μ1 := c2 :: r) ?_ ?_
    · have st := st0 none (c2 :: r)
      have lcr := lcr (c2 :: r)
      generalize (RW w h fun c => T.getD c 0).map D.str = rws at *
      generalize ((List.range h).map fun q : Nat => D.int (0 + (q : Nat) * (w : Nat))) = itt at *
      rw [sAsg_ev]
      show rS _ (eLc [17] _ _ _ _ [some (.flst ns), some (.loc 0), t, some (neg w h T), some (.tup (R.map encD)), some (.int (w : Nat)), some (.int (n : Nat)), x7, x8, x9, x10, x11, x12, x13, x14, x15, x16, x17] (c2 :: r)) _ = _
      rw [eLc_ev]
      rw [show iStep (eC (.int 0)) (eVar 6) (eVar 5) [some (.flst ns), some (.loc 0), t, some (neg w h T), some (.tup (R.map encD)), some (.int (w : Nat)), some (.int (n : Nat)), x7, x8, x9, x10, x11, x12, x13, x14, x15, x16, x17] (c2 :: r) = _ from st0 x17 (c2 :: r), bok]
      rw [show lcL _ _ _ _ _ (wipeE _ [17]) _ _ _ = _ from lcr]
      rfl
    -- the words of the recipe
    have lct := fun μ => lc_mpA (F := encD) (items := R.map encD) (g := gVar 11) (fe := eJoin (eC (.str (lit " "))) (eCallD 1 M_l_words (aCons (eVar 11) (aNil)))) (ρ := [some (.flst ns), some (.loc 0), t, some (neg w h T), some (.tup (R.map encD)), some (.int (w : Nat)), some (.int (n : Nat)), some (.lst ((RW w h fun c => T.getD c 0).map D.str)), x8, x9, x10, none, x12, x13, x14, x15, x16, x17]) (μ := μ) (fun d => D.str (rowL d)) (L := R) (by
      intro d hdm
      have lw := fun μ => l_words (hd d hdm) n9 (μ := μ)
      have jn : ∀ μ, oJoin (.str [32]) (.lst (wordsD d)) μ = .ok (.str (rowL d)) μ := fun μ => by
        rw [wordsD_eq]
        have := words_sum (hd d hdm) n9
        exact join_strs (by simpa using (by omega : _ ≤ 1000000))
      refine ⟨[some (.flst ns), some (.loc 0), t, some (neg w h T), some (.tup (R.map encD)), some (.int (w : Nat)), some (.int (n : Nat)), some (.lst ((RW w h fun c => T.getD c 0).map D.str)), x8, x9, x10, some (encD d), x12, x13, x14, x15, x16, x17], rfl, ?_⟩
      generalize wordsD d = wd at *
      generalize rowL d = rl at *
      generalize encD d = dd at *
      generalize neg w h T = gg0 at *; generalize R.map encD = gg1 at *; generalize (RW w h fun c => T.getD c 0).map D.str = gg2 at *
      simp_arith [sp, lw, jn]) (by show _ ≤ 1000000; omega)
    have jt : ∀ μ, oJoin (.str [10]) (.lst (R.map fun d => D.str (rowL d))) μ = .ok (.str (textL R)) μ := fun μ => by
      rw [show (R.map fun d => D.str (rowL d)) = (R.map rowL).map D.str by rw [List.map_map]; rfl]
      have := text_bound hd n9 hR
      refine join_strs ?_
      show _ + _ * 1 ≤ _
      omega
    have wkt : ∀ L μ, oWalk (.tup L) μ = .ok (L, none) μ := fun L μ => rfl
    refine go_seq (ρ1 := [some (.flst ns), some (.loc 0), t, some (neg w h T), some (.tup (R.map encD)), some (.int (w : Nat)), some (.int (n : Nat)), some (.lst ((RW w h fun c => T.getD c 0).map D.str)), some (.str (textL R)), x9, x10, x11, x12, x13, x14, x15, x16, x17]) (μ1 := (c2 :: r)) ?_ ?_
    · have lct' : ∀ μ, lcL (R.map encD) none (gVar 11) (fun _ μ => .ok true μ) (eJoin (eC (.str (lit " "))) (eCallD 1 M_l_words (aCons (eVar 11) (aNil)))) [some (.flst ns), some (.loc 0), t, some (neg w h T), some (.tup (R.map encD)), some (.int (w : Nat)), some (.int (n : Nat)), some (.lst ((RW w h fun c => T.getD c 0).map D.str)), x8, x9, x10, none, x12, x13, x14, x15, x16, x17] (R.map encD) μ [] = .ok (.lst (R.map fun d => D.str (rowL d))) μ := lct
      clear lct
      generalize (R.map fun d => D.str (rowL d)) = rls at *
      generalize textL R = tt at *
      generalize neg w h T = gg0 at *
      generalize R.map encD = gg1 at *
      generalize (RW w h fun c => T.getD c 0).map D.str = gg2 at *
      simp_arith [nl, eLc_ev, wkt, lct', jt]
    -- what is read and drawn
    have pc := fun μ => picture hs okT (μ := μ)
    have jp : ∀ μ, oJoin (.str [10]) (.lst ((RW w h fun c => T.getD c 0).map D.str)) μ = .ok (.str (joinD [10] (RW w h fun c => T.getD c 0))) μ := fun μ => join_strs (by
      have := sum_le (f := List.length) (b := 4) (A := RW w h fun c => T.getD c 0) (fun r hr => by
        obtain ⟨y, _, rfl⟩ := mem_RW hr
        rw [rw_len]
        exact w4)
      rw [RW_len] at this ⊢
      simp only [List.length_cons, List.length_nil]
      omega)
    have lowP : (joinD [10] (RW w h fun c => T.getD c 0)).all (· < 0x110000) = true := by
      rw [List.all_eq_true]
      intro x hx
      rw [decide_eq_true_eq]
      rcases mem_joinD hx with z | ⟨p, hp, hx⟩
      · simp at z
        omega
      · obtain ⟨y, hy, rfl⟩ := mem_RW hp
        obtain ⟨k, hk, rfl⟩ := List.mem_map.mp hx
        have hc := in_row hs (List.mem_range.mp hk) hy
        have hlt : y * w + k < T.length := by rw [okT.1]; exact hc
        have g := okT.2 _ (List.getElem_mem hlt)
        have : T.getD (y * w + k) 0 = T[y * w + k] := by
          rw [List.getD_eq_getElem?_getD, List.getElem?_eq_getElem hlt]
          rfl
        show T.getD (y * w + k) 0 < 0x110000
        omega
    have neP := fun μ => neStr (μ := μ) lowP lowP
    have tl := text_low hd n9 hR
    have neT := fun μ => neStr (μ := μ) tl tl
    have rt := fun μ => recipe_text hd n9 hR (μ := μ)
    have rr := read_recipe (μ := c2 :: r) hs okT hR hd (all_row h2 hr)
    have neR := ne_encs (R := R) (μ := c2 :: r)
    rw [decide_eq_true rfl, Bool.not_true] at neP neT
    refine go_not (μ1 := (c2 :: r)) ?_ ?_
    · generalize (RW w h fun c => T.getD c 0).map D.str = rws at *
      generalize joinD [10] (RW w h fun c => T.getD c 0) = jp' at *
      generalize textL R = tt at *
      generalize neg w h T = gg0 at *
      generalize R.map encD = gg1 at *
      generalize (RW w h fun c => T.getD c 0).map D.str = gg2 at *
      simp_arith [nl, pc, jp, neP, rt, neT, rr, neR, Bool.false_eq_true, if_false]
    -- the times
    have zr := fun μ => zero_row n9 (μ := μ)
    refine go_seq (ρ1 := [some (.flst ns), some (.loc 0), t, some (neg w h T), some (.tup (R.map encD)), some (.int (w : Nat)), some (.int (n : Nat)), some (.lst ((RW w h fun c => T.getD c 0).map D.str)), some (.str (textL R)), some (.lst [.loc (r.length + 1), .loc (r.length + 2)]), some (.bl false), x11, x12, x13, x14, x15, x16, x17]) (μ1 := c2 :: (r ++ [.lst (rowOf n fun _ => 0), .lst (rowOf n fun _ => 0)])) ?_ ?_
    · have ap : c2 :: r ++ [Cell.lst (rowOf n fun _ => 0)] ++ [Cell.lst (rowOf n fun _ => 0)] = c2 :: (r ++ [.lst (rowOf n fun _ => 0), .lst (rowOf n fun _ => 0)]) := by simp
      generalize neg w h T = gg0 at *; generalize R.map encD = gg1 at *; generalize (RW w h fun c => T.getD c 0).map D.str = gg2 at *; generalize textL R = gg3 at *
      generalize (rowOf n fun _ => 0) = z at *
      simp_arith [zr, hL1, hL2, thaw_ev]
      simp
    refine go_forS (it := R.map encD) (src := none) (μ1 := c2 :: (r ++ [.lst (rowOf n fun _ => 0), .lst (rowOf n fun _ => 0)])) rfl ?_
    refine go_mp (f := encD) (L := R) (J := fun i ρ μ => ∃ x11 x12 x13 x14, ρ = [some (.flst ns), some (.loc 0), t, some (neg w h T), some (.tup (R.map encD)), some (.int (w : Nat)), some (.int (n : Nat)), some (.lst ((RW w h fun c => T.getD c 0).map D.str)), some (.str (textL R)), some (.lst [.loc (r.length + 1), .loc (r.length + 2)]), some (.bl (over false (R.take i))), x11, x12, x13, x14, x15, x16, x17] ∧ μ = c2 :: (r ++ [.lst (rowOf n fun c => (op w (R.take i) c).2.1), .lst (rowOf n fun c => (op w (R.take i) c).2.2)])) ⟨_, _, _, _, rfl, rfl⟩ ?_ ?_
    · rintro i d hdi _ _ ⟨x11, x12, x13, x14, rfl, rfl⟩
      refine ⟨[some (.flst ns), some (.loc 0), t, some (neg w h T), some (.tup (R.map encD)), some (.int (w : Nat)), some (.int (n : Nat)), some (.lst ((RW w h fun c => T.getD c 0).map D.str)), some (.str (textL R)), some (.lst [.loc (r.length + 1), .loc (r.length + 2)]), some (.bl (over false (R.take i))), some (encD d), x12, x13, x14, x15, x16, x17], _, rfl, ?_⟩
      have hdm := List.mem_of_getElem? hdi
      have okd := hd d hdm
      have lo := fun μ => l_open hs okT (d := d) (μ := μ)
      have o1 := over_take hdi
      have rn := fun μ => range_n hs (μ := μ)
      have fl0 := fun μ => enc0 (d := d) (μ := μ)
      have fl := fun μ => isFlip0 (d := d) (μ := μ)
      have ib : ∀ b μ, oIx (.lst [.loc (r.length + 1), .loc (r.length + 2)]) (.int (if b = true then 1 else 0)) μ = .ok (.loc (if b = true then r.length + 2 else r.length + 1)) μ := fun b μ => by cases b <;> rfl
      refine go_seq (ρ1 := [some (.flst ns), some (.loc 0), t, some (neg w h T), some (.tup (R.map encD)), some (.int (w : Nat)), some (.int (n : Nat)), some (.lst ((RW w h fun c => T.getD c 0).map D.str)), some (.str (textL R)), some (.lst [.loc (r.length + 1), .loc (r.length + 2)]), some (.bl (over false (R.take (i + 1)))), some (encD d), x12, x13, x14, x15, x16, x17]) (μ1 := c2 :: (r ++ [.lst (rowOf n fun c => (op w (R.take i) c).2.1), .lst (rowOf n fun c => (op w (R.take i) c).2.2)])) ?_ ?_
      · rw [o1]
        generalize over false (R.take i) = ov at *
        generalize (rowOf n fun c => (op w (R.take i) c).2.1) = r1 at *
        generalize (rowOf n fun c => (op w (R.take i) c).2.2) = r2 at *
        generalize encD d = dd at *
        generalize neg w h T = gg0 at *; generalize R.map encD = gg1 at *; generalize (RW w h fun c => T.getD c 0).map D.str = gg2 at *; generalize textL R = gg3 at *
        simp_arith [fl0, len_flip, fl, oNe_bl]
      refine go_seq (ρ1 := [some (.flst ns), some (.loc 0), t, some (neg w h T), some (.tup (R.map encD)), some (.int (w : Nat)), some (.int (n : Nat)), some (.lst ((RW w h fun c => T.getD c 0).map D.str)), some (.str (textL R)), some (.lst [.loc (r.length + 1), .loc (r.length + 2)]), some (.bl (over false (R.take (i + 1)))), some (encD d), some (.lst (rowOf n fun c => tk w c d)), some (.loc (if over false (R.take (i + 1)) = true then r.length + 2 else r.length + 1)), x14, x15, x16, x17]) (μ1 := c2 :: (r ++ [.lst (rowOf n fun c => (op w (R.take i) c).2.1), .lst (rowOf n fun c => (op w (R.take i) c).2.2)])) ?_ ?_
      · generalize over false (R.take (i + 1)) = ov at *
        generalize (rowOf n fun c => (op w (R.take i) c).2.1) = r1 at *
        generalize (rowOf n fun c => (op w (R.take i) c).2.2) = r2 at *
        generalize (rowOf n fun c => tk w c d) = r3 at *
        generalize encD d = dd at *
        generalize neg w h T = gg0 at *; generalize R.map encD = gg1 at *; generalize (RW w h fun c => T.getD c 0).map D.str = gg2 at *; generalize textL R = gg3 at *
        simp_arith [lo, cInt_bl, ib, sPar_ev]
      refine go_for (it := rg n) (src := none) (μ1 := c2 :: (r ++ [.lst (rowOf n fun c => (op w (R.take i) c).2.1), .lst (rowOf n fun c => (op w (R.take i) c).2.2)])) ?_ ?_
      · generalize over false (R.take (i + 1)) = ov at *
        generalize (rowOf n fun c => (op w (R.take i) c).2.1) = r1 at *
        generalize (rowOf n fun c => (op w (R.take i) c).2.2) = r2 at *
        generalize (rowOf n fun c => tk w c d) = r3 at *
        generalize encD d = dd at *
        generalize neg w h T = gg0 at *; generalize R.map encD = gg1 at *; generalize (RW w h fun c => T.getD c 0).map D.str = gg2 at *; generalize textL R = gg3 at *
        simp_arith [rn]
      cases hb : over false (R.take (i + 1)) with
      | false =>
        rw [if_neg (by simp)]
        refine add_in (f := fun c => (op w (R.take i) c).2.1) n9 (by simp) fun x14 => nxq ⟨_, _, _, x14, rfl, ?_⟩
        rw [row_congr (f := fun c => (op w (R.take (i + 1)) c).2.1) (g := fun c => (op w (R.take i) c).2.1 + tk w c d) fun c _ => ?_, row_congr (f := fun c => (op w (R.take (i + 1)) c).2.2) (g := fun c => (op w (R.take i) c).2.2) fun c _ => ?_]
        · simp
        · rw [op_take hdi]
          unfold stp
          rw [op_over, ← o1, hb]
          rfl
        · rw [op_take hdi]
          unfold stp
          rw [op_over, ← o1, hb]
          rfl
      | true =>
        rw [if_pos rfl]
        refine add_in (f := fun c => (op w (R.take i) c).2.2) n9 (by simp) fun x14 => nxq ⟨_, _, _, x14, rfl, ?_⟩
        rw [row_congr (f := fun c => (op w (R.take (i + 1)) c).2.1) (g := fun c => (op w (R.take i) c).2.1) fun c _ => ?_, row_congr (f := fun c => (op w (R.take (i + 1)) c).2.2) (g := fun c => (op w (R.take i) c).2.2 + tk w c d) fun c _ => ?_]
        · simp
        · rw [op_take hdi]
          unfold stp
          rw [op_over, ← o1, hb]
          rfl
        · rw [op_take hdi]
          unfold stp
          rw [op_over, ← o1, hb]
          rfl
    rintro _ _ ⟨x11, x12, x13, x14, rfl, rfl⟩
    refine go_then ?_
    rw [List.take_length]
    have g1 : (c2 :: (r ++ [Cell.lst (rowOf n fun c => (op w R c).2.1), .lst (rowOf n fun c => (op w R c).2.2)]))[r.length + 1]? = some (.lst (rowOf n fun c => (op w R c).2.1)) := by simp
    have g2 : (c2 :: (r ++ [Cell.lst (rowOf n fun c => (op w R c).2.1), .lst (rowOf n fun c => (op w R c).2.2)]))[r.length + 2]? = some (.lst (rowOf n fun c => (op w R c).2.2)) := by simp
    obtain ⟨r', hr'⟩ : ∃ r', r' = r ++ [Cell.lst (rowOf n fun c => (op w R c).2.1), .lst (rowOf n fun c => (op w R c).2.2)] := ⟨_, rfl⟩
    rw [← hr'] at g1 g2 ⊢
    have hrr : Rest r' := by
      rw [hr', show r ++ [Cell.lst (rowOf n fun c => (op w R c).2.1), .lst (rowOf n fun c => (op w R c).2.2)] = (r ++ [Cell.lst (rowOf n fun c => (op w R c).2.1)]) ++ [.lst (rowOf n fun c => (op w R c).2.2)] by simp]
      exact rest_more (rest_more hr fun k => low_row) fun k => low_row
    -- the words of the map
    have rn := fun μ => range_n hs (μ := μ)
    have lcw := lc_range (n := n) (items := rg n) (v := 14) (fe := eBin oAdd (eBin oAdd (eCall cStr (aCons (eBin oIx (eBin oIx (eVar 9) (eC (.int 0))) (eVar 14)) (aNil))) (eC (.str (lit "/")))) (eCall cStr (aCons (eBin oIx (eBin oIx (eVar 9) (eC (.int 1))) (eVar 14)) (aNil)))) (ρ := [some (.flst ns), some (.loc 0), t, some (neg w h T), some (.tup (R.map encD)), some (.int (w : Nat)), some (.int (n : Nat)), some (.lst ((RW w h fun c => T.getD c 0).map D.str)), some (.str (textL R)), some (.lst [.loc (r.length + 1), .loc (r.length + 2)]), some (.bl (over false R)), x11, x12, x13, none, x15, x16, x17]) (μ := c2 :: r') (f := fun c => .str (wo w R c)) (by omega) (by simp) (fun c hc => by
      obtain ⟨a0, a1, b0, b1⟩ := op_bound (w := w) (c := c) hd
      have l1 := (fine_at a0 (show _ < 800 by omega)).1
      have l2 := (fine_at b0 (show _ < 800 by omega)).1
      have g1' := log_small a0 (show _ < 800 by omega)
      have g2' := log_small b0 (show _ < 800 by omega)
      have ia := ix_row (f := fun c => (op w R c).2.1) hc (μ := c2 :: r')
      have ib := ix_row (f := fun c => (op w R c).2.2) hc (μ := c2 :: r')
      have ja : oIx (.loc (r.length + 1)) (.int (c : Nat)) (c2 :: r') = .ok (.int (op w R c).2.1) (c2 :: r') := by
        have := at_row (f := fun c => (op w R c).2.1) hc
        simp only [oIx, seqOf, g1, this]
      have jb : oIx (.loc (r.length + 2)) (.int (c : Nat)) (c2 :: r') = .ok (.int (op w R c).2.2) (c2 :: r') := by
        have := at_row (f := fun c => (op w R c).2.2) hc
        simp only [oIx, seqOf, g2, this]
      have k0 : ∀ μ, oIx (.lst [.loc (r.length + 1), .loc (r.length + 2)]) (.int 0) μ = .ok (.loc (r.length + 1)) μ := fun μ => rfl
      have k1 : ∀ μ, oIx (.lst [.loc (r.length + 1), .loc (r.length + 2)]) (.int 1) μ = .ok (.loc (r.length + 2)) μ := fun μ => rfl
      unfold wo wd
      generalize (op w R c).2.1 = a at *
      generalize (op w R c).2.2 = b at *
      have s1 : ∀ μ, cStr [.int a] μ = .ok (.str (strI a)) μ := fun μ => by
        show (if _ then _ else _) = _
        rw [if_pos g1']
      have s2 : ∀ μ, cStr [.int b] μ = .ok (.str (strI b)) μ := fun μ => by
        show (if _ then _ else _) = _
        rw [if_pos g2']
      have d1 : ∀ μ, oAdd (.str (strI a)) (.str [47]) μ = .ok (.str (strI a ++ [47])) μ := fun μ => by
        have : (strI a).length + [47].length ≤ LIM := by simp; show _ ≤ 1000000; omega
        simp only [oAdd, this, if_true]
      have d2 : ∀ μ, oAdd (.str (strI a ++ [47])) (.str (strI b)) μ = .ok (.str (strI a ++ [47] ++ strI b)) μ := fun μ => by
        have : (strI a ++ [47]).length + (strI b).length ≤ LIM := by simp; show _ ≤ 1000000; omega
        simp only [oAdd, this, if_true]
      generalize strI a ++ [47] ++ strI b = ss at *
      generalize strI a ++ [47] = s47 at *
      generalize strI a = sa at *
      generalize strI b = sb at *
      generalize D.lst [.loc (r.length + 1), .loc (r.length + 2)] = ll at *
      generalize neg w h T = gg0 at *; generalize R.map encD = gg1 at *; generalize (RW w h fun c => T.getD c 0).map D.str = gg2 at *; generalize textL R = gg3 at *; generalize R.map encD = gg4 at *
      simp_arith [k0, k1, ja, jb, s1, s2, sl, d1, d2])
    refine go_seq (ρ1 := [some (.flst ns), some (.loc 0), t, some (neg w h T), some (.tup (R.map encD)), some (.int (w : Nat)), some (.int (n : Nat)), some (.lst ((RW w h fun c => T.getD c 0).map D.str)), some (.str (textL R)), some (.lst [.loc (r.length + 1), .loc (r.length + 2)]), some (.bl (over false R)), x11, x12, x13, x14, some (.lst ((List.range n).map fun c => D.str (wo w R c))), x16, x17]) (μ1 := c2 :: r') ?_ ?_
    · generalize ((List.range n).map fun c => D.str (wo w R c)) = ww at *
      generalize D.lst [.loc (r.length + 1), .loc (r.length + 2)] = ll at *
      generalize neg w h T = gg0 at *; generalize R.map encD = gg1 at *; generalize (RW w h fun c => T.getD c 0).map D.str = gg2 at *; generalize textL R = gg3 at *; generalize R.map encD = gg4 at *
      simp_arith [eLc_ev, rn, lcw]
    -- the rows of the map
    have st1 := fun (x17 : Option D) μ => step_up (μ := μ) (ρ := [some (.flst ns), some (.loc 0), t, some (neg w h T), some (.tup (R.map encD)), some (.int (w : Nat)), some (.int (n : Nat)), some (.lst ((RW w h fun c => T.getD c 0).map D.str)), some (.str (textL R)), some (.lst [.loc (r.length + 1), .loc (r.length + 2)]), some (.bl (over false R)), x11, x12, x13, x14, some (.lst ((List.range n).map fun c => D.str (wo w R c))), x16, x17]) hs (fb := eVar 6) (fc := eVar 5) rfl rfl
    have lcm := lc_mpA (F := fun q : Nat => D.int (0 + (q : Nat) * (w : Nat))) (items := (List.range h).map fun q => D.int (0 + (q : Nat) * (w : Nat))) (g := gVar 17) (fe := eJoin (eC (.str (lit " "))) (eCut (eVar 15) (oSome (eVar 17)) (oSome (eBin oAdd (eVar 17) (eVar 5))))) (ρ := [some (.flst ns), some (.loc 0), t, some (neg w h T), some (.tup (R.map encD)), some (.int (w : Nat)), some (.int (n : Nat)), some (.lst ((RW w h fun c => T.getD c 0).map D.str)), some (.str (textL R)), some (.lst [.loc (r.length + 1), .loc (r.length + 2)]), some (.bl (over false R)), x11, x12, x13, x14, some (.lst ((List.range n).map fun c => D.str (wo w R c))), x16, none]) (μ := c2 :: r') (fun q => D.str (joinD [32] (rw_ w (wo w R) q))) (L := List.range h) (by
      intro q hq
      have hq := List.mem_range.mp hq
      have ee1 : (0 : Int) + (q : Nat) * (w : Nat) = ((q * w : Nat) : Int) := by push_cast; omega
      have ee2 : ((q * w : Nat) : Int) + (w : Nat) = ((q * w + w : Nat) : Int) := by omega
      have ct : ∀ μ, oCut (.lst ((List.range n).map fun c => D.str (wo w R c))) (some ((q * w : Nat) : Int)) (some ((q * w + w : Nat) : Int)) μ = .ok (.lst ((rw_ w (wo w R) q).map D.str)) μ := fun μ => by
        have := cut_row hs (f := fun c => D.str (wo w R c)) hq
        simp only [oCut, seqOf, this]
        congr 2
        unfold rw_
        rw [List.map_map]
        rfl
      have jo := fun μ => join_strs (μ := μ) (s := [32]) (A := rw_ w (wo w R) q) (by
        have := sum_le (f := List.length) (b := 9) (A := rw_ w (wo w R) q) (fun r hr => by
          obtain ⟨x, _, rfl⟩ := List.mem_map.mp hr
          exact (wo_ok hR hd).1)
        rw [rw_len] at this ⊢
        simp
        omega)
      refine ⟨[some (.flst ns), some (.loc 0), t, some (neg w h T), some (.tup (R.map encD)), some (.int (w : Nat)), some (.int (n : Nat)), some (.lst ((RW w h fun c => T.getD c 0).map D.str)), some (.str (textL R)), some (.lst [.loc (r.length + 1), .loc (r.length + 2)]), some (.bl (over false R)), x11, x12, x13, x14, some (.lst ((List.range n).map fun c => D.str (wo w R c))), x16, some (.int ((q * w : Nat) : Int))], by rw [ee1]; rfl, ?_⟩
      generalize (rw_ w (wo w R) q).map D.str = rr at *
      generalize joinD [32] (rw_ w (wo w R) q) = jj at *
      generalize ((List.range n).map fun c => D.str (wo w R c)) = ww at *
      generalize neg w h T = gg0 at *; generalize R.map encD = gg1 at *; generalize (RW w h fun c => T.getD c 0).map D.str = gg2 at *; generalize textL R = gg3 at *; generalize R.map encD = gg4 at *
      simp_arith [eCut_ev, oSome_ev, oAdd_int, ee2, ct, sp, jo]) (by simp; show _ ≤ 1000000; omega)
    have rme : (List.range h).map (fun q => D.str (joinD [32] (rw_ w (wo w R) q))) = (mapRows w h R).map D.str := by
      unfold mapRows RW
      rw [List.map_map, List.map_map]
      rfl
    rw [rme] at lcm
    refine go_seq (ρ1 := [some (.flst ns), some (.loc 0), t, some (neg w h T), some (.tup (R.map encD)), some (.int (w : Nat)), some (.int (n : Nat)), some (.lst ((RW w h fun c => T.getD c 0).map D.str)), some (.str (textL R)), some (.lst [.loc (r.length + 1), .loc (r.length + 2)]), some (.bl (over false R)), x11, x12, x13, x14, some (.lst ((List.range n).map fun c => D.str (wo w R c))), some (.lst ((mapRows w h R).map D.str)), x17]) (μ1 := c2 :: r') ?_ ?_
    · rw [sAsg_ev]
      show rS _ (eLc [17] _ _ _ _ [some (.flst ns), some (.loc 0), t, some (neg w h T), some (.tup (R.map encD)), some (.int (w : Nat)), some (.int (n : Nat)), some (.lst ((RW w h fun c => T.getD c 0).map D.str)), some (.str (textL R)), some (.lst [.loc (r.length + 1), .loc (r.length + 2)]), some (.bl (over false R)), x11, x12, x13, x14, some (.lst ((List.range n).map fun c => D.str (wo w R c))), x16, x17] (c2 :: r')) _ = _
      rw [eLc_ev]
      rw [show iStep (eC (.int 0)) (eVar 6) (eVar 5) [some (.flst ns), some (.loc 0), t, some (neg w h T), some (.tup (R.map encD)), some (.int (w : Nat)), some (.int (n : Nat)), some (.lst ((RW w h fun c => T.getD c 0).map D.str)), some (.str (textL R)), some (.lst [.loc (r.length + 1), .loc (r.length + 2)]), some (.bl (over false R)), x11, x12, x13, x14, some (.lst ((List.range n).map fun c => D.str (wo w R c))), x16, x17] (c2 :: r') = _ from st1 x17 (c2 :: r'), bok]
      rw [show lcL _ _ _ _ _ (wipeE _ [17]) _ _ _ = _ from lcm]
      rfl
    have om := fun μ => open_map hs hR hd (μ := μ)
    have jm : ∀ μ, oJoin (.str [10]) (.lst ((mapRows w h R).map D.str)) μ = .ok (.str (joinD [10] (mapRows w h R))) μ := fun μ => join_strs (by
      have h2 := sum_le (f := List.length) (b := 50) (A := mapRows w h R) (fun r hr => (mapRow_ok hs hR hd hr).1)
      rw [mapRows_len] at h2 ⊢
      simp only [List.length_cons, List.length_nil]
      omega)
    have lowM : (joinD [10] (mapRows w h R)).all (· < 0x110000) = true := by
      rw [List.all_eq_true]
      intro x hx
      rw [decide_eq_true_eq]
      rcases mem_joinD hx with z | ⟨p, hp, hx⟩
      · simp at z
        omega
      · have := (mapRow_ok hs hR hd hp).2 x hx
        omega
    have neM := fun μ => neStr (μ := μ) lowM lowM
    rw [decide_eq_true rfl, Bool.not_true] at neM
    refine go_not1 (μ1 := c2 :: r') ?_ (turn_end (ys := [some (neg w h T), some (.tup (R.map encD)), some (.int (w : Nat)), some (.int (n : Nat)), some (.lst ((RW w h fun c => T.getD c 0).map D.str)), some (.str (textL R)), some (.lst [.loc (r.length + 1), .loc (r.length + 2)]), some (.bl (over false R)), x11, x12, x13, x14, some (.lst ((List.range n).map fun c => D.str (wo w R c))), some (.lst ((mapRows w h R).map D.str)), x17]) rfl h2 hrr)
    generalize joinD [10] (mapRows w h R) = jj at *
    generalize (mapRows w h R).map D.str = mm at *
    generalize ((List.range n).map fun c => D.str (wo w R c)) = ww at *
    generalize D.lst [.loc (r.length + 1), .loc (r.length + 2)] = ll at *
    generalize neg w h T = gg0 at *; generalize R.map encD = gg1 at *; generalize (RW w h fun c => T.getD c 0).map D.str = gg2 at *; generalize textL R = gg3 at *; generalize R.map encD = gg4 at *
    simp_arith [nl, eProp_ev, ins, nh, om, jm, neM]
  · intro t ys c r hy hc hr
    have hs : Sz 1 1 1 := ⟨by omega, by omega, by omega, by omega, by omega, by omega, by omega⟩
    have okT : OkT 1 [48] := ⟨rfl, fun c hc => by simp at hc; omega⟩
    have rr := read_recipe (μ := c :: r) (R := []) hs okT (by simp) (by simp) (all_row hc hr)
    have mk := K45.make2 (w := 1) (h := 1) hs okT (ρ := some (.flst ns) :: some (.loc 0) :: t :: ys) (fs := aCons (eC (.int 1)) (aCons (eC (.int 1)) (aCons (eC (.str (lit "0"))) (aNil)))) (μ := c :: r) (all_row hc hr) rfl
    have e0 : lit "" = [] := by decide +kernel
    have rt := fun μ => recipe_text (R := []) (n := 1) (by simp) (by omega) (by simp) (μ := μ)
    refine ⟨c :: r, ?_⟩
    show sRet _ _ _ = _
    have q1 : oEq (.tup []) (.tup []) (c :: r) = .ok (.bl true) (c :: r) := by rfl
    have q2 : oEq (.str []) (.str []) (c :: r) = .ok (.bl true) (c :: r) := by
      rw [oEq_str (by decide) (by decide)]
      rfl
    have hL0 : 0 ≤ LIM := by decide
    simp only [List.map_nil] at rr rt
    rw [show textL [] = [] from rfl] at rr rt
    simp_arith [mk, e0, rr, rt, q1, q2, hL0]
end K42
set_option Elab.async false
set_option linter.all false
set_option maxRecDepth 100000
set_option autoImplicit false
namespace K42
open PySem L2 Fw Pg
def top (i : Nat) : Stmt := PySem.Challenge.pw_maskedprints_k42_pictures_texts_and_maps.main.body.getD i (.Pass ⟨0, 0, 0, 0⟩)
abbrev s_Negativedd__lendd_ : Stmt := inClass (top 39) 4
abbrev s_is_number : Stmt := top 13
abbrev s_wrong_side : Stmt := top 15
abbrev s_wrong_part : Stmt := top 40
abbrev s_Negativedd__initdd_ : Stmt := inClass (top 39) 0
abbrev s_Negative_densities : Stmt := inClass (top 39) 3
abbrev s_Negative_height : Stmt := inClass (top 39) 2
abbrev s_Negative_width : Stmt := inClass (top 39) 1
abbrev s_l_taken : Stmt := top 42
abbrev s_l_negative : Stmt := top 43
abbrev s_l_open : Stmt := top 45
abbrev s_l_deed : Stmt := top 44
abbrev s_l_recipe : Stmt := top 46
abbrev s_l_words : Stmt := top 47
abbrev s_in_rows : Stmt := top 31
abbrev s_ascends : Stmt := top 14
abbrev s_is_mask : Stmt := top 17
abbrev s_is_deed : Stmt := top 18
abbrev s_check_recipe : Stmt := top 19
abbrev s_check_size : Stmt := top 16
abbrev s_ticks_of : Stmt := top 20
abbrev s_open_pair : Stmt := top 21
abbrev s_open_times : Stmt := top 23
abbrev s_open_map : Stmt := top 30
abbrev s_picture : Stmt := top 27
abbrev s_deed_of : Stmt := top 33
abbrev s_worded_rows : Stmt := top 34
abbrev s_number_of : Stmt := top 35
abbrev s_wrong_cell : Stmt := top 37
abbrev s_wrong_word : Stmt := top 36
abbrev s_read_recipe : Stmt := top 29
abbrev s_deed_text : Stmt := top 32
abbrev s_recipe_text : Stmt := top 28
abbrev s_law : Stmt := top 48
structure Tx (P : Program) (W : World) (K : PySem.W.Frag) (cls : Nat → Option Addr) (mg : Str → Option Value) (C_Negative : Addr) (C_InvalidLine : Addr) (C_InvalidNegative : Addr) (C_InvalidRecipe : Addr) (C_InvalidSize : Addr) : Prop where
  n_all : mg "all" = none
  n_bool : mg "bool" = none
  n_enumerate : mg "enumerate" = none
  n_int : mg "int" = none
  n_isinstance : mg "isinstance" = none
  n_len : mg "len" = none
  n_list : mg "list" = none
  n_max : mg "max" = none
  n_range : mg "range" = none
  n_str : mg "str" = none
  n_tuple : mg "tuple" = none
  c_DENSITIES : Gv K cls mg "DENSITIES" (.str (lit "01234"))
  c_FLIP : Gv K cls mg "FLIP" (.tup [.str (lit "flip")])
  c_LONGEST_NUMBER : Gv K cls mg "LONGEST_NUMBER" (.int 2)
  c_MOST_CELLS : Gv K cls mg "MOST_CELLS" (.int 9)
  c_MOST_DEEDS : Gv K cls mg "MOST_DEEDS" (.int 8)
  c_MOST_SIDE : Gv K cls mg "MOST_SIDE" (.int 4)
  c_MOST_TICKS : Gv K cls mg "MOST_TICKS" (.int 99)
  d_TIMES : Kdi K W mg "TIMES" [(lit "expose", 1), (lit "draw", 2), (lit "flip", 0)]
  k_Negative : Kl1 K cls 0 C_Negative
  m_Negative : mg "Negative" = some (.ref C_Negative)
  f_Negative_columns : NoAttr K C_Negative "columns"
  f_Negative_figures : NoAttr K C_Negative "figures"
  f_Negative_lines : NoAttr K C_Negative "lines"
  e_InvalidSize : Ek0 K cls mg "InvalidSize" 102 C_InvalidSize
  q_InvalidLine : Ek K cls mg "InvalidLine" 117 C_InvalidLine
  q_InvalidNegative : Ek K cls mg "InvalidNegative" 101 C_InvalidNegative
  q_InvalidRecipe : Ek K cls mg "InvalidRecipe" 103 C_InvalidRecipe
abbrev si_InvalidLine : Stmt := inClass (top 5) 0
abbrev si_InvalidNegative : Stmt := inClass (top 2) 0
abbrev si_InvalidRecipe : Stmt := inClass (top 4) 0
section
variable {P : Program} {W : World} {K : PySem.W.Frag} {cls : Nat → Option Addr} {mg : Str → Option Value} {base : Heap} {C_Negative : Addr} {C_InvalidLine : Addr} {C_InvalidNegative : Addr} {C_InvalidRecipe : Addr} {C_InvalidSize : Addr} {f : Addr} {fd : FuncData}
theorem sc_Negativedd__lendd_ : FnScope ["self"] ["self"] (defScope s_Negativedd__lendd_) := ⟨rfl, rfl, rfl, by decide +kernel, rfl, by decide +kernel, by decide +kernel⟩
theorem dm_Negativedd__lendd_ (F : Fun K "__len__" "Negative.__len__" s_Negativedd__lendd_ f fd) (b : Binds K fd ["self"] []) (T : Tx P W K cls mg C_Negative C_InvalidLine C_InvalidNegative C_InvalidRecipe C_InvalidSize) : Dm P W K cls mg base 1 f 1 M_Negativedd__lendd_ :=
  dm_mk (N := ["self"]) (ps := ["self"]) (g := B_Negativedd__lendd_) F b sc_Negativedd__lendd_ (fun cdv A outer s H E hr tk => (
  sss_one (ss_ret (se_callB cv_len rfl T.n_len (by decide +kernel) (sa_cons (se_fld T.k_Negative T.f_Negative_figures (se_var 0)) (sa_nil))))))
theorem sc_is_number : FnScope ["value", "least", "most"] ["value", "least", "most"] (defScope s_is_number) := ⟨rfl, rfl, rfl, by decide +kernel, rfl, by decide +kernel, by decide +kernel⟩
theorem df_is_number (F : Fun K "is_number" "is_number" s_is_number f fd) (b : Binds K fd ["value", "least", "most"] []) (hm : mg "is_number" = some (.ref f)) (T : Tx P W K cls mg C_Negative C_InvalidLine C_InvalidNegative C_InvalidRecipe C_InvalidSize) : Df P W K cls mg base 1 "is_number" 3 M_is_number :=
  (df_mk (N := ["value", "least", "most"]) (ps := ["value", "least", "most"]) (g := B_is_number) F b hm sc_is_number (fun cdv A outer s H E hr tk => (
  sss_one (ss_ret (se_and (se_isi (T := "int") (se_var 0) rfl T.n_isinstance (by decide +kernel) rfl T.n_int (by decide +kernel)) (se_and (se_not (se_isi (T := "bool") (se_var 0) rfl T.n_isinstance (by decide +kernel) rfl T.n_bool (by decide +kernel))) (se_one (se_chain ov_le ov_le (se_var 1) (se_var 0) (se_var 2)))))))))
theorem sc_wrong_side : FnScope ["width", "height"] ["width", "height"] (defScope s_wrong_side) := ⟨rfl, rfl, rfl, by decide +kernel, rfl, by decide +kernel, by decide +kernel⟩
theorem df_wrong_side (F : Fun K "wrong_side" "wrong_side" s_wrong_side f fd) (b : Binds K fd ["width", "height"] []) (hm : mg "wrong_side" = some (.ref f)) (T : Tx P W K cls mg C_Negative C_InvalidLine C_InvalidNegative C_InvalidRecipe C_InvalidSize) (G_is_number : Df P W K cls mg base 1 "is_number" 3 M_is_number) : Df P W K cls mg base 2 "wrong_side" 2 M_wrong_side :=
  (df_mk (N := ["width", "height"]) (ps := ["width", "height"]) (g := B_wrong_side) F b hm sc_wrong_side (fun cdv A outer s H E hr tk => (
  sss_cons (ss_if (st_not (st_val (se_call tk G_is_number (hr.mono (by decide)) rfl (sa_cons (se_var 0) (sa_cons (se_int) (sa_cons (se_globG (by exact rfl) T.c_MOST_SIDE) (sa_nil))))))) (
  sss_one (ss_ret (se_str))) (
  sss_nil)) (
  sss_cons (ss_if (SW.st (sw_or (st_not (st_val (se_call tk G_is_number (hr.mono (by decide)) rfl (sa_cons (se_var 1) (sa_cons (se_int) (sa_cons (se_globG (by exact rfl) T.c_MOST_SIDE) (sa_nil))))))) (sw_or1 (st_cmp ov_gt (se_bin ov_mul (se_var 0) (se_var 1)) (se_globG (by exact rfl) T.c_MOST_CELLS))))) (
  sss_one (ss_ret (se_str))) (
  sss_nil)) (
  sss_one (ss_ret (se_non)))))))
theorem sc_wrong_part : FnScope ["width", "height", "densities", "side", "figure"] ["width", "height", "densities"] (defScope s_wrong_part) := ⟨rfl, rfl, rfl, by decide +kernel, rfl, by decide +kernel, by decide +kernel⟩
theorem df_wrong_part (F : Fun K "wrong_part" "wrong_part" s_wrong_part f fd) (b : Binds K fd ["width", "height", "densities"] []) (hm : mg "wrong_part" = some (.ref f)) (T : Tx P W K cls mg C_Negative C_InvalidLine C_InvalidNegative C_InvalidRecipe C_InvalidSize) (G_wrong_side : Df P W K cls mg base 2 "wrong_side" 2 M_wrong_side) {f_Negativedd__lendd_ : Addr} (g_Negativedd__lendd_ : Dm P W K cls mg base 1 f_Negativedd__lendd_ 1 M_Negativedd__lendd_) (len_at : PySem.W.findIn K (.ref C_Negative) "__len__" = some (some (.ref f_Negativedd__lendd_))) (len_fn : PySem.W.isFn K (.ref f_Negativedd__lendd_) = true) : Df P W K cls mg base 3 "wrong_part" 3 M_wrong_part :=
  (df_mk (N := ["width", "height", "densities", "side", "figure"]) (ps := ["width", "height", "densities"]) (g := B_wrong_part) F b hm sc_wrong_part (fun cdv A outer s H E hr tk => (
  sss_cons (ss_set 3 sc_wrong_part.nd (se_call tk G_wrong_side (hr.mono (by decide)) rfl (sa_cons (se_var 0) (sa_cons (se_var 1) (sa_nil))))) (
  sss_cons (ss_if (st_cmp ov_notN (se_var 3) (se_non)) (
  sss_one (ss_ret (se_var 3))) (
  sss_nil)) (
  sss_cons (ss_if (SW.st (sw_or (st_cmp (ov_ne hr.units) (se_callB (cv_lenO T.k_Negative len_at len_fn g_Negativedd__lendd_ (hr.mono (by decide))) (by exact rfl) T.n_len (by decide +kernel) (sa_cons (se_var 2) (sa_nil))) (se_bin ov_mul (se_var 0) (se_var 1))) (sw_or1 (st_not (st_val (se_callB (cv_all rfl) (by exact rfl) T.n_all (by decide +kernel) (sa_cons (se_lc (own := [("figure", 4)]) rfl sc_wrong_part.nd (si_of (se_var 2)) (blkOk_by (N := ["width", "height", "densities", "side", "figure"]) (sc := defScope s_wrong_part) (own := [("figure", 4)]) (by decide +kernel)) (fun _ _ _ _ _ => sg_var 4 sc_wrong_part.nd) (fun _ _ _ _ _ => sts_nil) (fun _ _ _ _ _ => se_cmp ov_in (se_var 4) (se_globG (by exact rfl) T.c_DENSITIES))) (sa_nil)))))))) (
  sss_one (ss_ret (se_str))) (
  sss_nil)) (
  sss_one (ss_ret (se_non))))))))
theorem sc_Negativedd__initdd_ : FnScope ["self", "width", "height", "densities", "part"] ["self", "width", "height", "densities"] (defScope s_Negativedd__initdd_) := ⟨rfl, rfl, rfl, by decide +kernel, rfl, by decide +kernel, by decide +kernel⟩
theorem dm_Negativedd__initdd_ (F : Fun K "__init__" "Negative.__init__" s_Negativedd__initdd_ f fd) (b : Binds K fd ["self", "width", "height", "densities"] []) (T : Tx P W K cls mg C_Negative C_InvalidLine C_InvalidNegative C_InvalidRecipe C_InvalidSize) (G_wrong_part : Df P W K cls mg base 3 "wrong_part" 3 M_wrong_part) (I_InvalidNegative : EkI P W K cls mg base 1 "InvalidNegative" 101 C_InvalidNegative "part") : Dm P W K cls mg base 4 f 4 M_Negativedd__initdd__2 :=
  dm_mk (N := ["self", "width", "height", "densities", "part"]) (ps := ["self", "width", "height", "densities"]) (g := B_Negativedd__initdd__2) F b sc_Negativedd__initdd_ (fun cdv A outer s H E hr tk => (
  sss_cons (ss_set 4 sc_Negativedd__initdd_.nd (se_call tk G_wrong_part (hr.mono (by decide)) rfl (sa_cons (se_var 1) (sa_cons (se_var 2) (sa_cons (se_var 3) (sa_nil)))))) (
  sss_cons (ss_if (st_cmp ov_notN (se_var 4) (se_non)) (
  sss_one (ss_raise1 rfl tk I_InvalidNegative (hr.mono (by decide)) rfl (se_var 4))) (
  sss_nil)) (
  sss_cons (ss_fld T.k_Negative T.f_Negative_columns (se_var 0) (se_var 1)) (
  sss_cons (ss_fld T.k_Negative T.f_Negative_lines (se_var 0) (se_var 2)) (
  sss_one (ss_fld T.k_Negative T.f_Negative_figures (se_var 0) (se_var 3))))))))
theorem sc_Negative_densities : FnScope ["self"] ["self"] (defScope s_Negative_densities) := ⟨rfl, rfl, rfl, by decide +kernel, rfl, by decide +kernel, by decide +kernel⟩
theorem dm_Negative_densities (F : Fun K "densities" "Negative.densities" s_Negative_densities f fd) (b : Binds K fd ["self"] []) (T : Tx P W K cls mg C_Negative C_InvalidLine C_InvalidNegative C_InvalidRecipe C_InvalidSize) : Dm P W K cls mg base 1 f 1 M_Negative_densities :=
  dm_mk (N := ["self"]) (ps := ["self"]) (g := B_Negative_densities) F b sc_Negative_densities (fun cdv A outer s H E hr tk => (
  sss_one (ss_ret (se_fld T.k_Negative T.f_Negative_figures (se_var 0)))))
theorem sc_Negative_height : FnScope ["self"] ["self"] (defScope s_Negative_height) := ⟨rfl, rfl, rfl, by decide +kernel, rfl, by decide +kernel, by decide +kernel⟩
theorem dm_Negative_height (F : Fun K "height" "Negative.height" s_Negative_height f fd) (b : Binds K fd ["self"] []) (T : Tx P W K cls mg C_Negative C_InvalidLine C_InvalidNegative C_InvalidRecipe C_InvalidSize) : Dm P W K cls mg base 1 f 1 M_Negative_height :=
  dm_mk (N := ["self"]) (ps := ["self"]) (g := B_Negative_height) F b sc_Negative_height (fun cdv A outer s H E hr tk => (
  sss_one (ss_ret (se_fld T.k_Negative T.f_Negative_lines (se_var 0)))))
theorem sc_Negative_width : FnScope ["self"] ["self"] (defScope s_Negative_width) := ⟨rfl, rfl, rfl, by decide +kernel, rfl, by decide +kernel, by decide +kernel⟩
theorem dm_Negative_width (F : Fun K "width" "Negative.width" s_Negative_width f fd) (b : Binds K fd ["self"] []) (T : Tx P W K cls mg C_Negative C_InvalidLine C_InvalidNegative C_InvalidRecipe C_InvalidSize) : Dm P W K cls mg base 1 f 1 M_Negative_width :=
  dm_mk (N := ["self"]) (ps := ["self"]) (g := B_Negative_width) F b sc_Negative_width (fun cdv A outer s H E hr tk => (
  sss_one (ss_ret (se_fld T.k_Negative T.f_Negative_columns (se_var 0)))))
theorem sc_l_taken : FnScope ["_law_row", "_law_many", "_law_found", "_law_cell"] ["_law_row", "_law_many"] (defScope s_l_taken) := ⟨rfl, rfl, rfl, by decide +kernel, rfl, by decide +kernel, by decide +kernel⟩
theorem df_l_taken (F : Fun K "_law_taken" "_law_taken" s_l_taken f fd) (b : Binds K fd ["_law_row", "_law_many"] []) (hm : mg "_law_taken" = some (.ref f)) (T : Tx P W K cls mg C_Negative C_InvalidLine C_InvalidNegative C_InvalidRecipe C_InvalidSize) {f_Negativedd__lendd_ : Addr} (g_Negativedd__lendd_ : Dm P W K cls mg base 1 f_Negativedd__lendd_ 1 M_Negativedd__lendd_) (len_at : PySem.W.findIn K (.ref C_Negative) "__len__" = some (some (.ref f_Negativedd__lendd_))) (len_fn : PySem.W.isFn K (.ref f_Negativedd__lendd_) = true) : Df P W K cls mg base 3 "_law_taken" 2 M_l_taken :=
  (df_mk (N := ["_law_row", "_law_many", "_law_found", "_law_cell"]) (ps := ["_law_row", "_law_many"]) (g := B_l_taken) F b hm sc_l_taken (fun cdv A outer s H E hr tk => (
  sss_cons (ss_if (st_cmp ov_gt (se_ix (se_var 0) (se_int)) (se_int)) (
  sss_cons (ss_set 2 sc_l_taken.nd (se_bin ov_mod (se_callTy cv_int (by exact rfl) T.n_int (by decide +kernel) (sa_cons (se_ix (se_var 0) (se_int)) (sa_nil))) (se_var 1))) (
  sss_cons (ss_asg (se_bin ov_fdv (se_ix (se_var 0) (se_int)) (se_var 1)) (sg_ix (W := W0) (se_var 0) (se_int))) (
  sss_one (ss_ret (se_var 2))))) (
  sss_nil)) (
  sss_cons (ss_asg (se_bin ov_add (se_ix (se_var 0) (se_int)) (se_int)) (sg_ix (W := W0) (se_var 0) (se_int))) (
  sss_cons (ss_if (st_cmp ov_gt (se_ix (se_var 0) (se_int)) (se_callB (cv_lenO T.k_Negative len_at len_fn g_Negativedd__lendd_ (hr.mono (by decide))) (by exact rfl) T.n_len (by decide +kernel) (sa_cons (se_ix (se_var 0) (se_int)) (sa_nil)))) (
  sss_cons (ss_asg (se_bin ov_mod (se_callTy cv_int (by exact rfl) T.n_int (by decide +kernel) (sa_cons (se_bin ov_add (se_bin ov_mul (se_ix (se_var 0) (se_int)) (se_int)) (se_int)) (sa_nil))) (se_int)) (sg_ix (W := W0) (se_var 0) (se_int))) (
  sss_one (ss_ret (se_bin ov_mod (se_callTy cv_int (by exact rfl) T.n_int (by decide +kernel) (sa_cons (se_bin ov_fdv (se_ix (se_var 0) (se_int)) (se_int)) (sa_nil))) (se_var 1))))) (
  sss_nil)) (
  sss_cons (ss_set 3 sc_l_taken.nd (se_ix (se_ix (se_var 0) (se_int)) (se_bin ov_sub (se_ix (se_var 0) (se_int)) (se_int)))) (
  sss_cons (ss_asg (se_bin ov_mod (se_callTy cv_int (by exact rfl) T.n_int (by decide +kernel) (sa_cons (se_bin ov_add (se_bin ov_add (se_bin ov_mul (se_ix (se_var 0) (se_int)) (se_int)) (se_var 3)) (se_int)) (sa_nil))) (se_int)) (sg_ix (W := W0) (se_var 0) (se_int))) (
  sss_cons (ss_if (st_cmp ov_ge (se_var 3) (se_bin ov_pow (se_int) (se_int))) (
  sss_one (ss_asg (se_bin ov_fdv (se_var 3) (se_var 1)) (sg_ix (W := W0) (se_var 0) (se_int)))) (
  sss_nil)) (
  sss_one (ss_ret (se_bin ov_mod (se_callTy cv_int (by exact rfl) T.n_int (by decide +kernel) (sa_cons (se_var 3) (sa_nil))) (se_var 1))))))))))))
theorem sc_l_negative : FnScope ["_law_row", "_law_most", "_law_width", "_law_height", "_law_cell"] ["_law_row", "_law_most"] (defScope s_l_negative) := ⟨rfl, rfl, rfl, by decide +kernel, rfl, by decide +kernel, by decide +kernel⟩
theorem df_l_negative (F : Fun K "_law_negative" "_law_negative" s_l_negative f fd) (b : Binds K fd ["_law_row", "_law_most"] []) (hm : mg "_law_negative" = some (.ref f)) (T : Tx P W K cls mg C_Negative C_InvalidLine C_InvalidNegative C_InvalidRecipe C_InvalidSize) (G_l_taken : Df P W K cls mg base 3 "_law_taken" 2 M_l_taken) {f_Negativedd__initdd_ : Addr} (g_Negativedd__initdd_ : Dm P W K cls mg base 4 f_Negativedd__initdd_ 4 M_Negativedd__initdd__2) (mk_Negative : Mk K C_Negative f_Negativedd__initdd_) : Df P W K cls mg base 6 "_law_negative" 2 M_l_negative_3 :=
  (df_mk (N := ["_law_row", "_law_most", "_law_width", "_law_height", "_law_cell"]) (ps := ["_law_row", "_law_most"]) (g := B_l_negative_3) F b hm sc_l_negative (fun cdv A outer s H E hr tk => (
  sss_cons (ss_par 2 3 rfl sc_l_negative.nd (se_bin ov_add (se_int) (se_call tk G_l_taken (hr.mono (by decide)) rfl (sa_cons (se_var 0) (sa_cons (se_int) (sa_nil))))) (se_bin ov_add (se_int) (se_call tk G_l_taken (hr.mono (by decide)) rfl (sa_cons (se_var 0) (sa_cons (se_var 1) (sa_nil)))))) (
  sss_one (ss_ret (se_makeS tk T.k_Negative mk_Negative g_Negativedd__initdd_ (hr.mono (by decide)) (by exact rfl) T.m_Negative (sa_cons (se_var 2) (sa_cons (se_var 3) (sa_cons (se_join (se_str) (se_lc (own := [("_law_cell", 4)]) rfl sc_l_negative.nd (si_range1 rfl T.n_range (se_bin ov_mul (se_var 2) (se_var 3))) (blkOk_by (N := ["_law_row", "_law_most", "_law_width", "_law_height", "_law_cell"]) (sc := defScope s_l_negative) (own := [("_law_cell", 4)]) (by decide +kernel)) (fun _ _ _ _ _ => sg_var 4 sc_l_negative.nd) (fun _ _ _ _ _ => sts_nil) (fun _ _ _ _ _ => se_ix (se_str) (se_call takes0 G_l_taken (hr.mono (by decide)) rfl (sa_cons (se_var 0) (sa_cons (se_int) (sa_nil))))))) (sa_nil))))))))))
theorem sc_l_open : FnScope ["_law_negative_here", "_law_deed_here", "_law_cell"] ["_law_negative_here", "_law_deed_here"] (defScope s_l_open) := ⟨rfl, rfl, rfl, by decide +kernel, rfl, by decide +kernel, by decide +kernel⟩
theorem df_l_open (F : Fun K "_law_open" "_law_open" s_l_open f fd) (b : Binds K fd ["_law_negative_here", "_law_deed_here"] []) (hm : mg "_law_open" = some (.ref f)) (T : Tx P W K cls mg C_Negative C_InvalidLine C_InvalidNegative C_InvalidRecipe C_InvalidSize) {f_Negativedd__lendd_ : Addr} (g_Negativedd__lendd_ : Dm P W K cls mg base 1 f_Negativedd__lendd_ 1 M_Negativedd__lendd_) (len_at : PySem.W.findIn K (.ref C_Negative) "__len__" = some (some (.ref f_Negativedd__lendd_))) (len_fn : PySem.W.isFn K (.ref f_Negativedd__lendd_) = true) {f_Negative_width : Addr} (g_Negative_width : Dm P W K cls mg base 1 f_Negative_width 1 M_Negative_width) {p_Negative_width : Addr} (pp_Negative_width : PropOf K C_Negative "width" p_Negative_width f_Negative_width) : Df P W K cls mg base 3 "_law_open" 2 M_l_open :=
  (df_mk (N := ["_law_negative_here", "_law_deed_here", "_law_cell"]) (ps := ["_law_negative_here", "_law_deed_here"]) (g := B_l_open) F b hm sc_l_open (fun cdv A outer s H E hr tk => (
  sss_cons (ss_if (st_cmp (ov_eq hr.units) (se_ix (se_var 1) (se_int)) (se_str)) (
  sss_one (ss_ret (se_bin ov_mul (se_lst (sa_cons (se_int) (sa_nil))) (se_callB (cv_lenO T.k_Negative len_at len_fn g_Negativedd__lendd_ (hr.mono (by decide))) (by exact rfl) T.n_len (by decide +kernel) (sa_cons (se_var 0) (sa_nil)))))) (
  sss_nil)) (
  sss_cons (ss_if (st_cmp (ov_eq hr.units) (se_ix (se_var 1) (se_int)) (se_str)) (
  sss_one (ss_ret (se_lc (own := [("_law_cell", 2)]) rfl sc_l_open.nd (si_range1 rfl T.n_range (se_callB (cv_lenO T.k_Negative len_at len_fn g_Negativedd__lendd_ (hr.mono (by decide))) (by exact rfl) T.n_len (by decide +kernel) (sa_cons (se_var 0) (sa_nil)))) (blkOk_by (N := ["_law_negative_here", "_law_deed_here", "_law_cell"]) (sc := defScope s_l_open) (own := [("_law_cell", 2)]) (by decide +kernel)) (fun _ _ _ _ _ => sg_var 2 sc_l_open.nd) (fun _ _ _ _ _ => sts_nil) (fun _ _ _ _ _ => se_bin ov_mul (se_ix (se_var 1) (se_int)) (se_callTy cv_int (by exact rfl) T.n_int (by decide +kernel) (sa_cons (se_cmp ov_notIn (se_var 2) (se_ix (se_var 1) (se_int))) (sa_nil))))))) (
  sss_nil)) (
  sss_one (ss_ret (se_lc (own := [("_law_cell", 2)]) rfl sc_l_open.nd (si_range1 rfl T.n_range (se_callB (cv_lenO T.k_Negative len_at len_fn g_Negativedd__lendd_ (hr.mono (by decide))) (by exact rfl) T.n_len (by decide +kernel) (sa_cons (se_var 0) (sa_nil)))) (blkOk_by (N := ["_law_negative_here", "_law_deed_here", "_law_cell"]) (sc := defScope s_l_open) (own := [("_law_cell", 2)]) (by decide +kernel)) (fun _ _ _ _ _ => sg_var 2 sc_l_open.nd) (fun _ _ _ _ _ => sts_nil) (fun _ _ _ _ _ => se_callB (cv_max2 rfl) (by exact rfl) T.n_max (by decide +kernel) (sa_cons (se_int) (sa_cons (se_bin ov_sub (se_ix (se_var 1) (se_int)) (se_bin ov_mul (se_ix (se_var 1) (se_int)) (se_bin ov_mod (se_callTy cv_int (by exact rfl) T.n_int (by decide +kernel) (sa_cons (se_var 2) (sa_nil))) (se_prop T.k_Negative pp_Negative_width g_Negative_width (hr.mono (by decide)) (se_var 0))))) (sa_nil)))))))))))
theorem sc_l_deed : FnScope ["_law_row", "_law_negative_here", "_law_pick", "_law_covered", "_law_cell"] ["_law_row", "_law_negative_here"] (defScope s_l_deed) := ⟨rfl, rfl, rfl, by decide +kernel, rfl, by decide +kernel, by decide +kernel⟩
theorem df_l_deed (F : Fun K "_law_deed" "_law_deed" s_l_deed f fd) (b : Binds K fd ["_law_row", "_law_negative_here"] []) (hm : mg "_law_deed" = some (.ref f)) (T : Tx P W K cls mg C_Negative C_InvalidLine C_InvalidNegative C_InvalidRecipe C_InvalidSize) (G_l_taken : Df P W K cls mg base 3 "_law_taken" 2 M_l_taken) {f_Negativedd__lendd_ : Addr} (g_Negativedd__lendd_ : Dm P W K cls mg base 1 f_Negativedd__lendd_ 1 M_Negativedd__lendd_) (len_at : PySem.W.findIn K (.ref C_Negative) "__len__" = some (some (.ref f_Negativedd__lendd_))) (len_fn : PySem.W.isFn K (.ref f_Negativedd__lendd_) = true) : Df P W K cls mg base 4 "_law_deed" 2 M_l_deed :=
  (df_mk (N := ["_law_row", "_law_negative_here", "_law_pick", "_law_covered", "_law_cell"]) (ps := ["_law_row", "_law_negative_here"]) (g := B_l_deed) F b hm sc_l_deed (fun cdv A outer s H E hr tk => (
  sss_cons (ss_set 2 sc_l_deed.nd (se_call tk G_l_taken (hr.mono (by decide)) rfl (sa_cons (se_var 0) (sa_cons (se_int) (sa_nil))))) (
  sss_cons (ss_if (st_cmp ov_lt (se_var 2) (se_int)) (
  sss_cons (ss_set 3 sc_l_deed.nd (se_callTy cv_tuple (by exact rfl) T.n_tuple (by decide +kernel) (sa_cons (se_lc (own := [("_law_cell", 4)]) rfl sc_l_deed.nd (si_range1 rfl T.n_range (se_callB (cv_lenO T.k_Negative len_at len_fn g_Negativedd__lendd_ (hr.mono (by decide))) (by exact rfl) T.n_len (by decide +kernel) (sa_cons (se_var 1) (sa_nil)))) (blkOk_by (N := ["_law_row", "_law_negative_here", "_law_pick", "_law_covered", "_law_cell"]) (sc := defScope s_l_deed) (own := [("_law_cell", 4)]) (by decide +kernel)) (fun _ _ _ _ _ => sg_var 4 sc_l_deed.nd) (fun _ _ _ _ _ => sts_one (st_cmp (ov_eq hr.units) (se_call takes0 G_l_taken (hr.mono (by decide)) rfl (sa_cons (se_var 0) (sa_cons (se_int) (sa_nil)))) (se_int))) (fun _ _ _ _ _ => se_var 4)) (sa_nil)))) (
  sss_one (ss_ret (se_tup (sa_cons (se_str) (sa_cons (se_bin ov_add (se_int) (se_call tk G_l_taken (hr.mono (by decide)) rfl (sa_cons (se_var 0) (sa_cons (se_ix (se_lst (sa_cons (se_int) (sa_cons (se_int) (sa_nil)))) (se_call tk G_l_taken (hr.mono (by decide)) rfl (sa_cons (se_var 0) (sa_cons (se_int) (sa_nil))))) (sa_nil))))) (sa_cons (se_var 3) (sa_nil)))))))) (
  sss_nil)) (
  sss_cons (ss_if (st_cmp (ov_eq hr.units) (se_var 2) (se_int)) (
  sss_one (ss_ret (se_tup (sa_cons (se_str) (sa_cons (se_bin ov_add (se_int) (se_call tk G_l_taken (hr.mono (by decide)) rfl (sa_cons (se_var 0) (sa_cons (se_int) (sa_nil))))) (sa_cons (se_bin ov_add (se_int) (se_call tk G_l_taken (hr.mono (by decide)) rfl (sa_cons (se_var 0) (sa_cons (se_int) (sa_nil))))) (sa_nil))))))) (
  sss_nil)) (
  sss_one (ss_ret (se_tup (sa_cons (se_str) (sa_nil))))))))))
theorem sc_l_recipe : FnScope ["_law_row", "_law_negative_here", "_law_most", "_law_k"] ["_law_row", "_law_negative_here", "_law_most"] (defScope s_l_recipe) := ⟨rfl, rfl, rfl, by decide +kernel, rfl, by decide +kernel, by decide +kernel⟩
theorem df_l_recipe (F : Fun K "_law_recipe" "_law_recipe" s_l_recipe f fd) (b : Binds K fd ["_law_row", "_law_negative_here", "_law_most"] []) (hm : mg "_law_recipe" = some (.ref f)) (T : Tx P W K cls mg C_Negative C_InvalidLine C_InvalidNegative C_InvalidRecipe C_InvalidSize) (G_l_deed : Df P W K cls mg base 4 "_law_deed" 2 M_l_deed) (G_l_taken : Df P W K cls mg base 3 "_law_taken" 2 M_l_taken) : Df P W K cls mg base 5 "_law_recipe" 3 M_l_recipe :=
  (df_mk (N := ["_law_row", "_law_negative_here", "_law_most", "_law_k"]) (ps := ["_law_row", "_law_negative_here", "_law_most"]) (g := B_l_recipe) F b hm sc_l_recipe (fun cdv A outer s H E hr tk => (
  sss_one (ss_ret (se_callTy cv_tuple (by exact rfl) T.n_tuple (by decide +kernel) (sa_cons (se_lc (own := [("_law_k", 3)]) rfl sc_l_recipe.nd (si_range1 rfl T.n_range (se_call tk G_l_taken (hr.mono (by decide)) rfl (sa_cons (se_var 0) (sa_cons (se_bin ov_add (se_var 2) (se_int)) (sa_nil))))) (blkOk_by (N := ["_law_row", "_law_negative_here", "_law_most", "_law_k"]) (sc := defScope s_l_recipe) (own := [("_law_k", 3)]) (by decide +kernel)) (fun _ _ _ _ _ => sg_var 3 sc_l_recipe.nd) (fun _ _ _ _ _ => sts_nil) (fun _ _ _ _ _ => se_call takes0 G_l_deed (hr.mono (by decide)) rfl (sa_cons (se_var 0) (sa_cons (se_var 1) (sa_nil))))) (sa_nil)))))))
theorem sc_l_words : FnScope ["_law_deed_here", "_law_rest", "_law_number"] ["_law_deed_here"] (defScope s_l_words) := ⟨rfl, rfl, rfl, by decide +kernel, rfl, by decide +kernel, by decide +kernel⟩
theorem df_l_words (F : Fun K "_law_words" "_law_words" s_l_words f fd) (b : Binds K fd ["_law_deed_here"] []) (hm : mg "_law_words" = some (.ref f)) (T : Tx P W K cls mg C_Negative C_InvalidLine C_InvalidNegative C_InvalidRecipe C_InvalidSize) : Df P W K cls mg base 1 "_law_words" 1 M_l_words :=
  (df_mk (N := ["_law_deed_here", "_law_rest", "_law_number"]) (ps := ["_law_deed_here"]) (g := B_l_words) F b hm sc_l_words (fun cdv A outer s H E hr tk => (
  sss_cons (ss_set 1 sc_l_words.nd (se_if (st_cmp (ov_eq hr.units) (se_ix (se_var 0) (se_int)) (se_str)) (se_bin ov_add (se_lst (sa_cons (se_ix (se_var 0) (se_int)) (sa_nil))) (se_callTy cv_list (by exact rfl) T.n_list (by decide +kernel) (sa_cons (se_ix (se_var 0) (se_int)) (sa_nil)))) (se_callTy cv_list (by exact rfl) T.n_list (by decide +kernel) (sa_cons (se_cut (se_var 0) (so_some (se_int)) (so_none)) (sa_nil))))) (
  sss_one (ss_ret (se_bin ov_add (se_lst (sa_cons (se_ix (se_var 0) (se_int)) (sa_nil))) (se_lc (own := [("_law_number", 2)]) rfl sc_l_words.nd (si_of (se_var 1)) (blkOk_by (N := ["_law_deed_here", "_law_rest", "_law_number"]) (sc := defScope s_l_words) (own := [("_law_number", 2)]) (by decide +kernel)) (fun _ _ _ _ _ => sg_var 2 sc_l_words.nd) (fun _ _ _ _ _ => sts_nil) (fun _ _ _ _ _ => se_callTy cv_str (by exact rfl) T.n_str (by decide +kernel) (sa_cons (se_var 2) (sa_nil))))))))))
theorem sc_in_rows : FnScope ["items", "width", "start"] ["items", "width"] (defScope s_in_rows) := ⟨rfl, rfl, rfl, by decide +kernel, rfl, by decide +kernel, by decide +kernel⟩
theorem df_in_rows (F : Fun K "in_rows" "in_rows" s_in_rows f fd) (b : Binds K fd ["items", "width"] []) (hm : mg "in_rows" = some (.ref f)) (T : Tx P W K cls mg C_Negative C_InvalidLine C_InvalidNegative C_InvalidRecipe C_InvalidSize) {f_Negativedd__lendd_ : Addr} (g_Negativedd__lendd_ : Dm P W K cls mg base 1 f_Negativedd__lendd_ 1 M_Negativedd__lendd_) (len_at : PySem.W.findIn K (.ref C_Negative) "__len__" = some (some (.ref f_Negativedd__lendd_))) (len_fn : PySem.W.isFn K (.ref f_Negativedd__lendd_) = true) : Df P W K cls mg base 3 "in_rows" 2 M_in_rows :=
  (df_mk (N := ["items", "width", "start"]) (ps := ["items", "width"]) (g := B_in_rows) F b hm sc_in_rows (fun cdv A outer s H E hr tk => (
  sss_one (ss_ret (se_lc (own := [("start", 2)]) rfl sc_in_rows.nd (si_step rfl T.n_range (se_int) (se_callB (cv_lenO T.k_Negative len_at len_fn g_Negativedd__lendd_ (hr.mono (by decide))) (by exact rfl) T.n_len (by decide +kernel) (sa_cons (se_var 0) (sa_nil))) (se_var 1)) (blkOk_by (N := ["items", "width", "start"]) (sc := defScope s_in_rows) (own := [("start", 2)]) (by decide +kernel)) (fun _ _ _ _ _ => sg_var 2 sc_in_rows.nd) (fun _ _ _ _ _ => sts_nil) (fun _ _ _ _ _ => se_cut (se_var 0) (so_some (se_var 2)) (so_some (se_bin ov_add (se_var 2) (se_var 1)))))))))
theorem sc_ascends : FnScope ["values", "least", "most", "value"] ["values", "least", "most"] (defScope s_ascends) := ⟨rfl, rfl, rfl, by decide +kernel, rfl, by decide +kernel, by decide +kernel⟩
theorem df_ascends (F : Fun K "ascends" "ascends" s_ascends f fd) (b : Binds K fd ["values", "least", "most"] []) (hm : mg "ascends" = some (.ref f)) (T : Tx P W K cls mg C_Negative C_InvalidLine C_InvalidNegative C_InvalidRecipe C_InvalidSize) (G_is_number : Df P W K cls mg base 1 "is_number" 3 M_is_number) : Df P W K cls mg base 2 "ascends" 3 M_ascends :=
  (df_mk (N := ["values", "least", "most", "value"]) (ps := ["values", "least", "most"]) (g := B_ascends) F b hm sc_ascends (fun cdv A outer s H E hr tk => (
  sss_cons (ss_for (passes_of rfl) rfl (si_of (se_var 0)) (sg_var 3 sc_ascends.nd) (
  sss_cons (ss_if (st_not (st_val (se_call tk G_is_number (hr.mono (by decide)) rfl (sa_cons (se_var 3) (sa_cons (se_var 1) (sa_cons (se_var 2) (sa_nil))))))) (
  sss_one (ss_ret (se_bl))) (
  sss_nil)) (
  sss_one (ss_set 1 sc_ascends.nd (se_bin ov_add (se_var 3) (se_int)))))) (
  sss_one (ss_ret (se_bl))))))
theorem sc_is_mask : FnScope ["covered", "cells"] ["covered", "cells"] (defScope s_is_mask) := ⟨rfl, rfl, rfl, by decide +kernel, rfl, by decide +kernel, by decide +kernel⟩
theorem df_is_mask (F : Fun K "is_mask" "is_mask" s_is_mask f fd) (b : Binds K fd ["covered", "cells"] []) (hm : mg "is_mask" = some (.ref f)) (T : Tx P W K cls mg C_Negative C_InvalidLine C_InvalidNegative C_InvalidRecipe C_InvalidSize) (G_ascends : Df P W K cls mg base 2 "ascends" 3 M_ascends) : Df P W K cls mg base 3 "is_mask" 2 M_is_mask :=
  (df_mk (N := ["covered", "cells"]) (ps := ["covered", "cells"]) (g := B_is_mask) F b hm sc_is_mask (fun cdv A outer s H E hr tk => (
  sss_one (ss_ret (se_and (se_isi (T := "tuple") (se_var 0) rfl T.n_isinstance (by decide +kernel) rfl T.n_tuple (by decide +kernel)) (se_one (se_call tk G_ascends (hr.mono (by decide)) rfl (sa_cons (se_var 0) (sa_cons (se_int) (sa_cons (se_bin ov_sub (se_var 1) (se_int)) (sa_nil)))))))))))
theorem sc_is_deed : FnScope ["deed", "cells"] ["deed", "cells"] (defScope s_is_deed) := ⟨rfl, rfl, rfl, by decide +kernel, rfl, by decide +kernel, by decide +kernel⟩
theorem df_is_deed (F : Fun K "is_deed" "is_deed" s_is_deed f fd) (b : Binds K fd ["deed", "cells"] []) (hm : mg "is_deed" = some (.ref f)) (T : Tx P W K cls mg C_Negative C_InvalidLine C_InvalidNegative C_InvalidRecipe C_InvalidSize) (G_is_mask : Df P W K cls mg base 3 "is_mask" 2 M_is_mask) (G_is_number : Df P W K cls mg base 1 "is_number" 3 M_is_number) {f_Negativedd__lendd_ : Addr} (g_Negativedd__lendd_ : Dm P W K cls mg base 1 f_Negativedd__lendd_ 1 M_Negativedd__lendd_) (len_at : PySem.W.findIn K (.ref C_Negative) "__len__" = some (some (.ref f_Negativedd__lendd_))) (len_fn : PySem.W.isFn K (.ref f_Negativedd__lendd_) = true) : Df P W K cls mg base 4 "is_deed" 2 M_is_deed :=
  (df_mk (N := ["deed", "cells"]) (ps := ["deed", "cells"]) (g := B_is_deed) F b hm sc_is_deed (fun cdv A outer s H E hr tk => (
  sss_cons (ss_if (st_cmp (ov_eq hr.units) (se_var 0) (se_globG (by exact rfl) T.c_FLIP)) (
  sss_one (ss_ret (se_bl))) (
  sss_nil)) (
  sss_cons (ss_if (SW.st (sw_or (st_cmp (ov_ne hr.units) (se_callB (cv_lenO T.k_Negative len_at len_fn g_Negativedd__lendd_ (hr.mono (by decide))) (by exact rfl) T.n_len (by decide +kernel) (sa_cons (se_var 0) (sa_nil))) (se_int)) (sw_or1 (st_not (st_val (se_call tk G_is_number (hr.mono (by decide)) rfl (sa_cons (se_ix (se_var 0) (se_int)) (sa_cons (se_int) (sa_cons (se_globG (by exact rfl) T.c_MOST_TICKS) (sa_nil)))))))))) (
  sss_one (ss_ret (se_bl))) (
  sss_nil)) (
  sss_cons (ss_if (st_cmp (ov_eq hr.units) (se_ix (se_var 0) (se_int)) (se_str)) (
  sss_one (ss_ret (se_call tk G_is_mask (hr.mono (by decide)) rfl (sa_cons (se_ix (se_var 0) (se_int)) (sa_cons (se_var 1) (sa_nil)))))) (
  sss_nil)) (
  sss_one (ss_ret (se_and (se_cmp (ov_eq hr.units) (se_ix (se_var 0) (se_int)) (se_str)) (se_one (se_call tk G_is_number (hr.mono (by decide)) rfl (sa_cons (se_ix (se_var 0) (se_int)) (sa_cons (se_int) (sa_cons (se_globG (by exact rfl) T.c_MOST_TICKS) (sa_nil))))))))))))))
theorem sc_check_recipe : FnScope ["recipe", "cells", "index", "deed"] ["recipe", "cells"] (defScope s_check_recipe) := ⟨rfl, rfl, rfl, by decide +kernel, rfl, by decide +kernel, by decide +kernel⟩
theorem df_check_recipe (F : Fun K "check_recipe" "check_recipe" s_check_recipe f fd) (b : Binds K fd ["recipe", "cells"] []) (hm : mg "check_recipe" = some (.ref f)) (T : Tx P W K cls mg C_Negative C_InvalidLine C_InvalidNegative C_InvalidRecipe C_InvalidSize) (G_is_deed : Df P W K cls mg base 4 "is_deed" 2 M_is_deed) (I_InvalidRecipe : EkI P W K cls mg base 1 "InvalidRecipe" 103 C_InvalidRecipe "index") : Df P W K cls mg base 5 "check_recipe" 2 M_check_recipe_2 :=
  (df_mk (N := ["recipe", "cells", "index", "deed"]) (ps := ["recipe", "cells"]) (g := B_check_recipe_2) F b hm sc_check_recipe (fun cdv A outer s H E hr tk => (
  sss_one (ss_for (passes_of rfl) rfl (si_enum rfl T.n_enumerate (se_var 0)) (sg_tup rfl (sgs_cons (sg_var 2 sc_check_recipe.nd) (sgs_cons (sg_var 3 sc_check_recipe.nd) (sgs_nil)))) (
  sss_one (ss_if (SW.st (sw_or (st_cmp (ov_eq hr.units) (se_var 2) (se_globG (by exact rfl) T.c_MOST_DEEDS)) (sw_or1 (st_not (st_val (se_call tk G_is_deed (hr.mono (by decide)) rfl (sa_cons (se_var 3) (sa_cons (se_var 1) (sa_nil))))))))) (
  sss_one (ss_raise1 rfl tk I_InvalidRecipe (hr.mono (by decide)) rfl (se_var 2))) (
  sss_nil)))))))
theorem sc_check_size : FnScope ["width", "height"] ["width", "height"] (defScope s_check_size) := ⟨rfl, rfl, rfl, by decide +kernel, rfl, by decide +kernel, by decide +kernel⟩
theorem df_check_size (F : Fun K "check_size" "check_size" s_check_size f fd) (b : Binds K fd ["width", "height"] []) (hm : mg "check_size" = some (.ref f)) (T : Tx P W K cls mg C_Negative C_InvalidLine C_InvalidNegative C_InvalidRecipe C_InvalidSize) (G_wrong_side : Df P W K cls mg base 2 "wrong_side" 2 M_wrong_side) : Df P W K cls mg base 3 "check_size" 2 M_check_size :=
  (df_mk (N := ["width", "height"]) (ps := ["width", "height"]) (g := B_check_size) F b hm sc_check_size (fun cdv A outer s H E hr tk => (
  sss_one (ss_if (st_cmp ov_notN (se_call tk G_wrong_side (hr.mono (by decide)) rfl (sa_cons (se_var 0) (sa_cons (se_var 1) (sa_nil)))) (se_non)) (
  sss_one (ss_raise rfl tk T.e_InvalidSize rfl)) (
  sss_nil)))))
theorem sc_ticks_of : FnScope ["deed", "width", "cell"] ["deed", "width", "cell"] (defScope s_ticks_of) := ⟨rfl, rfl, rfl, by decide +kernel, rfl, by decide +kernel, by decide +kernel⟩
theorem df_ticks_of (F : Fun K "ticks_of" "ticks_of" s_ticks_of f fd) (b : Binds K fd ["deed", "width", "cell"] []) (hm : mg "ticks_of" = some (.ref f)) (T : Tx P W K cls mg C_Negative C_InvalidLine C_InvalidNegative C_InvalidRecipe C_InvalidSize) : Df P W K cls mg base 1 "ticks_of" 3 M_ticks_of :=
  (df_mk (N := ["deed", "width", "cell"]) (ps := ["deed", "width", "cell"]) (g := B_ticks_of) F b hm sc_ticks_of (fun cdv A outer s H E hr tk => (
  sss_cons (ss_if (st_cmp (ov_eq hr.units) (se_ix (se_var 0) (se_int)) (se_str)) (
  sss_one (ss_ret (se_if (st_cmp ov_in (se_var 2) (se_ix (se_var 0) (se_int))) (se_int) (se_ix (se_var 0) (se_int))))) (
  sss_nil)) (
  sss_one (ss_ret (se_callB (cv_max2 rfl) (by exact rfl) T.n_max (by decide +kernel) (sa_cons (se_int) (sa_cons (se_bin ov_sub (se_ix (se_var 0) (se_int)) (se_bin ov_mul (se_ix (se_var 0) (se_int)) (se_bin ov_mod (se_var 2) (se_var 1)))) (sa_nil)))))))))
theorem sc_open_pair : FnScope ["width", "recipe", "cell", "straight", "over", "is_over", "deed"] ["width", "recipe", "cell"] (defScope s_open_pair) := ⟨rfl, rfl, rfl, by decide +kernel, rfl, by decide +kernel, by decide +kernel⟩
theorem df_open_pair (F : Fun K "open_pair" "open_pair" s_open_pair f fd) (b : Binds K fd ["width", "recipe", "cell"] []) (hm : mg "open_pair" = some (.ref f)) (T : Tx P W K cls mg C_Negative C_InvalidLine C_InvalidNegative C_InvalidRecipe C_InvalidSize) (G_ticks_of : Df P W K cls mg base 1 "ticks_of" 3 M_ticks_of) : Df P W K cls mg base 2 "open_pair" 3 M_open_pair :=
  (df_mk (N := ["width", "recipe", "cell", "straight", "over", "is_over", "deed"]) (ps := ["width", "recipe", "cell"]) (g := B_open_pair) F b hm sc_open_pair (fun cdv A outer s H E hr tk => (
  sss_cons (ss_asg2 (se_int) (sg_var 3 sc_open_pair.nd) (sg_var 4 sc_open_pair.nd)) (
  sss_cons (ss_set 5 sc_open_pair.nd (se_bl)) (
  sss_cons (ss_for (passes_of rfl) rfl (si_of (se_var 1)) (sg_var 6 sc_open_pair.nd) (
  sss_one (ss_if (st_cmp (ov_eq hr.units) (se_var 6) (se_globG (by exact rfl) T.c_FLIP)) (
  sss_one (ss_set 5 sc_open_pair.nd (se_not (se_var 5)))) (
  sss_one (ss_if (st_val (se_var 5)) (
  sss_one (ss_augAdd 4 sc_open_pair.nd (se_call tk G_ticks_of (hr.mono (by decide)) rfl (sa_cons (se_var 6) (sa_cons (se_var 0) (sa_cons (se_var 2) (sa_nil))))))) (
  sss_one (ss_augAdd 3 sc_open_pair.nd (se_call tk G_ticks_of (hr.mono (by decide)) rfl (sa_cons (se_var 6) (sa_cons (se_var 0) (sa_cons (se_var 2) (sa_nil)))))))))))) (
  sss_one (ss_ret (se_tup (sa_cons (se_var 3) (sa_cons (se_var 4) (sa_nil)))))))))))
theorem sc_open_times : FnScope ["width", "height", "recipe", "cell"] ["width", "height", "recipe"] (defScope s_open_times) := ⟨rfl, rfl, rfl, by decide +kernel, rfl, by decide +kernel, by decide +kernel⟩
theorem df_open_times (F : Fun K "open_times" "open_times" s_open_times f fd) (b : Binds K fd ["width", "height", "recipe"] []) (hm : mg "open_times" = some (.ref f)) (T : Tx P W K cls mg C_Negative C_InvalidLine C_InvalidNegative C_InvalidRecipe C_InvalidSize) (G_check_recipe : Df P W K cls mg base 5 "check_recipe" 2 M_check_recipe_2) (G_check_size : Df P W K cls mg base 3 "check_size" 2 M_check_size) (G_open_pair : Df P W K cls mg base 2 "open_pair" 3 M_open_pair) : Df P W K cls mg base 6 "open_times" 3 M_open_times :=
  (df_mk (N := ["width", "height", "recipe", "cell"]) (ps := ["width", "height", "recipe"]) (g := B_open_times) F b hm sc_open_times (fun cdv A outer s H E hr tk => (
  sss_cons (ss_expr (se_call tk G_check_size (hr.mono (by decide)) rfl (sa_cons (se_var 0) (sa_cons (se_var 1) (sa_nil))))) (
  sss_cons (ss_expr (se_call tk G_check_recipe (hr.mono (by decide)) rfl (sa_cons (se_var 2) (sa_cons (se_bin ov_mul (se_var 0) (se_var 1)) (sa_nil))))) (
  sss_one (ss_ret (se_callTy cv_tuple (by exact rfl) T.n_tuple (by decide +kernel) (sa_cons (se_lc (own := [("cell", 3)]) rfl sc_open_times.nd (si_range1 rfl T.n_range (se_bin ov_mul (se_var 0) (se_var 1))) (blkOk_by (N := ["width", "height", "recipe", "cell"]) (sc := defScope s_open_times) (own := [("cell", 3)]) (by decide +kernel)) (fun _ _ _ _ _ => sg_var 3 sc_open_times.nd) (fun _ _ _ _ _ => sts_nil) (fun _ _ _ _ _ => se_call takes0 G_open_pair (hr.mono (by decide)) rfl (sa_cons (se_var 0) (sa_cons (se_var 2) (sa_cons (se_var 3) (sa_nil)))))) (sa_nil)))))))))
theorem sc_open_map : FnScope ["width", "height", "recipe", "words", "straight", "over", "row"] ["width", "height", "recipe"] (defScope s_open_map) := ⟨rfl, rfl, rfl, by decide +kernel, rfl, by decide +kernel, by decide +kernel⟩
theorem df_open_map (F : Fun K "open_map" "open_map" s_open_map f fd) (b : Binds K fd ["width", "height", "recipe"] []) (hm : mg "open_map" = some (.ref f)) (T : Tx P W K cls mg C_Negative C_InvalidLine C_InvalidNegative C_InvalidRecipe C_InvalidSize) (G_in_rows : Df P W K cls mg base 3 "in_rows" 2 M_in_rows) (G_open_times : Df P W K cls mg base 6 "open_times" 3 M_open_times) : Df P W K cls mg base 7 "open_map" 3 M_open_map :=
  (df_mk (N := ["width", "height", "recipe", "words", "straight", "over", "row"]) (ps := ["width", "height", "recipe"]) (g := B_open_map) F b hm sc_open_map (fun cdv A outer s H E hr tk => (
  sss_cons (ss_setLc (i := 3) (own := [("straight", 4), ("over", 5)]) rfl sc_open_map.nd rfl rfl (sw_true rfl rfl rfl (by decide +kernel)) (si_of (se_call tk G_open_times (hr.mono (by decide)) rfl (sa_cons (se_var 0) (sa_cons (se_var 1) (sa_cons (se_var 2) (sa_nil)))))) (blkOk_by (N := ["width", "height", "recipe", "words", "straight", "over", "row"]) (sc := defScope s_open_map) (own := [("straight", 4), ("over", 5)]) (by decide +kernel)) (fun _ _ _ _ _ => sg_tup rfl (sgs_cons (sg_var 4 sc_open_map.nd) (sgs_cons (sg_var 5 sc_open_map.nd) (sgs_nil)))) (fun _ _ _ _ _ => sts_nil) (fun _ _ _ _ _ => se_joined (.cons (se_fmt (se_var 4)) (.cons (se_str) (.cons (se_fmt (se_var 5)) (.nil)))))) (
  sss_one (ss_ret (se_join (se_str) (se_lc (own := [("row", 6)]) rfl sc_open_map.nd (si_of (se_call tk G_in_rows (hr.mono (by decide)) rfl (sa_cons (se_var 3) (sa_cons (se_var 0) (sa_nil))))) (blkOk_by (N := ["width", "height", "recipe", "words", "straight", "over", "row"]) (sc := defScope s_open_map) (own := [("row", 6)]) (by decide +kernel)) (fun _ _ _ _ _ => sg_var 6 sc_open_map.nd) (fun _ _ _ _ _ => sts_nil) (fun _ _ _ _ _ => se_join (se_str) (se_var 6)))))))))
theorem sc_picture : FnScope ["negative"] ["negative"] (defScope s_picture) := ⟨rfl, rfl, rfl, by decide +kernel, rfl, by decide +kernel, by decide +kernel⟩
theorem df_picture (F : Fun K "picture" "picture" s_picture f fd) (b : Binds K fd ["negative"] []) (hm : mg "picture" = some (.ref f)) (T : Tx P W K cls mg C_Negative C_InvalidLine C_InvalidNegative C_InvalidRecipe C_InvalidSize) (G_in_rows : Df P W K cls mg base 3 "in_rows" 2 M_in_rows) {f_Negative_densities : Addr} (g_Negative_densities : Dm P W K cls mg base 1 f_Negative_densities 1 M_Negative_densities) {p_Negative_densities : Addr} (pp_Negative_densities : PropOf K C_Negative "densities" p_Negative_densities f_Negative_densities) {f_Negative_width : Addr} (g_Negative_width : Dm P W K cls mg base 1 f_Negative_width 1 M_Negative_width) {p_Negative_width : Addr} (pp_Negative_width : PropOf K C_Negative "width" p_Negative_width f_Negative_width) : Df P W K cls mg base 4 "picture" 1 M_picture :=
  (df_mk (N := ["negative"]) (ps := ["negative"]) (g := B_picture) F b hm sc_picture (fun cdv A outer s H E hr tk => (
  sss_one (ss_ret (se_join (se_str) (se_call tk G_in_rows (hr.mono (by decide)) rfl (sa_cons (se_prop T.k_Negative pp_Negative_densities g_Negative_densities (hr.mono (by decide)) (se_var 0)) (sa_cons (se_prop T.k_Negative pp_Negative_width g_Negative_width (hr.mono (by decide)) (se_var 0)) (sa_nil)))))))))
theorem sc_deed_of : FnScope ["words", "numbers", "word"] ["words"] (defScope s_deed_of) := ⟨rfl, rfl, rfl, by decide +kernel, rfl, by decide +kernel, by decide +kernel⟩
theorem df_deed_of (F : Fun K "deed_of" "deed_of" s_deed_of f fd) (b : Binds K fd ["words"] []) (hm : mg "deed_of" = some (.ref f)) (T : Tx P W K cls mg C_Negative C_InvalidLine C_InvalidNegative C_InvalidRecipe C_InvalidSize) : Df P W K cls mg base 1 "deed_of" 1 M_deed_of :=
  (df_mk (N := ["words", "numbers", "word"]) (ps := ["words"]) (g := B_deed_of) F b hm sc_deed_of (fun cdv A outer s H E hr tk => (
  sss_cons (ss_setLc (i := 1) (own := [("word", 2)]) rfl sc_deed_of.nd rfl rfl (sw_true rfl rfl rfl (by decide +kernel)) (si_of (se_cut (se_var 0) (so_some (se_int)) (so_none))) (blkOk_by (N := ["words", "numbers", "word"]) (sc := defScope s_deed_of) (own := [("word", 2)]) (by decide +kernel)) (fun _ _ _ _ _ => sg_var 2 sc_deed_of.nd) (fun _ _ _ _ _ => sts_nil) (fun _ _ _ _ _ => se_callTy cv_int (by exact rfl) T.n_int (by decide +kernel) (sa_cons (se_var 2) (sa_nil)))) (
  sss_cons (ss_if (st_cmp (ov_eq hr.units) (se_ix (se_var 0) (se_int)) (se_str)) (
  sss_one (ss_ret (se_tup (sa_cons (se_str) (sa_cons (se_ix (se_var 1) (se_int)) (sa_cons (se_callTy cv_tuple (by exact rfl) T.n_tuple (by decide +kernel) (sa_cons (se_cut (se_var 1) (so_some (se_int)) (so_none)) (sa_nil))) (sa_nil))))))) (
  sss_nil)) (
  sss_one (ss_ret (se_tup (sa_cons (se_ix (se_var 0) (se_int)) (sa_star (se_var 1) (sa_nil))))))))))
theorem sc_worded_rows : FnScope ["text", "row"] ["text"] (defScope s_worded_rows) := ⟨rfl, rfl, rfl, by decide +kernel, rfl, by decide +kernel, by decide +kernel⟩
theorem df_worded_rows (F : Fun K "worded_rows" "worded_rows" s_worded_rows f fd) (b : Binds K fd ["text"] []) (hm : mg "worded_rows" = some (.ref f)) (T : Tx P W K cls mg C_Negative C_InvalidLine C_InvalidNegative C_InvalidRecipe C_InvalidSize) : Df P W K cls mg base 1 "worded_rows" 1 M_worded_rows :=
  (df_mk (N := ["text", "row"]) (ps := ["text"]) (g := B_worded_rows) F b hm sc_worded_rows (fun cdv A outer s H E hr tk => (
  sss_cons (ss_if (st_cmp (ov_eq hr.units) (se_var 0) (se_str)) (
  sss_one (ss_ret (se_lst (sa_nil)))) (
  sss_nil)) (
  sss_one (ss_ret (se_lc (own := [("row", 1)]) rfl sc_worded_rows.nd (si_of (se_split (se_var 0) (se_str))) (blkOk_by (N := ["text", "row"]) (sc := defScope s_worded_rows) (own := [("row", 1)]) (by decide +kernel)) (fun _ _ _ _ _ => sg_var 1 sc_worded_rows.nd) (fun _ _ _ _ _ => sts_nil) (fun _ _ _ _ _ => se_split (se_var 1) (se_str))))))))
theorem sc_number_of : FnScope ["word", "number"] ["word"] (defScope s_number_of) := ⟨rfl, rfl, rfl, by decide +kernel, rfl, by decide +kernel, by decide +kernel⟩
theorem df_number_of (F : Fun K "number_of" "number_of" s_number_of f fd) (b : Binds K fd ["word"] []) (hm : mg "number_of" = some (.ref f)) (T : Tx P W K cls mg C_Negative C_InvalidLine C_InvalidNegative C_InvalidRecipe C_InvalidSize) {f_Negativedd__lendd_ : Addr} (g_Negativedd__lendd_ : Dm P W K cls mg base 1 f_Negativedd__lendd_ 1 M_Negativedd__lendd_) (len_at : PySem.W.findIn K (.ref C_Negative) "__len__" = some (some (.ref f_Negativedd__lendd_))) (len_fn : PySem.W.isFn K (.ref f_Negativedd__lendd_) = true) : Df P W K cls mg base 3 "number_of" 1 M_number_of :=
  (df_mk (N := ["word", "number"]) (ps := ["word"]) (g := B_number_of) F b hm sc_number_of (fun cdv A outer s H E hr tk => (
  sss_cons (ss_if (SW.st (sw_or (st_cmp ov_gt (se_callB (cv_lenO T.k_Negative len_at len_fn g_Negativedd__lendd_ (hr.mono (by decide))) (by exact rfl) T.n_len (by decide +kernel) (sa_cons (se_var 0) (sa_nil))) (se_globG (by exact rfl) T.c_LONGEST_NUMBER)) (sw_or (st_not (st_val (se_txt PySem.F.slot_str_isascii PySem.F.type_str_isascii mt_isascii (se_var 0)))) (sw_or1 (st_not (st_val (se_txt PySem.F.slot_str_isdigit PySem.F.type_str_isdigit mt_isdigit (se_var 0)))))))) (
  sss_one (ss_ret (se_non))) (
  sss_nil)) (
  sss_cons (ss_set 1 sc_number_of.nd (se_callTy cv_int (by exact rfl) T.n_int (by decide +kernel) (sa_cons (se_var 0) (sa_nil)))) (
  sss_one (ss_ret (se_if (st_cmp (ov_eq hr.units) (se_callTy cv_str (by exact rfl) T.n_str (by decide +kernel) (sa_cons (se_var 1) (sa_nil))) (se_var 0)) (se_var 1) (se_non))))))))
theorem sc_wrong_cell : FnScope ["words", "first", "cells", "least", "index", "cell"] ["words", "first", "cells"] (defScope s_wrong_cell) := ⟨rfl, rfl, rfl, by decide +kernel, rfl, by decide +kernel, by decide +kernel⟩
theorem df_wrong_cell (F : Fun K "wrong_cell" "wrong_cell" s_wrong_cell f fd) (b : Binds K fd ["words", "first", "cells"] []) (hm : mg "wrong_cell" = some (.ref f)) (T : Tx P W K cls mg C_Negative C_InvalidLine C_InvalidNegative C_InvalidRecipe C_InvalidSize) (G_is_number : Df P W K cls mg base 1 "is_number" 3 M_is_number) (G_number_of : Df P W K cls mg base 3 "number_of" 1 M_number_of) {f_Negativedd__lendd_ : Addr} (g_Negativedd__lendd_ : Dm P W K cls mg base 1 f_Negativedd__lendd_ 1 M_Negativedd__lendd_) (len_at : PySem.W.findIn K (.ref C_Negative) "__len__" = some (some (.ref f_Negativedd__lendd_))) (len_fn : PySem.W.isFn K (.ref f_Negativedd__lendd_) = true) : Df P W K cls mg base 4 "wrong_cell" 3 M_wrong_cell :=
  (df_mk (N := ["words", "first", "cells", "least", "index", "cell"]) (ps := ["words", "first", "cells"]) (g := B_wrong_cell) F b hm sc_wrong_cell (fun cdv A outer s H E hr tk => (
  sss_cons (ss_set 3 sc_wrong_cell.nd (se_int)) (
  sss_cons (ss_for (passes_of rfl) rfl (si_range2 rfl T.n_range (se_var 1) (se_callB (cv_lenO T.k_Negative len_at len_fn g_Negativedd__lendd_ (hr.mono (by decide))) (by exact rfl) T.n_len (by decide +kernel) (sa_cons (se_var 0) (sa_nil)))) (sg_var 4 sc_wrong_cell.nd) (
  sss_cons (ss_set 5 sc_wrong_cell.nd (se_call tk G_number_of (hr.mono (by decide)) rfl (sa_cons (se_ix (se_var 0) (se_var 4)) (sa_nil)))) (
  sss_cons (ss_if (st_not (st_val (se_call tk G_is_number (hr.mono (by decide)) rfl (sa_cons (se_var 5) (sa_cons (se_var 3) (sa_cons (se_bin ov_sub (se_var 2) (se_int)) (sa_nil))))))) (
  sss_one (ss_ret (se_var 4))) (
  sss_nil)) (
  sss_one (ss_set 3 sc_wrong_cell.nd (se_bin ov_add (se_var 5) (se_int))))))) (
  sss_one (ss_ret (se_non)))))))
theorem sc_wrong_word : FnScope ["words", "cells", "wanted", "index", "word"] ["words", "cells"] (defScope s_wrong_word) := ⟨rfl, rfl, rfl, by decide +kernel, rfl, by decide +kernel, by decide +kernel⟩
theorem df_wrong_word (F : Fun K "wrong_word" "wrong_word" s_wrong_word f fd) (b : Binds K fd ["words", "cells"] []) (hm : mg "wrong_word" = some (.ref f)) (T : Tx P W K cls mg C_Negative C_InvalidLine C_InvalidNegative C_InvalidRecipe C_InvalidSize) (G_is_number : Df P W K cls mg base 1 "is_number" 3 M_is_number) (G_number_of : Df P W K cls mg base 3 "number_of" 1 M_number_of) (G_wrong_cell : Df P W K cls mg base 4 "wrong_cell" 3 M_wrong_cell) {f_Negativedd__lendd_ : Addr} (g_Negativedd__lendd_ : Dm P W K cls mg base 1 f_Negativedd__lendd_ 1 M_Negativedd__lendd_) (len_at : PySem.W.findIn K (.ref C_Negative) "__len__" = some (some (.ref f_Negativedd__lendd_))) (len_fn : PySem.W.isFn K (.ref f_Negativedd__lendd_) = true) : Df P W K cls mg base 5 "wrong_word" 2 M_wrong_word :=
  (df_mk (N := ["words", "cells", "wanted", "index", "word"]) (ps := ["words", "cells"]) (g := B_wrong_word) F b hm sc_wrong_word (fun cdv A outer s H E hr tk => (
  sss_cons (ss_if (st_dNotIn (by exact rfl) T.d_TIMES (se_ix (se_var 0) (se_int))) (
  sss_one (ss_ret (se_int))) (
  sss_nil)) (
  sss_cons (ss_set 2 sc_wrong_word.nd (se_bin ov_add (se_int) (se_dIx (by exact rfl) T.d_TIMES (se_ix (se_var 0) (se_int))))) (
  sss_cons (ss_for (passes_of rfl) rfl (si_enumC rfl T.n_enumerate (se_cut (se_var 0) (so_some (se_int)) (so_some (se_var 2)))) (sg_tup rfl (sgs_cons (sg_var 3 sc_wrong_word.nd) (sgs_cons (sg_var 4 sc_wrong_word.nd) (sgs_nil)))) (
  sss_one (ss_if (st_not (st_val (se_call tk G_is_number (hr.mono (by decide)) rfl (sa_cons (se_call tk G_number_of (hr.mono (by decide)) rfl (sa_cons (se_var 4) (sa_nil))) (sa_cons (se_int) (sa_cons (se_globG (by exact rfl) T.c_MOST_TICKS) (sa_nil))))))) (
  sss_one (ss_ret (se_var 3))) (
  sss_nil)))) (
  sss_cons (ss_if (st_cmp ov_lt (se_callB (cv_lenO T.k_Negative len_at len_fn g_Negativedd__lendd_ (hr.mono (by decide))) (by exact rfl) T.n_len (by decide +kernel) (sa_cons (se_var 0) (sa_nil))) (se_var 2)) (
  sss_one (ss_ret (se_callB (cv_lenO T.k_Negative len_at len_fn g_Negativedd__lendd_ (hr.mono (by decide))) (by exact rfl) T.n_len (by decide +kernel) (sa_cons (se_var 0) (sa_nil))))) (
  sss_nil)) (
  sss_cons (ss_if (st_cmp (ov_eq hr.units) (se_ix (se_var 0) (se_int)) (se_str)) (
  sss_one (ss_ret (se_call tk G_wrong_cell (hr.mono (by decide)) rfl (sa_cons (se_var 0) (sa_cons (se_var 2) (sa_cons (se_var 1) (sa_nil))))))) (
  sss_nil)) (
  sss_one (ss_ret (se_if (st_cmp ov_gt (se_callB (cv_lenO T.k_Negative len_at len_fn g_Negativedd__lendd_ (hr.mono (by decide))) (by exact rfl) T.n_len (by decide +kernel) (sa_cons (se_var 0) (sa_nil))) (se_var 2)) (se_var 2) (se_non)))))))))))
theorem sc_read_recipe : FnScope ["negative", "text", "deeds", "row", "words", "word"] ["negative", "text"] (defScope s_read_recipe) := ⟨rfl, rfl, rfl, by decide +kernel, rfl, by decide +kernel, by decide +kernel⟩
theorem df_read_recipe (F : Fun K "read_recipe" "read_recipe" s_read_recipe f fd) (b : Binds K fd ["negative", "text"] []) (hm : mg "read_recipe" = some (.ref f)) (T : Tx P W K cls mg C_Negative C_InvalidLine C_InvalidNegative C_InvalidRecipe C_InvalidSize) (G_deed_of : Df P W K cls mg base 1 "deed_of" 1 M_deed_of) (G_worded_rows : Df P W K cls mg base 1 "worded_rows" 1 M_worded_rows) (G_wrong_word : Df P W K cls mg base 5 "wrong_word" 2 M_wrong_word) {f_Negativedd__lendd_ : Addr} (g_Negativedd__lendd_ : Dm P W K cls mg base 1 f_Negativedd__lendd_ 1 M_Negativedd__lendd_) (len_at : PySem.W.findIn K (.ref C_Negative) "__len__" = some (some (.ref f_Negativedd__lendd_))) (len_fn : PySem.W.isFn K (.ref f_Negativedd__lendd_) = true) (I_InvalidLine : EkI2 P W K cls mg base 1 "InvalidLine" 117 C_InvalidLine "row" "word") : Df P W K cls mg base 6 "read_recipe" 2 M_read_recipe :=
  Df.fin (df_mk (N := ["negative", "text", "deeds", "row", "words", "word"]) (ps := ["negative", "text"]) (g := B_read_recipe) F b hm sc_read_recipe (fun cdv A outer s H E hr tk => (
  sss_cons (ss_set 2 sc_read_recipe.nd (se_lstT (sa_nil))) (
  sss_cons (ss_for (passes_of rfl) rfl (si_enum rfl T.n_enumerate (se_call tk G_worded_rows (hr.mono (by decide)) rfl (sa_cons (se_var 1) (sa_nil)))) (sg_tup rfl (sgs_cons (sg_var 3 sc_read_recipe.nd) (sgs_cons (sg_var 4 sc_read_recipe.nd) (sgs_nil)))) (
  sss_cons (ss_set 5 sc_read_recipe.nd (se_if (st_cmp (ov_eq hr.units) (se_var 3) (se_globG (by exact rfl) T.c_MOST_DEEDS)) (se_int) (se_call tk G_wrong_word (hr.mono (by decide)) rfl (sa_cons (se_var 4) (sa_cons (se_callB (cv_lenO T.k_Negative len_at len_fn g_Negativedd__lendd_ (hr.mono (by decide))) (by exact rfl) T.n_len (by decide +kernel) (sa_cons (se_var 0) (sa_nil))) (sa_nil)))))) (
  sss_cons (ss_if (st_cmp ov_notN (se_var 5) (se_non)) (
  sss_one (ss_raise2 rfl tk I_InvalidLine (hr.mono (by decide)) rfl (se_var 3) (se_var 5))) (
  sss_nil)) (
  sss_one (ss_expr (se_lm (se_var 2) (se_call tk G_deed_of (hr.mono (by decide)) rfl (sa_cons (se_var 4) (sa_nil))) (fun p1 p2 => pe_bm PySem.F.plainAttrs_list PySem.F.slot_list_append PySem.F.type_list_append mt_append p1 p2) (fun S r1 r2 q => app_val S r1 r2 q))))))) (
  sss_one (ss_ret (se_callTy cv_tuple (by exact rfl) T.n_tuple (by decide +kernel) (sa_cons (se_var 2) (sa_nil)))))))))
theorem sc_deed_text : FnScope ["deed", "numbers", "number"] ["deed"] (defScope s_deed_text) := ⟨rfl, rfl, rfl, by decide +kernel, rfl, by decide +kernel, by decide +kernel⟩
theorem df_deed_text (F : Fun K "deed_text" "deed_text" s_deed_text f fd) (b : Binds K fd ["deed"] []) (hm : mg "deed_text" = some (.ref f)) (T : Tx P W K cls mg C_Negative C_InvalidLine C_InvalidNegative C_InvalidRecipe C_InvalidSize) : Df P W K cls mg base 1 "deed_text" 1 M_deed_text :=
  (df_mk (N := ["deed", "numbers", "number"]) (ps := ["deed"]) (g := B_deed_text) F b hm sc_deed_text (fun cdv A outer s H E hr tk => (
  sss_cons (ss_set 1 sc_deed_text.nd (se_if (st_cmp (ov_eq hr.units) (se_ix (se_var 0) (se_int)) (se_str)) (se_bin ov_add (se_tup (sa_cons (se_ix (se_var 0) (se_int)) (sa_nil))) (se_ix (se_var 0) (se_int))) (se_cut (se_var 0) (so_some (se_int)) (so_none)))) (
  sss_one (ss_ret (se_join (se_str) (se_bin ov_add (se_lst (sa_cons (se_ix (se_var 0) (se_int)) (sa_nil))) (se_lc (own := [("number", 2)]) rfl sc_deed_text.nd (si_of (se_var 1)) (blkOk_by (N := ["deed", "numbers", "number"]) (sc := defScope s_deed_text) (own := [("number", 2)]) (by decide +kernel)) (fun _ _ _ _ _ => sg_var 2 sc_deed_text.nd) (fun _ _ _ _ _ => sts_nil) (fun _ _ _ _ _ => se_callTy cv_str (by exact rfl) T.n_str (by decide +kernel) (sa_cons (se_var 2) (sa_nil)))))))))))
theorem sc_recipe_text : FnScope ["recipe", "deed"] ["recipe"] (defScope s_recipe_text) := ⟨rfl, rfl, rfl, by decide +kernel, rfl, by decide +kernel, by decide +kernel⟩
theorem df_recipe_text (F : Fun K "recipe_text" "recipe_text" s_recipe_text f fd) (b : Binds K fd ["recipe"] []) (hm : mg "recipe_text" = some (.ref f)) (T : Tx P W K cls mg C_Negative C_InvalidLine C_InvalidNegative C_InvalidRecipe C_InvalidSize) (G_deed_text : Df P W K cls mg base 1 "deed_text" 1 M_deed_text) : Df P W K cls mg base 2 "recipe_text" 1 M_recipe_text :=
  (df_mk (N := ["recipe", "deed"]) (ps := ["recipe"]) (g := B_recipe_text) F b hm sc_recipe_text (fun cdv A outer s H E hr tk => (
  sss_one (ss_ret (se_join (se_str) (se_lc (own := [("deed", 1)]) rfl sc_recipe_text.nd (si_of (se_var 0)) (blkOk_by (N := ["recipe", "deed"]) (sc := defScope s_recipe_text) (own := [("deed", 1)]) (by decide +kernel)) (fun _ _ _ _ _ => sg_var 1 sc_recipe_text.nd) (fun _ _ _ _ _ => sts_nil) (fun _ _ _ _ _ => se_call takes0 G_deed_text (hr.mono (by decide)) rfl (sa_cons (se_var 1) (sa_nil)))))))))
theorem sc_law : FnScope ["_law_script", "_law_row", "_law_turn", "_law_negative_here", "_law_recipe_here", "_law_width", "_law_size", "_law_rows", "_law_text", "_law_times", "_law_is_over", "_law_deed_here", "_law_ticks", "_law_side", "_law_cell", "_law_words_here", "_law_lines", "_law_k"] ["_law_script"] (defScope s_law) := ⟨rfl, rfl, rfl, by decide +kernel, rfl, by decide +kernel, by decide +kernel⟩
theorem fn_law (F : Fun K "law" "law" s_law f fd) (T : Tx P W K cls mg C_Negative C_InvalidLine C_InvalidNegative C_InvalidRecipe C_InvalidSize) (G_l_negative : Df P W K cls mg base 6 "_law_negative" 2 M_l_negative_3) (G_l_open : Df P W K cls mg base 3 "_law_open" 2 M_l_open) (G_l_recipe : Df P W K cls mg base 5 "_law_recipe" 3 M_l_recipe) (G_l_words : Df P W K cls mg base 1 "_law_words" 1 M_l_words) (G_open_map : Df P W K cls mg base 7 "open_map" 3 M_open_map) (G_picture : Df P W K cls mg base 4 "picture" 1 M_picture) (G_read_recipe : Df P W K cls mg base 6 "read_recipe" 2 M_read_recipe) (G_recipe_text : Df P W K cls mg base 2 "recipe_text" 1 M_recipe_text) {f_Negativedd__initdd_ : Addr} (g_Negativedd__initdd_ : Dm P W K cls mg base 4 f_Negativedd__initdd_ 4 M_Negativedd__initdd__2) (mk_Negative : Mk K C_Negative f_Negativedd__initdd_) {f_Negativedd__lendd_ : Addr} (g_Negativedd__lendd_ : Dm P W K cls mg base 1 f_Negativedd__lendd_ 1 M_Negativedd__lendd_) (len_at : PySem.W.findIn K (.ref C_Negative) "__len__" = some (some (.ref f_Negativedd__lendd_))) (len_fn : PySem.W.isFn K (.ref f_Negativedd__lendd_) = true) {f_Negative_densities : Addr} (g_Negative_densities : Dm P W K cls mg base 1 f_Negative_densities 1 M_Negative_densities) {p_Negative_densities : Addr} (pp_Negative_densities : PropOf K C_Negative "densities" p_Negative_densities f_Negative_densities) {f_Negative_height : Addr} (g_Negative_height : Dm P W K cls mg base 1 f_Negative_height 1 M_Negative_height) {p_Negative_height : Addr} (pp_Negative_height : PropOf K C_Negative "height" p_Negative_height f_Negative_height) {f_Negative_width : Addr} (g_Negative_width : Dm P W K cls mg base 1 f_Negative_width 1 M_Negative_width) {p_Negative_width : Addr} (pp_Negative_width : PropOf K C_Negative "width" p_Negative_width f_Negative_width) : FnOk P W K mg base (CX P W) 8 f fd ["_law_script"] (spD K cls M_law 1) :=
  fn_fin (fn_mk (N := ["_law_script", "_law_row", "_law_turn", "_law_negative_here", "_law_recipe_here", "_law_width", "_law_size", "_law_rows", "_law_text", "_law_times", "_law_is_over", "_law_deed_here", "_law_ticks", "_law_side", "_law_cell", "_law_words_here", "_law_lines", "_law_k"]) (ps := ["_law_script"]) (g := B_law) F sc_law (fun cdv A outer s H E hr tk => (
  sss_cons (ss_set 1 sc_law.nd (se_lstT (sa_cons (se_var 0) (sa_cons (se_int) (sa_cons (se_int) (sa_cons (se_int) (sa_nil))))))) (
  sss_cons (ss_for (passes_of rfl) rfl (si_range1 rfl T.n_range (se_int)) (sg_var 2 sc_law.nd) (
  sss_cons (ss_set 3 sc_law.nd (se_call tk G_l_negative (hr.mono (by decide)) rfl (sa_cons (se_var 1) (sa_cons (se_int) (sa_nil))))) (
  sss_cons (ss_asg (se_tup (sa_cons (se_call tk G_l_recipe (hr.mono (by decide)) rfl (sa_cons (se_var 1) (sa_cons (se_var 3) (sa_cons (se_int) (sa_nil))))) (sa_cons (se_prop T.k_Negative pp_Negative_width g_Negative_width (hr.mono (by decide)) (se_var 3)) (sa_cons (se_callB (cv_lenO T.k_Negative len_at len_fn g_Negativedd__lendd_ (hr.mono (by decide))) (by exact rfl) T.n_len (by decide +kernel) (sa_cons (se_var 3) (sa_nil))) (sa_nil))))) (sg_tup rfl (sgs_cons (sg_var 4 sc_law.nd) (sgs_cons (sg_var 5 sc_law.nd) (sgs_cons (sg_var 6 sc_law.nd) (sgs_nil)))))) (
  sss_cons (ss_setLc (i := 7) (own := [("_law_k", 17)]) rfl sc_law.nd rfl rfl (sw_true rfl rfl rfl (by decide +kernel)) (si_step rfl T.n_range (se_int) (se_var 6) (se_var 5)) (blkOk_by (N := ["_law_script", "_law_row", "_law_turn", "_law_negative_here", "_law_recipe_here", "_law_width", "_law_size", "_law_rows", "_law_text", "_law_times", "_law_is_over", "_law_deed_here", "_law_ticks", "_law_side", "_law_cell", "_law_words_here", "_law_lines", "_law_k"]) (sc := defScope s_law) (own := [("_law_k", 17)]) (by decide +kernel)) (fun _ _ _ _ _ => sg_var 17 sc_law.nd) (fun _ _ _ _ _ => sts_nil) (fun _ _ _ _ _ => se_cut (se_prop T.k_Negative pp_Negative_densities g_Negative_densities (hr.mono (by decide)) (se_var 3)) (so_some (se_var 17)) (so_some (se_bin ov_add (se_var 17) (se_var 5))))) (
  sss_cons (ss_set 8 sc_law.nd (se_join (se_str) (se_lc (own := [("_law_deed_here", 11)]) rfl sc_law.nd (si_of (se_var 4)) (blkOk_by (N := ["_law_script", "_law_row", "_law_turn", "_law_negative_here", "_law_recipe_here", "_law_width", "_law_size", "_law_rows", "_law_text", "_law_times", "_law_is_over", "_law_deed_here", "_law_ticks", "_law_side", "_law_cell", "_law_words_here", "_law_lines", "_law_k"]) (sc := defScope s_law) (own := [("_law_deed_here", 11)]) (by decide +kernel)) (fun _ _ _ _ _ => sg_var 11 sc_law.nd) (fun _ _ _ _ _ => sts_nil) (fun _ _ _ _ _ => se_join (se_str) (se_call takes0 G_l_words (hr.mono (by decide)) rfl (sa_cons (se_var 11) (sa_nil))))))) (
  sss_cons (ss_if (SW.st (sw_or (st_cmp (ov_ne hr.units) (se_call tk G_picture (hr.mono (by decide)) rfl (sa_cons (se_var 3) (sa_nil))) (se_join (se_str) (se_var 7))) (sw_or (st_cmp (ov_ne hr.units) (se_call tk G_recipe_text (hr.mono (by decide)) rfl (sa_cons (se_var 4) (sa_nil))) (se_var 8)) (sw_or1 (st_cmp (ov_ne hr.units) (se_call tk G_read_recipe (hr.mono (by decide)) rfl (sa_cons (se_var 3) (sa_cons (se_var 8) (sa_nil)))) (se_var 4)))))) (
  sss_one (ss_ret (se_bl))) (
  sss_nil)) (
  sss_cons (ss_asg (se_tup (sa_cons (se_lst (sa_cons (se_repT (se_lst (sa_cons (se_int) (sa_nil))) (se_var 6)) (sa_cons (se_repT (se_lst (sa_cons (se_int) (sa_nil))) (se_var 6)) (sa_nil)))) (sa_cons (se_bl) (sa_nil)))) (sg_tup rfl (sgs_cons (sg_var 9 sc_law.nd) (sgs_cons (sg_var 10 sc_law.nd) (sgs_nil))))) (
  sss_cons (ss_for (passes_of rfl) rfl (si_of (se_var 4)) (sg_var 11 sc_law.nd) (
  sss_cons (ss_set 10 sc_law.nd (se_cmp (ov_ne hr.units) (se_var 10) (se_cmp (ov_eq hr.units) (se_ix (se_var 11) (se_int)) (se_str)))) (
  sss_cons (ss_par 12 13 rfl sc_law.nd (se_call tk G_l_open (hr.mono (by decide)) rfl (sa_cons (se_var 3) (sa_cons (se_var 11) (sa_nil)))) (se_ix (se_var 9) (se_callTy cv_int (by exact rfl) T.n_int (by decide +kernel) (sa_cons (se_var 10) (sa_nil))))) (
  sss_one (ss_for (passes_of rfl) rfl (si_range1 rfl T.n_range (se_var 6)) (sg_var 14 sc_law.nd) (
  sss_one (ss_asg (se_bin ov_add (se_ix (se_var 13) (se_var 14)) (se_ix (se_var 12) (se_var 14))) (sg_ix (W := W0) (se_var 13) (se_var 14))))))))) (
  sss_cons (ss_set 15 sc_law.nd (se_lc (own := [("_law_cell", 14)]) rfl sc_law.nd (si_range1 rfl T.n_range (se_var 6)) (blkOk_by (N := ["_law_script", "_law_row", "_law_turn", "_law_negative_here", "_law_recipe_here", "_law_width", "_law_size", "_law_rows", "_law_text", "_law_times", "_law_is_over", "_law_deed_here", "_law_ticks", "_law_side", "_law_cell", "_law_words_here", "_law_lines", "_law_k"]) (sc := defScope s_law) (own := [("_law_cell", 14)]) (by decide +kernel)) (fun _ _ _ _ _ => sg_var 14 sc_law.nd) (fun _ _ _ _ _ => sts_nil) (fun _ _ _ _ _ => se_bin ov_add (se_bin ov_add (se_callTy cv_str (by exact rfl) T.n_str (by decide +kernel) (sa_cons (se_ix (se_ix (se_var 9) (se_int)) (se_var 14)) (sa_nil))) (se_str)) (se_callTy cv_str (by exact rfl) T.n_str (by decide +kernel) (sa_cons (se_ix (se_ix (se_var 9) (se_int)) (se_var 14)) (sa_nil)))))) (
  sss_cons (ss_setLc (i := 16) (own := [("_law_k", 17)]) rfl sc_law.nd rfl rfl (sw_true rfl rfl rfl (by decide +kernel)) (si_step rfl T.n_range (se_int) (se_var 6) (se_var 5)) (blkOk_by (N := ["_law_script", "_law_row", "_law_turn", "_law_negative_here", "_law_recipe_here", "_law_width", "_law_size", "_law_rows", "_law_text", "_law_times", "_law_is_over", "_law_deed_here", "_law_ticks", "_law_side", "_law_cell", "_law_words_here", "_law_lines", "_law_k"]) (sc := defScope s_law) (own := [("_law_k", 17)]) (by decide +kernel)) (fun _ _ _ _ _ => sg_var 17 sc_law.nd) (fun _ _ _ _ _ => sts_nil) (fun _ _ _ _ _ => se_join (se_str) (se_cut (se_var 15) (so_some (se_var 17)) (so_some (se_bin ov_add (se_var 17) (se_var 5)))))) (
  sss_one (ss_if (st_cmp (ov_ne hr.units) (se_call tk G_open_map (hr.mono (by decide)) rfl (sa_cons (se_var 5) (sa_cons (se_prop T.k_Negative pp_Negative_height g_Negative_height (hr.mono (by decide)) (se_var 3)) (sa_cons (se_var 4) (sa_nil))))) (se_join (se_str) (se_var 16))) (
  sss_one (ss_ret (se_bl))) (
  sss_nil))))))))))))) (
  sss_one (ss_ret (se_and (se_cmp (ov_eq hr.units) (se_call tk G_read_recipe (hr.mono (by decide)) rfl (sa_cons (se_makeS tk T.k_Negative mk_Negative g_Negativedd__initdd_ (hr.mono (by decide)) (by exact rfl) T.m_Negative (sa_cons (se_int) (sa_cons (se_int) (sa_cons (se_str) (sa_nil))))) (sa_cons (se_str) (sa_nil)))) (se_tup (sa_nil))) (se_one (se_cmp (ov_eq hr.units) (se_call tk G_recipe_text (hr.mono (by decide)) rfl (sa_cons (se_tup (sa_nil)) (sa_nil))) (se_str))))))))))
end
end K42
set_option Elab.async false
set_option linter.all false
set_option maxRecDepth 100000
namespace K42
open PySem L2 Fw Pg
set_option maxHeartbeats 8000000 in
theorem all_mk {l : PySem.W.OpenLaw} {w : World} {K : PySem.W.Frag} {h : Heap} {mg : Str → Option Value} {fa : Addr} (X : K.In h) (G : h.Ns mainGlobals mg) (hfa : mg "law" = some (.ref fa))
    {C_InvalidSize : Addr}
    {C_InvalidRecipe : Addr}
    {C_InvalidNegative : Addr}
    {C_InvalidLine : Addr}
    {C_Negative : Addr}
    {f_Negativedd__lendd_ : Addr} {od_Negativedd__lendd_ an_Negativedd__lendd_ : Option Addr} {sl_Negativedd__lendd_ : Array (Option Value)} {oc_Negativedd__lendd_ kV_Negativedd__lendd_ dc_Negativedd__lendd_ pm_Negativedd__lendd_ cd_Negativedd__lendd_ ct_Negativedd__lendd_ : Value}
    {f_is_number : Addr} {od_is_number an_is_number : Option Addr} {sl_is_number : Array (Option Value)} {oc_is_number kV_is_number dc_is_number pm_is_number cd_is_number ct_is_number : Value}
    {f_wrong_side : Addr} {od_wrong_side an_wrong_side : Option Addr} {sl_wrong_side : Array (Option Value)} {oc_wrong_side kV_wrong_side dc_wrong_side pm_wrong_side cd_wrong_side ct_wrong_side : Value}
    {f_wrong_part : Addr} {od_wrong_part an_wrong_part : Option Addr} {sl_wrong_part : Array (Option Value)} {oc_wrong_part kV_wrong_part dc_wrong_part pm_wrong_part cd_wrong_part ct_wrong_part : Value}
    {f_Negativedd__initdd_ : Addr} {od_Negativedd__initdd_ an_Negativedd__initdd_ : Option Addr} {sl_Negativedd__initdd_ : Array (Option Value)} {oc_Negativedd__initdd_ kV_Negativedd__initdd_ dc_Negativedd__initdd_ pm_Negativedd__initdd_ cd_Negativedd__initdd_ ct_Negativedd__initdd_ : Value}
    {f_Negative_densities : Addr} {od_Negative_densities an_Negative_densities : Option Addr} {sl_Negative_densities : Array (Option Value)} {oc_Negative_densities kV_Negative_densities dc_Negative_densities pm_Negative_densities cd_Negative_densities ct_Negative_densities : Value}
    {p_Negative_densities : Addr} {rs_Negative_densities : List Value}
    {f_Negative_height : Addr} {od_Negative_height an_Negative_height : Option Addr} {sl_Negative_height : Array (Option Value)} {oc_Negative_height kV_Negative_height dc_Negative_height pm_Negative_height cd_Negative_height ct_Negative_height : Value}
    {p_Negative_height : Addr} {rs_Negative_height : List Value}
    {f_Negative_width : Addr} {od_Negative_width an_Negative_width : Option Addr} {sl_Negative_width : Array (Option Value)} {oc_Negative_width kV_Negative_width dc_Negative_width pm_Negative_width cd_Negative_width ct_Negative_width : Value}
    {p_Negative_width : Addr} {rs_Negative_width : List Value}
    {f_l_taken : Addr} {od_l_taken an_l_taken : Option Addr} {sl_l_taken : Array (Option Value)} {oc_l_taken kV_l_taken dc_l_taken pm_l_taken cd_l_taken ct_l_taken : Value}
    {f_l_negative : Addr} {od_l_negative an_l_negative : Option Addr} {sl_l_negative : Array (Option Value)} {oc_l_negative kV_l_negative dc_l_negative pm_l_negative cd_l_negative ct_l_negative : Value}
    {f_l_open : Addr} {od_l_open an_l_open : Option Addr} {sl_l_open : Array (Option Value)} {oc_l_open kV_l_open dc_l_open pm_l_open cd_l_open ct_l_open : Value}
    {f_l_deed : Addr} {od_l_deed an_l_deed : Option Addr} {sl_l_deed : Array (Option Value)} {oc_l_deed kV_l_deed dc_l_deed pm_l_deed cd_l_deed ct_l_deed : Value}
    {f_l_recipe : Addr} {od_l_recipe an_l_recipe : Option Addr} {sl_l_recipe : Array (Option Value)} {oc_l_recipe kV_l_recipe dc_l_recipe pm_l_recipe cd_l_recipe ct_l_recipe : Value}
    {f_l_words : Addr} {od_l_words an_l_words : Option Addr} {sl_l_words : Array (Option Value)} {oc_l_words kV_l_words dc_l_words pm_l_words cd_l_words ct_l_words : Value}
    {f_in_rows : Addr} {od_in_rows an_in_rows : Option Addr} {sl_in_rows : Array (Option Value)} {oc_in_rows kV_in_rows dc_in_rows pm_in_rows cd_in_rows ct_in_rows : Value}
    {f_ascends : Addr} {od_ascends an_ascends : Option Addr} {sl_ascends : Array (Option Value)} {oc_ascends kV_ascends dc_ascends pm_ascends cd_ascends ct_ascends : Value}
    {f_is_mask : Addr} {od_is_mask an_is_mask : Option Addr} {sl_is_mask : Array (Option Value)} {oc_is_mask kV_is_mask dc_is_mask pm_is_mask cd_is_mask ct_is_mask : Value}
    {f_is_deed : Addr} {od_is_deed an_is_deed : Option Addr} {sl_is_deed : Array (Option Value)} {oc_is_deed kV_is_deed dc_is_deed pm_is_deed cd_is_deed ct_is_deed : Value}
    {f_check_recipe : Addr} {od_check_recipe an_check_recipe : Option Addr} {sl_check_recipe : Array (Option Value)} {oc_check_recipe kV_check_recipe dc_check_recipe pm_check_recipe cd_check_recipe ct_check_recipe : Value}
    {f_check_size : Addr} {od_check_size an_check_size : Option Addr} {sl_check_size : Array (Option Value)} {oc_check_size kV_check_size dc_check_size pm_check_size cd_check_size ct_check_size : Value}
    {f_ticks_of : Addr} {od_ticks_of an_ticks_of : Option Addr} {sl_ticks_of : Array (Option Value)} {oc_ticks_of kV_ticks_of dc_ticks_of pm_ticks_of cd_ticks_of ct_ticks_of : Value}
    {f_open_pair : Addr} {od_open_pair an_open_pair : Option Addr} {sl_open_pair : Array (Option Value)} {oc_open_pair kV_open_pair dc_open_pair pm_open_pair cd_open_pair ct_open_pair : Value}
    {f_open_times : Addr} {od_open_times an_open_times : Option Addr} {sl_open_times : Array (Option Value)} {oc_open_times kV_open_times dc_open_times pm_open_times cd_open_times ct_open_times : Value}
    {f_open_map : Addr} {od_open_map an_open_map : Option Addr} {sl_open_map : Array (Option Value)} {oc_open_map kV_open_map dc_open_map pm_open_map cd_open_map ct_open_map : Value}
    {f_picture : Addr} {od_picture an_picture : Option Addr} {sl_picture : Array (Option Value)} {oc_picture kV_picture dc_picture pm_picture cd_picture ct_picture : Value}
    {f_deed_of : Addr} {od_deed_of an_deed_of : Option Addr} {sl_deed_of : Array (Option Value)} {oc_deed_of kV_deed_of dc_deed_of pm_deed_of cd_deed_of ct_deed_of : Value}
    {f_worded_rows : Addr} {od_worded_rows an_worded_rows : Option Addr} {sl_worded_rows : Array (Option Value)} {oc_worded_rows kV_worded_rows dc_worded_rows pm_worded_rows cd_worded_rows ct_worded_rows : Value}
    {f_number_of : Addr} {od_number_of an_number_of : Option Addr} {sl_number_of : Array (Option Value)} {oc_number_of kV_number_of dc_number_of pm_number_of cd_number_of ct_number_of : Value}
    {f_wrong_cell : Addr} {od_wrong_cell an_wrong_cell : Option Addr} {sl_wrong_cell : Array (Option Value)} {oc_wrong_cell kV_wrong_cell dc_wrong_cell pm_wrong_cell cd_wrong_cell ct_wrong_cell : Value}
    {f_wrong_word : Addr} {od_wrong_word an_wrong_word : Option Addr} {sl_wrong_word : Array (Option Value)} {oc_wrong_word kV_wrong_word dc_wrong_word pm_wrong_word cd_wrong_word ct_wrong_word : Value}
    {f_read_recipe : Addr} {od_read_recipe an_read_recipe : Option Addr} {sl_read_recipe : Array (Option Value)} {oc_read_recipe kV_read_recipe dc_read_recipe pm_read_recipe cd_read_recipe ct_read_recipe : Value}
    {f_deed_text : Addr} {od_deed_text an_deed_text : Option Addr} {sl_deed_text : Array (Option Value)} {oc_deed_text kV_deed_text dc_deed_text pm_deed_text cd_deed_text ct_deed_text : Value}
    {f_recipe_text : Addr} {od_recipe_text an_recipe_text : Option Addr} {sl_recipe_text : Array (Option Value)} {oc_recipe_text kV_recipe_text dc_recipe_text pm_recipe_text cd_recipe_text ct_recipe_text : Value}
    {f_law : Addr} {od_law an_law : Option Addr} {sl_law : Array (Option Value)} {oc_law kV_law dc_law pm_law cd_law ct_law : Value}
    {fi_InvalidLine cc_InvalidLine ca_InvalidLine N_InvalidLine : Addr} {od_InvalidLine an_InvalidLine dd_InvalidLine cdd_InvalidLine cld_InvalidLine : Option Addr} {sl_InvalidLine ccs_InvalidLine csl_InvalidLine : Array (Option Value)} {oc_InvalidLine kV_InvalidLine dc_InvalidLine pm_InvalidLine ct_InvalidLine ccl_InvalidLine cl_InvalidLine : Value} {nm_InvalidLine qn_InvalidLine fl_InvalidLine : Str} {bs_InvalidLine bm_InvalidLine sub_InvalidLine : List Value} {sn_InvalidLine : List Str} {ab_InvalidLine : Bool} {col_InvalidLine : Option Bool} {k0_InvalidLine k1_InvalidLine k2_InvalidLine k3_InvalidLine k5_InvalidLine : Option Value} {vs_InvalidLine : Array Value} {tf_InvalidLine : Tok}
    {fi_InvalidNegative cc_InvalidNegative ca_InvalidNegative N_InvalidNegative : Addr} {od_InvalidNegative an_InvalidNegative dd_InvalidNegative cdd_InvalidNegative cld_InvalidNegative : Option Addr} {sl_InvalidNegative ccs_InvalidNegative csl_InvalidNegative : Array (Option Value)} {oc_InvalidNegative kV_InvalidNegative dc_InvalidNegative pm_InvalidNegative ct_InvalidNegative ccl_InvalidNegative cl_InvalidNegative : Value} {nm_InvalidNegative qn_InvalidNegative fl_InvalidNegative : Str} {bs_InvalidNegative bm_InvalidNegative sub_InvalidNegative : List Value} {sn_InvalidNegative : List Str} {ab_InvalidNegative : Bool} {col_InvalidNegative : Option Bool} {k0_InvalidNegative k1_InvalidNegative k2_InvalidNegative k3_InvalidNegative k5_InvalidNegative : Option Value} {vs_InvalidNegative : Array Value} {tf_InvalidNegative : Tok}
    {fi_InvalidRecipe cc_InvalidRecipe ca_InvalidRecipe N_InvalidRecipe : Addr} {od_InvalidRecipe an_InvalidRecipe dd_InvalidRecipe cdd_InvalidRecipe cld_InvalidRecipe : Option Addr} {sl_InvalidRecipe ccs_InvalidRecipe csl_InvalidRecipe : Array (Option Value)} {oc_InvalidRecipe kV_InvalidRecipe dc_InvalidRecipe pm_InvalidRecipe ct_InvalidRecipe ccl_InvalidRecipe cl_InvalidRecipe : Value} {nm_InvalidRecipe qn_InvalidRecipe fl_InvalidRecipe : Str} {bs_InvalidRecipe bm_InvalidRecipe sub_InvalidRecipe : List Value} {sn_InvalidRecipe : List Str} {ab_InvalidRecipe : Bool} {col_InvalidRecipe : Option Bool} {k0_InvalidRecipe k1_InvalidRecipe k2_InvalidRecipe k3_InvalidRecipe k5_InvalidRecipe : Option Value} {vs_InvalidRecipe : Array Value} {tf_InvalidRecipe : Tok}
    {t_DENSITIES : Tok}
    {p_FLIP : Addr} {dd_FLIP : Option Addr} {z_FLIP : Nat} {sl_FLIP : Array (Option Value)}
    {t_FLIP_0 : Tok}
    {t_LONGEST_NUMBER : Tok}
    {t_MOST_CELLS : Tok}
    {t_MOST_DEEDS : Tok}
    {t_MOST_SIDE : Tok}
    {t_MOST_TICKS : Tok}
    {p_TIMES : Addr} {z_TIMES : Nat} {t_TIMES_0 u_TIMES_0 : Tok} {h_TIMES_0 : Int} {t_TIMES_1 u_TIMES_1 : Tok} {h_TIMES_1 : Int} {t_TIMES_2 u_TIMES_2 : Tok} {h_TIMES_2 : Int}
    (aC_Negative : PySem.W.nsIn K mainGlobals "Negative" = some (some (.ref C_Negative)))
    (pg_Negative : PySem.W.plainGet K C_Negative Str.empty = true)
    (hd_Negative : PySem.W.hasDictIn K C_Negative = true)
    (po_Negative : PySem.W.plainOver K C_Negative = true)
    (sa_Negative : PySem.W.findIn K (.ref C_Negative) "__setattr__" = some (some (.builtin "object.__setattr__")))
    (mk_Negative : PySem.W.makesIn K C_Negative = true)
    (kc_Negative : PySem.W.keepIn K (.ref C_Negative) = true)
    (nf_Negative_columns : PySem.W.findIn K (.ref C_Negative) "columns" = some none)
    (nf_Negative_figures : PySem.W.findIn K (.ref C_Negative) "figures" = some none)
    (nf_Negative_lines : PySem.W.findIn K (.ref C_Negative) "lines" = some none)
    (aC_InvalidLine : PySem.W.nsIn K mainGlobals "InvalidLine" = some (some (.ref C_InvalidLine)))
    (kc_InvalidLine : PySem.W.keepIn K (.ref C_InvalidLine) = true)
    (sb_InvalidLine : PySem.W.subIn K (.ref C_InvalidLine) (.type "BaseException") = some true)
    (ty_InvalidLine : PySem.W.typeIn K (.ref C_InvalidLine) = some (.type "type"))
    (aC_InvalidNegative : PySem.W.nsIn K mainGlobals "InvalidNegative" = some (some (.ref C_InvalidNegative)))
    (kc_InvalidNegative : PySem.W.keepIn K (.ref C_InvalidNegative) = true)
    (sb_InvalidNegative : PySem.W.subIn K (.ref C_InvalidNegative) (.type "BaseException") = some true)
    (ty_InvalidNegative : PySem.W.typeIn K (.ref C_InvalidNegative) = some (.type "type"))
    (aC_InvalidRecipe : PySem.W.nsIn K mainGlobals "InvalidRecipe" = some (some (.ref C_InvalidRecipe)))
    (kc_InvalidRecipe : PySem.W.keepIn K (.ref C_InvalidRecipe) = true)
    (sb_InvalidRecipe : PySem.W.subIn K (.ref C_InvalidRecipe) (.type "BaseException") = some true)
    (ty_InvalidRecipe : PySem.W.typeIn K (.ref C_InvalidRecipe) = some (.type "type"))
    (aC_InvalidSize : PySem.W.nsIn K mainGlobals "InvalidSize" = some (some (.ref C_InvalidSize)))
    (kc_InvalidSize : PySem.W.keepIn K (.ref C_InvalidSize) = true)
    (sb_InvalidSize : PySem.W.subIn K (.ref C_InvalidSize) (.type "BaseException") = some true)
    (ty_InvalidSize : PySem.W.typeIn K (.ref C_InvalidSize) = some (.type "type"))
    (xi_InvalidSize : PySem.W.excIn K C_InvalidSize veBase "ValueError.__new__" = true)
    (any_ : PySem.W.nsIn K cStatics "thirdparty.any" = some none)
    (n_super : PySem.W.nsIn K mainGlobals "super" = some none)
    (tp_super : (l.prog.main.scope.names.lookup ("super" : Str)).isSome = false)
    (lo_InvalidLine : K.lookup C_InvalidLine = some (excClassObj nm_InvalidLine qn_InvalidLine C_InvalidLine N_InvalidLine bs_InvalidLine bm_InvalidLine true sn_InvalidLine sub_InvalidLine ab_InvalidLine col_InvalidLine dd_InvalidLine k0_InvalidLine k1_InvalidLine k2_InvalidLine k3_InvalidLine k5_InvalidLine "ValueError.__new__"))
    (rf_InvalidLine : PySem.HandSPX.refsVE bm_InvalidLine = true)
    (sa_InvalidLine : PySem.W.findIn K (.ref C_InvalidLine) "__setattr__" = some (some (.builtin "object.__setattr__")))
    (ia_InvalidLine : PySem.W.findIn K (.ref C_InvalidLine) "__init__" = some (some (.ref fi_InvalidLine)))
    (it_InvalidLine : PySem.W.typeIn K (.ref fi_InvalidLine) = some (.type "function"))
    (li_InvalidLine : K.lookup fi_InvalidLine = some ⟨oc_InvalidLine, od_InvalidLine, .func (PySem.W.fnX "__init__" "InvalidLine.__init__" (defArgs si_InvalidLine) (defBody si_InvalidLine) (defScope si_InvalidLine) [(("__class__" : Str), cc_InvalidLine)] .none kV_InvalidLine dc_InvalidLine pm_InvalidLine an_InvalidLine (.ref ca_InvalidLine) ct_InvalidLine), sl_InvalidLine⟩)
    (ci_InvalidLine : PySem.W.codeIn K (.ref ca_InvalidLine) "InvalidLine.__init__" = true)
    (sv_InvalidLine : PySem.W.subIn K (.ref C_InvalidLine) (.type "ValueError") = some true)
    (mr_InvalidLine : PySem.W.mroIn K C_InvalidLine (.ref C_InvalidLine) = some true)
    (su_InvalidLine : PySem.W.ks_superIn K C_InvalidLine C_InvalidLine "__init__" = some (some (.builtin "ValueError.__init__")))
    (lk_InvalidLine : K.lookup ca_InvalidLine = some ⟨ccl_InvalidLine, cdd_InvalidLine, .fields vs_InvalidLine, ccs_InvalidLine⟩)
    (vf_InvalidLine : vs_InvalidLine[2]? = some (.str fl_InvalidLine tf_InvalidLine))
    (ff_InvalidLine : ((l.prog.main.file : Str) == fl_InvalidLine) = true)
    (lc_InvalidLine : K.lookup cc_InvalidLine = some ⟨cl_InvalidLine, cld_InvalidLine, .cell (some (.ref C_InvalidLine)), csl_InvalidLine⟩)
    (lo_InvalidNegative : K.lookup C_InvalidNegative = some (excClassObj nm_InvalidNegative qn_InvalidNegative C_InvalidNegative N_InvalidNegative bs_InvalidNegative bm_InvalidNegative true sn_InvalidNegative sub_InvalidNegative ab_InvalidNegative col_InvalidNegative dd_InvalidNegative k0_InvalidNegative k1_InvalidNegative k2_InvalidNegative k3_InvalidNegative k5_InvalidNegative "ValueError.__new__"))
    (rf_InvalidNegative : PySem.HandSPX.refsVE bm_InvalidNegative = true)
    (sa_InvalidNegative : PySem.W.findIn K (.ref C_InvalidNegative) "__setattr__" = some (some (.builtin "object.__setattr__")))
    (ia_InvalidNegative : PySem.W.findIn K (.ref C_InvalidNegative) "__init__" = some (some (.ref fi_InvalidNegative)))
    (it_InvalidNegative : PySem.W.typeIn K (.ref fi_InvalidNegative) = some (.type "function"))
    (li_InvalidNegative : K.lookup fi_InvalidNegative = some ⟨oc_InvalidNegative, od_InvalidNegative, .func (PySem.W.fnX "__init__" "InvalidNegative.__init__" (defArgs si_InvalidNegative) (defBody si_InvalidNegative) (defScope si_InvalidNegative) [(("__class__" : Str), cc_InvalidNegative)] .none kV_InvalidNegative dc_InvalidNegative pm_InvalidNegative an_InvalidNegative (.ref ca_InvalidNegative) ct_InvalidNegative), sl_InvalidNegative⟩)
    (ci_InvalidNegative : PySem.W.codeIn K (.ref ca_InvalidNegative) "InvalidNegative.__init__" = true)
    (sv_InvalidNegative : PySem.W.subIn K (.ref C_InvalidNegative) (.type "ValueError") = some true)
    (mr_InvalidNegative : PySem.W.mroIn K C_InvalidNegative (.ref C_InvalidNegative) = some true)
    (su_InvalidNegative : PySem.W.ks_superIn K C_InvalidNegative C_InvalidNegative "__init__" = some (some (.builtin "ValueError.__init__")))
    (lk_InvalidNegative : K.lookup ca_InvalidNegative = some ⟨ccl_InvalidNegative, cdd_InvalidNegative, .fields vs_InvalidNegative, ccs_InvalidNegative⟩)
    (vf_InvalidNegative : vs_InvalidNegative[2]? = some (.str fl_InvalidNegative tf_InvalidNegative))
    (ff_InvalidNegative : ((l.prog.main.file : Str) == fl_InvalidNegative) = true)
    (lc_InvalidNegative : K.lookup cc_InvalidNegative = some ⟨cl_InvalidNegative, cld_InvalidNegative, .cell (some (.ref C_InvalidNegative)), csl_InvalidNegative⟩)
    (lo_InvalidRecipe : K.lookup C_InvalidRecipe = some (excClassObj nm_InvalidRecipe qn_InvalidRecipe C_InvalidRecipe N_InvalidRecipe bs_InvalidRecipe bm_InvalidRecipe true sn_InvalidRecipe sub_InvalidRecipe ab_InvalidRecipe col_InvalidRecipe dd_InvalidRecipe k0_InvalidRecipe k1_InvalidRecipe k2_InvalidRecipe k3_InvalidRecipe k5_InvalidRecipe "ValueError.__new__"))
    (rf_InvalidRecipe : PySem.HandSPX.refsVE bm_InvalidRecipe = true)
    (sa_InvalidRecipe : PySem.W.findIn K (.ref C_InvalidRecipe) "__setattr__" = some (some (.builtin "object.__setattr__")))
    (ia_InvalidRecipe : PySem.W.findIn K (.ref C_InvalidRecipe) "__init__" = some (some (.ref fi_InvalidRecipe)))
    (it_InvalidRecipe : PySem.W.typeIn K (.ref fi_InvalidRecipe) = some (.type "function"))
    (li_InvalidRecipe : K.lookup fi_InvalidRecipe = some ⟨oc_InvalidRecipe, od_InvalidRecipe, .func (PySem.W.fnX "__init__" "InvalidRecipe.__init__" (defArgs si_InvalidRecipe) (defBody si_InvalidRecipe) (defScope si_InvalidRecipe) [(("__class__" : Str), cc_InvalidRecipe)] .none kV_InvalidRecipe dc_InvalidRecipe pm_InvalidRecipe an_InvalidRecipe (.ref ca_InvalidRecipe) ct_InvalidRecipe), sl_InvalidRecipe⟩)
    (ci_InvalidRecipe : PySem.W.codeIn K (.ref ca_InvalidRecipe) "InvalidRecipe.__init__" = true)
    (sv_InvalidRecipe : PySem.W.subIn K (.ref C_InvalidRecipe) (.type "ValueError") = some true)
    (mr_InvalidRecipe : PySem.W.mroIn K C_InvalidRecipe (.ref C_InvalidRecipe) = some true)
    (su_InvalidRecipe : PySem.W.ks_superIn K C_InvalidRecipe C_InvalidRecipe "__init__" = some (some (.builtin "ValueError.__init__")))
    (lk_InvalidRecipe : K.lookup ca_InvalidRecipe = some ⟨ccl_InvalidRecipe, cdd_InvalidRecipe, .fields vs_InvalidRecipe, ccs_InvalidRecipe⟩)
    (vf_InvalidRecipe : vs_InvalidRecipe[2]? = some (.str fl_InvalidRecipe tf_InvalidRecipe))
    (ff_InvalidRecipe : ((l.prog.main.file : Str) == fl_InvalidRecipe) = true)
    (lc_InvalidRecipe : K.lookup cc_InvalidRecipe = some ⟨cl_InvalidRecipe, cld_InvalidRecipe, .cell (some (.ref C_InvalidRecipe)), csl_InvalidRecipe⟩)
    (nf_InvalidLine : PySem.W.findIn K (.ref C_InvalidLine) "row" = some none)
    (nf2_InvalidLine : PySem.W.findIn K (.ref C_InvalidLine) "word" = some none)
    (nf_InvalidNegative : PySem.W.findIn K (.ref C_InvalidNegative) "part" = some none)
    (nf_InvalidRecipe : PySem.W.findIn K (.ref C_InvalidRecipe) "index" = some none)
    (n_all : PySem.W.nsIn K mainGlobals "all" = some none)
    (n_bool : PySem.W.nsIn K mainGlobals "bool" = some none)
    (n_enumerate : PySem.W.nsIn K mainGlobals "enumerate" = some none)
    (n_int : PySem.W.nsIn K mainGlobals "int" = some none)
    (n_isinstance : PySem.W.nsIn K mainGlobals "isinstance" = some none)
    (n_len : PySem.W.nsIn K mainGlobals "len" = some none)
    (n_list : PySem.W.nsIn K mainGlobals "list" = some none)
    (n_max : PySem.W.nsIn K mainGlobals "max" = some none)
    (n_range : PySem.W.nsIn K mainGlobals "range" = some none)
    (n_str : PySem.W.nsIn K mainGlobals "str" = some none)
    (n_tuple : PySem.W.nsIn K mainGlobals "tuple" = some none)
    (g_DENSITIES : PySem.W.nsIn K mainGlobals "DENSITIES" = some (some (.str (PySem.Str.ofString "01234") t_DENSITIES)))
    (g_FLIP : PySem.W.nsIn K mainGlobals "FLIP" = some (some (.ref p_FLIP)))
    (gl_FLIP : K.lookup p_FLIP = some ⟨.type "tuple", dd_FLIP, .seq #[.str (PySem.Str.ofString "flip") t_FLIP_0] z_FLIP, sl_FLIP⟩)
    (g_LONGEST_NUMBER : PySem.W.nsIn K mainGlobals "LONGEST_NUMBER" = some (some (.int 2 t_LONGEST_NUMBER)))
    (g_MOST_CELLS : PySem.W.nsIn K mainGlobals "MOST_CELLS" = some (some (.int 9 t_MOST_CELLS)))
    (g_MOST_DEEDS : PySem.W.nsIn K mainGlobals "MOST_DEEDS" = some (some (.int 8 t_MOST_DEEDS)))
    (g_MOST_SIDE : PySem.W.nsIn K mainGlobals "MOST_SIDE" = some (some (.int 4 t_MOST_SIDE)))
    (g_MOST_TICKS : PySem.W.nsIn K mainGlobals "MOST_TICKS" = some (some (.int 99 t_MOST_TICKS)))
    (g_TIMES : PySem.W.nsIn K mainGlobals "TIMES" = some (some (.ref p_TIMES)))
    (gl_TIMES : K.lookup p_TIMES = some ⟨.type "dict", none, .dict #[⟨h_TIMES_0, .str (PySem.Str.ofString "expose") t_TIMES_0, .int 1 u_TIMES_0⟩, ⟨h_TIMES_1, .str (PySem.Str.ofString "draw") t_TIMES_1, .int 2 u_TIMES_1⟩, ⟨h_TIMES_2, .str (PySem.Str.ofString "flip") t_TIMES_2, .int 0 u_TIMES_2⟩] z_TIMES, #[]⟩)
    (dh_TIMES_0 : h_TIMES_0 = PyData.keyHash w.params (PySem.Str.ofString "expose"))
    (dh_TIMES_1 : h_TIMES_1 = PyData.keyHash w.params (PySem.Str.ofString "draw"))
    (dh_TIMES_2 : h_TIMES_2 = PyData.keyHash w.params (PySem.Str.ofString "flip"))
    (ds_TIMES : (p_TIMES == sysModules) = false)
    (a_Negativedd__lendd_ : PySem.W.findIn K (.ref C_Negative) "__len__" = some (some (.ref f_Negativedd__lendd_)))
    (i_Negativedd__lendd_ : PySem.W.isFn K (.ref f_Negativedd__lendd_) = true)
    (l_Negativedd__lendd_ : K.lookup f_Negativedd__lendd_ = some ⟨oc_Negativedd__lendd_, od_Negativedd__lendd_, .func (PySem.W.fnOf "__len__" "Negative.__len__" (defArgs s_Negativedd__lendd_) (defBody s_Negativedd__lendd_) (defScope s_Negativedd__lendd_) .none kV_Negativedd__lendd_ dc_Negativedd__lendd_ pm_Negativedd__lendd_ an_Negativedd__lendd_ cd_Negativedd__lendd_ ct_Negativedd__lendd_), sl_Negativedd__lendd_⟩)
    (c_Negativedd__lendd_ : PySem.W.codeIn K cd_Negativedd__lendd_ "Negative.__len__" = true)
    (k_Negativedd__lendd_ : PySem.W.keepIn K (.ref f_Negativedd__lendd_) = true)
    (a_is_number : PySem.W.nsIn K mainGlobals "is_number" = some (some (.ref f_is_number)))
    (l_is_number : K.lookup f_is_number = some ⟨oc_is_number, od_is_number, .func (PySem.W.fnOf "is_number" "is_number" (defArgs s_is_number) (defBody s_is_number) (defScope s_is_number) .none kV_is_number dc_is_number pm_is_number an_is_number cd_is_number ct_is_number), sl_is_number⟩)
    (c_is_number : PySem.W.codeIn K cd_is_number "is_number" = true)
    (k_is_number : PySem.W.keepIn K (.ref f_is_number) = true)
    (a_wrong_side : PySem.W.nsIn K mainGlobals "wrong_side" = some (some (.ref f_wrong_side)))
    (l_wrong_side : K.lookup f_wrong_side = some ⟨oc_wrong_side, od_wrong_side, .func (PySem.W.fnOf "wrong_side" "wrong_side" (defArgs s_wrong_side) (defBody s_wrong_side) (defScope s_wrong_side) .none kV_wrong_side dc_wrong_side pm_wrong_side an_wrong_side cd_wrong_side ct_wrong_side), sl_wrong_side⟩)
    (c_wrong_side : PySem.W.codeIn K cd_wrong_side "wrong_side" = true)
    (k_wrong_side : PySem.W.keepIn K (.ref f_wrong_side) = true)
    (a_wrong_part : PySem.W.nsIn K mainGlobals "wrong_part" = some (some (.ref f_wrong_part)))
    (l_wrong_part : K.lookup f_wrong_part = some ⟨oc_wrong_part, od_wrong_part, .func (PySem.W.fnOf "wrong_part" "wrong_part" (defArgs s_wrong_part) (defBody s_wrong_part) (defScope s_wrong_part) .none kV_wrong_part dc_wrong_part pm_wrong_part an_wrong_part cd_wrong_part ct_wrong_part), sl_wrong_part⟩)
    (c_wrong_part : PySem.W.codeIn K cd_wrong_part "wrong_part" = true)
    (k_wrong_part : PySem.W.keepIn K (.ref f_wrong_part) = true)
    (a_Negativedd__initdd_ : PySem.W.findIn K (.ref C_Negative) "__init__" = some (some (.ref f_Negativedd__initdd_)))
    (i_Negativedd__initdd_ : PySem.W.isFn K (.ref f_Negativedd__initdd_) = true)
    (l_Negativedd__initdd_ : K.lookup f_Negativedd__initdd_ = some ⟨oc_Negativedd__initdd_, od_Negativedd__initdd_, .func (PySem.W.fnOf "__init__" "Negative.__init__" (defArgs s_Negativedd__initdd_) (defBody s_Negativedd__initdd_) (defScope s_Negativedd__initdd_) .none kV_Negativedd__initdd_ dc_Negativedd__initdd_ pm_Negativedd__initdd_ an_Negativedd__initdd_ cd_Negativedd__initdd_ ct_Negativedd__initdd_), sl_Negativedd__initdd_⟩)
    (c_Negativedd__initdd_ : PySem.W.codeIn K cd_Negativedd__initdd_ "Negative.__init__" = true)
    (k_Negativedd__initdd_ : PySem.W.keepIn K (.ref f_Negativedd__initdd_) = true)
    (a_Negative_densities : PySem.W.findIn K (.ref C_Negative) "densities" = some (some (.ref p_Negative_densities)))
    (pg_Negative_densities : PySem.W.specialIn K (.ref p_Negative_densities) "__get__" = some (some (.builtin "property.__get__")))
    (pt_Negative_densities : PySem.W.takesIn K (.ref p_Negative_densities) = some true)
    (pr_Negative_densities : PySem.W.recIn K p_Negative_densities "property" = some (.ref f_Negative_densities :: rs_Negative_densities))
    (l_Negative_densities : K.lookup f_Negative_densities = some ⟨oc_Negative_densities, od_Negative_densities, .func (PySem.W.fnOf "densities" "Negative.densities" (defArgs s_Negative_densities) (defBody s_Negative_densities) (defScope s_Negative_densities) .none kV_Negative_densities dc_Negative_densities pm_Negative_densities an_Negative_densities cd_Negative_densities ct_Negative_densities), sl_Negative_densities⟩)
    (c_Negative_densities : PySem.W.codeIn K cd_Negative_densities "Negative.densities" = true)
    (k_Negative_densities : PySem.W.keepIn K (.ref f_Negative_densities) = true)
    (a_Negative_height : PySem.W.findIn K (.ref C_Negative) "height" = some (some (.ref p_Negative_height)))
    (pg_Negative_height : PySem.W.specialIn K (.ref p_Negative_height) "__get__" = some (some (.builtin "property.__get__")))
    (pt_Negative_height : PySem.W.takesIn K (.ref p_Negative_height) = some true)
    (pr_Negative_height : PySem.W.recIn K p_Negative_height "property" = some (.ref f_Negative_height :: rs_Negative_height))
    (l_Negative_height : K.lookup f_Negative_height = some ⟨oc_Negative_height, od_Negative_height, .func (PySem.W.fnOf "height" "Negative.height" (defArgs s_Negative_height) (defBody s_Negative_height) (defScope s_Negative_height) .none kV_Negative_height dc_Negative_height pm_Negative_height an_Negative_height cd_Negative_height ct_Negative_height), sl_Negative_height⟩)
    (c_Negative_height : PySem.W.codeIn K cd_Negative_height "Negative.height" = true)
    (k_Negative_height : PySem.W.keepIn K (.ref f_Negative_height) = true)
    (a_Negative_width : PySem.W.findIn K (.ref C_Negative) "width" = some (some (.ref p_Negative_width)))
    (pg_Negative_width : PySem.W.specialIn K (.ref p_Negative_width) "__get__" = some (some (.builtin "property.__get__")))
    (pt_Negative_width : PySem.W.takesIn K (.ref p_Negative_width) = some true)
    (pr_Negative_width : PySem.W.recIn K p_Negative_width "property" = some (.ref f_Negative_width :: rs_Negative_width))
    (l_Negative_width : K.lookup f_Negative_width = some ⟨oc_Negative_width, od_Negative_width, .func (PySem.W.fnOf "width" "Negative.width" (defArgs s_Negative_width) (defBody s_Negative_width) (defScope s_Negative_width) .none kV_Negative_width dc_Negative_width pm_Negative_width an_Negative_width cd_Negative_width ct_Negative_width), sl_Negative_width⟩)
    (c_Negative_width : PySem.W.codeIn K cd_Negative_width "Negative.width" = true)
    (k_Negative_width : PySem.W.keepIn K (.ref f_Negative_width) = true)
    (a_l_taken : PySem.W.nsIn K mainGlobals "_law_taken" = some (some (.ref f_l_taken)))
    (l_l_taken : K.lookup f_l_taken = some ⟨oc_l_taken, od_l_taken, .func (PySem.W.fnOf "_law_taken" "_law_taken" (defArgs s_l_taken) (defBody s_l_taken) (defScope s_l_taken) .none kV_l_taken dc_l_taken pm_l_taken an_l_taken cd_l_taken ct_l_taken), sl_l_taken⟩)
    (c_l_taken : PySem.W.codeIn K cd_l_taken "_law_taken" = true)
    (k_l_taken : PySem.W.keepIn K (.ref f_l_taken) = true)
    (a_l_negative : PySem.W.nsIn K mainGlobals "_law_negative" = some (some (.ref f_l_negative)))
    (l_l_negative : K.lookup f_l_negative = some ⟨oc_l_negative, od_l_negative, .func (PySem.W.fnOf "_law_negative" "_law_negative" (defArgs s_l_negative) (defBody s_l_negative) (defScope s_l_negative) .none kV_l_negative dc_l_negative pm_l_negative an_l_negative cd_l_negative ct_l_negative), sl_l_negative⟩)
    (c_l_negative : PySem.W.codeIn K cd_l_negative "_law_negative" = true)
    (k_l_negative : PySem.W.keepIn K (.ref f_l_negative) = true)
    (a_l_open : PySem.W.nsIn K mainGlobals "_law_open" = some (some (.ref f_l_open)))
    (l_l_open : K.lookup f_l_open = some ⟨oc_l_open, od_l_open, .func (PySem.W.fnOf "_law_open" "_law_open" (defArgs s_l_open) (defBody s_l_open) (defScope s_l_open) .none kV_l_open dc_l_open pm_l_open an_l_open cd_l_open ct_l_open), sl_l_open⟩)
    (c_l_open : PySem.W.codeIn K cd_l_open "_law_open" = true)
    (k_l_open : PySem.W.keepIn K (.ref f_l_open) = true)
    (a_l_deed : PySem.W.nsIn K mainGlobals "_law_deed" = some (some (.ref f_l_deed)))
    (l_l_deed : K.lookup f_l_deed = some ⟨oc_l_deed, od_l_deed, .func (PySem.W.fnOf "_law_deed" "_law_deed" (defArgs s_l_deed) (defBody s_l_deed) (defScope s_l_deed) .none kV_l_deed dc_l_deed pm_l_deed an_l_deed cd_l_deed ct_l_deed), sl_l_deed⟩)
    (c_l_deed : PySem.W.codeIn K cd_l_deed "_law_deed" = true)
    (k_l_deed : PySem.W.keepIn K (.ref f_l_deed) = true)
    (a_l_recipe : PySem.W.nsIn K mainGlobals "_law_recipe" = some (some (.ref f_l_recipe)))
    (l_l_recipe : K.lookup f_l_recipe = some ⟨oc_l_recipe, od_l_recipe, .func (PySem.W.fnOf "_law_recipe" "_law_recipe" (defArgs s_l_recipe) (defBody s_l_recipe) (defScope s_l_recipe) .none kV_l_recipe dc_l_recipe pm_l_recipe an_l_recipe cd_l_recipe ct_l_recipe), sl_l_recipe⟩)
    (c_l_recipe : PySem.W.codeIn K cd_l_recipe "_law_recipe" = true)
    (k_l_recipe : PySem.W.keepIn K (.ref f_l_recipe) = true)
    (a_l_words : PySem.W.nsIn K mainGlobals "_law_words" = some (some (.ref f_l_words)))
    (l_l_words : K.lookup f_l_words = some ⟨oc_l_words, od_l_words, .func (PySem.W.fnOf "_law_words" "_law_words" (defArgs s_l_words) (defBody s_l_words) (defScope s_l_words) .none kV_l_words dc_l_words pm_l_words an_l_words cd_l_words ct_l_words), sl_l_words⟩)
    (c_l_words : PySem.W.codeIn K cd_l_words "_law_words" = true)
    (k_l_words : PySem.W.keepIn K (.ref f_l_words) = true)
    (a_in_rows : PySem.W.nsIn K mainGlobals "in_rows" = some (some (.ref f_in_rows)))
    (l_in_rows : K.lookup f_in_rows = some ⟨oc_in_rows, od_in_rows, .func (PySem.W.fnOf "in_rows" "in_rows" (defArgs s_in_rows) (defBody s_in_rows) (defScope s_in_rows) .none kV_in_rows dc_in_rows pm_in_rows an_in_rows cd_in_rows ct_in_rows), sl_in_rows⟩)
    (c_in_rows : PySem.W.codeIn K cd_in_rows "in_rows" = true)
    (k_in_rows : PySem.W.keepIn K (.ref f_in_rows) = true)
    (a_ascends : PySem.W.nsIn K mainGlobals "ascends" = some (some (.ref f_ascends)))
    (l_ascends : K.lookup f_ascends = some ⟨oc_ascends, od_ascends, .func (PySem.W.fnOf "ascends" "ascends" (defArgs s_ascends) (defBody s_ascends) (defScope s_ascends) .none kV_ascends dc_ascends pm_ascends an_ascends cd_ascends ct_ascends), sl_ascends⟩)
    (c_ascends : PySem.W.codeIn K cd_ascends "ascends" = true)
    (k_ascends : PySem.W.keepIn K (.ref f_ascends) = true)
    (a_is_mask : PySem.W.nsIn K mainGlobals "is_mask" = some (some (.ref f_is_mask)))
    (l_is_mask : K.lookup f_is_mask = some ⟨oc_is_mask, od_is_mask, .func (PySem.W.fnOf "is_mask" "is_mask" (defArgs s_is_mask) (defBody s_is_mask) (defScope s_is_mask) .none kV_is_mask dc_is_mask pm_is_mask an_is_mask cd_is_mask ct_is_mask), sl_is_mask⟩)
    (c_is_mask : PySem.W.codeIn K cd_is_mask "is_mask" = true)
    (k_is_mask : PySem.W.keepIn K (.ref f_is_mask) = true)
    (a_is_deed : PySem.W.nsIn K mainGlobals "is_deed" = some (some (.ref f_is_deed)))
    (l_is_deed : K.lookup f_is_deed = some ⟨oc_is_deed, od_is_deed, .func (PySem.W.fnOf "is_deed" "is_deed" (defArgs s_is_deed) (defBody s_is_deed) (defScope s_is_deed) .none kV_is_deed dc_is_deed pm_is_deed an_is_deed cd_is_deed ct_is_deed), sl_is_deed⟩)
    (c_is_deed : PySem.W.codeIn K cd_is_deed "is_deed" = true)
    (k_is_deed : PySem.W.keepIn K (.ref f_is_deed) = true)
    (a_check_recipe : PySem.W.nsIn K mainGlobals "check_recipe" = some (some (.ref f_check_recipe)))
    (l_check_recipe : K.lookup f_check_recipe = some ⟨oc_check_recipe, od_check_recipe, .func (PySem.W.fnOf "check_recipe" "check_recipe" (defArgs s_check_recipe) (defBody s_check_recipe) (defScope s_check_recipe) .none kV_check_recipe dc_check_recipe pm_check_recipe an_check_recipe cd_check_recipe ct_check_recipe), sl_check_recipe⟩)
    (c_check_recipe : PySem.W.codeIn K cd_check_recipe "check_recipe" = true)
    (k_check_recipe : PySem.W.keepIn K (.ref f_check_recipe) = true)
    (a_check_size : PySem.W.nsIn K mainGlobals "check_size" = some (some (.ref f_check_size)))
    (l_check_size : K.lookup f_check_size = some ⟨oc_check_size, od_check_size, .func (PySem.W.fnOf "check_size" "check_size" (defArgs s_check_size) (defBody s_check_size) (defScope s_check_size) .none kV_check_size dc_check_size pm_check_size an_check_size cd_check_size ct_check_size), sl_check_size⟩)
    (c_check_size : PySem.W.codeIn K cd_check_size "check_size" = true)
    (k_check_size : PySem.W.keepIn K (.ref f_check_size) = true)
    (a_ticks_of : PySem.W.nsIn K mainGlobals "ticks_of" = some (some (.ref f_ticks_of)))
    (l_ticks_of : K.lookup f_ticks_of = some ⟨oc_ticks_of, od_ticks_of, .func (PySem.W.fnOf "ticks_of" "ticks_of" (defArgs s_ticks_of) (defBody s_ticks_of) (defScope s_ticks_of) .none kV_ticks_of dc_ticks_of pm_ticks_of an_ticks_of cd_ticks_of ct_ticks_of), sl_ticks_of⟩)
    (c_ticks_of : PySem.W.codeIn K cd_ticks_of "ticks_of" = true)
    (k_ticks_of : PySem.W.keepIn K (.ref f_ticks_of) = true)
    (a_open_pair : PySem.W.nsIn K mainGlobals "open_pair" = some (some (.ref f_open_pair)))
    (l_open_pair : K.lookup f_open_pair = some ⟨oc_open_pair, od_open_pair, .func (PySem.W.fnOf "open_pair" "open_pair" (defArgs s_open_pair) (defBody s_open_pair) (defScope s_open_pair) .none kV_open_pair dc_open_pair pm_open_pair an_open_pair cd_open_pair ct_open_pair), sl_open_pair⟩)
    (c_open_pair : PySem.W.codeIn K cd_open_pair "open_pair" = true)
    (k_open_pair : PySem.W.keepIn K (.ref f_open_pair) = true)
    (a_open_times : PySem.W.nsIn K mainGlobals "open_times" = some (some (.ref f_open_times)))
    (l_open_times : K.lookup f_open_times = some ⟨oc_open_times, od_open_times, .func (PySem.W.fnOf "open_times" "open_times" (defArgs s_open_times) (defBody s_open_times) (defScope s_open_times) .none kV_open_times dc_open_times pm_open_times an_open_times cd_open_times ct_open_times), sl_open_times⟩)
    (c_open_times : PySem.W.codeIn K cd_open_times "open_times" = true)
    (k_open_times : PySem.W.keepIn K (.ref f_open_times) = true)
    (a_open_map : PySem.W.nsIn K mainGlobals "open_map" = some (some (.ref f_open_map)))
    (l_open_map : K.lookup f_open_map = some ⟨oc_open_map, od_open_map, .func (PySem.W.fnOf "open_map" "open_map" (defArgs s_open_map) (defBody s_open_map) (defScope s_open_map) .none kV_open_map dc_open_map pm_open_map an_open_map cd_open_map ct_open_map), sl_open_map⟩)
    (c_open_map : PySem.W.codeIn K cd_open_map "open_map" = true)
    (k_open_map : PySem.W.keepIn K (.ref f_open_map) = true)
    (a_picture : PySem.W.nsIn K mainGlobals "picture" = some (some (.ref f_picture)))
    (l_picture : K.lookup f_picture = some ⟨oc_picture, od_picture, .func (PySem.W.fnOf "picture" "picture" (defArgs s_picture) (defBody s_picture) (defScope s_picture) .none kV_picture dc_picture pm_picture an_picture cd_picture ct_picture), sl_picture⟩)
    (c_picture : PySem.W.codeIn K cd_picture "picture" = true)
    (k_picture : PySem.W.keepIn K (.ref f_picture) = true)
    (a_deed_of : PySem.W.nsIn K mainGlobals "deed_of" = some (some (.ref f_deed_of)))
    (l_deed_of : K.lookup f_deed_of = some ⟨oc_deed_of, od_deed_of, .func (PySem.W.fnOf "deed_of" "deed_of" (defArgs s_deed_of) (defBody s_deed_of) (defScope s_deed_of) .none kV_deed_of dc_deed_of pm_deed_of an_deed_of cd_deed_of ct_deed_of), sl_deed_of⟩)
    (c_deed_of : PySem.W.codeIn K cd_deed_of "deed_of" = true)
    (k_deed_of : PySem.W.keepIn K (.ref f_deed_of) = true)
    (a_worded_rows : PySem.W.nsIn K mainGlobals "worded_rows" = some (some (.ref f_worded_rows)))
    (l_worded_rows : K.lookup f_worded_rows = some ⟨oc_worded_rows, od_worded_rows, .func (PySem.W.fnOf "worded_rows" "worded_rows" (defArgs s_worded_rows) (defBody s_worded_rows) (defScope s_worded_rows) .none kV_worded_rows dc_worded_rows pm_worded_rows an_worded_rows cd_worded_rows ct_worded_rows), sl_worded_rows⟩)
    (c_worded_rows : PySem.W.codeIn K cd_worded_rows "worded_rows" = true)
    (k_worded_rows : PySem.W.keepIn K (.ref f_worded_rows) = true)
    (a_number_of : PySem.W.nsIn K mainGlobals "number_of" = some (some (.ref f_number_of)))
    (l_number_of : K.lookup f_number_of = some ⟨oc_number_of, od_number_of, .func (PySem.W.fnOf "number_of" "number_of" (defArgs s_number_of) (defBody s_number_of) (defScope s_number_of) .none kV_number_of dc_number_of pm_number_of an_number_of cd_number_of ct_number_of), sl_number_of⟩)
    (c_number_of : PySem.W.codeIn K cd_number_of "number_of" = true)
    (k_number_of : PySem.W.keepIn K (.ref f_number_of) = true)
    (a_wrong_cell : PySem.W.nsIn K mainGlobals "wrong_cell" = some (some (.ref f_wrong_cell)))
    (l_wrong_cell : K.lookup f_wrong_cell = some ⟨oc_wrong_cell, od_wrong_cell, .func (PySem.W.fnOf "wrong_cell" "wrong_cell" (defArgs s_wrong_cell) (defBody s_wrong_cell) (defScope s_wrong_cell) .none kV_wrong_cell dc_wrong_cell pm_wrong_cell an_wrong_cell cd_wrong_cell ct_wrong_cell), sl_wrong_cell⟩)
    (c_wrong_cell : PySem.W.codeIn K cd_wrong_cell "wrong_cell" = true)
    (k_wrong_cell : PySem.W.keepIn K (.ref f_wrong_cell) = true)
    (a_wrong_word : PySem.W.nsIn K mainGlobals "wrong_word" = some (some (.ref f_wrong_word)))
    (l_wrong_word : K.lookup f_wrong_word = some ⟨oc_wrong_word, od_wrong_word, .func (PySem.W.fnOf "wrong_word" "wrong_word" (defArgs s_wrong_word) (defBody s_wrong_word) (defScope s_wrong_word) .none kV_wrong_word dc_wrong_word pm_wrong_word an_wrong_word cd_wrong_word ct_wrong_word), sl_wrong_word⟩)
    (c_wrong_word : PySem.W.codeIn K cd_wrong_word "wrong_word" = true)
    (k_wrong_word : PySem.W.keepIn K (.ref f_wrong_word) = true)
    (a_read_recipe : PySem.W.nsIn K mainGlobals "read_recipe" = some (some (.ref f_read_recipe)))
    (l_read_recipe : K.lookup f_read_recipe = some ⟨oc_read_recipe, od_read_recipe, .func (PySem.W.fnOf "read_recipe" "read_recipe" (defArgs s_read_recipe) (defBody s_read_recipe) (defScope s_read_recipe) .none kV_read_recipe dc_read_recipe pm_read_recipe an_read_recipe cd_read_recipe ct_read_recipe), sl_read_recipe⟩)
    (c_read_recipe : PySem.W.codeIn K cd_read_recipe "read_recipe" = true)
    (k_read_recipe : PySem.W.keepIn K (.ref f_read_recipe) = true)
    (a_deed_text : PySem.W.nsIn K mainGlobals "deed_text" = some (some (.ref f_deed_text)))
    (l_deed_text : K.lookup f_deed_text = some ⟨oc_deed_text, od_deed_text, .func (PySem.W.fnOf "deed_text" "deed_text" (defArgs s_deed_text) (defBody s_deed_text) (defScope s_deed_text) .none kV_deed_text dc_deed_text pm_deed_text an_deed_text cd_deed_text ct_deed_text), sl_deed_text⟩)
    (c_deed_text : PySem.W.codeIn K cd_deed_text "deed_text" = true)
    (k_deed_text : PySem.W.keepIn K (.ref f_deed_text) = true)
    (a_recipe_text : PySem.W.nsIn K mainGlobals "recipe_text" = some (some (.ref f_recipe_text)))
    (l_recipe_text : K.lookup f_recipe_text = some ⟨oc_recipe_text, od_recipe_text, .func (PySem.W.fnOf "recipe_text" "recipe_text" (defArgs s_recipe_text) (defBody s_recipe_text) (defScope s_recipe_text) .none kV_recipe_text dc_recipe_text pm_recipe_text an_recipe_text cd_recipe_text ct_recipe_text), sl_recipe_text⟩)
    (c_recipe_text : PySem.W.codeIn K cd_recipe_text "recipe_text" = true)
    (k_recipe_text : PySem.W.keepIn K (.ref f_recipe_text) = true)
    (a_law : PySem.W.nsIn K mainGlobals "law" = some (some (.ref f_law)))
    (l_law : K.lookup f_law = some ⟨oc_law, od_law, .func (PySem.W.fnOf "law" "law" (defArgs s_law) (defBody s_law) (defScope s_law) .none kV_law dc_law pm_law an_law cd_law ct_law), sl_law⟩)
    (c_law : PySem.W.codeIn K cd_law "law" = true)
    (k_law : PySem.W.keepIn K (.ref f_law) = true) :
    ∃ fd : FuncData, (∀ (s : Shared) (v : Value), BindsTo s fd ⟨[v], []⟩ [("_law_script", v)]) ∧ ∀ base : Heap, K.In base → base.Ns mainGlobals mg → FnOk l.prog w K mg base (CX l.prog w) 8 fa fd ["_law_script"] (spA K M_law) := by
  have e := hfa.symm.trans (PySem.W.mg_of X G a_law)
  cases e
  let cls : Nat → Option Addr := fun c => List.lookup c [(0, C_Negative), (117, C_InvalidLine), (101, C_InvalidNegative), (103, C_InvalidRecipe), (102, C_InvalidSize)]
  have F_Negativedd__lendd_ := fun_mk (st := s_Negativedd__lendd_) l_Negativedd__lendd_ c_Negativedd__lendd_ k_Negativedd__lendd_
  have F_is_number := fun_mk (st := s_is_number) l_is_number c_is_number k_is_number
  have F_wrong_side := fun_mk (st := s_wrong_side) l_wrong_side c_wrong_side k_wrong_side
  have F_wrong_part := fun_mk (st := s_wrong_part) l_wrong_part c_wrong_part k_wrong_part
  have F_Negativedd__initdd_ := fun_mk (st := s_Negativedd__initdd_) l_Negativedd__initdd_ c_Negativedd__initdd_ k_Negativedd__initdd_
  have F_Negative_densities := fun_mk (st := s_Negative_densities) l_Negative_densities c_Negative_densities k_Negative_densities
  have F_Negative_height := fun_mk (st := s_Negative_height) l_Negative_height c_Negative_height k_Negative_height
  have F_Negative_width := fun_mk (st := s_Negative_width) l_Negative_width c_Negative_width k_Negative_width
  have F_l_taken := fun_mk (st := s_l_taken) l_l_taken c_l_taken k_l_taken
  have F_l_negative := fun_mk (st := s_l_negative) l_l_negative c_l_negative k_l_negative
  have F_l_open := fun_mk (st := s_l_open) l_l_open c_l_open k_l_open
  have F_l_deed := fun_mk (st := s_l_deed) l_l_deed c_l_deed k_l_deed
  have F_l_recipe := fun_mk (st := s_l_recipe) l_l_recipe c_l_recipe k_l_recipe
  have F_l_words := fun_mk (st := s_l_words) l_l_words c_l_words k_l_words
  have F_in_rows := fun_mk (st := s_in_rows) l_in_rows c_in_rows k_in_rows
  have F_ascends := fun_mk (st := s_ascends) l_ascends c_ascends k_ascends
  have F_is_mask := fun_mk (st := s_is_mask) l_is_mask c_is_mask k_is_mask
  have F_is_deed := fun_mk (st := s_is_deed) l_is_deed c_is_deed k_is_deed
  have F_check_recipe := fun_mk (st := s_check_recipe) l_check_recipe c_check_recipe k_check_recipe
  have F_check_size := fun_mk (st := s_check_size) l_check_size c_check_size k_check_size
  have F_ticks_of := fun_mk (st := s_ticks_of) l_ticks_of c_ticks_of k_ticks_of
  have F_open_pair := fun_mk (st := s_open_pair) l_open_pair c_open_pair k_open_pair
  have F_open_times := fun_mk (st := s_open_times) l_open_times c_open_times k_open_times
  have F_open_map := fun_mk (st := s_open_map) l_open_map c_open_map k_open_map
  have F_picture := fun_mk (st := s_picture) l_picture c_picture k_picture
  have F_deed_of := fun_mk (st := s_deed_of) l_deed_of c_deed_of k_deed_of
  have F_worded_rows := fun_mk (st := s_worded_rows) l_worded_rows c_worded_rows k_worded_rows
  have F_number_of := fun_mk (st := s_number_of) l_number_of c_number_of k_number_of
  have F_wrong_cell := fun_mk (st := s_wrong_cell) l_wrong_cell c_wrong_cell k_wrong_cell
  have F_wrong_word := fun_mk (st := s_wrong_word) l_wrong_word c_wrong_word k_wrong_word
  have F_read_recipe := fun_mk (st := s_read_recipe) l_read_recipe c_read_recipe k_read_recipe
  have F_deed_text := fun_mk (st := s_deed_text) l_deed_text c_deed_text k_deed_text
  have F_recipe_text := fun_mk (st := s_recipe_text) l_recipe_text c_recipe_text k_recipe_text
  have F_law := fun_mk (st := s_law) l_law c_law k_law
  have b_Negativedd__lendd_ := F_Negativedd__lendd_.binds (ps := ["self"]) fun _ _ _ _ _ _ us hl => match us, hl with | [_], _ => rfl
  have b_is_number := F_is_number.binds (ps := ["value", "least", "most"]) fun _ _ _ _ _ _ us hl => match us, hl with | [_, _, _], _ => rfl
  have b_wrong_side := F_wrong_side.binds (ps := ["width", "height"]) fun _ _ _ _ _ _ us hl => match us, hl with | [_, _], _ => rfl
  have b_wrong_part := F_wrong_part.binds (ps := ["width", "height", "densities"]) fun _ _ _ _ _ _ us hl => match us, hl with | [_, _, _], _ => rfl
  have b_Negativedd__initdd_ := F_Negativedd__initdd_.binds (ps := ["self", "width", "height", "densities"]) fun _ _ _ _ _ _ us hl => match us, hl with | [_, _, _, _], _ => rfl
  have b_Negative_densities := F_Negative_densities.binds (ps := ["self"]) fun _ _ _ _ _ _ us hl => match us, hl with | [_], _ => rfl
  have b_Negative_height := F_Negative_height.binds (ps := ["self"]) fun _ _ _ _ _ _ us hl => match us, hl with | [_], _ => rfl
  have b_Negative_width := F_Negative_width.binds (ps := ["self"]) fun _ _ _ _ _ _ us hl => match us, hl with | [_], _ => rfl
  have b_l_taken := F_l_taken.binds (ps := ["_law_row", "_law_many"]) fun _ _ _ _ _ _ us hl => match us, hl with | [_, _], _ => rfl
  have b_l_negative := F_l_negative.binds (ps := ["_law_row", "_law_most"]) fun _ _ _ _ _ _ us hl => match us, hl with | [_, _], _ => rfl
  have b_l_open := F_l_open.binds (ps := ["_law_negative_here", "_law_deed_here"]) fun _ _ _ _ _ _ us hl => match us, hl with | [_, _], _ => rfl
  have b_l_deed := F_l_deed.binds (ps := ["_law_row", "_law_negative_here"]) fun _ _ _ _ _ _ us hl => match us, hl with | [_, _], _ => rfl
  have b_l_recipe := F_l_recipe.binds (ps := ["_law_row", "_law_negative_here", "_law_most"]) fun _ _ _ _ _ _ us hl => match us, hl with | [_, _, _], _ => rfl
  have b_l_words := F_l_words.binds (ps := ["_law_deed_here"]) fun _ _ _ _ _ _ us hl => match us, hl with | [_], _ => rfl
  have b_in_rows := F_in_rows.binds (ps := ["items", "width"]) fun _ _ _ _ _ _ us hl => match us, hl with | [_, _], _ => rfl
  have b_ascends := F_ascends.binds (ps := ["values", "least", "most"]) fun _ _ _ _ _ _ us hl => match us, hl with | [_, _, _], _ => rfl
  have b_is_mask := F_is_mask.binds (ps := ["covered", "cells"]) fun _ _ _ _ _ _ us hl => match us, hl with | [_, _], _ => rfl
  have b_is_deed := F_is_deed.binds (ps := ["deed", "cells"]) fun _ _ _ _ _ _ us hl => match us, hl with | [_, _], _ => rfl
  have b_check_recipe := F_check_recipe.binds (ps := ["recipe", "cells"]) fun _ _ _ _ _ _ us hl => match us, hl with | [_, _], _ => rfl
  have b_check_size := F_check_size.binds (ps := ["width", "height"]) fun _ _ _ _ _ _ us hl => match us, hl with | [_, _], _ => rfl
  have b_ticks_of := F_ticks_of.binds (ps := ["deed", "width", "cell"]) fun _ _ _ _ _ _ us hl => match us, hl with | [_, _, _], _ => rfl
  have b_open_pair := F_open_pair.binds (ps := ["width", "recipe", "cell"]) fun _ _ _ _ _ _ us hl => match us, hl with | [_, _, _], _ => rfl
  have b_open_times := F_open_times.binds (ps := ["width", "height", "recipe"]) fun _ _ _ _ _ _ us hl => match us, hl with | [_, _, _], _ => rfl
  have b_open_map := F_open_map.binds (ps := ["width", "height", "recipe"]) fun _ _ _ _ _ _ us hl => match us, hl with | [_, _, _], _ => rfl
  have b_picture := F_picture.binds (ps := ["negative"]) fun _ _ _ _ _ _ us hl => match us, hl with | [_], _ => rfl
  have b_deed_of := F_deed_of.binds (ps := ["words"]) fun _ _ _ _ _ _ us hl => match us, hl with | [_], _ => rfl
  have b_worded_rows := F_worded_rows.binds (ps := ["text"]) fun _ _ _ _ _ _ us hl => match us, hl with | [_], _ => rfl
  have b_number_of := F_number_of.binds (ps := ["word"]) fun _ _ _ _ _ _ us hl => match us, hl with | [_], _ => rfl
  have b_wrong_cell := F_wrong_cell.binds (ps := ["words", "first", "cells"]) fun _ _ _ _ _ _ us hl => match us, hl with | [_, _, _], _ => rfl
  have b_wrong_word := F_wrong_word.binds (ps := ["words", "cells"]) fun _ _ _ _ _ _ us hl => match us, hl with | [_, _], _ => rfl
  have b_read_recipe := F_read_recipe.binds (ps := ["negative", "text"]) fun _ _ _ _ _ _ us hl => match us, hl with | [_, _], _ => rfl
  have b_deed_text := F_deed_text.binds (ps := ["deed"]) fun _ _ _ _ _ _ us hl => match us, hl with | [_], _ => rfl
  have b_recipe_text := F_recipe_text.binds (ps := ["recipe"]) fun _ _ _ _ _ _ us hl => match us, hl with | [_], _ => rfl
  have T : Tx l.prog w K cls mg C_Negative C_InvalidLine C_InvalidNegative C_InvalidRecipe C_InvalidSize := {
    n_all := PySem.W.mg_none_of X G n_all
    n_bool := PySem.W.mg_none_of X G n_bool
    n_enumerate := PySem.W.mg_none_of X G n_enumerate
    n_int := PySem.W.mg_none_of X G n_int
    n_isinstance := PySem.W.mg_none_of X G n_isinstance
    n_len := PySem.W.mg_none_of X G n_len
    n_list := PySem.W.mg_none_of X G n_list
    n_max := PySem.W.mg_none_of X G n_max
    n_range := PySem.W.mg_none_of X G n_range
    n_str := PySem.W.mg_none_of X G n_str
    n_tuple := PySem.W.mg_none_of X G n_tuple
    c_DENSITIES := gv_str X G g_DENSITIES
    c_FLIP := gv_tup (vs := [.str (PySem.Str.ofString "flip")]) X G g_FLIP gl_FLIP (by show 1 ≤ 1000000; decide) (.cons ⟨t_FLIP_0, rfl⟩ (.nil)) (fun w => .cons (by show V.str _ = V.str ⟨(PySem.Str.ofString _).cps.toList.toArray⟩; rw [Array.toArray_toList]) (.nil))
    c_LONGEST_NUMBER := gv_int X G g_LONGEST_NUMBER
    c_MOST_CELLS := gv_int X G g_MOST_CELLS
    c_MOST_DEEDS := gv_int X G g_MOST_DEEDS
    c_MOST_SIDE := gv_int X G g_MOST_SIDE
    c_MOST_TICKS := gv_int X G g_MOST_TICKS
    d_TIMES := kdi_mk X G g_TIMES gl_TIMES ⟨⟨_, _, rfl, dh_TIMES_0⟩, ⟨_, _, rfl, dh_TIMES_1⟩, ⟨_, _, rfl, dh_TIMES_2⟩, trivial⟩ ds_TIMES (ent_cons (ent_cons (ent_cons (trivial))))
    k_Negative := ⟨by rfl, ⟨pg_Negative, hd_Negative, po_Negative, sa_Negative⟩⟩
    m_Negative := PySem.W.mg_of X G aC_Negative
    f_Negative_columns := nf_Negative_columns
    f_Negative_figures := nf_Negative_figures
    f_Negative_lines := nf_Negative_lines
    e_InvalidSize := ⟨⟨⟨by decide, by rfl⟩, PySem.W.mg_of X G aC_InvalidSize, kc_InvalidSize, sb_InvalidSize, ty_InvalidSize⟩, xi_InvalidSize⟩
    q_InvalidLine := ⟨⟨by decide, by rfl⟩, PySem.W.mg_of X G aC_InvalidLine, kc_InvalidLine, sb_InvalidLine, ty_InvalidLine⟩
    q_InvalidNegative := ⟨⟨by decide, by rfl⟩, PySem.W.mg_of X G aC_InvalidNegative, kc_InvalidNegative, sb_InvalidNegative, ty_InvalidNegative⟩
    q_InvalidRecipe := ⟨⟨by decide, by rfl⟩, PySem.W.mg_of X G aC_InvalidRecipe, kc_InvalidRecipe, sb_InvalidRecipe, ty_InvalidRecipe⟩
  }
  refine ⟨PySem.W.fnOf "law" "law" (defArgs s_law) (defBody s_law) (defScope s_law) .none kV_law dc_law pm_law an_law cd_law ct_law, fun s v => .of_eq rfl, fun base hb1 hb2 => ?_⟩
  have I_InvalidLine : EkI2 l.prog w K cls mg base 1 "InvalidLine" 117 C_InvalidLine "row" "word" := eki2_mk (st := si_InvalidLine) ⟨by decide, by rfl⟩ (PySem.W.mg_of X G aC_InvalidLine) kc_InvalidLine sb_InvalidLine ty_InvalidLine lo_InvalidLine rf_InvalidLine sa_InvalidLine ia_InvalidLine it_InvalidLine li_InvalidLine ci_InvalidLine sv_InvalidLine mr_InvalidLine su_InvalidLine lk_InvalidLine vf_InvalidLine ff_InvalidLine lc_InvalidLine nf_InvalidLine nf2_InvalidLine any_ (PySem.W.mg_none_of X G n_super) tp_super rfl rfl (by decide +kernel) rfl (by decide +kernel) (by decide +kernel) (by decide +kernel) (fun _ => rfl) (fun us hl => match us, hl with | [_, _, _], _ => rfl)
  have I_InvalidNegative : EkI l.prog w K cls mg base 1 "InvalidNegative" 101 C_InvalidNegative "part" := eki_mk (st := si_InvalidNegative) ⟨by decide, by rfl⟩ (PySem.W.mg_of X G aC_InvalidNegative) kc_InvalidNegative sb_InvalidNegative ty_InvalidNegative lo_InvalidNegative rf_InvalidNegative sa_InvalidNegative ia_InvalidNegative it_InvalidNegative li_InvalidNegative ci_InvalidNegative sv_InvalidNegative mr_InvalidNegative su_InvalidNegative lk_InvalidNegative vf_InvalidNegative ff_InvalidNegative lc_InvalidNegative nf_InvalidNegative any_ (PySem.W.mg_none_of X G n_super) tp_super rfl rfl (by decide +kernel) rfl (by decide +kernel) (by decide +kernel) (fun _ => rfl) (fun us hl => match us, hl with | [_, _], _ => rfl)
  have I_InvalidRecipe : EkI l.prog w K cls mg base 1 "InvalidRecipe" 103 C_InvalidRecipe "index" := eki_mk (st := si_InvalidRecipe) ⟨by decide, by rfl⟩ (PySem.W.mg_of X G aC_InvalidRecipe) kc_InvalidRecipe sb_InvalidRecipe ty_InvalidRecipe lo_InvalidRecipe rf_InvalidRecipe sa_InvalidRecipe ia_InvalidRecipe it_InvalidRecipe li_InvalidRecipe ci_InvalidRecipe sv_InvalidRecipe mr_InvalidRecipe su_InvalidRecipe lk_InvalidRecipe vf_InvalidRecipe ff_InvalidRecipe lc_InvalidRecipe nf_InvalidRecipe any_ (PySem.W.mg_none_of X G n_super) tp_super rfl rfl (by decide +kernel) rfl (by decide +kernel) (by decide +kernel) (fun _ => rfl) (fun us hl => match us, hl with | [_, _], _ => rfl)
  have g_Negativedd__lendd_ := dm_Negativedd__lendd_ (base := base) F_Negativedd__lendd_ b_Negativedd__lendd_ T 
  have G_is_number := df_is_number (base := base) F_is_number b_is_number (PySem.W.mg_of X G a_is_number) T 
  have G_wrong_side := df_wrong_side (base := base) F_wrong_side b_wrong_side (PySem.W.mg_of X G a_wrong_side) T G_is_number
  have G_wrong_part := df_wrong_part (base := base) F_wrong_part b_wrong_part (PySem.W.mg_of X G a_wrong_part) T G_wrong_side g_Negativedd__lendd_ a_Negativedd__lendd_ i_Negativedd__lendd_
  have g_Negativedd__initdd_ := dm_Negativedd__initdd_ (base := base) F_Negativedd__initdd_ b_Negativedd__initdd_ T G_wrong_part I_InvalidNegative
  have g_Negative_densities := dm_Negative_densities (base := base) F_Negative_densities b_Negative_densities T 
  have g_Negative_height := dm_Negative_height (base := base) F_Negative_height b_Negative_height T 
  have g_Negative_width := dm_Negative_width (base := base) F_Negative_width b_Negative_width T 
  have G_l_taken := df_l_taken (base := base) F_l_taken b_l_taken (PySem.W.mg_of X G a_l_taken) T  g_Negativedd__lendd_ a_Negativedd__lendd_ i_Negativedd__lendd_
  have G_l_negative := df_l_negative (base := base) F_l_negative b_l_negative (PySem.W.mg_of X G a_l_negative) T G_l_taken g_Negativedd__initdd_ ⟨mk_Negative, a_Negativedd__initdd_, i_Negativedd__initdd_, kc_Negative⟩
  have G_l_open := df_l_open (base := base) F_l_open b_l_open (PySem.W.mg_of X G a_l_open) T  g_Negativedd__lendd_ a_Negativedd__lendd_ i_Negativedd__lendd_ g_Negative_width ⟨a_Negative_width, pg_Negative_width, pt_Negative_width, _, pr_Negative_width⟩
  have G_l_deed := df_l_deed (base := base) F_l_deed b_l_deed (PySem.W.mg_of X G a_l_deed) T G_l_taken g_Negativedd__lendd_ a_Negativedd__lendd_ i_Negativedd__lendd_
  have G_l_recipe := df_l_recipe (base := base) F_l_recipe b_l_recipe (PySem.W.mg_of X G a_l_recipe) T G_l_deed G_l_taken
  have G_l_words := df_l_words (base := base) F_l_words b_l_words (PySem.W.mg_of X G a_l_words) T 
  have G_in_rows := df_in_rows (base := base) F_in_rows b_in_rows (PySem.W.mg_of X G a_in_rows) T  g_Negativedd__lendd_ a_Negativedd__lendd_ i_Negativedd__lendd_
  have G_ascends := df_ascends (base := base) F_ascends b_ascends (PySem.W.mg_of X G a_ascends) T G_is_number
  have G_is_mask := df_is_mask (base := base) F_is_mask b_is_mask (PySem.W.mg_of X G a_is_mask) T G_ascends
  have G_is_deed := df_is_deed (base := base) F_is_deed b_is_deed (PySem.W.mg_of X G a_is_deed) T G_is_mask G_is_number g_Negativedd__lendd_ a_Negativedd__lendd_ i_Negativedd__lendd_
  have G_check_recipe := df_check_recipe (base := base) F_check_recipe b_check_recipe (PySem.W.mg_of X G a_check_recipe) T G_is_deed I_InvalidRecipe
  have G_check_size := df_check_size (base := base) F_check_size b_check_size (PySem.W.mg_of X G a_check_size) T G_wrong_side
  have G_ticks_of := df_ticks_of (base := base) F_ticks_of b_ticks_of (PySem.W.mg_of X G a_ticks_of) T 
  have G_open_pair := df_open_pair (base := base) F_open_pair b_open_pair (PySem.W.mg_of X G a_open_pair) T G_ticks_of
  have G_open_times := df_open_times (base := base) F_open_times b_open_times (PySem.W.mg_of X G a_open_times) T G_check_recipe G_check_size G_open_pair
  have G_open_map := df_open_map (base := base) F_open_map b_open_map (PySem.W.mg_of X G a_open_map) T G_in_rows G_open_times
  have G_picture := df_picture (base := base) F_picture b_picture (PySem.W.mg_of X G a_picture) T G_in_rows g_Negative_densities ⟨a_Negative_densities, pg_Negative_densities, pt_Negative_densities, _, pr_Negative_densities⟩ g_Negative_width ⟨a_Negative_width, pg_Negative_width, pt_Negative_width, _, pr_Negative_width⟩
  have G_deed_of := df_deed_of (base := base) F_deed_of b_deed_of (PySem.W.mg_of X G a_deed_of) T 
  have G_worded_rows := df_worded_rows (base := base) F_worded_rows b_worded_rows (PySem.W.mg_of X G a_worded_rows) T 
  have G_number_of := df_number_of (base := base) F_number_of b_number_of (PySem.W.mg_of X G a_number_of) T  g_Negativedd__lendd_ a_Negativedd__lendd_ i_Negativedd__lendd_
  have G_wrong_cell := df_wrong_cell (base := base) F_wrong_cell b_wrong_cell (PySem.W.mg_of X G a_wrong_cell) T G_is_number G_number_of g_Negativedd__lendd_ a_Negativedd__lendd_ i_Negativedd__lendd_
  have G_wrong_word := df_wrong_word (base := base) F_wrong_word b_wrong_word (PySem.W.mg_of X G a_wrong_word) T G_is_number G_number_of G_wrong_cell g_Negativedd__lendd_ a_Negativedd__lendd_ i_Negativedd__lendd_
  have G_read_recipe := df_read_recipe (base := base) F_read_recipe b_read_recipe (PySem.W.mg_of X G a_read_recipe) T G_deed_of G_worded_rows G_wrong_word g_Negativedd__lendd_ a_Negativedd__lendd_ i_Negativedd__lendd_ I_InvalidLine
  have G_deed_text := df_deed_text (base := base) F_deed_text b_deed_text (PySem.W.mg_of X G a_deed_text) T 
  have G_recipe_text := df_recipe_text (base := base) F_recipe_text b_recipe_text (PySem.W.mg_of X G a_recipe_text) T G_deed_text
  exact fn_any (fn_law F_law T G_l_negative G_l_open G_l_recipe G_l_words G_open_map G_picture G_read_recipe G_recipe_text g_Negativedd__initdd_ ⟨mk_Negative, a_Negativedd__initdd_, i_Negativedd__initdd_, kc_Negative⟩ g_Negativedd__lendd_ a_Negativedd__lendd_ i_Negativedd__lendd_ g_Negative_densities ⟨a_Negative_densities, pg_Negative_densities, pt_Negative_densities, _, pr_Negative_densities⟩ g_Negative_height ⟨a_Negative_height, pg_Negative_height, pt_Negative_height, _, pr_Negative_height⟩ g_Negative_width ⟨a_Negative_width, pg_Negative_width, pt_Negative_width, _, pr_Negative_width⟩) (no_tab (by rfl))
end K42
set_option Elab.async false
set_option maxRecDepth 100000
open PySem PySem.W PyProof.Rows
set_option maxHeartbeats 0 in
theorem PySem.Challenge.cw_maskedprints_k42_pictures_texts_and_maps_holds : PySem.Challenge.rw_maskedprints_k42_pictures_texts_and_maps.Holds := by
  w_on; o_law; k_head; (case hw => w_witness2)
  k_fill
  refine L2.walk_of (l := PySem.Challenge.rw_maskedprints_k42_pictures_texts_and_maps) (n := 63) (k := 8) (x := "_law_script") (CX := fun w => L2.CX PySem.Challenge.rw_maskedprints_k42_pictures_texts_and_maps.prog w) (sp := fun w => Fw.spA _ K42.M_law) rfl (by decide) rfl ⟨rfl, by decide, by decide⟩ (fun w h Y => PySem.W.kIn_of Y) ?F (fun w H a ns hl hO hS => Fw.law_spA (fun _ => K42.law_true) hl hO hS) (fun _ _ _ _ _ ⟨_, _, _, _, _, _, _, _, _, _, _, _, e⟩ => e)
  case F =>
    intro w mg fa h KX G hmg
    refine' K42.all_mk KX G hmg ?aC_Negative ?pg_Negative ?hd_Negative ?po_Negative ?sa_Negative ?mk_Negative ?kc_Negative ?nf_Negative_columns ?nf_Negative_figures ?nf_Negative_lines ?aC_InvalidLine ?kc_InvalidLine ?sb_InvalidLine ?ty_InvalidLine ?aC_InvalidNegative ?kc_InvalidNegative ?sb_InvalidNegative ?ty_InvalidNegative ?aC_InvalidRecipe ?kc_InvalidRecipe ?sb_InvalidRecipe ?ty_InvalidRecipe ?aC_InvalidSize ?kc_InvalidSize ?sb_InvalidSize ?ty_InvalidSize ?xi_InvalidSize ?any_ ?n_super ?tp_super ?lo_InvalidLine ?rf_InvalidLine ?sa_InvalidLine ?ia_InvalidLine ?it_InvalidLine ?li_InvalidLine ?ci_InvalidLine ?sv_InvalidLine ?mr_InvalidLine ?su_InvalidLine ?lk_InvalidLine ?vf_InvalidLine ?ff_InvalidLine ?lc_InvalidLine ?lo_InvalidNegative ?rf_InvalidNegative ?sa_InvalidNegative ?ia_InvalidNegative ?it_InvalidNegative ?li_InvalidNegative ?ci_InvalidNegative ?sv_InvalidNegative ?mr_InvalidNegative ?su_InvalidNegative ?lk_InvalidNegative ?vf_InvalidNegative ?ff_InvalidNegative ?lc_InvalidNegative ?lo_InvalidRecipe ?rf_InvalidRecipe ?sa_InvalidRecipe ?ia_InvalidRecipe ?it_InvalidRecipe ?li_InvalidRecipe ?ci_InvalidRecipe ?sv_InvalidRecipe ?mr_InvalidRecipe ?su_InvalidRecipe ?lk_InvalidRecipe ?vf_InvalidRecipe ?ff_InvalidRecipe ?lc_InvalidRecipe ?nf_InvalidLine ?nf2_InvalidLine ?nf_InvalidNegative ?nf_InvalidRecipe ?n_all ?n_bool ?n_enumerate ?n_int ?n_isinstance ?n_len ?n_list ?n_max ?n_range ?n_str ?n_tuple ?g_DENSITIES ?g_FLIP ?gl_FLIP ?g_LONGEST_NUMBER ?g_MOST_CELLS ?g_MOST_DEEDS ?g_MOST_SIDE ?g_MOST_TICKS ?g_TIMES ?gl_TIMES ?dh_TIMES_0 ?dh_TIMES_1 ?dh_TIMES_2 ?ds_TIMES ?a_Negativedd__lendd_ ?i_Negativedd__lendd_ ?l_Negativedd__lendd_ ?c_Negativedd__lendd_ ?k_Negativedd__lendd_ ?a_is_number ?l_is_number ?c_is_number ?k_is_number ?a_wrong_side ?l_wrong_side ?c_wrong_side ?k_wrong_side ?a_wrong_part ?l_wrong_part ?c_wrong_part ?k_wrong_part ?a_Negativedd__initdd_ ?i_Negativedd__initdd_ ?l_Negativedd__initdd_ ?c_Negativedd__initdd_ ?k_Negativedd__initdd_ ?a_Negative_densities ?pg_Negative_densities ?pt_Negative_densities ?pr_Negative_densities ?l_Negative_densities ?c_Negative_densities ?k_Negative_densities ?a_Negative_height ?pg_Negative_height ?pt_Negative_height ?pr_Negative_height ?l_Negative_height ?c_Negative_height ?k_Negative_height ?a_Negative_width ?pg_Negative_width ?pt_Negative_width ?pr_Negative_width ?l_Negative_width ?c_Negative_width ?k_Negative_width ?a_l_taken ?l_l_taken ?c_l_taken ?k_l_taken ?a_l_negative ?l_l_negative ?c_l_negative ?k_l_negative ?a_l_open ?l_l_open ?c_l_open ?k_l_open ?a_l_deed ?l_l_deed ?c_l_deed ?k_l_deed ?a_l_recipe ?l_l_recipe ?c_l_recipe ?k_l_recipe ?a_l_words ?l_l_words ?c_l_words ?k_l_words ?a_in_rows ?l_in_rows ?c_in_rows ?k_in_rows ?a_ascends ?l_ascends ?c_ascends ?k_ascends ?a_is_mask ?l_is_mask ?c_is_mask ?k_is_mask ?a_is_deed ?l_is_deed ?c_is_deed ?k_is_deed ?a_check_recipe ?l_check_recipe ?c_check_recipe ?k_check_recipe ?a_check_size ?l_check_size ?c_check_size ?k_check_size ?a_ticks_of ?l_ticks_of ?c_ticks_of ?k_ticks_of ?a_open_pair ?l_open_pair ?c_open_pair ?k_open_pair ?a_open_times ?l_open_times ?c_open_times ?k_open_times ?a_open_map ?l_open_map ?c_open_map ?k_open_map ?a_picture ?l_picture ?c_picture ?k_picture ?a_deed_of ?l_deed_of ?c_deed_of ?k_deed_of ?a_worded_rows ?l_worded_rows ?c_worded_rows ?k_worded_rows ?a_number_of ?l_number_of ?c_number_of ?k_number_of ?a_wrong_cell ?l_wrong_cell ?c_wrong_cell ?k_wrong_cell ?a_wrong_word ?l_wrong_word ?c_wrong_word ?k_wrong_word ?a_read_recipe ?l_read_recipe ?c_read_recipe ?k_read_recipe ?a_deed_text ?l_deed_text ?c_deed_text ?k_deed_text ?a_recipe_text ?l_recipe_text ?c_recipe_text ?k_recipe_text ?a_law ?l_law ?c_law ?k_law
    (case aC_Negative => k_is)
    (case pg_Negative => k_is)
    (case hd_Negative => k_is)
    (case po_Negative => k_is)
    (case sa_Negative => k_is)
    (case mk_Negative => k_is)
    (case kc_Negative => k_is)
    (case nf_Negative_columns => k_is)
    (case nf_Negative_figures => k_is)
    (case nf_Negative_lines => k_is)
    (case aC_InvalidLine => k_is)
    (case kc_InvalidLine => k_is)
    (case sb_InvalidLine => k_is)
    (case ty_InvalidLine => k_is)
    (case aC_InvalidNegative => k_is)
    (case kc_InvalidNegative => k_is)
    (case sb_InvalidNegative => k_is)
    (case ty_InvalidNegative => k_is)
    (case aC_InvalidRecipe => k_is)
    (case kc_InvalidRecipe => k_is)
    (case sb_InvalidRecipe => k_is)
    (case ty_InvalidRecipe => k_is)
    (case aC_InvalidSize => k_is)
    (case kc_InvalidSize => k_is)
    (case sb_InvalidSize => k_is)
    (case ty_InvalidSize => k_is)
    (case xi_InvalidSize => k_exc)
    (case any_ => k_is)
    (case n_super => k_is)
    (case tp_super => first | rfl | decide +kernel)
    (case lo_InvalidLine => k_is)
    (case rf_InvalidLine => first | rfl | decide +kernel)
    (case sa_InvalidLine => k_is)
    (case ia_InvalidLine => k_is)
    (case it_InvalidLine => k_is)
    (case li_InvalidLine => k_is)
    (case ci_InvalidLine => k_is)
    (case sv_InvalidLine => k_is)
    (case mr_InvalidLine => k_is)
    (case su_InvalidLine => ks_is)
    (case lk_InvalidLine => k_is)
    (case vf_InvalidLine => first | rfl | decide +kernel)
    (case ff_InvalidLine => first | rfl | decide +kernel)
    (case lc_InvalidLine => k_is)
    (case lo_InvalidNegative => k_is)
    (case rf_InvalidNegative => first | rfl | decide +kernel)
    (case sa_InvalidNegative => k_is)
    (case ia_InvalidNegative => k_is)
    (case it_InvalidNegative => k_is)
    (case li_InvalidNegative => k_is)
    (case ci_InvalidNegative => k_is)
    (case sv_InvalidNegative => k_is)
    (case mr_InvalidNegative => k_is)
    (case su_InvalidNegative => ks_is)
    (case lk_InvalidNegative => k_is)
    (case vf_InvalidNegative => first | rfl | decide +kernel)
    (case ff_InvalidNegative => first | rfl | decide +kernel)
    (case lc_InvalidNegative => k_is)
    (case lo_InvalidRecipe => k_is)
    (case rf_InvalidRecipe => first | rfl | decide +kernel)
    (case sa_InvalidRecipe => k_is)
    (case ia_InvalidRecipe => k_is)
    (case it_InvalidRecipe => k_is)
    (case li_InvalidRecipe => k_is)
    (case ci_InvalidRecipe => k_is)
    (case sv_InvalidRecipe => k_is)
    (case mr_InvalidRecipe => k_is)
    (case su_InvalidRecipe => ks_is)
    (case lk_InvalidRecipe => k_is)
    (case vf_InvalidRecipe => first | rfl | decide +kernel)
    (case ff_InvalidRecipe => first | rfl | decide +kernel)
    (case lc_InvalidRecipe => k_is)
    (case nf_InvalidLine => k_is)
    (case nf2_InvalidLine => k_is)
    (case nf_InvalidNegative => k_is)
    (case nf_InvalidRecipe => k_is)
    (case n_all => k_is)
    (case n_bool => k_is)
    (case n_enumerate => k_is)
    (case n_int => k_is)
    (case n_isinstance => k_is)
    (case n_len => k_is)
    (case n_list => k_is)
    (case n_max => k_is)
    (case n_range => k_is)
    (case n_str => k_is)
    (case n_tuple => k_is)
    (case g_DENSITIES => k_is)
    (case g_FLIP => k_is)
    (case gl_FLIP => k_is)
    (case g_LONGEST_NUMBER => k_is)
    (case g_MOST_CELLS => k_is)
    (case g_MOST_DEEDS => k_is)
    (case g_MOST_SIDE => k_is)
    (case g_MOST_TICKS => k_is)
    (case g_TIMES => k_is)
    (case gl_TIMES => k_is)
    (case dh_TIMES_0 => first | rfl | decide +kernel)
    (case dh_TIMES_1 => first | rfl | decide +kernel)
    (case dh_TIMES_2 => first | rfl | decide +kernel)
    (case ds_TIMES => first | rfl | decide +kernel)
    (case a_Negativedd__lendd_ => k_is)
    (case i_Negativedd__lendd_ => k_is)
    (case l_Negativedd__lendd_ => k_is)
    (case c_Negativedd__lendd_ => k_is)
    (case k_Negativedd__lendd_ => k_is)
    (case a_is_number => k_is)
    (case l_is_number => k_is)
    (case c_is_number => k_is)
    (case k_is_number => k_is)
    (case a_wrong_side => k_is)
    (case l_wrong_side => k_is)
    (case c_wrong_side => k_is)
    (case k_wrong_side => k_is)
    (case a_wrong_part => k_is)
    (case l_wrong_part => k_is)
    (case c_wrong_part => k_is)
    (case k_wrong_part => k_is)
    (case a_Negativedd__initdd_ => k_is)
    (case i_Negativedd__initdd_ => k_is)
    (case l_Negativedd__initdd_ => k_is)
    (case c_Negativedd__initdd_ => k_is)
    (case k_Negativedd__initdd_ => k_is)
    (case a_Negative_densities => k_is)
    (case pg_Negative_densities => k_is)
    (case pt_Negative_densities => k_is)
    (case pr_Negative_densities => k_is)
    (case l_Negative_densities => k_is)
    (case c_Negative_densities => k_is)
    (case k_Negative_densities => k_is)
    (case a_Negative_height => k_is)
    (case pg_Negative_height => k_is)
    (case pt_Negative_height => k_is)
    (case pr_Negative_height => k_is)
    (case l_Negative_height => k_is)
    (case c_Negative_height => k_is)
    (case k_Negative_height => k_is)
    (case a_Negative_width => k_is)
    (case pg_Negative_width => k_is)
    (case pt_Negative_width => k_is)
    (case pr_Negative_width => k_is)
    (case l_Negative_width => k_is)
    (case c_Negative_width => k_is)
    (case k_Negative_width => k_is)
    (case a_l_taken => k_is)
    (case l_l_taken => k_is)
    (case c_l_taken => k_is)
    (case k_l_taken => k_is)
    (case a_l_negative => k_is)
    (case l_l_negative => k_is)
    (case c_l_negative => k_is)
    (case k_l_negative => k_is)
    (case a_l_open => k_is)
    (case l_l_open => k_is)
    (case c_l_open => k_is)
    (case k_l_open => k_is)
    (case a_l_deed => k_is)
    (case l_l_deed => k_is)
    (case c_l_deed => k_is)
    (case k_l_deed => k_is)
    (case a_l_recipe => k_is)
    (case l_l_recipe => k_is)
    (case c_l_recipe => k_is)
    (case k_l_recipe => k_is)
    (case a_l_words => k_is)
    (case l_l_words => k_is)
    (case c_l_words => k_is)
    (case k_l_words => k_is)
    (case a_in_rows => k_is)
    (case l_in_rows => k_is)
    (case c_in_rows => k_is)
    (case k_in_rows => k_is)
    (case a_ascends => k_is)
    (case l_ascends => k_is)
    (case c_ascends => k_is)
    (case k_ascends => k_is)
    (case a_is_mask => k_is)
    (case l_is_mask => k_is)
    (case c_is_mask => k_is)
    (case k_is_mask => k_is)
    (case a_is_deed => k_is)
    (case l_is_deed => k_is)
    (case c_is_deed => k_is)
    (case k_is_deed => k_is)
    (case a_check_recipe => k_is)
    (case l_check_recipe => k_is)
    (case c_check_recipe => k_is)
    (case k_check_recipe => k_is)
    (case a_check_size => k_is)
    (case l_check_size => k_is)
    (case c_check_size => k_is)
    (case k_check_size => k_is)
    (case a_ticks_of => k_is)
    (case l_ticks_of => k_is)
    (case c_ticks_of => k_is)
    (case k_ticks_of => k_is)
    (case a_open_pair => k_is)
    (case l_open_pair => k_is)
    (case c_open_pair => k_is)
    (case k_open_pair => k_is)
    (case a_open_times => k_is)
    (case l_open_times => k_is)
    (case c_open_times => k_is)
    (case k_open_times => k_is)
    (case a_open_map => k_is)
    (case l_open_map => k_is)
    (case c_open_map => k_is)
    (case k_open_map => k_is)
    (case a_picture => k_is)
    (case l_picture => k_is)
    (case c_picture => k_is)
    (case k_picture => k_is)
    (case a_deed_of => k_is)
    (case l_deed_of => k_is)
    (case c_deed_of => k_is)
    (case k_deed_of => k_is)
    (case a_worded_rows => k_is)
    (case l_worded_rows => k_is)
    (case c_worded_rows => k_is)
    (case k_worded_rows => k_is)
    (case a_number_of => k_is)
    (case l_number_of => k_is)
    (case c_number_of => k_is)
    (case k_number_of => k_is)
    (case a_wrong_cell => k_is)
    (case l_wrong_cell => k_is)
    (case c_wrong_cell => k_is)
    (case k_wrong_cell => k_is)
    (case a_wrong_word => k_is)
    (case l_wrong_word => k_is)
    (case c_wrong_word => k_is)
    (case k_wrong_word => k_is)
    (case a_read_recipe => k_is)
    (case l_read_recipe => k_is)
    (case c_read_recipe => k_is)
    (case k_read_recipe => k_is)
    (case a_deed_text => k_is)
    (case l_deed_text => k_is)
    (case c_deed_text => k_is)
    (case k_deed_text => k_is)
    (case a_recipe_text => k_is)
    (case l_recipe_text => k_is)
    (case c_recipe_text => k_is)
    (case k_recipe_text => k_is)
    (case a_law => k_is)
    (case l_law => k_is)
    (case c_law => k_is)
    (case k_law => k_is)
