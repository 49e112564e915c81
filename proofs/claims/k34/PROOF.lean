import PyProof.Rows.All
import Wide.All
import OpenK.AllK
import Wide.FinOn
import HandS.ForMost
import HandS.Flow
import HandS.Exc
import HandS.ExcOwn
import HandS.TupAny
import HandS.Wide
import HandS.IsInst
import HandS.SortInts
import HandS.Conv
import HandS.Style
import HandS.RaiseMore
import HandS.Property
import HandS.WordsExc
import KE.GoesEnum
import HandS.Iter
import HandS.SetFor
import HandS.Strs
import KE.DataMinMax
import PyProof.ListStr
import PyProof.ZipIter
import PyProof.StrWalks
import HandS.RevRange
import PyProof.GenRules
import PyProof.ForAny
import HandS.GenList
import HandS.Deep
import HandS.WideBits
import HandS.TryMany
import HandS.TryOnly
import PySem.Challenge.RW_maskedprints_k34_recipes_again_and_again
set_option Elab.async false
set_option linter.all false
set_option maxRecDepth 100000
set_option autoImplicit false
/-! The plain reading: values as data, mutable lists and objects as numbered places. -/
namespace Fw
open PySem L2

inductive D where
  | non | bl (b : Bool) | int (i : Int) | str (s : List Nat) | tup (ds : List D) | lst (ds : List D)
  | flst (is : List Int) | obj (c : Nat) (ns : List Str) (ds : List D) | loc (n : Nat)
  | ptr (a : Addr) | dct (ks : List (Int ⊕ List Nat)) (ds : List D)
  deriving Inhabited

mutual
def D.deq : (x y : D) → Decidable (x = y)
  | .non, .non => Decidable.isTrue rfl
  | .ptr a, .ptr b => if h : a = b then Decidable.isTrue (by rw [h]) else Decidable.isFalse fun e => h (D.ptr.inj e)
  | .bl a, .bl b => if h : a = b then Decidable.isTrue (by rw [h]) else Decidable.isFalse fun e => h (D.bl.inj e)
  | .int a, .int b => if h : a = b then Decidable.isTrue (by rw [h]) else Decidable.isFalse fun e => h (D.int.inj e)
  | .str a, .str b => if h : a = b then Decidable.isTrue (by rw [h]) else Decidable.isFalse fun e => h (D.str.inj e)
  | .flst a, .flst b => if h : a = b then Decidable.isTrue (by rw [h]) else Decidable.isFalse fun e => h (D.flst.inj e)
  | .loc a, .loc b => if h : a = b then Decidable.isTrue (by rw [h]) else Decidable.isFalse fun e => h (D.loc.inj e)
  | .tup a, .tup b => match D.deqs a b with
    | Decidable.isTrue h => Decidable.isTrue (by rw [h])
    | Decidable.isFalse h => Decidable.isFalse fun e => h (D.tup.inj e)
  | .lst a, .lst b => match D.deqs a b with
    | Decidable.isTrue h => Decidable.isTrue (by rw [h])
    | Decidable.isFalse h => Decidable.isFalse fun e => h (D.lst.inj e)
  | .obj c ns a, .obj c' ns' b => if h : c = c' then if h2 : ns = ns' then match D.deqs a b with
      | Decidable.isTrue h3 => Decidable.isTrue (by rw [h, h2, h3])
      | Decidable.isFalse h3 => Decidable.isFalse fun e => h3 (D.obj.inj e).2.2
    else Decidable.isFalse fun e => h2 (D.obj.inj e).2.1
    else Decidable.isFalse fun e => h (D.obj.inj e).1
  | .dct ks a, .dct ks' b => if h2 : ks = ks' then match D.deqs a b with
      | Decidable.isTrue h3 => Decidable.isTrue (by rw [h2, h3])
      | Decidable.isFalse h3 => Decidable.isFalse fun e => h3 (D.dct.inj e).2
    else Decidable.isFalse fun e => h2 (D.dct.inj e).1
  | .non, .bl _ => Decidable.isFalse nofun | .non, .int _ => Decidable.isFalse nofun | .non, .str _ => Decidable.isFalse nofun | .non, .tup _ => Decidable.isFalse nofun | .non, .lst _ => Decidable.isFalse nofun | .non, .flst _ => Decidable.isFalse nofun | .non, .obj _ _ _ => Decidable.isFalse nofun | .non, .loc _ => Decidable.isFalse nofun | .non, .ptr _ => Decidable.isFalse nofun | .non, .dct _ _ => Decidable.isFalse nofun
  | .bl _, .non => Decidable.isFalse nofun | .bl _, .int _ => Decidable.isFalse nofun | .bl _, .str _ => Decidable.isFalse nofun | .bl _, .tup _ => Decidable.isFalse nofun | .bl _, .lst _ => Decidable.isFalse nofun | .bl _, .flst _ => Decidable.isFalse nofun | .bl _, .obj _ _ _ => Decidable.isFalse nofun | .bl _, .loc _ => Decidable.isFalse nofun | .bl _, .ptr _ => Decidable.isFalse nofun | .bl _, .dct _ _ => Decidable.isFalse nofun
  | .int _, .non => Decidable.isFalse nofun | .int _, .bl _ => Decidable.isFalse nofun | .int _, .str _ => Decidable.isFalse nofun | .int _, .tup _ => Decidable.isFalse nofun | .int _, .lst _ => Decidable.isFalse nofun | .int _, .flst _ => Decidable.isFalse nofun | .int _, .obj _ _ _ => Decidable.isFalse nofun | .int _, .loc _ => Decidable.isFalse nofun | .int _, .ptr _ => Decidable.isFalse nofun | .int _, .dct _ _ => Decidable.isFalse nofun
  | .str _, .non => Decidable.isFalse nofun | .str _, .bl _ => Decidable.isFalse nofun | .str _, .int _ => Decidable.isFalse nofun | .str _, .tup _ => Decidable.isFalse nofun | .str _, .lst _ => Decidable.isFalse nofun | .str _, .flst _ => Decidable.isFalse nofun | .str _, .obj _ _ _ => Decidable.isFalse nofun | .str _, .loc _ => Decidable.isFalse nofun | .str _, .ptr _ => Decidable.isFalse nofun | .str _, .dct _ _ => Decidable.isFalse nofun
  | .tup _, .non => Decidable.isFalse nofun | .tup _, .bl _ => Decidable.isFalse nofun | .tup _, .int _ => Decidable.isFalse nofun | .tup _, .str _ => Decidable.isFalse nofun | .tup _, .lst _ => Decidable.isFalse nofun | .tup _, .flst _ => Decidable.isFalse nofun | .tup _, .obj _ _ _ => Decidable.isFalse nofun | .tup _, .loc _ => Decidable.isFalse nofun | .tup _, .ptr _ => Decidable.isFalse nofun | .tup _, .dct _ _ => Decidable.isFalse nofun
  | .lst _, .non => Decidable.isFalse nofun | .lst _, .bl _ => Decidable.isFalse nofun | .lst _, .int _ => Decidable.isFalse nofun | .lst _, .str _ => Decidable.isFalse nofun | .lst _, .tup _ => Decidable.isFalse nofun | .lst _, .flst _ => Decidable.isFalse nofun | .lst _, .obj _ _ _ => Decidable.isFalse nofun | .lst _, .loc _ => Decidable.isFalse nofun | .lst _, .ptr _ => Decidable.isFalse nofun | .lst _, .dct _ _ => Decidable.isFalse nofun
  | .flst _, .non => Decidable.isFalse nofun | .flst _, .bl _ => Decidable.isFalse nofun | .flst _, .int _ => Decidable.isFalse nofun | .flst _, .str _ => Decidable.isFalse nofun | .flst _, .tup _ => Decidable.isFalse nofun | .flst _, .lst _ => Decidable.isFalse nofun | .flst _, .obj _ _ _ => Decidable.isFalse nofun | .flst _, .loc _ => Decidable.isFalse nofun | .flst _, .ptr _ => Decidable.isFalse nofun | .flst _, .dct _ _ => Decidable.isFalse nofun
  | .obj _ _ _, .non => Decidable.isFalse nofun | .obj _ _ _, .bl _ => Decidable.isFalse nofun | .obj _ _ _, .int _ => Decidable.isFalse nofun | .obj _ _ _, .str _ => Decidable.isFalse nofun | .obj _ _ _, .tup _ => Decidable.isFalse nofun | .obj _ _ _, .lst _ => Decidable.isFalse nofun | .obj _ _ _, .flst _ => Decidable.isFalse nofun | .obj _ _ _, .loc _ => Decidable.isFalse nofun | .obj _ _ _, .ptr _ => Decidable.isFalse nofun | .obj _ _ _, .dct _ _ => Decidable.isFalse nofun
  | .loc _, .non => Decidable.isFalse nofun | .loc _, .bl _ => Decidable.isFalse nofun | .loc _, .int _ => Decidable.isFalse nofun | .loc _, .str _ => Decidable.isFalse nofun | .loc _, .tup _ => Decidable.isFalse nofun | .loc _, .lst _ => Decidable.isFalse nofun | .loc _, .flst _ => Decidable.isFalse nofun | .loc _, .obj _ _ _ => Decidable.isFalse nofun | .loc _, .ptr _ => Decidable.isFalse nofun | .loc _, .dct _ _ => Decidable.isFalse nofun
  | .ptr _, .non => Decidable.isFalse nofun | .ptr _, .bl _ => Decidable.isFalse nofun | .ptr _, .int _ => Decidable.isFalse nofun | .ptr _, .str _ => Decidable.isFalse nofun | .ptr _, .tup _ => Decidable.isFalse nofun | .ptr _, .lst _ => Decidable.isFalse nofun | .ptr _, .flst _ => Decidable.isFalse nofun | .ptr _, .obj _ _ _ => Decidable.isFalse nofun | .ptr _, .loc _ => Decidable.isFalse nofun | .ptr _, .dct _ _ => Decidable.isFalse nofun
  | .dct _ _, .non => Decidable.isFalse nofun | .dct _ _, .bl _ => Decidable.isFalse nofun | .dct _ _, .int _ => Decidable.isFalse nofun | .dct _ _, .str _ => Decidable.isFalse nofun | .dct _ _, .tup _ => Decidable.isFalse nofun | .dct _ _, .lst _ => Decidable.isFalse nofun | .dct _ _, .flst _ => Decidable.isFalse nofun | .dct _ _, .obj _ _ _ => Decidable.isFalse nofun | .dct _ _, .loc _ => Decidable.isFalse nofun | .dct _ _, .ptr _ => Decidable.isFalse nofun
def D.deqs : (xs ys : List D) → Decidable (xs = ys)
  | [], [] => Decidable.isTrue rfl
  | [], _ :: _ => Decidable.isFalse nofun
  | _ :: _, [] => Decidable.isFalse nofun
  | x :: xs, y :: ys => match D.deq x y with
    | Decidable.isTrue h => match D.deqs xs ys with
      | Decidable.isTrue h2 => Decidable.isTrue (by rw [h, h2])
      | Decidable.isFalse h2 => Decidable.isFalse fun e => h2 (List.cons.inj e).2
    | Decidable.isFalse h => Decidable.isFalse fun e => h (List.cons.inj e).1
end
instance : DecidableEq D := D.deq

inductive Cell where
  | lst (ds : List D)
  | ins (c : Nat) (ns : List Str) (ds : List D)
  | dct (ks : List (Int ⊕ List Nat)) (ds : List D)
  deriving DecidableEq, Inhabited

abbrev Store := List Cell
abbrev Env := List (Option D)
inductive Res (α : Type) where
  | ok (a : α) (μ : Store)
  | err (k : Nat) (ns : List Str) (ds : List D) (μ : Store)
  | stuck
def Res.bind {α β : Type} (r : Res α) (f : α → Store → Res β) : Res β := match r with
  | .ok a μ => f a μ
  | .err k ns ds μ => .err k ns ds μ
  | .stuck => .stuck
@[simp] theorem Res.bind_err {α β : Type} {k : Nat} {ns : List Str} {ds : List D} {μ : Store} {f : α → Store → Res β} : (Res.err k ns ds μ : Res α).bind f = .err k ns ds μ := rfl
@[simp] theorem Res.bind_ok {α β : Type} {a : α} {μ : Store} {f : α → Store → Res β} : (Res.ok a μ).bind f = f a μ := rfl
@[simp] theorem Res.bind_stuck {α β : Type} {f : α → Store → Res β} : (Res.stuck : Res α).bind f = .stuck := rfl

/-- what may not raise -/
def Res.mute {α : Type} (r : Res α) : Res α := match r with
  | .ok a μ => .ok a μ
  | _ => .stuck
@[simp] theorem Res.mute_ok {α : Type} {a : α} {μ : Store} : (Res.ok a μ).mute = .ok a μ := rfl
/-- the places of the mutable things, the banned places, the heap -/
structure Wd where
  x : Option Addr
  ι : List Addr
  B : List Addr
  H : Hp

section
variable (K : PySem.W.Frag) (cls : Nat → Option Addr) (w : Wd)
def toKey : Int ⊕ List Nat → Key
  | .inl i => .inl i
  | .inr s => .inr ⟨s.toArray⟩
def TupAt (a : Addr) (vs : List V) : Prop := (w.H a = some (.tup vs) ∧ a ∉ w.ι ∧ a ∉ w.B) ∨ SqT K (fun _ => none) a vs
def FlsAt (a : Addr) (vs : List V) : Prop := ((∃ o, w.H a = some (.frz o (.lst vs))) ∧ a ∉ w.ι ∧ a ∉ w.B) ∨ SqL K (fun _ => none) a vs
mutual
def RV : D → V → Prop
  | .non, v => v = .non
  | .bl b, v => v = .bl b
  | .int i, v => v = .int i
  | .str s, v => v = .str ⟨s.toArray⟩
  | .tup ds, v => ∃ a vs, v = .ref a ∧ TupAt K w a vs ∧ RVs ds vs
  | .lst ds, v => ∃ a vs, v = .ref a ∧ (w.H a = some (.lst vs) ∧ a ∉ w.ι ∧ a ∉ w.B) ∧ RVs ds vs
  | .flst is, v => ∃ a, v = .ref a ∧ FlsAt K w a (is.map .int)
  | .obj c ns ds, v => ∃ a C dx vs, v = .ref a ∧ cls c = some C ∧ (w.H a = some (.ins C dx (ns.zip vs)) ∧ a ∉ w.ι ∧ a ∉ w.B) ∧ ns.length = vs.length ∧ RVs ds vs
  | .loc n, v => ∃ a, v = .ref a ∧ w.ι[n]? = some a
  | .ptr a, v => v = .ref a
  | .dct ks ds, v => ∃ a vs, v = .ref a ∧ (w.H a = some (.dK ((ks.map toKey).zip vs)) ∧ a ∉ w.ι ∧ a ∉ w.B) ∧ ks.length = vs.length ∧ RVs ds vs
def RVs : List D → List V → Prop
  | [], vs => vs = []
  | d :: ds, vs => ∃ v r, vs = v :: r ∧ RV d v ∧ RVs ds r
end
def CellOk (a : Addr) : Cell → Prop
  | .lst ds => ∃ vs, w.H a = some (.lst vs) ∧ RVs K cls w ds vs
  | .ins c ns ds => ∃ C dx vs, cls c = some C ∧ w.H a = some (.ins C dx (ns.zip vs)) ∧ ns.length = vs.length ∧ RVs K cls w ds vs
  | .dct ks ds => ∃ vs, w.H a = some (.dK ((ks.map toKey).zip vs)) ∧ ks.length = vs.length ∧ RVs K cls w ds vs
/-- an error that lies: its class, its fields -/
def RErr (k : Nat) (ns : List Str) (ds : List D) (cv : Value) (d : Option Addr) : Prop := ∃ C, (100 ≤ k ∧ cls k = some C) ∧ cv = .ref C ∧
  ((ns = [] ∧ ds = [] ∧ d = none) ∨ ∃ dd vs, d = some dd ∧ (w.H dd = some (.xd (ns.zip vs)) ∧ dd ∉ w.ι ∧ dd ∉ w.B) ∧ ns.length = vs.length ∧ RVs K cls w ds vs)
structure RelS (μ : Store) : Prop where
  len : w.ι.length = μ.length
  nd : w.ι.Nodup
  ban : ∀ b ∈ w.B, b ∉ w.ι ∧ ∃ o, w.H b = some o
  cell : ∀ (n : Nat) (c : Cell), μ[n]? = some c → ∃ a, w.ι[n]? = some a ∧ CellOk K cls w a c
def RelE (ρ : Env) (σ : L2.St) : Prop := σ.length = ρ.length ∧ ∀ (i : Nat) (d : D), ρ[i]? = some (some d) → ∃ v, σ[i]? = some (some v) ∧ RV K cls w d v
end

structure Step (w w' : Wd) : Prop where
  keep : ∀ a o, a ∉ w.ι → w.H a = some o → w'.H a = some o
  pre : ∃ l, w'.ι = w.ι ++ l
  fresh : ∀ a ∈ w'.ι, a ∉ w.ι → w.H a = none
  ban : w'.B = w.B
  exn : w'.x = w.x

section
variable {K : PySem.W.Frag} {cls : Nat → Option Addr} {w w' w'' : Wd}
theorem Step.refl : Step w w := ⟨fun _ _ _ h => h, ⟨[], by simp⟩, fun a h n => absurd h n, rfl, rfl⟩
theorem Step.notin (s : Step w w') {a : Addr} {o : HO} (h : w.H a = some o) (n : a ∉ w.ι) : a ∉ w'.ι := fun z => by
  have := s.fresh a z n
  rw [h] at this
  cases this
theorem Step.trans (s : Step w w') (t : Step w' w'') : Step w w'' where
  keep := fun a o n h => t.keep a o (s.notin h n) (s.keep a o n h)
  pre := by
    obtain ⟨l, e⟩ := s.pre
    obtain ⟨l', e'⟩ := t.pre
    exact ⟨l ++ l', by rw [e', e, List.append_assoc]⟩
  fresh := fun a h n => by
    by_cases q : a ∈ w'.ι
    · exact s.fresh a q n
    · have z := t.fresh a h q
      cases e : w.H a with
      | none => rfl
      | some o =>
        have := s.keep a o n e
        rw [z] at this
        cases this
  ban := t.ban.trans s.ban
  exn := t.exn.trans s.exn
theorem Step.loc (s : Step w w') {n : Nat} {a : Addr} (h : w.ι[n]? = some a) : w'.ι[n]? = some a := by
  obtain ⟨l, e⟩ := s.pre
  rw [e]
  exact List.getElem?_append_left (List.getElem?_eq_some_iff.mp h).1 ▸ h

/-- what RV leans on is kept -/
structure Kp (w w' : Wd) : Prop where
  at_ : ∀ a o, a ∉ w.ι → a ∉ w.B → w.H a = some o → w'.H a = some o ∧ a ∉ w'.ι ∧ a ∉ w'.B
  loc : ∀ (n : Nat) (a : Addr), w.ι[n]? = some a → w'.ι[n]? = some a
  exn : w'.x = w.x
theorem Step.kp (s : Step w w') : Kp w w' := ⟨fun a o n b h => ⟨s.keep a o n h, s.notin h n, by rw [s.ban]; exact b⟩, fun n a h => s.loc h, s.exn⟩
theorem TupAt.mono (s : Kp w w') {a : Addr} {vs : List V} (h : TupAt K w a vs) : TupAt K w' a vs := by
  rcases h with ⟨h, n, b⟩ | h
  · exact .inl (s.at_ a _ n b h)
  · exact .inr h
theorem FlsAt.mono (s : Kp w w') {a : Addr} {vs : List V} (h : FlsAt K w a vs) : FlsAt K w' a vs := by
  rcases h with ⟨⟨o, h⟩, n, b⟩ | h
  · obtain ⟨h1, h2⟩ := s.at_ a _ n b h
    exact .inl ⟨⟨o, h1⟩, h2⟩
  · exact .inr h
mutual
theorem RV.mono (s : Kp w w') : ∀ {d : D} {v : V}, RV K cls w d v → RV K cls w' d v
  | .non, _, h => h
  | .bl _, _, h => h
  | .int _, _, h => h
  | .str _, _, h => h
  | .tup ds, _, ⟨a, vs, e, h, r⟩ => ⟨a, vs, e, h.mono s, RVs.mono s r⟩
  | .lst ds, _, ⟨a, vs, e, ⟨h, n, b⟩, r⟩ => ⟨a, vs, e, s.at_ a _ n b h, RVs.mono s r⟩
  | .flst _, _, ⟨a, e, h⟩ => ⟨a, e, h.mono s⟩
  | .obj _ _ ds, _, ⟨a, C, dx, vs, e, c, ⟨h, n, b⟩, l, r⟩ => ⟨a, C, dx, vs, e, c, s.at_ a _ n b h, l, RVs.mono s r⟩
  | .loc _, _, ⟨a, e, h⟩ => ⟨a, e, s.loc _ _ h⟩
  | .ptr _, _, h => h
  | .dct _ ds, _, ⟨a, vs, e, ⟨h, n, b⟩, l, r⟩ => ⟨a, vs, e, s.at_ a _ n b h, l, RVs.mono s r⟩
theorem RVs.mono (s : Kp w w') : ∀ {ds : List D} {vs : List V}, RVs K cls w ds vs → RVs K cls w' ds vs
  | [], _, h => h
  | _ :: _, _, ⟨v, r, e, h, t⟩ => ⟨v, r, e, RV.mono s h, RVs.mono s t⟩
end
theorem RelE.mono (s : Kp w w') {ρ : Env} {σ : L2.St} (h : RelE K cls w ρ σ) : RelE K cls w' ρ σ := ⟨h.1, fun i d e => by
  obtain ⟨v, e1, r⟩ := h.2 i d e
  exact ⟨v, e1, r.mono s⟩⟩
theorem RVs.length : ∀ {ds : List D} {vs : List V}, RVs K cls w ds vs → vs.length = ds.length
  | [], _, h => by rw [show _ = [] from h]; rfl
  | _ :: _, _, ⟨v, r, e, _, t⟩ => by rw [e, List.length_cons, List.length_cons, RVs.length t]
theorem RVs.get : ∀ {ds : List D} {vs : List V} {i : Nat} {d : D}, RVs K cls w ds vs → ds[i]? = some d → ∃ v, vs[i]? = some v ∧ RV K cls w d v
  | [], _, _, _, _, e => by simp at e
  | d :: ds, _, 0, d', ⟨v, r, e, h, t⟩, e' => by
    simp at e'
    subst e' e
    exact ⟨v, rfl, h⟩
  | d :: ds, _, i + 1, d', ⟨v, r, e, h, t⟩, e' => by
    subst e
    obtain ⟨u, h1, h2⟩ := RVs.get (i := i) t (by simpa using e')
    exact ⟨u, by simpa using h1, h2⟩
theorem RVs.get' {ds : List D} {vs : List V} {i : Nat} {v : V} (h : RVs K cls w ds vs) (e : vs[i]? = some v) : ∃ d, ds[i]? = some d ∧ RV K cls w d v := by
  have hl := h.length
  have hi : i < ds.length := by rw [← hl]; exact (List.getElem?_eq_some_iff.mp e).1
  obtain ⟨u, h1, h2⟩ := h.get (i := i) (d := ds[i]) (List.getElem?_eq_getElem hi)
  rw [e] at h1
  cases h1
  exact ⟨ds[i], List.getElem?_eq_getElem hi, h2⟩
theorem RVs.append : ∀ {ds es : List D} {vs us : List V}, RVs K cls w ds vs → RVs K cls w es us → RVs K cls w (ds ++ es) (vs ++ us)
  | [], _, _, _, h, t => by rw [show _ = [] from h]; exact t
  | _ :: _, _, _, _, ⟨v, r, e, h, t⟩, t' => ⟨v, r ++ _, by rw [e]; rfl, h, RVs.append t t'⟩
theorem RVs.nil : RVs K cls w [] [] := rfl
theorem RVs.cons {d : D} {ds : List D} {v : V} {vs : List V} (h : RV K cls w d v) (t : RVs K cls w ds vs) : RVs K cls w (d :: ds) (v :: vs) := ⟨v, vs, rfl, h, t⟩
theorem RVs.set {e : D} {u : V} (h : RV K cls w e u) : ∀ {ds : List D} {vs : List V} (i : Nat), RVs K cls w ds vs → RVs K cls w (ds.set i e) (vs.set i u)
  | [], _, _, r => by rw [show _ = [] from r]; rfl
  | _ :: _, _, 0, ⟨v, r, q, _, t⟩ => by rw [q]; exact ⟨u, r, rfl, h, t⟩
  | _ :: _, _, i + 1, ⟨v, r, q, g, t⟩ => by rw [q]; exact ⟨v, _, rfl, g, RVs.set h i t⟩
theorem RVs.take : ∀ {ds : List D} {vs : List V} (n : Nat), RVs K cls w ds vs → RVs K cls w (ds.take n) (vs.take n)
  | _, _, 0, _ => by simp [RVs]
  | [], _, n + 1, r => by rw [show _ = [] from r]; rfl
  | _ :: _, _, n + 1, ⟨v, r, q, g, t⟩ => by rw [q]; exact ⟨v, _, rfl, g, RVs.take n t⟩
theorem RVs.drop : ∀ {ds : List D} {vs : List V} (n : Nat), RVs K cls w ds vs → RVs K cls w (ds.drop n) (vs.drop n)
  | _, _, 0, h => by simpa using h
  | [], _, n + 1, r => by rw [show _ = [] from r]; rfl
  | _ :: _, _, n + 1, ⟨v, r, q, g, t⟩ => by rw [q]; exact RVs.drop n t
theorem RVs.ints : ∀ {is : List Int}, RVs K cls w (is.map .int) (is.map .int)
  | [] => rfl
  | _ :: _ => ⟨_, _, rfl, rfl, RVs.ints⟩
theorem RVs.flatten : ∀ {dss : List (List D)} {vss : List (List V)}, Paired (RVs K cls w) dss vss → RVs K cls w dss.flatten vss.flatten
  | _, _, .nil => rfl
  | _, _, .cons h t => by
    rw [List.flatten_cons, List.flatten_cons]
    exact h.append (RVs.flatten t)
theorem RVs.rep {ds : List D} {vs : List V} (h : RVs K cls w ds vs) : ∀ n : Nat, RVs K cls w (List.replicate n ds).flatten (List.replicate n vs).flatten
  | 0 => rfl
  | n + 1 => by
    rw [List.replicate_succ, List.replicate_succ, List.flatten_cons, List.flatten_cons]
    exact h.append (RVs.rep h n)
theorem TupAt.sq {a : Addr} {vs : List V} (h : TupAt K w a vs) : SqT K w.H a vs := by
  rcases h with ⟨h, _⟩ | (h | h)
  · exact .inl (.inl h)
  · rcases h with h | ⟨o, h⟩ <;> cases h
  · exact .inr h
theorem FlsAt.sq {a : Addr} {vs : List V} (h : FlsAt K w a vs) : SqL K w.H a vs := by
  rcases h with ⟨⟨o, h⟩, _⟩ | (h | h)
  · exact .inl (.inr ⟨o, h⟩)
  · rcases h with h | ⟨o, h⟩ <;> cases h
  · exact .inr h

/-! ### new things -/
theorem RelS.tracked {μ : Store} (S : RelS K cls w μ) {a : Addr} (h : a ∈ w.ι) : ∃ o, w.H a = some o := by
  obtain ⟨n, hn, e⟩ := List.getElem_of_mem h
  have hm : n < μ.length := by rw [← S.len]; exact hn
  obtain ⟨a', e1, c⟩ := S.cell n μ[n] (List.getElem?_eq_getElem hm)
  have : a' = a := by
    rw [List.getElem?_eq_getElem hn, e] at e1
    exact (Option.some.inj e1).symm
  subst this
  generalize hc : μ[n] = cc at c
  cases cc with
  | lst ds => obtain ⟨vs, h, _⟩ := c; exact ⟨_, h⟩
  | ins cn ns ds => obtain ⟨C, dx, vs, _, h, _⟩ := c; exact ⟨_, h⟩
  | dct ks ds => obtain ⟨vs, h, _⟩ := c; exact ⟨_, h⟩
theorem RelS.free {μ : Store} (S : RelS K cls w μ) {p : Addr} (h : w.H p = none) : p ∉ w.ι ∧ p ∉ w.B := by
  refine ⟨fun z => ?_, fun z => ?_⟩
  · obtain ⟨o, e⟩ := S.tracked z
    rw [h] at e
    cases e
  · obtain ⟨_, o, e⟩ := S.ban p z
    rw [h] at e
    cases e
abbrev Wd.up (w : Wd) (p : Addr) (o : HO) : Wd := ⟨w.x, w.ι, w.B, upd w.H p o⟩
theorem step_new {p : Addr} {o : HO} (h : w.H p = none) : Step w (w.up p o) where
  keep := fun a u _ e => by
    show upd w.H p o a = some u
    rw [upd_ne (ne_of_none e h)]
    exact e
  pre := ⟨[], by simp⟩
  fresh := fun a h n => absurd h n
  ban := rfl
  exn := rfl
theorem CellOk.mono {a : Addr} {c : Cell} (s : Kp w w') (h : ∀ o, w.H a = some o → w'.H a = some o) : CellOk K cls w a c → CellOk K cls w' a c := by
  cases c with
  | lst ds => exact fun ⟨vs, e, r⟩ => ⟨vs, h _ e, r.mono s⟩
  | ins cn ns ds => exact fun ⟨C, dx, vs, c, e, l, r⟩ => ⟨C, dx, vs, c, h _ e, l, r.mono s⟩
  | dct ks ds => exact fun ⟨vs, e, l, r⟩ => ⟨vs, h _ e, l, r.mono s⟩
theorem RErr.mono {k : Nat} {ns : List Str} {ds : List D} {cv : Value} {d : Option Addr} (s : Kp w w') : RErr K cls w k ns ds cv d → RErr K cls w' k ns ds cv d := fun ⟨C, c, e, h⟩ => ⟨C, c, e, h.imp id fun ⟨dd, vs, e1, ⟨h1, n, b⟩, l, r⟩ => ⟨dd, vs, e1, s.at_ dd _ n b h1, l, r.mono s⟩⟩
/-- a new thing is laid -/
theorem RelS.new {μ : Store} (S : RelS K cls w μ) {p : Addr} {o : HO} (h : w.H p = none) : RelS K cls (w.up p o) μ where
  len := S.len
  nd := S.nd
  ban := fun b hb => by
    obtain ⟨h1, u, h2⟩ := S.ban b hb
    exact ⟨h1, u, by show upd w.H p o b = some u; rw [upd_ne (ne_of_none h2 h)]; exact h2⟩
  cell := fun n c e => by
    obtain ⟨a, h1, h2⟩ := S.cell n c e
    refine ⟨a, h1, h2.mono (step_new h).kp fun u e => ?_⟩
    show upd w.H p o a = some u
    rw [upd_ne (ne_of_none e h)]
    exact e
theorem new_tup {μ : Store} (S : RelS K cls w μ) {p : Addr} {ds : List D} {vs : List V} (h : w.H p = none) (r : RVs K cls w ds vs) : RV K cls (w.up p (.tup vs)) (.tup ds) (.ref p) :=
  ⟨p, vs, rfl, .inl ⟨upd_same, S.free h⟩, r.mono (step_new h).kp⟩
theorem new_lst {μ : Store} (S : RelS K cls w μ) {p : Addr} {ds : List D} {vs : List V} (h : w.H p = none) (r : RVs K cls w ds vs) : RV K cls (w.up p (.lst vs)) (.lst ds) (.ref p) :=
  ⟨p, vs, rfl, ⟨upd_same, S.free h⟩, r.mono (step_new h).kp⟩

/-- a frozen list that nothing else is becomes a place: p is fresh over w0 -/
abbrev Wd.add (w : Wd) (p : Addr) : Wd := ⟨w.x, w.ι ++ [p], w.B, w.H⟩

/-! ### posts -/
def PostR {α : Type} (K : PySem.W.Frag) (cls : Nat → Option Addr) (w : Wd) (Er : XK) (R : Wd → α → Prop) : Res α → Prop
  | .ok d μ' => ∀ w', Step w w' → RelS K cls w' μ' → R w' d
  | .err k ns ds μ' => ∀ w' cv d, Step w w' → RelS K cls w' μ' → RErr K cls w' k ns ds cv d → Er cv d w'.H
  | .stuck => False
theorem PostR.step {α : Type} {Er : XK} {R : Wd → α → Prop} {r : Res α} (s : Step w w') (h : PostR K cls w Er R r) : PostR K cls w' Er R r := by
  cases r with
  | ok d μ => exact fun w2 s2 => h w2 (s.trans s2)
  | err k ns ds μ => exact fun w2 cv d s2 => h w2 cv d (s.trans s2)
  | stuck => exact h
theorem PostR.mute {α : Type} {Er Er' : XK} {R : Wd → α → Prop} {r : Res α} (h : PostR K cls w Er R r.mute) : PostR K cls w Er' R r := by
  cases r with
  | ok d μ => exact h
  | err k ns ds μ => exact h.elim
  | stuck => exact h
theorem PostR.no {α : Type} {Er : XK} {R : Wd → α → Prop} {r : Res α} (h : PostR K cls w (fun _ _ _ => False) R r) : PostR K cls w Er R r := by
  cases r with
  | ok d μ => exact h
  | err k ns ds μ => exact fun w' cv d s S x => (h w' cv d s S x).elim
  | stuck => exact h
end
end Fw

set_option Elab.async false
set_option linter.all false
set_option maxRecDepth 100000
set_option autoImplicit false
/-! The judgements over the plain reading, and the rules of expressions. -/
namespace Fw
open PySem L2

abbrev FE := Env → Store → Res D
abbrev FA := Env → Store → Res (List D)
abbrev FT := Env → Store → Res Bool
def LIM : Nat := 1000000
theorem lim_le {n : Nat} (h : n ≤ LIM) : n ≤ sizeLine := Nat.le_trans h (by rw [sizeLine_eq]; decide)
theorem lim_lt {n : Nat} (h : n < LIM) : n < sizeLine := Nat.lt_of_lt_of_le h (by rw [sizeLine_eq]; decide)

section
variable (X : Cx) (W : WX) (cls : Nat → Option Addr)
def SE (e : Expr) (f : FE) : Prop := ∃ t, PE X e t ∧ ∀ (σ : L2.St) (Q : VK) (w : Wd) (ρ : Env) (μ : Store), RelS X.K cls w μ → RelE X.K cls w ρ σ →
  PostR X.K cls w (WE W σ) (fun w' d => ∀ v, RV X.K cls w' d v → Q v w'.H) (f ρ μ) → t σ w.H Q
def SA (es : List Expr) (f : FA) : Prop := ∃ t, PA X es t ∧ ∀ (σ : L2.St) (Q : List V → Hp → Prop) (w : Wd) (ρ : Env) (μ : Store), RelS X.K cls w μ → RelE X.K cls w ρ σ →
  PostR X.K cls w (WE W σ) (fun w' d => ∀ v, RVs X.K cls w' d v → Q v w'.H) (f ρ μ) → t σ w.H Q
def ST (e : Expr) (f : FT) : Prop := ∃ t, PT X e t ∧ ∀ (σ : L2.St) (Q : Bool → Hp → Prop) (w : Wd) (ρ : Env) (μ : Store), RelS X.K cls w μ → RelE X.K cls w ρ σ →
  PostR X.K cls w (WE W σ) (fun w' b => Q b w'.H) (f ρ μ) → t σ w.H Q
def SW (e : Expr) (f : FT) : Prop := ∃ t, PW X e t ∧ ∀ (σ : L2.St) (Q : Bool → Hp → Prop) (w : Wd) (ρ : Env) (μ : Store), RelS X.K cls w μ → RelE X.K cls w ρ σ →
  PostR X.K cls w (WE W σ) (fun w' b => Q b w'.H) (f ρ μ) → t σ w.H Q
/-- an operator by values; a call; a method -/
def OV (op : Value → Value → Sem Value) (f : D → D → Store → Res D) : Prop := ∃ r, OpR X op r ∧ ∀ (w : Wd) (μ : Store) (Er : XK) (d e : D) (x y : V) (Q : VK), RelS X.K cls w μ → RV X.K cls w d x → RV X.K cls w e y →
  PostR X.K cls w Er (fun w' d => ∀ v, RV X.K cls w' d v → Q v w'.H) (f d e μ) → r x y w.H Q
def CV (c : Value) (f : List D → Store → Res D) : Prop := ∃ r, CallR X c r ∧ ∀ (w : Wd) (μ : Store) (Er : XK) (ds : List D) (xs : List V) (Q : VK), RelS X.K cls w μ → RVs X.K cls w ds xs →
  PostR X.K cls w Er (fun w' d => ∀ v, RV X.K cls w' d v → Q v w'.H) (f ds μ) → r xs w.H Q
def MV (id : String) (T : String) (f : D → List D → Store → Res D) : Prop := ∃ r, MtR X id r ∧ (∀ (w : Wd) (μ : Store) (Er : XK) (d : D) (ds : List D) (x : V) (xs : List V) (Q : VK), RelS X.K cls w μ → RV X.K cls w d x → RVs X.K cls w ds xs →
  PostR X.K cls w Er (fun w' d => ∀ v, RV X.K cls w' d v → Q v w'.H) (f d ds μ) → r x xs w.H Q)
end

/-! ### the combinators -/
def eVar (i : Nat) : FE := fun ρ μ => match ρ[i]? with
  | some (some d) => .ok d μ
  | _ => .stuck
def eC (d : D) : FE := fun _ μ => .ok d μ
def eBin (g : D → D → Store → Res D) (fa fb : FE) : FE := fun ρ μ => (fa ρ μ).bind fun x μ1 => (fb ρ μ1).bind fun y μ2 => g x y μ2
def aNil : FA := fun _ μ => .ok [] μ
def aCons (fa : FE) (fr : FA) : FA := fun ρ μ => (fa ρ μ).bind fun x μ1 => (fr ρ μ1).bind fun xs μ2 => .ok (x :: xs) μ2
def eTup (fs : FA) : FE := fun ρ μ => (fs ρ μ).bind fun ds μ1 => if ds.length ≤ LIM then .ok (.tup ds) μ1 else .stuck
def eLst (fs : FA) : FE := fun ρ μ => (fs ρ μ).bind fun ds μ1 => if ds.length ≤ LIM then .ok (.lst ds) μ1 else .stuck
def eCall (F : List D → Store → Res D) (fs : FA) : FE := fun ρ μ => (fs ρ μ).bind fun ds μ1 => F ds μ1
def tB (fa : FE) : FT := fun ρ μ => (fa ρ μ).bind fun x μ1 => match x with
  | .bl b => .ok b μ1
  | _ => .stuck
def tNot (fa : FT) : FT := fun ρ μ => (fa ρ μ).bind fun b μ1 => .ok (!b) μ1
def tAnd (fa fb : FT) : FT := fun ρ μ => (fa ρ μ).bind fun b μ1 => if b then fb ρ μ1 else .ok false μ1
def tOr (fa fb : FT) : FT := fun ρ μ => (fa ρ μ).bind fun b μ1 => if b then .ok true μ1 else fb ρ μ1
def eIf (c : FT) (fa fb : FE) : FE := fun ρ μ => (c ρ μ).bind fun b μ1 => if b then fa ρ μ1 else fb ρ μ1
def eNot (fa : FE) : FE := fun ρ μ => (fa ρ μ).bind fun x μ1 => match x with
  | .bl b => .ok (.bl (!b)) μ1
  | _ => .stuck
def eAnd (fa fb : FE) : FE := fun ρ μ => (fa ρ μ).bind fun x μ1 => match x with
  | .bl b => if b then fb ρ μ1 else .ok (.bl false) μ1
  | _ => .stuck
def eOr (fa fb : FE) : FE := fun ρ μ => (fa ρ μ).bind fun x μ1 => match x with
  | .bl b => if b then .ok (.bl true) μ1 else fb ρ μ1
  | _ => .stuck
/-- a op b op' c -/
def eChain (g g' : D → D → Store → Res D) (fa fb fc : FE) : FE := fun ρ μ => (fa ρ μ).bind fun x μ1 => (fb ρ μ1).bind fun y μ2 => (g x y μ2).bind fun z μ3 => match z with
  | .bl b => if b then (fc ρ μ3).bind fun u μ4 => (g' y u μ4).bind fun z' μ5 => match z' with
      | .bl b' => .ok (.bl b') μ5
      | _ => .stuck
    else .ok (.bl false) μ3
  | _ => .stuck

/-- a bound reading: what comes first, then the rest -/
theorem PostR.bind {α β : Type} {K : PySem.W.Frag} {cls : Nat → Option Addr} {w : Wd} {Er : XK} {R : Wd → β → Prop} {r : Res α} {f : α → Store → Res β}
    (h : PostR K cls w Er R (r.bind f)) : PostR K cls w Er (fun w' a => ∃ μ', RelS K cls w' μ' ∧ PostR K cls w' Er R (f a μ')) r := by
  cases r with
  | ok a μ => exact fun w' s S => ⟨μ, S, PostR.step s h⟩
  | err k ns ds μ => exact h
  | stuck => exact h
theorem PostR.imp {α : Type} {K : PySem.W.Frag} {cls : Nat → Option Addr} {w : Wd} {Er : XK} {R R' : Wd → α → Prop} {r : Res α} (h : PostR K cls w Er R r) (q : ∀ w' a, Step w w' → R w' a → R' w' a) : PostR K cls w Er R' r := by
  cases r with
  | ok a μ => exact fun w' s S => q w' a s (h w' s S)
  | err k ns ds μ => exact h
  | stuck => exact h
theorem PostR.now {α : Type} {K : PySem.W.Frag} {cls : Nat → Option Addr} {w : Wd} {Er : XK} {R : Wd → α → Prop} {a : α} {μ : Store} (S : RelS K cls w μ) (h : PostR K cls w Er R (.ok a μ)) : R w a := h w Step.refl S

section
variable {X : Cx} {W : WX} {cls : Nat → Option Addr} {a b c : Expr} {fa fb fc : FE} {ta tb tc : FT} {pos : Pos}
theorem se_var (i : Nat) {x : Str} (hN : X.N[i]? = some x := by rfl) (hv : Vis X.env.scope x := by first | exact Or.inl rfl | exact Or.inr (Or.inl rfl) | exact Or.inr (Or.inr rfl)) (hd : (x == ("__debug__" : Str)) = false := by decide +kernel)
    (hcd : (x == ("__classdict__" : Str)) = false := by decide +kernel) : SE X W cls (.Name x pos) (eVar i) := by
  refine ⟨_, pe_var hN hv hd hcd, fun σ Q w ρ μ S E h => ?_⟩
  unfold eVar at h
  split at h
  · rename_i d hd
    obtain ⟨v, e, r⟩ := E.2 i d hd
    exact ⟨v, e, h w Step.refl S v r⟩
  · exact h.elim
theorem se_int {i : Int} {j pos} : SE X W cls (.Constant (.int i) j pos) (eC (.int i)) := ⟨_, pe_int, fun σ Q w ρ μ S E h => h w Step.refl S _ rfl⟩
theorem se_bl {i : Bool} {j pos} : SE X W cls (.Constant (.bool i) j pos) (eC (.bl i)) := ⟨_, pe_bl, fun σ Q w ρ μ S E h => h w Step.refl S _ rfl⟩
theorem se_non {j pos} : SE X W cls (.Constant .none j pos) (eC .non) := ⟨_, pe_non, fun σ Q w ρ μ S E h => h w Step.refl S _ rfl⟩
theorem se_str {x : Str} {j pos} : SE X W cls (.Constant (.str x) j pos) (eC (.str x.cps.toList)) := ⟨_, pe_str, fun σ Q w ρ μ S E h => h w Step.refl S _ (by
  show V.str x = V.str ⟨x.cps.toList.toArray⟩
  rw [Array.toArray_toList])⟩
/-- a module's constant -/
theorem se_glob {x : Str} {v : V} {u : Value} {d : D} (hg : Gl X x) (hm : X.mg x = some u) (r : RelV v u) (rd : ∀ w, RV X.K cls w d v) (hd : (x == ("__debug__" : Str)) = false := by decide +kernel) : SE X W cls (.Name x pos) (eC d) :=
  ⟨_, pe_glob hg hm r hd, fun σ Q w ρ μ S E h => h w Step.refl S _ (rd w)⟩
theorem se_bin {op : Operator} {g : D → D → Store → Res D} (ho : OV X cls (binaryOp op) g) (ha : SE X W cls a fa) (hb : SE X W cls b fb) : SE X W cls (.BinOp a op b pos) (eBin g fa fb) := by
  obtain ⟨r, o, ho⟩ := ho
  obtain ⟨t1, p1, h1⟩ := ha
  obtain ⟨t2, p2, h2⟩ := hb
  refine ⟨_, pe_op o p1 p2, fun σ Q w ρ μ S E h => ?_⟩
  refine h1 σ _ w ρ μ S E ((PostR.bind h).imp fun w1 d s1 ⟨μ1, S1, q1⟩ v r1 => ?_)
  refine h2 σ _ w1 ρ μ1 S1 (E.mono s1.kp) ((PostR.bind q1).imp fun w2 e s2 ⟨μ2, S2, q2⟩ u r2 => ?_)
  exact ho w2 μ2 _ d e v u Q S2 (r1.mono s2.kp) r2 q2
theorem se_cmp {op : CmpOp} {g : D → D → Store → Res D} (ho : OV X cls (compareOp op) g) (ha : SE X W cls a fa) (hb : SE X W cls b fb) (hm : behindInMarks op b = false := by first | exact nomark _ | rfl) : SE X W cls (.Compare a [op] [b] pos) (eBin g fa fb) := by
  obtain ⟨r, o, ho⟩ := ho
  obtain ⟨t1, p1, h1⟩ := ha
  obtain ⟨t2, p2, h2⟩ := hb
  refine ⟨_, pe_cmpR o p1 p2 hm, fun σ Q w ρ μ S E h => ?_⟩
  refine h1 σ _ w ρ μ S E ((PostR.bind h).imp fun w1 d s1 ⟨μ1, S1, q1⟩ v r1 => ?_)
  refine h2 σ _ w1 ρ μ1 S1 (E.mono s1.kp) ((PostR.bind q1).imp fun w2 e s2 ⟨μ2, S2, q2⟩ u r2 => ?_)
  exact ho w2 μ2 _ d e v u Q S2 (r1.mono s2.kp) r2 q2
/-- a comparison as a test -/
theorem st_cmp {op : CmpOp} {g : D → D → Store → Res D} (ho : OV X cls (compareOp op) g) (ha : SE X W cls a fa) (hb : SE X W cls b fb) (hm : behindInMarks op b = false := by first | exact nomark _ | rfl) : ST X W cls (.Compare a [op] [b] pos) (tB (eBin g fa fb)) := by
  obtain ⟨r, o, ho⟩ := ho
  obtain ⟨t1, p1, h1⟩ := ha
  obtain ⟨t2, p2, h2⟩ := hb
  refine ⟨_, pt_cmpR o p1 p2 hm, fun σ Q w ρ μ S E h => ?_⟩
  have h := PostR.bind h
  refine h1 σ _ w ρ μ S E ((PostR.bind h).imp fun w1 d s1 ⟨μ1, S1, q1⟩ v r1 => ?_)
  refine h2 σ _ w1 ρ μ1 S1 (E.mono s1.kp) ((PostR.bind q1).imp fun w2 e s2 ⟨μ2, S2, q2⟩ u r2 => ?_)
  refine ho w2 μ2 _ d e v u _ S2 (r1.mono s2.kp) r2 (q2.imp fun w3 z s3 ⟨μ3, S3, q3⟩ x rx => ?_)
  cases z with
  | bl k => exact ⟨k, rx, q3 w3 Step.refl S3⟩
  | _ => exact q3.elim
theorem se_chain {op op' : CmpOp} {g g' : D → D → Store → Res D} (ho : OV X cls (compareOp op) g) (ho' : OV X cls (compareOp op') g') (ha : SE X W cls a fa) (hb : SE X W cls b fb) (hc : SE X W cls c fc)
    (k : ∀ {r r' : R2} {t1 t2 t3 : TE}, OpR X (compareOp op) r → OpR X (compareOp op') r' → PE X a t1 → PE X b t2 → PE X c t3 → PE X (.Compare a [op, op'] [b, c] pos) (tChain r r' t1 t2 t3) := by exact fun o o' p1 p2 p3 => pe_chain o o' p1 p2 p3) :
    SE X W cls (.Compare a [op, op'] [b, c] pos) (eChain g g' fa fb fc) := by
  obtain ⟨r, o, ho⟩ := ho
  obtain ⟨r', o', ho'⟩ := ho'
  obtain ⟨t1, p1, h1⟩ := ha
  obtain ⟨t2, p2, h2⟩ := hb
  obtain ⟨t3, p3, h3⟩ := hc
  refine ⟨_, k o o' p1 p2 p3, fun σ Q w ρ μ S E h => ?_⟩
  refine h1 σ _ w ρ μ S E ((PostR.bind h).imp fun w1 d s1 ⟨μ1, S1, q1⟩ v r1 => ?_)
  refine h2 σ _ w1 ρ μ1 S1 (E.mono s1.kp) ((PostR.bind q1).imp fun w2 e s2 ⟨μ2, S2, q2⟩ u r2 => ?_)
  refine ho w2 μ2 _ d e v u _ S2 (r1.mono s2.kp) r2 ((PostR.bind q2).imp fun w3 z s3 ⟨μ3, S3, q3⟩ x rx => ?_)
  cases z with
  | bl k =>
    refine ⟨k, rx, ?_⟩
    cases k with
    | true =>
      refine h3 σ _ w3 ρ μ3 S3 (E.mono ((s1.trans s2).trans s3).kp) ((PostR.bind q3).imp fun w4 z4 s4 ⟨μ4, S4, q4⟩ x4 rx4 => ?_)
      refine ho' w4 μ4 _ e z4 u x4 _ S4 (r2.mono (s3.trans s4).kp) rx4 ((PostR.bind q4).imp fun w5 z5 s5 ⟨μ5, S5, q5⟩ x5 rx5 => ?_)
      cases z5 with
      | bl k' =>
        first
        | exact ⟨k', rx5, q5 w5 Step.refl S5 _ rfl⟩
        | exact q5 w5 Step.refl S5 _ rx5
      | _ => exact q5.elim
    | false => exact q3 w3 Step.refl S3 _ rfl
  | _ => exact q3.elim
theorem st_val (ha : SE X W cls a fa) (he : ∀ whole, isTrue a X.env whole = (do let v ← whole; standAt a.pos; holding [v] (truthy v)) := by intro _; rfl) : ST X W cls a (tB fa) := by
  obtain ⟨t1, p1, h1⟩ := ha
  refine ⟨_, pt_val p1 he, fun σ Q w ρ μ S E h => ?_⟩
  refine h1 σ _ w ρ μ S E ((PostR.bind h).imp fun w1 d s1 ⟨μ1, S1, q1⟩ v r1 => ?_)
  cases d with
  | bl k => exact ⟨k, r1, q1 w1 Step.refl S1⟩
  | _ => exact q1.elim
theorem st_not (ha : ST X W cls a ta) : ST X W cls (.UnaryOp .Not a pos) (tNot ta) := by
  obtain ⟨t1, p1, h1⟩ := ha
  refine ⟨_, pt_not p1, fun σ Q w ρ μ S E h => ?_⟩
  exact h1 σ _ w ρ μ S E ((PostR.bind h).imp fun w1 d s1 ⟨μ1, S1, q1⟩ => q1 w1 Step.refl S1)
theorem sw_and1 (ha : ST X W cls a ta) : SW X W cls (.BoolOp .And [a] pos) ta := by
  obtain ⟨t1, p1, h1⟩ := ha
  exact ⟨_, pw_and1 p1, h1⟩
theorem sw_or1 (ha : ST X W cls a ta) : SW X W cls (.BoolOp .Or [a] pos) ta := by
  obtain ⟨t1, p1, h1⟩ := ha
  exact ⟨_, pw_or1 p1, h1⟩
theorem sw_and {rest : List Expr} (ha : ST X W cls a ta) (hb : SW X W cls (.BoolOp .And (b :: rest) pos) tb) : SW X W cls (.BoolOp .And (a :: b :: rest) pos) (tAnd ta tb) := by
  obtain ⟨t1, p1, h1⟩ := ha
  obtain ⟨t2, p2, h2⟩ := hb
  refine ⟨_, pw_and p1 p2, fun σ Q w ρ μ S E h => ?_⟩
  refine h1 σ _ w ρ μ S E ((PostR.bind h).imp fun w1 d s1 ⟨μ1, S1, q1⟩ => ?_)
  cases d with
  | true => exact h2 σ _ w1 ρ μ1 S1 (E.mono s1.kp) q1
  | false => exact q1 w1 Step.refl S1
theorem sw_or {rest : List Expr} (ha : ST X W cls a ta) (hb : SW X W cls (.BoolOp .Or (b :: rest) pos) tb) : SW X W cls (.BoolOp .Or (a :: b :: rest) pos) (tOr ta tb) := by
  obtain ⟨t1, p1, h1⟩ := ha
  obtain ⟨t2, p2, h2⟩ := hb
  refine ⟨_, pw_or p1 p2, fun σ Q w ρ μ S E h => ?_⟩
  refine h1 σ _ w ρ μ S E ((PostR.bind h).imp fun w1 d s1 ⟨μ1, S1, q1⟩ => ?_)
  cases d with
  | false => exact h2 σ _ w1 ρ μ1 S1 (E.mono s1.kp) q1
  | true => exact q1 w1 Step.refl S1
theorem SW.st (ha : SW X W cls a ta) : ST X W cls a ta := by
  obtain ⟨t1, p1, h1⟩ := ha
  exact ⟨_, p1.pt, h1⟩
theorem se_if (hc : ST X W cls c tc) (ha : SE X W cls a fa) (hb : SE X W cls b fb) : SE X W cls (.IfExp c a b pos) (eIf tc fa fb) := by
  obtain ⟨t0, p0, h0⟩ := hc
  obtain ⟨t1, p1, h1⟩ := ha
  obtain ⟨t2, p2, h2⟩ := hb
  refine ⟨_, pe_ifExp p0 p1 p2, fun σ Q w ρ μ S E h => ?_⟩
  refine h0 σ _ w ρ μ S E ((PostR.bind h).imp fun w1 d s1 ⟨μ1, S1, q1⟩ => ?_)
  cases d with
  | true => exact h1 σ _ w1 ρ μ1 S1 (E.mono s1.kp) q1
  | false => exact h2 σ _ w1 ρ μ1 S1 (E.mono s1.kp) q1
theorem se_not (ha : SE X W cls a fa) : SE X W cls (.UnaryOp .Not a pos) (eNot fa) := by
  obtain ⟨t1, p1, h1⟩ := ha
  refine ⟨_, pe_not p1, fun σ Q w ρ μ S E h => ?_⟩
  refine h1 σ _ w ρ μ S E ((PostR.bind h).imp fun w1 d s1 ⟨μ1, S1, q1⟩ v r1 => ?_)
  cases d with
  | bl k => exact ⟨k, r1, q1 w1 Step.refl S1 _ rfl⟩
  | _ => exact q1.elim
theorem se_one {op} (ha : SE X W cls a fa) : SE X W cls (.BoolOp op [a] pos) fa := by
  obtain ⟨t1, p1, h1⟩ := ha
  exact ⟨_, pe_one p1, h1⟩
theorem se_and {rest : List Expr} (ha : SE X W cls a fa) (hb : SE X W cls (.BoolOp .And (b :: rest) pos) fb) : SE X W cls (.BoolOp .And (a :: b :: rest) pos) (eAnd fa fb) := by
  obtain ⟨t1, p1, h1⟩ := ha
  obtain ⟨t2, p2, h2⟩ := hb
  refine ⟨_, pe_and p1 p2, fun σ Q w ρ μ S E h => ?_⟩
  refine h1 σ _ w ρ μ S E ((PostR.bind h).imp fun w1 d s1 ⟨μ1, S1, q1⟩ v r1 => ?_)
  cases d with
  | bl k =>
    refine ⟨k, r1, ?_⟩
    cases k with
    | true => exact h2 σ _ w1 ρ μ1 S1 (E.mono s1.kp) q1
    | false => exact q1 w1 Step.refl S1 _ rfl
  | _ => exact q1.elim
theorem se_or {rest : List Expr} (ha : SE X W cls a fa) (hb : SE X W cls (.BoolOp .Or (b :: rest) pos) fb) : SE X W cls (.BoolOp .Or (a :: b :: rest) pos) (eOr fa fb) := by
  obtain ⟨t1, p1, h1⟩ := ha
  obtain ⟨t2, p2, h2⟩ := hb
  refine ⟨_, pe_or p1 p2, fun σ Q w ρ μ S E h => ?_⟩
  refine h1 σ _ w ρ μ S E ((PostR.bind h).imp fun w1 d s1 ⟨μ1, S1, q1⟩ v r1 => ?_)
  cases d with
  | bl k =>
    refine ⟨k, r1, ?_⟩
    cases k with
    | false => exact h2 σ _ w1 ρ μ1 S1 (E.mono s1.kp) q1
    | true => exact q1 w1 Step.refl S1 _ rfl
  | _ => exact q1.elim
theorem sa_nil : SA X W cls [] aNil := ⟨_, pa_nil, fun σ Q w ρ μ S E h => h w Step.refl S _ rfl⟩
theorem sa_cons {es : List Expr} {fr : FA} (ha : SE X W cls a fa) (hr : SA X W cls es fr) (hs : starEach (a :: es) X.env = (false, eval a X.env) :: starEach es X.env := by rfl) : SA X W cls (a :: es) (aCons fa fr) := by
  obtain ⟨t1, p1, h1⟩ := ha
  obtain ⟨t2, p2, h2⟩ := hr
  refine ⟨_, pa_cons p1 p2 hs, fun σ Q w ρ μ S E h => ?_⟩
  refine h1 σ _ w ρ μ S E ((PostR.bind h).imp fun w1 d s1 ⟨μ1, S1, q1⟩ v r1 => ?_)
  refine h2 σ _ w1 ρ μ1 S1 (E.mono s1.kp) ((PostR.bind q1).imp fun w2 e s2 ⟨μ2, S2, q2⟩ u r2 => ?_)
  exact q2 w2 Step.refl S2 _ (.cons (r1.mono s2.kp) r2)
theorem se_tup {es : List Expr} {fr : FA} {x1} (ha : SA X W cls es fr) : SE X W cls (.Tuple es x1 pos) (eTup fr) := by
  obtain ⟨t1, p1, h1⟩ := ha
  refine ⟨_, pe_tup p1, fun σ Q w ρ μ S E h => ?_⟩
  refine h1 σ _ w ρ μ S E ((PostR.bind h).imp fun w1 d s1 ⟨μ1, S1, q1⟩ v r1 => ?_)
  by_cases hl : d.length ≤ LIM
  · rw [if_pos hl] at q1
    exact ⟨by rw [r1.length]; exact lim_le hl, fun p hp => q1 (w1.up p (.tup v)) (step_new hp) (S1.new hp) _ (new_tup S1 hp r1)⟩
  · rw [if_neg hl] at q1
    exact q1.elim
theorem se_lst {es : List Expr} {fr : FA} (ha : SA X W cls es fr) : SE X W cls (.List es pos) (eLst fr) := by
  obtain ⟨t1, p1, h1⟩ := ha
  refine ⟨_, pe_lst p1, fun σ Q w ρ μ S E h => ?_⟩
  refine h1 σ _ w ρ μ S E ((PostR.bind h).imp fun w1 d s1 ⟨μ1, S1, q1⟩ v r1 => ?_)
  by_cases hl : d.length ≤ LIM
  · rw [if_pos hl] at q1
    exact ⟨by rw [r1.length]; exact lim_le hl, fun p hp => q1 (w1.up p (.lst v)) (step_new hp) (S1.new hp) _ (new_lst S1 hp r1)⟩
  · rw [if_neg hl] at q1
    exact q1.elim
/-- a built-in by its name -/
theorem se_callB {x : Str} {p : Pos} {es : List Expr} {fr : FA} {id : String} {F : List D → Store → Res D} (hc : CV X cls (.builtin id) F) (hg : Gl X x) (hm : X.mg x = none) (hv : bootBuiltins x = some (.builtin id)) (ha : SA X W cls (a :: es) fr)
    (hn : x ≠ "__name__" := by decide +kernel) (hdb : (x == ("__debug__" : Str)) = false := by decide +kernel)
    (he : starEach (a :: es) X.env = (false, eval a X.env) :: starEach es X.env := by rfl) (hpl : (backTo pos (starEach es X.env)).any (·.1) = false := by rfl) : SE X W cls (.Call (.Name x p) (a :: es) [] pos) (eCall F fr) := by
  obtain ⟨r, c, hc⟩ := hc
  obtain ⟨t1, p1, h1⟩ := ha
  refine ⟨_, pe_callB c hg hm hv p1 hn hdb he hpl, fun σ Q w ρ μ S E h => ?_⟩
  refine h1 σ _ w ρ μ S E ((PostR.bind h).imp fun w1 d s1 ⟨μ1, S1, q1⟩ v r1 => ?_)
  exact hc w1 μ1 _ d v Q S1 r1 q1
theorem se_callTy {x : Str} {p : Pos} {es : List Expr} {fr : FA} {T : String} {F : List D → Store → Res D} (hc : CV X cls (.type T) F) (hg : Gl X x) (hm : X.mg x = none) (hv : bootBuiltins x = some (.type T)) (ha : SA X W cls (a :: es) fr)
    (hn : x ≠ "__name__" := by decide +kernel) (hdb : (x == ("__debug__" : Str)) = false := by decide +kernel)
    (he : starEach (a :: es) X.env = (false, eval a X.env) :: starEach es X.env := by rfl) (hpl : (backTo pos (starEach es X.env)).any (·.1) = false := by rfl) : SE X W cls (.Call (.Name x p) (a :: es) [] pos) (eCall F fr) := by
  obtain ⟨r, c, hc⟩ := hc
  obtain ⟨t1, p1, h1⟩ := ha
  refine ⟨_, pe_callTy c hg hm hv p1 hn hdb he hpl, fun σ Q w ρ μ S E h => ?_⟩
  refine h1 σ _ w ρ μ S E ((PostR.bind h).imp fun w1 d s1 ⟨μ1, S1, q1⟩ v r1 => ?_)
  exact hc w1 μ1 _ d v Q S1 r1 q1

/-! ### a def's promise by its reading, and its call -/
def spD (K : PySem.W.Frag) (cls : Nat → Option Addr) (F : List D → Store → Res D) (n : Nat) : Sp := fun vs H Q E => ∃ (w : Wd) (ds : List D) (μ : Store), w.H = H ∧ ds.length = n ∧ RelS K cls w μ ∧ RVs K cls w ds vs ∧
  PostR K cls w E (fun w' d => ∀ v, RV K cls w' d v → Q v w'.H) (F ds μ)
/-- a def as the top has left it, with what it reads as -/
structure Df (P : Program) (W : World) (K : PySem.W.Frag) (cls : Nat → Option Addr) (mg : Str → Option Value) (base : Heap) (k : Nat) (x : Str) (n : Nat) (F : List D → Store → Res D) : Prop where
  ex : ∃ (f : Addr) (fd : FuncData) (ps : List Str), FnOk P W K mg base (CX P W) k f fd ps (spD K cls F n) ∧ mg x = some (.ref f) ∧ PySem.W.keepIn K (.ref f) = true ∧ Binds K fd ps [] ∧ ps.length = n
def eCallD (n : Nat) (F : List D → Store → Res D) (fs : FA) : FE := fun ρ μ => (fs ρ μ).bind fun ds μ1 => if ds.length = n then F ds μ1 else .stuck
theorem se_call {k n : Nat} {x : Str} {p : Pos} {es : List Expr} {fr : FA} {F : List D → Store → Res D} (tk : Takes X W) (G : Df X.prog X.w X.K cls X.mg X.base k x n F) (hr : Room k X.A) (hg : Gl X x) (ha : SA X W cls (a :: es) fr)
    (hdb : (x == ("__debug__" : Str)) = false := by decide +kernel) (he : starEach (a :: es) X.env = (false, eval a X.env) :: starEach es X.env := by rfl) (hpl : (backTo pos (starEach es X.env)).any (·.1) = false := by rfl) :
    SE X W cls (.Call (.Name x p) (a :: es) [] pos) (eCallD n F fr) := by
  obtain ⟨f, fd, ps, hf, hm, hk, hb, hn⟩ := G.ex
  obtain ⟨t1, p1, h1⟩ := ha
  refine ⟨_, pe_callS (E := WE W) hf hr hg hm hk hb (passAt tk) p1 hdb he hpl, fun σ Q w ρ μ S E h => ?_⟩
  refine h1 σ _ w ρ μ S E ((PostR.bind h).imp fun w1 d s1 ⟨μ1, S1, q1⟩ v r1 => ?_)
  by_cases hl : d.length = n
  · rw [if_pos hl] at q1
    exact ⟨w1, d, μ1, rfl, hl, S1, r1, q1⟩
  · rw [if_neg hl] at q1
    exact q1.elim
end
end Fw

set_option Elab.async false
set_option linter.all false
set_option maxRecDepth 100000
set_option autoImplicit false
/-! The operators and the built-ins by values. -/
namespace Fw
open PySem L2 PyProof.Rows

section
variable {K : PySem.W.Frag} {cls : Nat → Option Addr} {w : Wd} {μ : Store}
def lstOf (μ : Store) : D → Option (List D)
  | .lst ds => some ds
  | .loc n => match μ[n]? with
    | some (.lst ds) => some ds
    | _ => none
  | _ => none
theorem lstOf_at (S : RelS K cls w μ) {d : D} {x : V} {ds : List D} (r : RV K cls w d x) (h : lstOf μ d = some ds) : ∃ a vs, x = .ref a ∧ w.H a = some (.lst vs) ∧ RVs K cls w ds vs := by
  cases d with
  | lst es =>
    cases h
    obtain ⟨a, vs, e, ⟨h1, _⟩, h2⟩ := r
    exact ⟨a, vs, e, h1, h2⟩
  | loc n =>
    obtain ⟨a, e, hn⟩ := r
    simp only [lstOf] at h
    split at h
    · rename_i es hc
      cases h
      obtain ⟨a', h1, vs, h2, h3⟩ := S.cell n _ hc
      rw [hn] at h1
      cases h1
      exact ⟨a, vs, e, h2, h3⟩
    · cases h
  | _ => cases h
/-- any sequence but a text -/
def seqOf (μ : Store) : D → Option (List D)
  | .lst ds => some ds
  | .tup ds => some ds
  | .flst is => some (is.map .int)
  | .loc n => match μ[n]? with
    | some (.lst ds) => some ds
    | _ => none
  | _ => none
theorem seqOf_at (S : RelS K cls w μ) {d : D} {x : V} {ds : List D} (r : RV K cls w d x) (h : seqOf μ d = some ds) : ∃ a vs, x = .ref a ∧ (SqL K w.H a vs ∨ SqT K w.H a vs) ∧ RVs K cls w ds vs := by
  cases d with
  | lst es =>
    obtain ⟨a, vs, e, h1, h2⟩ := lstOf_at S r h
    exact ⟨a, vs, e, .inl (.inl (.inl h1)), h2⟩
  | loc n =>
    obtain ⟨a, vs, e, h1, h2⟩ := lstOf_at S r h
    exact ⟨a, vs, e, .inl (.inl (.inl h1)), h2⟩
  | tup es =>
    cases h
    obtain ⟨a, vs, e, h1, h2⟩ := r
    exact ⟨a, vs, e, .inr h1.sq, h2⟩
  | flst is =>
    cases h
    obtain ⟨a, e, h1⟩ := r
    exact ⟨a, _, e, .inl h1.sq, RVs.ints⟩
  | _ => cases h
theorem strEq {s : List Nat} : (⟨s.toArray⟩ : Str).cps.toList = s := by simp
theorem strLen {s : List Nat} : (⟨s.toArray⟩ : Str).length = s.length := by show s.toArray.size = s.length; simp
theorem strApp {s t : List Nat} : (⟨s.toArray⟩ : Str) ++ (⟨t.toArray⟩ : Str) = (⟨(s ++ t).toArray⟩ : Str) := by
  show Str.mk (s.toArray ++ t.toArray) = _
  simp
end

/-! ### + - * // % ** -/
def oAdd : D → D → Store → Res D := fun d e μ => match d, e with
  | .int i, .int j => .ok (.int (i + j)) μ
  | .str a, .str b => if a.length + b.length ≤ LIM then .ok (.str (a ++ b)) μ else .stuck
  | .tup a, .tup b => if a.length + b.length ≤ LIM then .ok (.tup (a ++ b)) μ else .stuck
  | d, e => match lstOf μ d, lstOf μ e with
    | some a, some b => if a.length + b.length ≤ LIM then .ok (.lst (a ++ b)) μ else .stuck
    | _, _ => .stuck
def oSub : D → D → Store → Res D := fun d e μ => match d, e with
  | .int i, .int j => .ok (.int (i - j)) μ
  | _, _ => .stuck
def Sm (i : Int) : Bool := decide (-(2 ^ 64) < i) && decide (i < 2 ^ 64)
def oMul : D → D → Store → Res D := fun d e μ => match d, e with
  | .int i, .int j => if (Sm i || Sm j) = true then .ok (.int (i * j)) μ else .stuck
  | .str a, .int j => if j ≤ 1000 ∧ -1000 ≤ j ∧ a.length ≤ 1000 then .ok (.str (List.replicate j.toNat a).flatten) μ else .stuck
  | d, .int j => match lstOf μ d with
    | some a => if j ≤ 1000 ∧ -1000 ≤ j ∧ a.length ≤ 1000 then .ok (.lst (List.replicate j.toNat a).flatten) μ else .stuck
    | _ => .stuck
  | _, _ => .stuck
def oMod : D → D → Store → Res D := fun d e μ => match d, e with
  | .int i, .int j => if 0 < j then .ok (.int (i % j)) μ else .stuck
  | _, _ => .stuck
def oFdv : D → D → Store → Res D := fun d e μ => match d, e with
  | .int i, .int j => if 0 < j ∧ j.natAbs.log2 < 9000 then .ok (.int (i / j)) μ else .stuck
  | _, _ => .stuck
def oPow : D → D → Store → Res D := fun d e μ => match d, e with
  | .int i, .int j => if 0 ≤ j ∧ j ≤ 1000 ∧ Sm i = true then .ok (.int (i ^ j.toNat)) μ else .stuck
  | _, _ => .stuck

section
variable {X : Cx} {W : WX} {cls : Nat → Option Addr}
theorem sm_ok {i : Int} (h : Sm i = true) : -(2 ^ 64) < i ∧ i < 2 ^ 64 := by
  unfold Sm at h
  simpa using h
theorem ov_add : OV X cls (binaryOp .Add) oAdd := by
  refine ⟨_, op_add.or (op_add_str.or (op_catA.or op_cat)), fun w μ Er d e x y Q S r1 r2 h => ?_⟩
  have lsts : ∀ {a b : List D}, lstOf μ d = some a → lstOf μ e = some b → PostR X.K cls w Er (fun w' d => ∀ v, RV X.K cls w' d v → Q v w'.H) (if a.length + b.length ≤ LIM then Res.ok (.lst (a ++ b)) μ else .stuck) →
      L2.rCat x y w.H Q := fun {a b} ha hb h => by
    obtain ⟨l, vs, e1, h1, h2⟩ := lstOf_at S r1 ha
    obtain ⟨m, us, e2, h3, h4⟩ := lstOf_at S r2 hb
    split at h
    · rename_i hl
      refine ⟨l, m, vs, us, e1, e2, h1, h3, by rw [h2.length, h4.length]; exact lim_le hl, fun p hp => ?_⟩
      exact h (w.up p (.lst (vs ++ us))) (step_new hp) (S.new hp) _ (new_lst S hp (h2.append h4))
    · exact h.elim
  unfold oAdd at h
  split at h
  · exact .inl ⟨_, _, r1, r2, h w Step.refl S _ rfl⟩
  · rename_i a b
    split at h
    · rename_i hl
      refine .inr (.inl ⟨_, _, r1, r2, by rw [strLen, strLen]; exact lim_le hl, ?_⟩)
      rw [strApp]
      exact h w Step.refl S _ rfl
    · exact h.elim
  · rename_i a b
    split at h
    · rename_i hl
      obtain ⟨p, vs, e1, t1, q1⟩ := r1
      obtain ⟨q, us, e2, t2, q2⟩ := r2
      refine .inr (.inr (.inl ⟨p, q, vs, us, e1, e2, t1.sq, t2.sq, by rw [q1.length, q2.length]; exact lim_le hl, fun z => ?_, fun z z' => ?_, fun z z' n hn => ?_⟩))
      · subst z
        refine h w Step.refl S _ ⟨q, us, rfl, t2, ?_⟩
        have : a = [] := List.length_eq_zero_iff.mp (by rw [← q1.length]; rfl)
        rw [this]
        exact q2
      · subst z'
        refine h w Step.refl S _ ⟨p, vs, rfl, t1, ?_⟩
        have : b = [] := List.length_eq_zero_iff.mp (by rw [← q2.length]; rfl)
        rw [this, List.append_nil]
        exact q1
      · exact h (w.up n (.tup (vs ++ us))) (step_new hn) (S.new hn) _ (new_tup S hn (q1.append q2))
    · exact h.elim
  · split at h
    · rename_i a b ha hb
      exact .inr (.inr (.inr (lsts ha hb h)))
    · exact h.elim
theorem ov_sub : OV X cls (binaryOp .Sub) oSub := by
  refine ⟨_, op_sub, fun w μ Er d e x y Q S r1 r2 h => ?_⟩
  unfold oSub at h
  split at h
  · exact ⟨_, _, r1, r2, h w Step.refl S _ rfl⟩
  · exact h.elim
theorem op_repS : OpR X (binaryOp .Mult) (fun x y H Q => ∃ (a : List Nat) (j : Int), x = .str ⟨a.toArray⟩ ∧ y = .int j ∧ (j ≤ 1000 ∧ -1000 ≤ j ∧ a.length ≤ 1000) ∧ Q (.str ⟨(List.replicate j.toNat a).flatten.toArray⟩) H) := by
  intro pins s σ H x y v u Q I rx ry h
  obtain ⟨a, j, rfl, rfl, ⟨h1, h2, h3⟩, q⟩ := h
  obtain ⟨t, rfl⟩ := rx
  obtain ⟨t', rfl⟩ := ry
  have hl : (⟨a.toArray⟩ : Str).length = a.length := strLen
  refine PySem.P.mul_str (by rw [decide_eq_false (by omega), decide_eq_false (by omega)]; rfl) (fun g1 _ z => ?_) (fun g1 _ => ?_) ?_
  · rw [hl] at z
    have hj : (1000 : Int) * j ≤ 2 ^ 63 - 1 := by omega
    have : (1000 : Int) ≤ (2 ^ 63 - 1) / j := (Int.le_ediv_iff_mul_le (by omega)).mpr hj
    omega
  · rw [hl]
    have hm : a.length * j.toNat ≤ 1000 * 1000 := Nat.mul_le_mul h3 (by omega)
    unfold Builtin.Str.tooLong
    rw [sizeLine_eq]
    simp
    omega
  · have key : ∀ n : Nat, (List.replicate n a.toArray).foldl (· ++ ·) #[] = (List.replicate n a).flatten.toArray := fun n => by
      have gen : ∀ (n : Nat) (b : List Nat), (List.replicate n a.toArray).foldl (· ++ ·) b.toArray = (b ++ (List.replicate n a).flatten).toArray := by
        intro n
        induction n with
        | zero => intro b; simp
        | succ n ih =>
          intro b
          rw [List.replicate_succ, List.foldl_cons, List.append_toArray, ih, List.replicate_succ, List.flatten_cons, List.append_assoc]
      simpa using gen n []
    split
    · rename_i hn
      have : j.toNat = 0 := by omega
      rw [this] at q
      exact ⟨by decide, ⟨V.str Str.empty, H, I.tok _, ⟨_, rfl⟩, q⟩⟩
    · split
      · rename_i hn hb
        rw [Bool.or_eq_true] at hb
        rcases hb with hb | hb
        · have : j = 1 := by simpa using hb
          subst this
          have e : (List.replicate (1 : Int).toNat a).flatten = a := by simp
          rw [e] at q
          exact ⟨V.str _, H, I, ⟨_, rfl⟩, q⟩
        · rw [hl] at hb
          have : a = [] := List.length_eq_zero_iff.mp (by simpa using hb)
          subst this
          have e : (List.replicate j.toNat ([] : List Nat)).flatten = [] := by
            rw [List.flatten_eq_nil_iff]
            intro l hl
            exact List.eq_of_mem_replicate hl
          rw [e] at q
          exact ⟨V.str _, H, I, ⟨_, rfl⟩, q⟩
      · rw [key]
        refine ⟨?_, ⟨V.str _, H, I.tok _, ⟨_, rfl⟩, q⟩⟩
        show ((List.replicate j.toNat a).flatten.toArray).size ≤ sizeLine
        have e : (List.replicate j.toNat a).flatten.length = j.toNat * a.length := by simp
        rw [List.size_toArray, e]
        have hm : j.toNat * a.length ≤ 1000 * 1000 := Nat.mul_le_mul (by omega) h3
        exact lim_le hm
theorem ov_mul : OV X cls (binaryOp .Mult) oMul := by
  refine ⟨_, op_mul.or (op_repS.or op_rep), fun w μ Er d e x y Q S r1 r2 h => ?_⟩
  unfold oMul at h
  split at h
  · split at h
    · rename_i i j hs
      refine .inl ⟨_, _, r1, r2, ?_, h w Step.refl S _ rfl⟩
      rw [Bool.or_eq_true] at hs
      exact hs.imp sm_ok sm_ok
    · exact h.elim
  · split at h
    · rename_i a j hs
      exact .inr (.inl ⟨_, _, r1, r2, hs, h w Step.refl S _ rfl⟩)
    · exact h.elim
  · split at h
    · rename_i a ha
      split at h
      · rename_i hs
        obtain ⟨l, vs, e1, h1, h2⟩ := lstOf_at S r1 ha
        have hm : ∀ n : Nat, n ≤ 1000 → vs.length * n ≤ sizeLine := fun n hn => by
          rw [h2.length]
          exact lim_le (Nat.mul_le_mul hs.2.2 hn)
        exact .inr (.inr ⟨l, _, vs, e1, r2, h1, by omega, by omega, hm _ (by omega), fun p hp => h (w.up p _) (step_new hp) (S.new hp) _ (new_lst S hp (h2.rep _))⟩)
      · exact h.elim
    · exact h.elim
  · exact h.elim
theorem ov_mod : OV X cls (binaryOp .Mod) oMod := by
  refine ⟨_, op_mod, fun w μ Er d e x y Q S r1 r2 h => ?_⟩
  unfold oMod at h
  split at h
  · split at h
    · rename_i hs
      exact ⟨_, _, r1, r2, hs, h w Step.refl S _ rfl⟩
    · exact h.elim
  · exact h.elim
theorem ov_fdv : OV X cls (binaryOp .FloorDiv) oFdv := by
  refine ⟨_, op_fdivW, fun w μ Er d e x y Q S r1 r2 h => ?_⟩
  unfold oFdv at h
  split at h
  · split at h
    · rename_i hs
      exact ⟨_, _, r1, r2, hs, h w Step.refl S _ rfl⟩
    · exact h.elim
  · exact h.elim
theorem ov_pow : OV X cls (binaryOp .Pow) oPow := by
  refine ⟨_, op_pow, fun w μ Er d e x y Q S r1 r2 h => ?_⟩
  unfold oPow at h
  split at h
  · split at h
    · rename_i hs
      refine ⟨_, _, r1, r2, ⟨hs.1, by omega, ?_⟩, h w Step.refl S _ rfl⟩
      have := sm_ok hs.2.2
      omega
    · exact h.elim
  · exact h.elim

/-! ### order, is -/
def oI (p : Int → Int → Bool) : D → D → Store → Res D := fun d e μ => match d, e with
  | .int i, .int j => .ok (.bl (p i j)) μ
  | _, _ => .stuck
theorem ov_I {op : CmpOp} {p : Int → Int → Bool} (ho : OpR X (compareOp op) (rI0 fun i j => .bl (p i j))) : OV X cls (compareOp op) (oI p) := by
  refine ⟨_, ho, fun w μ Er d e x y Q S r1 r2 h => ?_⟩
  unfold oI at h
  split at h
  · exact ⟨_, _, r1, r2, h w Step.refl S _ rfl⟩
  · exact h.elim
def oLt := oI fun i j => decide (i < j)
def oLe := oI fun i j => decide (i ≤ j)
def oGt := oI fun i j => decide (j < i)
def oGe := oI fun i j => decide (j ≤ i)
theorem ov_lt : OV X cls (compareOp .Lt) oLt := ov_I op_lt
theorem ov_le : OV X cls (compareOp .LtE) oLe := ov_I op_le
theorem ov_gt : OV X cls (compareOp .Gt) oGt := ov_I op_gt
theorem ov_ge : OV X cls (compareOp .GtE) oGe := ov_I op_ge
def D.isNon : D → Bool
  | .non => true
  | _ => false
theorem isNon_iff {K : PySem.W.Frag} {w : Wd} {d : D} {x : V} (r : RV K cls w d x) : decide (x = .non) = d.isNon := by
  cases d with
  | non => rw [show x = V.non from r]; rfl
  | bl b => rw [show x = V.bl b from r]; rfl
  | int b => rw [show x = V.int b from r]; rfl
  | str b => rw [show x = V.str _ from r]; rfl
  | tup b => obtain ⟨_, _, e, _⟩ := r; rw [e]; rfl
  | lst b => obtain ⟨_, _, e, _⟩ := r; rw [e]; rfl
  | flst b => obtain ⟨_, e, _⟩ := r; rw [e]; rfl
  | obj _ _ b => obtain ⟨_, _, _, _, e, _⟩ := r; rw [e]; rfl
  | loc b => obtain ⟨_, e, _⟩ := r; rw [e]; rfl
  | ptr a => rw [show x = V.ref a from r]; rfl
  | dct _ _ => obtain ⟨_, _, e, _⟩ := r; rw [e]; rfl
def oIsN : D → D → Store → Res D := fun d e μ => match e with
  | .non => .ok (.bl d.isNon) μ
  | _ => .stuck
def oNotN : D → D → Store → Res D := fun d e μ => match e with
  | .non => .ok (.bl (!d.isNon)) μ
  | _ => .stuck
theorem ov_isN : OV X cls (compareOp .Is) oIsN := by
  refine ⟨_, op_isN, fun w μ Er d e x y Q S r1 r2 h => ?_⟩
  unfold oIsN at h
  split at h
  · exact ⟨r2, h w Step.refl S _ (by rw [isNon_iff r1]; rfl)⟩
  · exact h.elim
theorem ov_notN : OV X cls (compareOp .IsNot) oNotN := by
  refine ⟨_, op_notN, fun w μ Er d e x y Q S r1 r2 h => ?_⟩
  unfold oNotN at h
  split at h
  · exact ⟨r2, h w Step.refl S _ (by rw [isNon_iff r1]; rfl)⟩
  · exact h.elim
end
end Fw

set_option Elab.async false
set_option linter.all false
set_option maxRecDepth 100000
set_option autoImplicit false
/-! ==, in, subscripts, slices, built-in calls, methods. -/
namespace Fw
open PySem L2 PyProof.Rows

/-! ### == -/
mutual
def toPy : D → PyData
  | .non => .none
  | .bl b => .bool b
  | .int i => .int i
  | .str s => .str ⟨s.toArray⟩
  | .tup ds => .tuple (toPys ds)
  | .lst ds => .list (toPys ds)
  | .flst is => .list (is.map .int)
  | .obj _ _ _ => .dict []
  | .loc _ => .dict []
  | .ptr _ => .dict []
  | .dct _ _ => .dict []
def toPys : List D → List PyData
  | [] => []
  | d :: ds => toPy d :: toPys ds
end
theorem toPys_map : ∀ ds : List D, toPys ds = ds.map toPy
  | [] => rfl
  | d :: ds => by rw [toPys, toPys_map ds]; rfl
def toPyM (μ : Store) : D → PyData
  | .loc n => match μ[n]? with
    | some (.lst ds) => .list (toPys ds)
    | _ => .dict []
  | d => toPy d
/-- a thing that == can tell: texts of code points, not too deep, nothing else in it -/
def okD (p : PyData) : Bool := SeqAt.shaped p
section
variable {K : PySem.W.Frag} {cls : Nat → Option Addr} {w : Wd} {μ : Store}
mutual
theorem dp_of : ∀ {d : D} {x : V}, RV K cls w d x → (toPy d).canLay0 = true → Dp K w.H x (toPy d)
  | .non, _, r, _ => by rw [show _ = V.non from r]; exact .non
  | .bl b, _, r, _ => by rw [show _ = V.bl b from r]; exact .bl b
  | .int b, _, r, _ => by rw [show _ = V.int b from r]; exact .int b
  | .str b, _, r, _ => by rw [show _ = V.str _ from r]; exact .str _
  | .tup ds, _, ⟨a, vs, e, t, r⟩, h => by rw [e]; exact .tup t.sq (dps_of r h)
  | .lst ds, _, ⟨a, vs, e, t, r⟩, h => by rw [e]; exact .lst (.inl (.inl t.1)) (dps_of r h)
  | .flst is, _, ⟨a, e, t⟩, h => by rw [e]; exact .lst t.sq (dps_ints is)
  | .obj _ _ _, _, _, h => nomatch h
  | .loc _, _, _, h => nomatch h
  | .ptr _, _, _, h => nomatch h
  | .dct _ _, _, _, h => nomatch h
theorem dps_of : ∀ {ds : List D} {vs : List V}, RVs K cls w ds vs → PyData.canLayAll0 (toPys ds) = true → DpAll K w.H vs (toPys ds)
  | [], _, r, _ => by rw [show _ = [] from r]; exact .nil
  | d :: ds, _, ⟨v, vs, e, r, t⟩, h => by
    have h' : (toPy d).canLay0 = true ∧ PyData.canLayAll0 (toPys ds) = true := by simpa [toPys, PyData.canLayAll0] using h
    rw [e]
    exact .cons (dp_of r h'.1) (dps_of t h'.2)
theorem dps_ints : ∀ is : List Int, DpAll K w.H (is.map V.int) (is.map PyData.int)
  | [] => .nil
  | i :: is => .cons (.int i) (dps_ints is)
end
theorem dpM_of (S : RelS K cls w μ) {d : D} {x : V} (r : RV K cls w d x) (h : okD (toPyM μ d) = true) : Dp K w.H x (toPyM μ d) := by
  have h1 : (toPyM μ d).canLay0 = true := by
    unfold okD SeqAt.shaped at h
    rw [Bool.and_eq_true] at h
    exact h.1
  cases d with
  | loc n =>
    simp only [toPyM] at h1 ⊢
    split
    · rename_i ds hc
      rw [hc] at h1
      obtain ⟨a, vs, e, h2, h3⟩ := lstOf_at S (d := .loc n) (ds := ds) r (by simp [lstOf, hc])
      rw [e]
      exact .lst (.inl (.inl h2)) (dps_of h3 h1)
    · rename_i hc
      split at h1
      · rename_i ds hc'
        exact absurd hc' (hc ds)
      · exact nomatch h1
  | _ => exact dp_of r h1
end
def oEq : D → D → Store → Res D := fun d e μ => if (okD (toPyM μ d) && okD (toPyM μ e)) = true then .ok (.bl (PyData.eqv (toPyM μ d) (toPyM μ e))) μ else .stuck
def oNe : D → D → Store → Res D := fun d e μ => if (okD (toPyM μ d) && okD (toPyM μ e)) = true then .ok (.bl (!PyData.eqv (toPyM μ d) (toPyM μ e))) μ else .stuck
section
variable {X : Cx} {W : WX} {cls : Nat → Option Addr}
theorem ov_eq (hu : X.A.units + 64 < cLine) : OV X cls (compareOp .Eq) oEq := by
  refine ⟨_, op_eqD hu, fun w μ Er d e x y Q S r1 r2 h => ?_⟩
  unfold oEq at h
  split at h
  · rename_i hs
    rw [Bool.and_eq_true] at hs
    exact ⟨_, _, dpM_of S r1 hs.1, dpM_of S r2 hs.2, hs.1, hs.2, h w Step.refl S _ rfl⟩
  · exact h.elim
theorem ov_ne (hu : X.A.units + 64 < cLine) : OV X cls (compareOp .NotEq) oNe := by
  refine ⟨_, op_neD hu, fun w μ Er d e x y Q S r1 r2 h => ?_⟩
  unfold oNe at h
  split at h
  · rename_i hs
    rw [Bool.and_eq_true] at hs
    exact ⟨_, _, dpM_of S r1 hs.1, dpM_of S r2 hs.2, hs.1, hs.2, h w Step.refl S _ rfl⟩
  · exact h.elim
end

/-! ### in -/
def flatD : D → Bool
  | .non => true
  | .bl _ => true
  | .int _ => true
  | .str _ => true
  | _ => false
def eqDf : D → D → Bool
  | .non, .non => true
  | .bl a, .bl b => a == b
  | .bl a, .int b => (if a then 1 else 0) == b
  | .int a, .bl b => a == (if b then 1 else 0)
  | .int a, .int b => a == b
  | .str a, .str b => a == b
  | _, _ => false
def inD (d : D) (ds : List D) : Bool := ds.any fun y => eqDf y d
def oIn (neg : Bool) : D → D → Store → Res D := fun d e μ => match d, e with
  | .str [c], .str s => .ok (.bl (if neg then !decide (c ∈ s) else decide (c ∈ s))) μ
  | d, e => match seqOf μ e with
    | some ds => if (flatD d && ds.all flatD) = true then .ok (.bl (if neg then !inD d ds else inD d ds)) μ else .stuck
    | none => .stuck
section
variable {K : PySem.W.Frag} {cls : Nat → Option Addr} {w : Wd} {μ : Store}
theorem flat_of {d : D} {x : V} (r : RV K cls w d x) (h : flatD d = true) : flatV x = true := by
  cases d with
  | non => rw [show x = V.non from r]; rfl
  | bl b => rw [show x = V.bl b from r]; rfl
  | int b => rw [show x = V.int b from r]; rfl
  | str b => rw [show x = V.str _ from r]; rfl
  | _ => exact nomatch h
theorem str_beq {a b : List Nat} : ((⟨a.toArray⟩ : Str) == (⟨b.toArray⟩ : Str)) = (a == b) := by
  by_cases h : a = b
  · subst h; simp
  · have : ¬ (⟨a.toArray⟩ : Str) = ⟨b.toArray⟩ := fun e => h (by simpa using congrArg (fun s : Str => s.cps.toList) e)
    rw [beq_eq_false_iff_ne.mpr this, beq_eq_false_iff_ne.mpr h]
theorem eqV_of {d e : D} {x y : V} (r : RV K cls w d x) (r2 : RV K cls w e y) (h : flatD d = true) (h2 : flatD e = true) : eqV x y = eqDf d e := by
  cases d with
  | non => rw [show x = V.non from r]; cases e with
    | non => rw [show y = V.non from r2]; rfl
    | bl b => rw [show y = V.bl b from r2]; rfl
    | int b => rw [show y = V.int b from r2]; rfl
    | str b => rw [show y = V.str _ from r2]; rfl
    | _ => exact nomatch h2
  | bl b => rw [show x = V.bl b from r]; cases e with
    | non => rw [show y = V.non from r2]; rfl
    | bl b => rw [show y = V.bl b from r2]; rfl
    | int b => rw [show y = V.int b from r2]; rfl
    | str b => rw [show y = V.str _ from r2]; rfl
    | _ => exact nomatch h2
  | int b => rw [show x = V.int b from r]; cases e with
    | non => rw [show y = V.non from r2]; rfl
    | bl b => rw [show y = V.bl b from r2]; rfl
    | int b => rw [show y = V.int b from r2]; rfl
    | str b => rw [show y = V.str _ from r2]; rfl
    | _ => exact nomatch h2
  | str b => rw [show x = V.str _ from r]; cases e with
    | non => rw [show y = V.non from r2]; rfl
    | bl b => rw [show y = V.bl b from r2]; rfl
    | int b => rw [show y = V.int b from r2]; rfl
    | str b => rw [show y = V.str _ from r2]; exact str_beq
    | _ => exact nomatch h2
  | _ => exact nomatch h
theorem inV_of {d : D} {x : V} (r : RV K cls w d x) (h : flatD d = true) : ∀ {ds : List D} {vs : List V}, RVs K cls w ds vs → ds.all flatD = true → vs.all flatV = true ∧ inV x vs = inD d ds
  | [], _, t, _ => by rw [show _ = [] from t]; exact ⟨rfl, rfl⟩
  | e :: ds, _, ⟨v, vs, q, t, ts⟩, hf => by
    rw [List.all_cons, Bool.and_eq_true] at hf
    obtain ⟨h1, h2⟩ := inV_of r h ts hf.2
    refine ⟨?_, ?_⟩
    · rw [q, List.all_cons, flat_of t hf.1, h1]; rfl
    · rw [q]
      show (eqV v x || vs.any fun y => eqV y x) = (eqDf e d || ds.any fun y => eqDf y d)
      rw [eqV_of t r hf.1 h]
      show (eqDf e d || inV x vs) = (eqDf e d || inD d ds)
      rw [h2]
end
section
variable {X : Cx} {W : WX} {cls : Nat → Option Addr}
theorem ov_inG {neg : Bool} {op : CmpOp} (h1 : OpR X (compareOp op) (fun x y H Q => ∃ (c : Nat) (z : Str), x = .str ⟨#[c]⟩ ∧ y = .str z ∧ Q (.bl (if neg then !decide (c ∈ z.cps.toList) else decide (c ∈ z.cps.toList))) H))
    (h2 : OpR X (compareOp op) (rIn X.K neg)) : OV X cls (compareOp op) (oIn neg) := by
  refine ⟨_, h1.or h2, fun w μ Er d e x y Q S r1 r2 h => ?_⟩
  unfold oIn at h
  split at h
  · rename_i c s
    have h := h w Step.refl S _ rfl
    refine .inl ⟨c, _, r1, r2, ?_⟩
    rw [strEq]
    exact h
  · split at h
    · rename_i ds hd
      split at h
      · rename_i hs
        rw [Bool.and_eq_true] at hs
        obtain ⟨a, vs, e1, h3, h4⟩ := seqOf_at S r2 hd
        obtain ⟨h5, h6⟩ := inV_of r1 hs.1 h4 hs.2
        have h := h w Step.refl S _ rfl
        rw [← h6] at h
        exact .inr ⟨a, vs, e1, h3, flat_of r1 hs.1, h5, h⟩
      · exact h.elim
    · exact h.elim
theorem ov_in : OV X cls (compareOp .In) (oIn false) := ov_inG (fun pins s σ H x y v u Q I rx ry h => op_in_sign pins s σ H x y v u Q I rx ry (by simpa using h)) op_in_seq
theorem ov_notIn : OV X cls (compareOp .NotIn) (oIn true) := ov_inG (fun pins s σ H x y v u Q I rx ry h => op_notIn_sign pins s σ H x y v u Q I rx ry (by simpa using h)) op_notIn_seq
end

/-! ### subscripts, slices -/
def oIx : D → D → Store → Res D := fun d e μ => match d, e with
  | .str s, .int i => if s.length ≤ LIM then match atI s i with
      | some c => .ok (.str [c]) μ
      | none => .stuck
    else .stuck
  | d, .int i => match seqOf μ d with
    | some ds => match atI ds i with
      | some e => .ok e μ
      | none => .stuck
    | none => .stuck
  | _, _ => .stuck
def cutD {α : Type} (xs : List α) (lo hi : Option Int) : List α := (xs.drop (HT.sIx xs.length 0 lo)).take (HT.sIx xs.length xs.length hi - HT.sIx xs.length 0 lo)
def oCut : D → Option Int → Option Int → Store → Res D := fun d lo hi μ => match d with
  | .str s => if s.length ≤ LIM then .ok (.str (cutD s lo hi)) μ else .stuck
  | .tup ds => .ok (.tup (cutD ds lo hi)) μ
  | d => match seqOf μ d with
    | some ds => .ok (.lst (cutD ds lo hi)) μ
    | none => .stuck
abbrev FO := Env → Store → Res (Option Int)
def oNone : FO := fun _ μ => .ok none μ
def oSome (fa : FE) : FO := fun ρ μ => (fa ρ μ).bind fun d μ1 => match d with
  | .int i => .ok (some i) μ1
  | _ => .stuck
def eCut (fa : FE) (fl fh : FO) : FE := fun ρ μ => (fa ρ μ).bind fun d μ1 => (fl ρ μ1).bind fun l μ2 => (fh ρ μ2).bind fun u μ3 => oCut d l u μ3
section
variable {K : PySem.W.Frag} {cls : Nat → Option Addr} {w : Wd} {μ : Store}
theorem RVs.atI {ds : List D} {vs : List V} {i : Int} {d : D} (r : RVs K cls w ds vs) (h : L2.atI ds i = some d) : ∃ v, L2.atI vs i = some v ∧ RV K cls w d v := by
  unfold L2.atI at h ⊢
  rw [r.length]
  cases e : ixN ds.length i with
  | none => rw [e] at h; cases h
  | some j =>
    rw [e] at h
    exact r.get h
theorem RVs.cut {ds : List D} {vs : List V} {lo hi : Option Int} (r : RVs K cls w ds vs) : RVs K cls w (cutD ds lo hi) (cutV vs lo hi) := by
  unfold cutD cutV
  rw [r.length]
  exact (r.drop _).take _
end
section
variable {K : PySem.W.Frag} {cls : Nat → Option Addr} {w : Wd} {μ : Store} {Q : VK} {Er : XK}
theorem ix_val (S : RelS K cls w μ) {d e : D} {x y : V} (r1 : RV K cls w d x) (r2 : RV K cls w e y) (q2 : PostR K cls w Er (fun w' d => ∀ v, RV K cls w' d v → Q v w'.H) (oIx d e μ)) : rIx K x y w.H Q := by
  unfold oIx at q2
  split at q2
  · rename_i s i
    split at q2
    · rename_i hl
      split at q2
      · rename_i c hc
        exact .inr (.inr ⟨_, i, c, r1, r2, by rw [strLen]; exact lim_le hl, by rw [strEq]; exact hc, q2 w Step.refl S _ rfl⟩)
      · exact q2.elim
    · exact q2.elim
  · rename_i i hn
    split at q2
    · rename_i ds hd
      split at q2
      · rename_i e he
        obtain ⟨a, vs, e1, h3, h4⟩ := seqOf_at S r1 hd
        obtain ⟨x, h5, h6⟩ := h4.atI he
        have q2 := q2 w Step.refl S _ h6
        rcases h3 with h3 | h3
        · exact .inl ⟨a, vs, _, x, e1, r2, h3, h5, q2⟩
        · exact .inr (.inl ⟨a, vs, _, x, e1, r2, h3, h5, q2⟩)
      · exact q2.elim
    · exact q2.elim
  · exact q2.elim
theorem cut_val (S : RelS K cls w μ) {d : D} {x : V} {l u : Option Int} (r1 : RV K cls w d x) (q3 : PostR K cls w Er (fun w' d => ∀ v, RV K cls w' d v → Q v w'.H) (oCut d l u μ)) :
    rSlS x l u w.H Q ∨ rSlA K x l u w.H Q ∨ rSlL K x l u w.H Q := by
  have fin : ∀ {ds : List D} {p : Addr} {vs : List V}, x = .ref p → SqL K w.H p vs → RVs K cls w ds vs → PostR K cls w Er (fun w' d => ∀ v, RV K cls w' d v → Q v w'.H) (.ok (.lst (cutD ds l u)) μ) → rSlL K x l u w.H Q := fun {ds p vs} e h4 h5 q =>
    ⟨p, vs, e, h4, fun n hp => q (w.up n (.lst (cutV vs l u))) (step_new hp) (S.new hp) _ (new_lst S hp h5.cut)⟩
  cases d with
  | str s =>
    simp only [oCut] at q3
    split at q3
    · rename_i hl
      refine .inl ⟨_, r1, by rw [strLen]; exact lim_le hl, ?_⟩
      have e : cutS (⟨s.toArray⟩ : Str) l u = ⟨(cutD s l u).toArray⟩ := by
        unfold cutS cutD
        rw [strLen, strEq]
      rw [e]
      exact q3 w Step.refl S _ rfl
    · exact q3.elim
  | tup ds =>
    simp only [oCut] at q3
    obtain ⟨p, vs, e1, h4, h5⟩ := r1
    refine .inr (.inl ⟨p, vs, e1, h4.sq, fun hw => ?_, fun hn n hp => ?_⟩)
    · have e : cutD ds l u = ds := by
        unfold cutD
        rw [← h5.length, hw.1, hw.2, List.drop_zero, Nat.sub_zero]
        exact List.take_of_length_le (by rw [h5.length]; exact Nat.le_refl _)
      rw [e] at q3
      exact q3 w Step.refl S _ ⟨p, vs, rfl, h4, h5⟩
    · exact q3 (w.up n (.tup (cutV vs l u))) (step_new hp) (S.new hp) _ (new_tup S hp h5.cut)
  | lst ds =>
    simp only [oCut, seqOf] at q3
    obtain ⟨p, vs, e2, h6, h7⟩ := lstOf_at S (d := .lst ds) (ds := ds) r1 rfl
    exact .inr (.inr (fin e2 (.inl (.inl h6)) h7 q3))
  | flst is =>
    simp only [oCut, seqOf] at q3
    obtain ⟨p, e2, h6⟩ := r1
    exact .inr (.inr (fin e2 h6.sq RVs.ints q3))
  | loc n =>
    simp only [oCut, seqOf] at q3
    split at q3
    · rename_i ds hd
      split at hd
      · rename_i es hc
        cases hd
        obtain ⟨p, vs, e2, h6, h7⟩ := lstOf_at S (d := .loc n) (ds := ds) r1 (by simp [lstOf, hc])
        exact .inr (.inr (fin e2 (.inl (.inl h6)) h7 q3))
      · cases hd
    · exact q3.elim
  | non => exact q3.elim
  | bl _ => exact q3.elim
  | int _ => exact q3.elim
  | obj _ _ _ => exact q3.elim
  | ptr _ => exact q3.elim
  | dct _ _ => exact q3.elim
end
section
variable {X : Cx} {W : WX} {cls : Nat → Option Addr} {a b e : Expr} {fa fb : FE} {fl fh : FO} {pos p2 : Pos} {lo hi : Option Expr}
theorem se_ix (ha : SE X W cls a fa) (hb : SE X W cls b fb) (hs : PlainIx b := by exact fun _ _ => rfl) : SE X W cls (.Subscript a b pos) (eBin oIx fa fb) := by
  obtain ⟨t1, p1, h1⟩ := ha
  obtain ⟨t2, p2, h2⟩ := hb
  refine ⟨_, pe_ix ix_seq p1 p2 hs, fun σ Q w ρ μ S E h => ?_⟩
  refine h1 σ _ w ρ μ S E ((PostR.bind h).imp fun w1 d s1 ⟨μ1, S1, q1⟩ v r1 => ?_)
  refine h2 σ _ w1 ρ μ1 S1 (E.mono s1.kp) ((PostR.bind q1).imp fun w2 e s2 ⟨μ2, S2, q2⟩ u r2 => ?_)
  exact ix_val S2 (r1.mono s2.kp) r2 q2
def SO (X : Cx) (W : WX) (cls : Nat → Option Addr) (e : Option Expr) (f : FO) : Prop := ∃ t, PO X e t ∧ ∀ (σ : L2.St) (Q : Option Int → Hp → Prop) (w : Wd) (ρ : Env) (μ : Store), RelS X.K cls w μ → RelE X.K cls w ρ σ →
  PostR X.K cls w (WE W σ) (fun w' o => Q o w'.H) (f ρ μ) → t σ w.H Q
theorem so_none : SO X W cls none oNone := ⟨_, po_none, fun σ Q w ρ μ S E h => h w Step.refl S⟩
theorem so_some (ha : SE X W cls a fa) : SO X W cls (some a) (oSome fa) := by
  obtain ⟨t1, p1, h1⟩ := ha
  refine ⟨_, po_some p1, fun σ Q w ρ μ S E h => ?_⟩
  refine h1 σ _ w ρ μ S E ((PostR.bind h).imp fun w1 d s1 ⟨μ1, S1, q1⟩ v r1 => ?_)
  cases d with
  | int i => exact ⟨i, r1, q1 w1 Step.refl S1⟩
  | _ => exact q1.elim
theorem slR_or {r r' : V → Option Int → Option Int → Hp → VK → Prop} (h : SlR X r) (h' : SlR X r') : SlR X (fun x l u H Q => r x l u H Q ∨ r' x l u H Q) := by
  intro pins s σ H x v vl vu lo hi sl Q I rx hs pl pu z
  rcases z with z | z
  · exact h pins s σ H x v vl vu lo hi sl Q I rx hs pl pu z
  · exact h' pins s σ H x v vl vu lo hi sl Q I rx hs pl pu z
theorem se_cut (ha : SE X W cls a fa) (hl : SO X W cls lo fl) (hh : SO X W cls hi fh) : SE X W cls (.Subscript a (.Slice lo hi none p2) pos) (eCut fa fl fh) := by
  obtain ⟨t1, p1, h1⟩ := ha
  obtain ⟨t2, p2, h2⟩ := hl
  obtain ⟨t3, p3, h3⟩ := hh
  refine ⟨_, pe_slice (slR_or sl_str (slR_or sl_tupA sl_list)) p1 p2 p3, fun σ Q w ρ μ S E h => ?_⟩
  refine h1 σ _ w ρ μ S E ((PostR.bind h).imp fun w1 d s1 ⟨μ1, S1, q1⟩ v r1 => ?_)
  refine h2 σ _ w1 ρ μ1 S1 (E.mono s1.kp) ((PostR.bind q1).imp fun w2 l s2 ⟨μ2, S2, q2⟩ => ?_)
  refine h3 σ _ w2 ρ μ2 S2 (E.mono (s1.trans s2).kp) ((PostR.bind q2).imp fun w3 u s3 ⟨μ3, S3, q3⟩ => ?_)
  exact cut_val S3 (r1.mono (s2.trans s3).kp) q3
end
end Fw

set_option Elab.async false
set_option linter.all false
set_option maxRecDepth 100000
set_option autoImplicit false
/-! Built-in calls, methods, what is written. -/
namespace Fw
open PySem L2 PyProof.Rows

/-! ### calls -/
def cLen : List D → Store → Res D := fun ds μ => match ds with
  | [.str s] => if s.length ≤ LIM then .ok (.int s.length) μ else .stuck
  | [d] => match seqOf μ d with
    | some es => .ok (.int es.length) μ
    | none => .stuck
  | _ => .stuck
def cInt : List D → Store → Res D := fun ds μ => match ds with
  | [.int i] => .ok (.int i) μ
  | [.bl b] => .ok (.int (if b then 1 else 0)) μ
  | [.str s] => match PySem.intText? ⟨s.toArray⟩ with
    | some n => if s.length ≤ 640 then .ok (.int n) μ else .stuck
    | none => .stuck
  | _ => .stuck
def strI (i : Int) : List Nat := (Str.ofString (toString i)).cps.toList
def cStr : List D → Store → Res D := fun ds μ => match ds with
  | [.int i] => if i.natAbs.log2 < 1920 then .ok (.str (strI i)) μ else .stuck
  | [.str s] => .ok (.str s) μ
  | _ => .stuck
def cTuple : List D → Store → Res D := fun ds μ => match ds with
  | [d] => match seqOf μ d with
    | some es => .ok (.tup es) μ
    | none => .stuck
  | _ => .stuck
def cList : List D → Store → Res D := fun ds μ => match ds with
  | [d] => match seqOf μ d with
    | some es => .ok (.lst es) μ
    | none => .stuck
  | _ => .stuck
def cMax2 : List D → Store → Res D := fun ds μ => match ds with
  | [.int i, .int j] => .ok (.int (if j > i then j else i)) μ
  | _ => .stuck
def cMin2 : List D → Store → Res D := fun ds μ => match ds with
  | [.int i, .int j] => .ok (.int (if j < i then j else i)) μ
  | _ => .stuck
def intsOf : List D → Option (List Int)
  | [] => some []
  | .int i :: ds => (intsOf ds).map (i :: ·)
  | _ :: _ => none
def blsOf : List D → Option (List Bool)
  | [] => some []
  | .bl i :: ds => (blsOf ds).map (i :: ·)
  | _ :: _ => none
def strsOf : List D → Option (List (List Nat))
  | [] => some []
  | .str i :: ds => (strsOf ds).map (i :: ·)
  | _ :: _ => none
/-- a list's ints: not a tuple's -/
def lintsOf (μ : Store) (d : D) : Option (List Int) := match d with
  | .flst is => some is
  | d => match lstOf μ d with
    | some es => intsOf es
    | none => none
def cSum : List D → Store → Res D := fun ds μ => match ds with
  | [d] => match lintsOf μ d with
    | some is => .ok (.int is.sum) μ
    | none => .stuck
  | _ => .stuck
def cSorted : List D → Store → Res D := fun ds μ => match ds with
  | [d] => match lintsOf μ d with
    | some is => .ok (.lst ((is.mergeSort (fun a b => decide (a ≤ b))).map .int)) μ
    | none => .stuck
  | _ => .stuck
def cAll : List D → Store → Res D := fun ds μ => match ds with
  | [d] => match lstOf μ d with
    | some es => match blsOf es with
      | some bs => .ok (.bl (bs.all id)) μ
      | none => .stuck
    | none => .stuck
  | _ => .stuck
def cAny : List D → Store → Res D := fun ds μ => match ds with
  | [d] => match lstOf μ d with
    | some es => match blsOf es with
      | some bs => .ok (.bl (bs.any id)) μ
      | none => .stuck
    | none => .stuck
  | _ => .stuck
section
variable {K : PySem.W.Frag} {cls : Nat → Option Addr} {w : Wd} {μ : Store}
theorem RVs.one {d : D} {xs : List V} (r : RVs K cls w [d] xs) : ∃ x, xs = [x] ∧ RV K cls w d x := by
  obtain ⟨v, vs, e, h, t⟩ := r
  rw [show vs = [] from t] at e
  exact ⟨v, e, h⟩
theorem RVs.two {d d' : D} {xs : List V} (r : RVs K cls w [d, d'] xs) : ∃ x y, xs = [x, y] ∧ RV K cls w d x ∧ RV K cls w d' y := by
  obtain ⟨v, vs, e, h, t⟩ := r
  obtain ⟨u, rfl, h2⟩ := RVs.one t
  exact ⟨v, u, e, h, h2⟩
theorem intsOf_at : ∀ {ds : List D} {is : List Int} {vs : List V}, RVs K cls w ds vs → intsOf ds = some is → vs = is.map V.int
  | [], _, _, r, h => by rw [show _ = [] from r]; cases h; rfl
  | .int i :: ds, is, _, ⟨v, vs, e, h1, t⟩, h => by
    simp only [intsOf, Option.map_eq_some_iff] at h
    obtain ⟨js, h2, rfl⟩ := h
    rw [e, intsOf_at t h2, show v = V.int i from h1]
    rfl
  | .non :: _, _, _, _, h | .bl _ :: _, _, _, _, h | .str _ :: _, _, _, _, h | .tup _ :: _, _, _, _, h | .lst _ :: _, _, _, _, h | .flst _ :: _, _, _, _, h | .obj _ _ _ :: _, _, _, _, h | .loc _ :: _, _, _, _, h => by simp [intsOf] at h
theorem blsOf_at : ∀ {ds : List D} {is : List Bool} {vs : List V}, RVs K cls w ds vs → blsOf ds = some is → vs = is.map V.bl
  | [], _, _, r, h => by rw [show _ = [] from r]; cases h; rfl
  | .bl i :: ds, is, _, ⟨v, vs, e, h1, t⟩, h => by
    simp only [blsOf, Option.map_eq_some_iff] at h
    obtain ⟨js, h2, rfl⟩ := h
    rw [e, blsOf_at t h2, show v = V.bl i from h1]
    rfl
  | .non :: _, _, _, _, h | .int _ :: _, _, _, _, h | .str _ :: _, _, _, _, h | .tup _ :: _, _, _, _, h | .lst _ :: _, _, _, _, h | .flst _ :: _, _, _, _, h | .obj _ _ _ :: _, _, _, _, h | .loc _ :: _, _, _, _, h => by simp [blsOf] at h
theorem strsOf_at : ∀ {ds : List D} {is : List (List Nat)} {vs : List V}, RVs K cls w ds vs → strsOf ds = some is → vs = (is.map fun s => (⟨s.toArray⟩ : Str)).map V.str
  | [], _, _, r, h => by rw [show _ = [] from r]; cases h; rfl
  | .str i :: ds, is, _, ⟨v, vs, e, h1, t⟩, h => by
    simp only [strsOf, Option.map_eq_some_iff] at h
    obtain ⟨js, h2, rfl⟩ := h
    rw [e, strsOf_at t h2, show v = V.str _ from h1]
    rfl
  | .non :: _, _, _, _, h | .int _ :: _, _, _, _, h | .bl _ :: _, _, _, _, h | .tup _ :: _, _, _, _, h | .lst _ :: _, _, _, _, h | .flst _ :: _, _, _, _, h | .obj _ _ _ :: _, _, _, _, h | .loc _ :: _, _, _, _, h => by simp [strsOf] at h
theorem lintsOf_at (S : RelS K cls w μ) {d : D} {x : V} {is : List Int} (r : RV K cls w d x) (h : lintsOf μ d = some is) : ∃ a, x = .ref a ∧ SqL K w.H a (is.map V.int) := by
  unfold lintsOf at h
  split at h
  · cases h
    obtain ⟨a, e, t⟩ := r
    exact ⟨a, e, t.sq⟩
  · split at h
    · rename_i es he
      obtain ⟨a, vs, e, h1, h2⟩ := lstOf_at S r he
      rw [intsOf_at h2 h] at h1
      exact ⟨a, e, .inl (.inl h1)⟩
    · cases h
end
section
variable {X : Cx} {W : WX} {cls : Nat → Option Addr}
theorem cv_len : CV X cls (.builtin "len") cLen := by
  refine ⟨_, call_len_str.or call_len_seq, fun w μ Er ds xs Q S r0 h => ?_⟩
  unfold cLen at h
  split at h
  · rename_i s
    obtain ⟨x, rfl, r⟩ := r0.one
    split at h
    · rename_i hl
      refine .inl ⟨_, congrArg (fun z => [z]) r, by rw [strLen]; exact lim_le hl, ?_⟩
      rw [strLen]
      exact h w Step.refl S _ rfl
    · exact h.elim
  · obtain ⟨x, rfl, r⟩ := r0.one
    split at h
    · rename_i es hd
      obtain ⟨a, vs, e, h3, h4⟩ := seqOf_at S r hd
      refine .inr ⟨a, vs, congrArg (fun z => [z]) e, h3, ?_⟩
      rw [h4.length]
      exact h w Step.refl S _ rfl
    · exact h.elim
  · exact h.elim
theorem cv_int : CV X cls (.type "int") cInt := by
  refine ⟨_, call_int1.or call_int_str, fun w μ Er ds xs Q S r0 h => ?_⟩
  unfold cInt at h
  split at h
  · obtain ⟨x, rfl, r⟩ := r0.one
    exact .inl (.inl ⟨_, congrArg (fun z => [z]) r, h w Step.refl S _ rfl⟩)
  · obtain ⟨x, rfl, r⟩ := r0.one
    exact .inl (.inr ⟨_, congrArg (fun z => [z]) r, h w Step.refl S _ rfl⟩)
  · obtain ⟨x, rfl, r⟩ := r0.one
    split at h
    · rename_i n hn
      split at h
      · rename_i hl
        exact .inr ⟨_, n, congrArg (fun z => [z]) r, hn, by rw [strLen]; exact hl, h w Step.refl S _ rfl⟩
      · exact h.elim
    · exact h.elim
  · exact h.elim
theorem cv_str : CV X cls (.type "str") cStr := by
  refine ⟨_, call_str_int.or SkE.call_str_str, fun w μ Er ds xs Q S r0 h => ?_⟩
  unfold cStr at h
  split at h
  · rename_i i
    obtain ⟨x, rfl, r⟩ := r0.one
    split at h
    · rename_i hl
      refine .inl ⟨i, congrArg (fun z => [z]) r, hl, h w Step.refl S _ ?_⟩
      show V.str _ = V.str ⟨(strI i).toArray⟩
      unfold strI
      rw [Array.toArray_toList]
    · exact h.elim
  · obtain ⟨x, rfl, r⟩ := r0.one
    exact .inr ⟨_, congrArg (fun z => [z]) r, h w Step.refl S _ rfl⟩
  · exact h.elim
theorem cv_tuple : CV X cls (.type "tuple") cTuple := by
  refine ⟨_, call_tuple_of, fun w μ Er ds xs Q S r0 h => ?_⟩
  unfold cTuple at h
  split at h
  · rename_i d
    obtain ⟨x, rfl, r⟩ := r0.one
    split at h
    · rename_i es hd
      have gen : (∃ a vs, x = .ref a ∧ SqL X.K w.H a vs ∧ RVs X.K cls w es vs) → ∃ p ys, [x] = [V.ref p] ∧ ((SqL X.K w.H p ys ∧ ∀ l, w.H l = none → Q (.ref l) (upd w.H l (.tup ys))) ∨ (SqT X.K w.H p ys ∧ Q (.ref p) w.H)) := fun ⟨a, vs, e, h3, h4⟩ =>
        ⟨a, vs, congrArg (fun z => [z]) e, .inl ⟨h3, fun l hl => h (w.up l (.tup vs)) (step_new hl) (S.new hl) _ (new_tup S hl h4)⟩⟩
      cases d with
      | tup ts =>
        cases hd
        obtain ⟨a, vs, e, t, q⟩ := r
        exact ⟨a, vs, congrArg (fun z => [z]) e, .inr ⟨t.sq, h w Step.refl S _ ⟨a, vs, rfl, t, q⟩⟩⟩
      | lst ts => obtain ⟨a, vs, e, h3, h4⟩ := lstOf_at S (d := .lst ts) (ds := es) r hd; exact gen ⟨a, vs, e, .inl (.inl h3), h4⟩
      | loc ts => obtain ⟨a, vs, e, h3, h4⟩ := lstOf_at S (d := .loc ts) (ds := es) r hd; exact gen ⟨a, vs, e, .inl (.inl h3), h4⟩
      | flst ts =>
        cases hd
        obtain ⟨a, e, t⟩ := r
        exact gen ⟨a, _, e, t.sq, RVs.ints⟩
      | _ => cases hd
    · exact h.elim
  · exact h.elim
theorem cv_list : CV X cls (.type "list") cList := by
  refine ⟨_, call_list_of, fun w μ Er ds xs Q S r0 h => ?_⟩
  unfold cList at h
  split at h
  · rename_i d
    obtain ⟨x, rfl, r⟩ := r0.one
    split at h
    · rename_i es hd
      obtain ⟨a, vs, e, h3, h4⟩ := seqOf_at S r hd
      exact ⟨a, vs, congrArg (fun z => [z]) e, h3, fun l hl => h (w.up l (.lst vs)) (step_new hl) (S.new hl) _ (new_lst S hl h4)⟩
    · exact h.elim
  · exact h.elim
theorem cv_max2 (hc : X.calm = true) : CV X cls (.builtin "max") cMax2 := by
  refine ⟨_, call_max2 hc, fun w μ Er ds xs Q S r0 h => ?_⟩
  unfold cMax2 at h
  split at h
  · obtain ⟨x, y, rfl, r1, r2⟩ := r0.two
    exact ⟨_, _, by rw [show x = _ from r1, show y = _ from r2], h w Step.refl S _ rfl⟩
  · exact h.elim
theorem cv_min2 (hc : X.calm = true) : CV X cls (.builtin "min") cMin2 := by
  refine ⟨_, call_min2 hc, fun w μ Er ds xs Q S r0 h => ?_⟩
  unfold cMin2 at h
  split at h
  · obtain ⟨x, y, rfl, r1, r2⟩ := r0.two
    exact ⟨_, _, by rw [show x = _ from r1, show y = _ from r2], h w Step.refl S _ rfl⟩
  · exact h.elim
theorem cv_sum (hc : X.calm = true) : CV X cls (.builtin "sum") cSum := by
  refine ⟨_, cr_sum hc, fun w μ Er ds xs Q S r0 h => ?_⟩
  unfold cSum at h
  split at h
  · obtain ⟨x, rfl, r⟩ := r0.one
    split at h
    · rename_i is hd
      obtain ⟨a, e, h3⟩ := lintsOf_at S r hd
      exact ⟨a, is, congrArg (fun z => [z]) e, h3, h w Step.refl S _ rfl⟩
    · exact h.elim
  · exact h.elim
theorem sorted_one {a b : List Int} (hp : a.Perm b) (hs : a.Pairwise (· ≤ ·)) : a = b.mergeSort (fun a b => decide (a ≤ b)) := by
  refine List.Perm.eq_of_pairwise (le := (· ≤ ·)) (fun x y _ _ h1 h2 => Int.le_antisymm h1 h2) hs ?_ (hp.trans (List.mergeSort_perm b _).symm)
  have := List.pairwise_mergeSort (le := fun a b => decide ((a : Int) ≤ b)) (fun a b c h1 h2 => by simp at *; omega) (fun a b => by simp; omega) b
  exact this.imp fun h => by simpa using h
theorem cv_sorted : CV X cls (.builtin "sorted") cSorted := by
  refine ⟨_, cr_sortedI, fun w μ Er ds xs Q S r0 h => ?_⟩
  unfold cSorted at h
  split at h
  · obtain ⟨x, rfl, r⟩ := r0.one
    split at h
    · rename_i is hd
      obtain ⟨a, e, h3⟩ := lintsOf_at S r hd
      refine ⟨a, is, congrArg (fun z => [z]) e, h3, fun ns p hp hs hl => ?_⟩
      rw [← sorted_one hp hs] at h
      exact h (w.up p (.lst (ns.map V.int))) (step_new hl) (S.new hl) _ (new_lst S hl RVs.ints)
    · exact h.elim
  · exact h.elim
theorem cv_all (hc : X.calm = true) : CV X cls (.builtin "all") cAll := by
  refine ⟨_, cr_all hc, fun w μ Er ds xs Q S r0 h => ?_⟩
  unfold cAll at h
  split at h
  · obtain ⟨x, rfl, r⟩ := r0.one
    split at h
    · rename_i es hd
      obtain ⟨a, vs, e, h3, h4⟩ := lstOf_at S r hd
      split at h
      · rename_i bs hb
        rw [blsOf_at h4 hb] at h3
        exact ⟨a, bs, congrArg (fun z => [z]) e, .inl (.inl h3), h w Step.refl S _ rfl⟩
      · exact h.elim
    · exact h.elim
  · exact h.elim
theorem cv_any (hc : X.calm = true) : CV X cls (.builtin "any") cAny := by
  refine ⟨_, cr_any hc, fun w μ Er ds xs Q S r0 h => ?_⟩
  unfold cAny at h
  split at h
  · obtain ⟨x, rfl, r⟩ := r0.one
    split at h
    · rename_i es hd
      obtain ⟨a, vs, e, h3, h4⟩ := lstOf_at S r hd
      split at h
      · rename_i bs hb
        rw [blsOf_at h4 hb] at h3
        exact ⟨a, bs, congrArg (fun z => [z]) e, .inl (.inl h3), h w Step.refl S _ rfl⟩
      · exact h.elim
    · exact h.elim
  · exact h.elim
end

/-! ### isinstance(x, T), T built-in -/
def tyName (μ : Store) : D → Option String
  | .non => some "NoneType"
  | .bl _ => some "bool"
  | .int _ => some "int"
  | .str _ => some "str"
  | .tup _ => some "tuple"
  | .lst _ => some "list"
  | .flst _ => none
  | .obj _ _ _ => none
  | .ptr _ => none
  | .dct _ _ => some "dict"
  | .loc n => match μ[n]? with
    | some (.lst _) => some "list"
    | _ => none
def eIsi (T : String) (fa : FE) : FE := fun ρ μ => (fa ρ μ).bind fun d μ1 => match tyName μ1 d with
  | some t => match kitB t T with
    | some b => .ok (.bl b) μ1
    | none => .stuck
  | none => .stuck
theorem tyName_at {K : PySem.W.Frag} {cls : Nat → Option Addr} {w : Wd} {μ : Store} (S : RelS K cls w μ) {d : D} {x : V} {t : String} (r : RV K cls w d x) (h : tyName μ d = some t) : TyX K w.H x (.type t) := by
  cases d with
  | non => cases h; rw [show x = V.non from r]; exact .base .non
  | bl b => cases h; rw [show x = V.bl b from r]; exact .base (.bl b)
  | int b => cases h; rw [show x = V.int b from r]; exact .base (.int b)
  | str b => cases h; rw [show x = V.str _ from r]; exact .base (.str _)
  | tup b =>
    cases h
    obtain ⟨a, vs, e, t, _⟩ := r
    rw [e]
    rcases t with ⟨t, _⟩ | t
    · exact .base (.tup t)
    · rcases t with (t | ⟨o, t⟩) | ⟨o, its, n, e1, e2, _⟩
      · cases t
      · cases t
      · exact .kTuple e1 e2
  | lst b =>
    cases h
    obtain ⟨a, vs, e, ⟨t, _⟩, _⟩ := r
    rw [e]
    exact .base (.lst t)
  | flst b => cases h
  | obj _ _ _ => cases h
  | ptr _ => cases h
  | dct _ _ =>
    cases h
    obtain ⟨a, vs, e, ⟨t, _⟩, _⟩ := r
    rw [e]
    exact .base (.dK t)
  | loc n =>
    simp only [tyName] at h
    split at h
    · rename_i es hc
      cases h
      obtain ⟨a, vs, e, h1, _⟩ := lstOf_at S (d := .loc n) (ds := es) r (by simp [lstOf, hc])
      rw [e]
      exact .base (.lst h1)
    · cases h
theorem se_isi {X : Cx} {W : WX} {cls : Nat → Option Addr} {a : Expr} {fa : FE} {pos p p2 : Pos} {T : String} {x : Str} (ha : SE X W cls a fa) (hg : Gl X "isinstance") (hm : X.mg "isinstance" = none) (hv : bootBuiltins "isinstance" = some (.builtin "isinstance"))
    (hg2 : Gl X x) (hm2 : X.mg x = none) (hv2 : bootBuiltins x = some (.type T)) (hn : x ≠ "__name__" := by decide +kernel) (hd : (x == ("__debug__" : Str)) = false := by decide +kernel)
    (he : starEach [a, .Name x p2] X.env = (false, eval a X.env) :: starEach [.Name x p2] X.env := by rfl) (hs : starEach [.Name x p2] X.env = (false, eval (.Name x p2) X.env) :: starEach [] X.env := by rfl)
    (hpl : (backTo pos (starEach [.Name x p2] X.env)).any (·.1) = false := by rfl) :
    SE X W cls (.Call (.Name "isinstance" p) [a, .Name x p2] [] pos) (eIsi T fa) := by
  obtain ⟨t1, p1, h1⟩ := ha
  refine ⟨_, pe_callB call_isi hg hm hv (pa_cons p1 (pa_cons (pe_bltn (v := .ty T) hg2 hm2 hv2 rfl hn hd) pa_nil hs) he) (by decide +kernel) (by decide +kernel) he hpl, fun σ Q w ρ μ S E h => ?_⟩
  refine h1 σ _ w ρ μ S E ((PostR.bind h).imp fun w1 d s1 ⟨μ1, S1, q1⟩ v r1 => ?_)
  split at q1
  · rename_i t ht
    split at q1
    · rename_i b hb
      exact ⟨v, .ty T, .type t, .type T, b, rfl, .ty T, tyName_at S1 r1 ht, kit_ty hb, q1 w1 Step.refl S1 _ rfl⟩
    · exact q1.elim
  · exact q1.elim
end Fw

set_option Elab.async false
set_option linter.all false
set_option maxRecDepth 100000
set_option autoImplicit false
/-! Methods, statements, loops, comprehensions, defs. -/
namespace Fw
open PySem L2 PyProof.Rows

/-! ### join -/
def joinD (S : List Nat) : List (List Nat) → List Nat
  | [] => []
  | [p] => p
  | p :: q :: r => p ++ (S ++ joinD S (q :: r))
theorem joinD_nil : ∀ ps : List (List Nat), joinD [] ps = ps.flatten
  | [] => rfl
  | [p] => by simp [joinD]
  | p :: q :: r => by rw [joinD, joinD_nil (q :: r)]; simp
theorem join_of (S : List Nat) : ∀ ps : List (List Nat), Str.join ⟨S.toArray⟩ (ps.map fun s => (⟨s.toArray⟩ : Str)) = ⟨(joinD S ps).toArray⟩
  | [] => rfl
  | [p] => rfl
  | p :: q :: r => by
    show ((⟨p.toArray⟩ : Str) ++ (⟨S.toArray⟩ : Str)) ++ Str.join ⟨S.toArray⟩ ((q :: r).map fun s => (⟨s.toArray⟩ : Str)) = _
    rw [join_of S (q :: r), strApp, strApp, List.append_assoc]
    rfl
def oJoin (d e : D) (μ : Store) : Res D := match d with
  | .str s => match seqOf μ e with
    | some es => match strsOf es with
      | some ps => if (ps.map List.length).sum + ps.length * s.length ≤ LIM then .ok (.str (joinD s ps)) μ else .stuck
      | none => .stuck
    | none => .stuck
  | _ => .stuck
def eJoin (fo fe : FE) : FE := fun ρ μ => (fo ρ μ).bind fun d μ1 => match d with
  | .str s => (fe ρ μ1).bind fun e μ2 => oJoin (.str s) e μ2
  | _ => .stuck
/-! ### list methods on a place -/
def isL (μ : Store) : D → Bool
  | .loc n => match μ[n]? with
    | some (.lst _) => true
    | _ => false
  | _ => false
def oApp (d e : D) (μ : Store) : Res D := match d with
  | .loc n => match μ[n]? with
    | some (.lst es) => if es.length < LIM then .ok .non (μ.set n (.lst (es ++ [e]))) else .stuck
    | _ => .stuck
  | _ => .stuck
def oPopAt (d e : D) (μ : Store) : Res D := match d, e with
  | .loc n, .int i => match μ[n]? with
    | some (.lst es) => if 0 ≤ i ∧ i ≤ LIM then match es[i.toNat]? with
        | some e => .ok e (μ.set n (.lst (es.eraseIdx i.toNat)))
        | none => .stuck
      else .stuck
    | _ => .stuck
  | _, _ => .stuck
def oPop0 (d : D) (μ : Store) : Res D := match d with
  | .loc n => match μ[n]? with
    | some (.lst es) => match es[es.length - 1]? with
      | some e => .ok e (μ.set n (.lst es.dropLast))
      | none => .stuck
    | _ => .stuck
  | _ => .stuck
/-- xs.m(e), xs a list at a place -/
def eLm (g : D → D → Store → Res D) (fo fe : FE) : FE := fun ρ μ => (fo ρ μ).bind fun d μ1 => if isL μ1 d = true then (fe ρ μ1).bind fun e μ2 => g d e μ2 else .stuck
def eLm0 (g : D → Store → Res D) (fo : FE) : FE := fun ρ μ => (fo ρ μ).bind fun d μ1 => if isL μ1 d = true then g d μ1 else .stuck
section
variable {K : PySem.W.Frag} {cls : Nat → Option Addr} {w : Wd} {μ : Store}
theorem Step.write {n : Nat} {a : Addr} (hn : w.ι[n]? = some a) {o : HO} : Step w (w.up a o) where
  keep := fun b u hb e => by
    show upd w.H a o b = some u
    rw [upd_ne fun z => hb (by rw [z]; exact List.mem_of_getElem? hn)]
    exact e
  pre := ⟨[], by simp⟩
  fresh := fun b h n => absurd h n
  ban := rfl
  exn := rfl
theorem RelS.write (S : RelS K cls w μ) {n : Nat} {a : Addr} {c : Cell} {o : HO} (hn : w.ι[n]? = some a) (hc : CellOk K cls (w.up a o) a c) : RelS K cls (w.up a o) (μ.set n c) where
  len := by rw [List.length_set]; exact S.len
  nd := S.nd
  ban := fun b hb => by
    obtain ⟨h1, u, h2⟩ := S.ban b hb
    exact ⟨h1, u, by show upd w.H a o b = some u; rw [upd_ne fun z => h1 (by rw [z]; exact List.mem_of_getElem? hn)]; exact h2⟩
  cell := fun m c' e => by
    have hl : n < μ.length := by rw [← S.len]; exact (List.getElem?_eq_some_iff.mp hn).1
    by_cases hm : n = m
    · subst hm
      rw [List.getElem?_set_self hl] at e
      cases e
      exact ⟨a, hn, hc⟩
    · rw [List.getElem?_set_ne hm] at e
      obtain ⟨a', h1, h2⟩ := S.cell m c' e
      refine ⟨a', h1, h2.mono (Step.write hn).kp fun u e => ?_⟩
      show upd w.H a o a' = some u
      rw [upd_ne fun z => hm ?_]
      · exact e
      · obtain ⟨l1, e1⟩ := List.getElem?_eq_some_iff.mp hn
        obtain ⟨l2, e2⟩ := List.getElem?_eq_some_iff.mp h1
        exact (List.getElem_inj S.nd).mp (e1.trans (z.symm.trans e2.symm))
theorem RelS.lst (S : RelS K cls w μ) {n : Nat} {x : V} {ds : List D} (r : RV K cls w (.loc n) x) (h : μ[n]? = some (.lst ds)) : ∃ a vs, x = .ref a ∧ w.ι[n]? = some a ∧ w.H a = some (.lst vs) ∧ RVs K cls w ds vs := by
  obtain ⟨a, e, hn⟩ := r
  obtain ⟨a', h1, vs, h2, h3⟩ := S.cell n _ h
  rw [hn] at h1
  cases h1
  exact ⟨a, vs, e, hn, h2, h3⟩
theorem wlst (S : RelS K cls w μ) {n : Nat} {a : Addr} {ds : List D} {vs : List V} (hn : w.ι[n]? = some a) (r : RVs K cls w ds vs) : RelS K cls (w.up a (.lst vs)) (μ.set n (.lst ds)) :=
  S.write hn ⟨vs, upd_same, r.mono (Step.write hn).kp⟩
theorem RVs.eraseIdx : ∀ {ds : List D} {vs : List V} (i : Nat), RVs K cls w ds vs → RVs K cls w (ds.eraseIdx i) (vs.eraseIdx i)
  | [], _, _, r => by rw [show _ = [] from r]; rfl
  | _ :: _, _, 0, ⟨v, r, q, _, t⟩ => by rw [q]; exact t
  | _ :: _, _, i + 1, ⟨v, r, q, g, t⟩ => by rw [q]; exact ⟨v, _, rfl, g, RVs.eraseIdx i t⟩
theorem RVs.dropLast {ds : List D} {vs : List V} (r : RVs K cls w ds vs) : RVs K cls w ds.dropLast vs.dropLast := by
  rw [List.dropLast_eq_take, List.dropLast_eq_take, r.length]
  exact r.take _
end
section
variable {X : Cx} {W : WX} {cls : Nat → Option Addr} {o e : Expr} {fo fe : FE} {apos pos : Pos}
theorem se_join (ho : SE X W cls o fo) (he : SE X W cls e fe) (hs : starEach [e] X.env = [(false, eval e X.env)] := by rfl) (hbase : attributeBase o "join" X.env (eval o X.env) = eval o X.env := by rfl) (hline : (apos.endLine == pos.line) = true := by rfl) :
    SE X W cls (.Call (.Attribute o "join" apos) [e] [] pos) (eJoin fo fe) := by
  obtain ⟨t1, p1, h1⟩ := ho
  obtain ⟨t2, p2, h2⟩ := he
  refine ⟨_, pe_join p1 p2 hs hbase hline, fun σ Q w ρ μ S E h => ?_⟩
  refine h1 σ _ w ρ μ S E ((PostR.bind h).imp fun w1 d s1 ⟨μ1, S1, q1⟩ v r1 => ?_)
  cases d with
  | str s =>
    refine ⟨⟨_, r1⟩, h2 σ _ w1 ρ μ1 S1 (E.mono s1.kp) ((PostR.bind q1).imp fun w2 e s2 ⟨μ2, S2, q2⟩ u r2 => ?_)⟩
    simp only [oJoin] at q2
    split at q2
    · rename_i es hd
      obtain ⟨a, vs, e1, h3, h4⟩ := seqOf_at S2 r2 hd
      split at q2
      · rename_i ps hp
        rw [strsOf_at h4 hp] at h3
        split at q2
        · rename_i hl
          have hz : (ps.map fun s => (⟨s.toArray⟩ : Str)).map (·.length) = ps.map List.length := by
            rw [List.map_map]
            exact List.map_congr_left fun s _ => strLen
          refine ⟨_, a, ps.map fun s => (⟨s.toArray⟩ : Str), r1, congrArg (fun z => [z]) e1, h3, ?_, ?_⟩
          · rw [hz, List.length_map, strLen]
            have := lim_le hl
            rw [sizeLine_eq] at this
            exact this
          · rw [TL.join_eq, join_of]
            exact q2 w2 Step.refl S2 _ rfl
        · exact q2.elim
      · exact q2.elim
    · exact q2.elim
  | _ => exact q1.elim
theorem isL_at {K : PySem.W.Frag} {w : Wd} {μ : Store} (S : RelS K cls w μ) {d : D} {x : V} (r : RV K cls w d x) (h : isL μ d = true) : tyV K "list" x w.H := by
  cases d with
  | loc n =>
    simp only [isL] at h
    split at h
    · rename_i es hc
      obtain ⟨a, vs, e, _, h2, _⟩ := S.lst r hc
      rw [e]
      exact .inl ⟨rfl, vs, .inl (.inl h2)⟩
    · cases h
  | _ => cases h
theorem app_val {K : PySem.W.Frag} {w : Wd} {μ : Store} {Q : VK} {Er : XK} (S : RelS K cls w μ) {d e : D} {x y : V} (r1 : RV K cls w d x) (r2 : RV K cls w e y) (q : PostR K cls w Er (fun w' d => ∀ v, RV K cls w' d v → Q v w'.H) (oApp d e μ)) : rAppend x [y] w.H Q := by
  cases d with
  | loc n =>
    simp only [oApp] at q
    split at q
    · rename_i es hc
      split at q
      · rename_i hl
        obtain ⟨a, vs, ex, hn, h2, h3⟩ := S.lst r1 hc
        exact ⟨a, vs, y, ex, rfl, h2, by rw [h3.length]; exact lim_lt hl, q (w.up a (.lst (vs ++ [y]))) (Step.write hn) (wlst S hn (h3.append (.cons r2 .nil))) _ rfl⟩
      · exact q.elim
    · exact q.elim
  | _ => exact q.elim
theorem popAt_val {K : PySem.W.Frag} {w : Wd} {μ : Store} {Q : VK} {Er : XK} (S : RelS K cls w μ) {d e : D} {x y : V} (r1 : RV K cls w d x) (r2 : RV K cls w e y) (q : PostR K cls w Er (fun w' d => ∀ v, RV K cls w' d v → Q v w'.H) (oPopAt d e μ)) : rPopAt x [y] w.H Q := by
  cases d with
  | loc n =>
    cases e with
    | int i =>
      simp only [oPopAt] at q
      split at q
      · rename_i es hc
        split at q
        · rename_i hl
          split at q
          · rename_i e he
            obtain ⟨a, vs, ex, hn, h2, h3⟩ := S.lst r1 hc
            obtain ⟨v, hv, rv⟩ := h3.get he
            have hlt : i.toNat < vs.length := (List.getElem?_eq_some_iff.mp hv).1
            have hL : (LIM : Int) = 1000000 := rfl
            refine ⟨a, vs, i, i.toNat, v, ex, by rw [show y = V.int i from r2], h2, by omega, by omega, ?_, hv, q (w.up a (.lst (vs.eraseIdx i.toNat))) (Step.write hn) (wlst S hn (h3.eraseIdx _)) _ (rv.mono (Step.write hn).kp)⟩
            have h0 : ¬ i < 0 := by omega
            have h1 : 0 ≤ i ∧ i < (vs.length : Int) := ⟨by omega, by omega⟩
            simp [seqIndex?, h0, h1]
          · exact q.elim
        · exact q.elim
      · exact q.elim
    | _ => exact q.elim
  | _ => cases e <;> exact q.elim
theorem pop0_val {K : PySem.W.Frag} {w : Wd} {μ : Store} {Q : VK} {Er : XK} (S : RelS K cls w μ) {d : D} {x : V} (r1 : RV K cls w d x) (q : PostR K cls w Er (fun w' d => ∀ v, RV K cls w' d v → Q v w'.H) (oPop0 d μ)) : rPop x [] w.H Q := by
  cases d with
  | loc n =>
    simp only [oPop0] at q
    split at q
    · rename_i es hc
      split at q
      · rename_i e he
        obtain ⟨a, vs, ex, hn, h2, h3⟩ := S.lst r1 hc
        rw [← h3.length] at he
        obtain ⟨v, hv, rv⟩ := h3.get he
        exact ⟨a, vs, v, ex, rfl, h2, hv, q (w.up a (.lst vs.dropLast)) (Step.write hn) (wlst S hn h3.dropLast) _ (rv.mono (Step.write hn).kp)⟩
      · exact q.elim
    · exact q.elim
  | _ => exact q.elim
theorem se_lm {m : Str} {r : V → List V → Hp → VK → Prop} {g : D → D → Store → Res D} (ho : SE X W cls o fo) (he : SE X W cls e fe)
    (k : ∀ {to : TE} {t : TA}, PE X o to → PA X [e] t → PE X (.Call (.Attribute o m apos) [e] [] pos) (tBM X.K "list" r to t))
    (hg : ∀ {w : Wd} {μ : Store} {Q : VK} {Er : XK} {d e : D} {x y : V}, RelS X.K cls w μ → RV X.K cls w d x → RV X.K cls w e y → PostR X.K cls w Er (fun w' d => ∀ v, RV X.K cls w' d v → Q v w'.H) (g d e μ) → r x [y] w.H Q)
    (hs : starEach [e] X.env = (false, eval e X.env) :: starEach [] X.env := by rfl) :
    SE X W cls (.Call (.Attribute o m apos) [e] [] pos) (eLm g fo fe) := by
  obtain ⟨t1, p1, h1⟩ := ho
  obtain ⟨t2, p2, h2⟩ := he
  refine ⟨_, k p1 (pa_cons p2 pa_nil hs), fun σ Q w ρ μ S E h => ?_⟩
  refine h1 σ _ w ρ μ S E ((PostR.bind h).imp fun w1 d s1 ⟨μ1, S1, q1⟩ v r1 => ?_)
  split at q1
  · rename_i hl
    refine ⟨isL_at S1 r1 hl, h2 σ _ w1 ρ μ1 S1 (E.mono s1.kp) ((PostR.bind q1).imp fun w2 e s2 ⟨μ2, S2, q2⟩ u r2 => hg S2 (r1.mono s2.kp) r2 q2)⟩
  · exact q1.elim
theorem se_lm0 {m : Str} {r : V → List V → Hp → VK → Prop} {g : D → Store → Res D} (ho : SE X W cls o fo)
    (k : ∀ {to : TE}, PE X o to → PE X (.Call (.Attribute o m apos) [] [] pos) (tBM0 X.K "list" r to))
    (hg : ∀ {w : Wd} {μ : Store} {Q : VK} {Er : XK} {d : D} {x : V}, RelS X.K cls w μ → RV X.K cls w d x → PostR X.K cls w Er (fun w' d => ∀ v, RV X.K cls w' d v → Q v w'.H) (g d μ) → r x [] w.H Q) :
    SE X W cls (.Call (.Attribute o m apos) [] [] pos) (eLm0 g fo) := by
  obtain ⟨t1, p1, h1⟩ := ho
  refine ⟨_, k p1, fun σ Q w ρ μ S E h => ?_⟩
  refine h1 σ _ w ρ μ S E ((PostR.bind h).imp fun w1 d s1 ⟨μ1, S1, q1⟩ v r1 => ?_)
  split at q1
  · rename_i hl
    exact ⟨isL_at S1 r1 hl, hg S1 r1 q1⟩
  · exact q1.elim
end

/-! ### statements -/
inductive SR where
  | nx (ρ : Env) (μ : Store)
  | rt (d : D) (μ : Store)
  | bk (ρ : Env) (μ : Store)
  | ct (ρ : Env) (μ : Store)
  | er (k : Nat) (ns : List Str) (ds : List D) (ρ : Env) (μ : Store)
  | stuck
abbrev FS := Env → Store → SR
def PostS (K : PySem.W.Frag) (cls : Nat → Option Addr) (w : Wd) (W : WX) (D : Ends) : SR → Prop
  | .nx ρ μ => ∀ w' σ, Step w w' → RelS K cls w' μ → RelE K cls w' ρ σ → D.nx σ w'.H
  | .rt d μ => ∀ w' v, Step w w' → RelS K cls w' μ → RV K cls w' d v → D.rt v w'.H
  | .bk ρ μ => ∀ w' σ, Step w w' → RelS K cls w' μ → RelE K cls w' ρ σ → D.bk σ w'.H
  | .ct ρ μ => ∀ w' σ, Step w w' → RelS K cls w' μ → RelE K cls w' ρ σ → D.ct σ w'.H
  | .er k ns ds ρ μ => ∀ w' σ cv d, Step w w' → RelS K cls w' μ → RelE K cls w' ρ σ → RErr K cls w' k ns ds cv d → W cv d σ w'.H
  | .stuck => False
def Off (is : List Nat) (σ σ' : L2.St) : Prop := σ'.length = σ.length ∧ ∀ j, j ∉ is → σ'[j]? = σ[j]?
theorem Off.refl {is : List Nat} {σ : L2.St} : Off is σ σ := ⟨rfl, fun _ _ => rfl⟩
theorem Off.set {i : Nat} {σ : L2.St} {v : Option V} : Off [i] σ (σ.set i v) := ⟨List.length_set, fun j hj => List.getElem?_set_ne fun e => hj (by rw [e]; exact List.mem_cons_self)⟩
theorem Off.trans {is js : List Nat} {σ σ1 σ2 : L2.St} (a : Off is σ σ1) (b : Off js σ1 σ2) : Off (is ++ js) σ σ2 := ⟨b.1.trans a.1, fun j hj => (b.2 j fun z => hj (List.mem_append_right _ z)).trans (a.2 j fun z => hj (List.mem_append_left _ z))⟩
section
variable (X : Cx) (W : WX) (cls : Nat → Option Addr)
def SS (st : Stmt) (f : FS) : Prop := ∃ t, PS X st t ∧ ∀ (D : Ends) (σ : L2.St) (w : Wd) (ρ : Env) (μ : Store), RelS X.K cls w μ → RelE X.K cls w ρ σ → PostS X.K cls w W D (f ρ μ) → t D σ w.H
def SSs (st : List Stmt) (f : FS) : Prop := ∃ t, PSs X st t ∧ ∀ (D : Ends) (σ : L2.St) (w : Wd) (ρ : Env) (μ : Store), RelS X.K cls w μ → RelE X.K cls w ρ σ → PostS X.K cls w W D (f ρ μ) → t D σ w.H
/-- a target; is: the slots that it writes -/
def SG (tg : Expr) (is : List Nat) (g : D → Env → Store → Res Env) : Prop := ∃ t, PG X tg t ∧ ∀ (v : V) (d : D) (σ : L2.St) (w : Wd) (ρ : Env) (μ : Store) (Q : L2.St → Hp → Prop) (Er : XK), RelS X.K cls w μ → RelE X.K cls w ρ σ → RV X.K cls w d v →
  PostR X.K cls w Er (fun w' ρ' => ∀ σ', RelE X.K cls w' ρ' σ' → Off is σ σ' → Q σ' w'.H) (g d ρ μ) → t v σ w.H Q
def SGs (ts : List Expr) (is : List Nat) (g : List D → Env → Store → Res Env) : Prop := ∃ t, PGs X ts t ∧ ∀ (vs : List V) (ds : List D) (σ : L2.St) (w : Wd) (ρ : Env) (μ : Store) (Q : L2.St → Hp → Prop) (Er : XK), RelS X.K cls w μ → RelE X.K cls w ρ σ → RVs X.K cls w ds vs →
  PostR X.K cls w Er (fun w' ρ' => ∀ σ', RelE X.K cls w' ρ' σ' → Off is σ σ' → Q σ' w'.H) (g ds ρ μ) → t vs σ w.H Q
end
theorem PostS.step {K : PySem.W.Frag} {cls : Nat → Option Addr} {w w' : Wd} {W : WX} {D : Ends} {r : SR} (s : Step w w') (h : PostS K cls w W D r) : PostS K cls w' W D r := by
  cases r with
  | nx ρ μ => exact fun w2 σ s2 => h w2 σ (s.trans s2)
  | rt ρ μ => exact fun w2 σ s2 => h w2 σ (s.trans s2)
  | bk ρ μ => exact fun w2 σ s2 => h w2 σ (s.trans s2)
  | ct ρ μ => exact fun w2 σ s2 => h w2 σ (s.trans s2)
  | er k ns ds ρ μ => exact fun w2 σ cv d s2 => h w2 σ cv d (s.trans s2)
  | stuck => exact h
/-- ahead of a statement's reading an expression's -/
def rS {α : Type} (ρ : Env) (r : Res α) (f : α → Store → SR) : SR := match r with
  | .ok a μ => f a μ
  | .err k ns ds μ => .er k ns ds ρ μ
  | .stuck => .stuck
@[simp] theorem rS_ok {α : Type} {ρ : Env} {a : α} {μ : Store} {f : α → Store → SR} : rS ρ (.ok a μ) f = f a μ := rfl
@[simp] theorem rS_err {α : Type} {ρ : Env} {k : Nat} {ns : List Str} {ds : List D} {μ : Store} {f : α → Store → SR} : rS ρ (.err k ns ds μ : Res α) f = .er k ns ds ρ μ := rfl
@[simp] theorem rS_stuck {α : Type} {ρ : Env} {f : α → Store → SR} : rS ρ (.stuck : Res α) f = .stuck := rfl
theorem PostS.bind {α : Type} {K : PySem.W.Frag} {cls : Nat → Option Addr} {w : Wd} {W : WX} {D : Ends} {ρ : Env} {σ : L2.St} {r : Res α} {f : α → Store → SR} (E : RelE K cls w ρ σ)
    (h : PostS K cls w W D (rS ρ r f)) : PostR K cls w (WE W σ) (fun w' a => ∃ μ', RelS K cls w' μ' ∧ PostS K cls w' W D (f a μ')) r := by
  cases r with
  | ok a μ => exact fun w' s S => ⟨μ, S, PostS.step s h⟩
  | err k ns ds μ => exact fun w' cv d s S x => h w' σ cv d s S (E.mono s.kp) x
  | stuck => exact h
def sNext : FS := fun ρ μ => .nx ρ μ
def sSeq (f g : FS) : FS := fun ρ μ => match f ρ μ with
  | .nx ρ1 μ1 => g ρ1 μ1
  | r => r
def sIf (c : FT) (f g : FS) : FS := fun ρ μ => rS ρ (c ρ μ) fun b μ1 => if b = true then f ρ μ1 else g ρ μ1
def sRet (fe : FE) : FS := fun ρ μ => rS ρ (fe ρ μ) fun d μ1 => .rt d μ1
def sExpr (fe : FE) : FS := fun ρ μ => rS ρ (fe ρ μ) fun _ μ1 => .nx ρ μ1
def sNever : FS := fun _ _ => .stuck
def sAsg (g : D → Env → Store → Res Env) (fe : FE) : FS := fun ρ μ => rS ρ (fe ρ μ) fun d μ1 => rS ρ (g d ρ μ1) fun ρ1 μ2 => .nx ρ1 μ2
def gVar (i : Nat) : D → Env → Store → Res Env := fun d ρ μ => if i < ρ.length then .ok (ρ.set i (some d)) μ else .stuck
def gNil : List D → Env → Store → Res Env := fun ds ρ μ => match ds with
  | [] => .ok ρ μ
  | _ => .stuck
def gCons (g : D → Env → Store → Res Env) (h : List D → Env → Store → Res Env) : List D → Env → Store → Res Env := fun ds ρ μ => match ds with
  | [] => .stuck
  | d :: r => (g d ρ μ).bind fun ρ1 μ1 => h r ρ1 μ1
def gTup (n : Nat) (h : List D → Env → Store → Res Env) : D → Env → Store → Res Env := fun d ρ μ => match d with
  | .tup ds => if ds.length = n then h ds ρ μ else .stuck
  | _ => .stuck
/-- xs[i] = v, a list at a place -/
def gIx (fo fi : FE) : D → Env → Store → Res Env := fun v ρ μ => (fo ρ μ).mute.bind fun d μ1 => (fi ρ μ1).mute.bind fun e μ2 => match d, e with
  | .loc n, .int i => match μ2[n]? with
    | some (.lst es) => match ixN es.length i with
      | some j => .ok ρ (μ2.set n (.lst (es.set j v)))
      | none => .stuck
    | _ => .stuck
  | _, _ => .stuck
/-- x op= e on a name -/
def sAug (i : Nat) (g : D → D → Store → Res D) (fe : FE) : FS := fun ρ μ => match ρ[i]? with
  | some (some x) => rS ρ (fe ρ μ) fun y μ1 => rS ρ (g x y μ1) fun z μ2 => if i < ρ.length then .nx (ρ.set i (some z)) μ2 else .stuck
  | _ => .stuck
section
variable {X : Cx} {W : WX} {cls : Nat → Option Addr} {st : Stmt} {rest : List Stmt} {f g : FS} {e : Expr} {fe : FE} {pos : Pos}
theorem RelE.set {K : PySem.W.Frag} {w : Wd} {ρ : Env} {σ : L2.St} {i : Nat} {d : D} {v : V} (h : RelE K cls w ρ σ) (r : RV K cls w d v) : RelE K cls w (ρ.set i (some d)) (σ.set i (some v)) := by
  refine ⟨by rw [List.length_set, List.length_set]; exact h.1, fun j d' e => ?_⟩
  by_cases hj : i = j
  · subst hj
    by_cases hl : i < ρ.length
    · rw [List.getElem?_set_self hl] at e
      cases e
      exact ⟨v, List.getElem?_set_self (by rw [h.1]; exact hl), r⟩
    · rw [List.getElem?_eq_none (by rw [List.length_set]; omega)] at e
      cases e
  · rw [List.getElem?_set_ne hj] at e
    obtain ⟨v', h1, h2⟩ := h.2 j d' e
    exact ⟨v', by rw [List.getElem?_set_ne hj]; exact h1, h2⟩
theorem sss_nil : SSs X W cls [] sNext := ⟨_, pss_nil, fun D σ w ρ μ S E h => h w σ Step.refl S E⟩
theorem sss_cons (h1 : SS X W cls st f) (h2 : SSs X W cls rest g) : SSs X W cls (st :: rest) (sSeq f g) := by
  obtain ⟨t1, p1, h1⟩ := h1
  obtain ⟨t2, p2, h2⟩ := h2
  refine ⟨_, pss_cons p1 p2, fun D σ w ρ μ S E h => ?_⟩
  refine h1 _ σ w ρ μ S E ?_
  unfold sSeq at h
  cases hf : f ρ μ with
  | nx ρ1 μ1 =>
    rw [hf] at h
    exact fun w' σ' s' S' E' => h2 D σ' w' ρ1 μ1 S' E' (PostS.step s' h)
  | rt d μ1 => rw [hf] at h; exact h
  | bk ρ1 μ1 => rw [hf] at h; exact h
  | ct ρ1 μ1 => rw [hf] at h; exact h
  | er k ns ds ρ1 μ1 => rw [hf] at h; exact h
  | stuck => rw [hf] at h; exact h
theorem sss_one (h1 : SS X W cls st f) : SSs X W cls [st] f := by
  obtain ⟨t1, p1, h1⟩ := h1
  exact ⟨_, pss_one p1, h1⟩
theorem ss_pass : SS X W cls (.Pass pos) sNext := ⟨_, ps_pass, fun D σ w ρ μ S E h => h w σ Step.refl S E⟩
theorem ss_break : SS X W cls (.Break pos) (fun ρ μ => .bk ρ μ) := ⟨_, ps_break, fun D σ w ρ μ S E h => h w σ Step.refl S E⟩
theorem ss_continue : SS X W cls (.Continue pos) (fun ρ μ => .ct ρ μ) := ⟨_, ps_continue, fun D σ w ρ μ S E h => h w σ Step.refl S E⟩
theorem ss_never : SS X W cls st sNever := ⟨_, ps_never, fun D σ w ρ μ S E h => h.elim⟩
theorem sss_never {sts : List Stmt} : SSs X W cls sts sNever := ⟨_, pss_never, fun D σ w ρ μ S E h => h.elim⟩
theorem ss_expr (he : SE X W cls e fe) (hs : swapsWith e none pos.line X.env = pure false := by rfl) : SS X W cls (.Expr e pos) (sExpr fe) := by
  obtain ⟨t1, p1, h1⟩ := he
  refine ⟨_, ps_expr p1 hs, fun D σ w ρ μ S E h => ?_⟩
  exact h1 σ _ w ρ μ S E ((PostS.bind E h).imp fun w1 d s1 ⟨μ1, S1, q1⟩ v r1 => q1 w1 σ Step.refl S1 (E.mono s1.kp))
theorem ss_ret (he : SE X W cls e fe) : SS X W cls (.Return (some e) pos) (sRet fe) := by
  obtain ⟨t1, p1, h1⟩ := he
  refine ⟨_, ps_ret p1, fun D σ w ρ μ S E h => ?_⟩
  exact h1 σ _ w ρ μ S E ((PostS.bind E h).imp fun w1 d s1 ⟨μ1, S1, q1⟩ v r1 => q1 w1 v Step.refl S1 r1)
theorem ss_retN : SS X W cls (.Return none pos) (fun _ μ => .rt .non μ) := ⟨_, ps_retN, fun D σ w ρ μ S E h => h w _ Step.refl S rfl⟩
theorem ss_if {c : Expr} {a b : List Stmt} {fc : FT} (hc : ST X W cls c fc) (ha : SSs X W cls a f) (hb : SSs X W cls b g) : SS X W cls (.If c a b pos) (sIf fc f g) := by
  obtain ⟨t0, p0, h0⟩ := hc
  obtain ⟨t1, p1, h1⟩ := ha
  obtain ⟨t2, p2, h2⟩ := hb
  refine ⟨_, ps_if p0 p1 p2, fun D σ w ρ μ S E h => ?_⟩
  refine h0 σ _ w ρ μ S E ((PostS.bind E h).imp fun w1 b s1 ⟨μ1, S1, q1⟩ => ?_)
  cases b with
  | true => exact h1 D σ w1 ρ μ1 S1 (E.mono s1.kp) q1
  | false => exact h2 D σ w1 ρ μ1 S1 (E.mono s1.kp) q1
theorem sg_var (i : Nat) {x : Str} (hN : X.N.Nodup) (hi : X.N[i]? = some x := by rfl) (hx : Loc X.env.scope x := by first | exact .inl rfl | exact .inr rfl) (hf : X.fn x = true ∨ X.env.scope.names.lookup x = some .local := by first | exact .inl rfl | exact .inr rfl) : SG X cls (.Name x pos) [i] (gVar i) := by
  refine ⟨_, pg_name hN hi hx hf, fun v d σ w ρ μ Q Er S E r h => ?_⟩
  unfold gVar at h
  split at h
  · exact h w Step.refl S _ (E.set r) Off.set
  · exact h.elim
theorem sgs_nil : SGs X cls [] [] gNil := by
  refine ⟨_, pgs_nil, fun vs ds σ w ρ μ Q Er S E r h => ?_⟩
  cases ds with
  | nil => exact ⟨r, h w Step.refl S _ E Off.refl⟩
  | cons d ds => exact h.elim
theorem sgs_cons {t : Expr} {ts : List Expr} {is js : List Nat} {g1 : D → Env → Store → Res Env} {g2 : List D → Env → Store → Res Env} (h1 : SG X cls t is g1) (h2 : SGs X cls ts js g2)
    (hs : (assignEach (t :: ts) X.env).map (·.2) = assign t X.env :: (assignEach ts X.env).map (·.2) := by rfl) : SGs X cls (t :: ts) (is ++ js) (gCons g1 g2) := by
  obtain ⟨t1, p1, h1⟩ := h1
  obtain ⟨t2, p2, h2⟩ := h2
  refine ⟨_, pgs_cons p1 p2 hs, fun vs ds σ w ρ μ Q Er S E r h => ?_⟩
  cases ds with
  | nil => exact h.elim
  | cons d ds =>
    obtain ⟨v, vr, e, r1, r2⟩ := r
    refine ⟨v, vr, e, ?_⟩
    exact h1 v d σ w ρ μ _ _ S E r1 ((PostR.bind h).imp fun w1 ρ1 s1 ⟨μ1, S1, q1⟩ σ1 E1 o1 => h2 vr ds σ1 w1 ρ1 μ1 Q _ S1 E1 (r2.mono s1.kp) (q1.imp fun w2 ρ2 s2 q2 σ2 E2 o2 => q2 σ2 E2 (o1.trans o2)))
theorem sg_tup {ts : List Expr} {k n : Nat} {is : List Nat} {g2 : List D → Env → Store → Res Env} (hc : X.calm = true) (h2 : SGs X cls ts is g2) (hn : (assignEach ts X.env).length = n := by rfl) (hst : (assignEach ts X.env).findIdx? (·.1) = none := by rfl) :
    SG X cls (.Tuple ts k pos) is (gTup n g2) := by
  obtain ⟨t2, p2, h2⟩ := h2
  refine ⟨_, pg_tup hc p2 hn hst, fun v d σ w ρ μ Q Er S E r h => ?_⟩
  cases d with
  | tup ds =>
    simp only [gTup] at h
    split at h
    · rename_i hl
      obtain ⟨a, vs, e, t, q⟩ := r
      exact ⟨a, vs, e, t.sq, by rw [q.length]; exact hl, h2 vs ds σ w ρ μ Q _ S E q h⟩
    · exact h.elim
  | _ => exact h.elim
theorem sg_ix {o i : Expr} {fo fi : FE} (ho : SE X W cls o fo) (hi : SE X W cls i fi)
    (ha : ∀ v, assign (.Subscript o i pos) X.env v = (do
      let ov ← holding [v] (eval o X.env)
      let iv ← holding [v, ov] (eval i X.env)
      standAt pos
      holding [v, ov, iv] (setItem ov iv v)
      release [v, ov, iv] []) := by intro _; rfl) : SG X cls (.Subscript o i pos) [] (gIx fo fi) := by
  obtain ⟨t1, p1, h1⟩ := ho
  obtain ⟨t2, p2, h2⟩ := hi
  refine ⟨_, pg_sub p1 p2 set_list ha, fun v d σ w ρ μ Q Er S E r h => ?_⟩
  refine h1 σ _ w ρ μ S E ((PostR.mute (PostR.bind h)).imp fun w1 d1 s1 ⟨μ1, S1, q1⟩ v1 r1 => ?_)
  refine h2 σ _ w1 ρ μ1 S1 (E.mono s1.kp) ((PostR.mute (PostR.bind q1)).imp fun w2 d2 s2 ⟨μ2, S2, q2⟩ v2 r2 => ?_)
  cases d1 with
  | loc n =>
    cases d2 with
    | int i =>
      simp only at q2
      split at q2
      · rename_i es hc
        split at q2
        · rename_i j hj
          obtain ⟨a, vs, ex, hn, h3, h4⟩ := S2.lst (r1.mono s2.kp) hc
          have rv := r.mono (s1.trans s2).kp
          exact ⟨a, vs, i, j, ex, r2, h3, by rw [h4.length]; exact hj, q2 (w2.up a (.lst (vs.set j v))) (Step.write hn) (wlst S2 hn (RVs.set rv j h4)) σ (E.mono ((s1.trans s2).trans (Step.write hn)).kp) Off.refl⟩
        · exact q2.elim
      · exact q2.elim
    | _ => exact q2.elim
  | _ => cases d2 <;> exact q2.elim
theorem ss_asg {tg : Expr} {is : List Nat} {g1 : D → Env → Store → Res Env} (he : SE X W cls e fe) (hg : SG X cls tg is g1) (hs : swapsWithSole [tg] e pos.line X.env = pure false := by rfl) (hw : swappedStores [tg] e X.env = pure none := by rfl)
    (h1 : (assignEach [tg] X.env).map (·.2) = [assign tg X.env] := by rfl) : SS X W cls (.Assign [tg] e pos) (sAsg g1 fe) := by
  obtain ⟨t1, p1, h1'⟩ := he
  obtain ⟨t2, p2, h2⟩ := hg
  refine ⟨_, ps_asg p1 p2 hs hw h1, fun D σ w ρ μ S E h => ?_⟩
  refine h1' σ _ w ρ μ S E ((PostS.bind E h).imp fun w1 d s1 ⟨μ1, S1, q1⟩ v r1 => ?_)
  exact h2 v d σ w1 ρ μ1 D.nx _ S1 (E.mono s1.kp) r1 ((PostS.bind (E.mono s1.kp) q1).imp fun w2 ρ2 s2 ⟨μ2, S2, q2⟩ σ2 E2 _ => q2 w2 σ2 Step.refl S2 E2)
theorem ss_set (i : Nat) {x : Str} {pos' : Pos} (hN : X.N.Nodup) (he : SE X W cls e fe) (hi : X.N[i]? = some x := by rfl) (hx : Loc X.env.scope x := by first | exact .inl rfl | exact .inr rfl) (hs : swapsWith e (some (.Name x pos')) pos.line X.env = pure false := by rfl)
    (hf : X.fn x = true ∨ X.env.scope.names.lookup x = some .local := by first | exact .inl rfl | exact .inr rfl) : SS X W cls (.Assign [.Name x pos'] e pos) (sAsg (gVar i) fe) := by
  obtain ⟨t1, p1, h1⟩ := he
  refine ⟨_, ps_set hN hi hx p1 hs hf, fun D σ w ρ μ S E h => ?_⟩
  refine h1 σ _ w ρ μ S E ((PostS.bind E h).imp fun w1 d s1 ⟨μ1, S1, q1⟩ v r1 => ?_)
  unfold gVar at q1
  split at q1
  · exact q1 w1 _ Step.refl S1 ((E.mono s1.kp).set r1)
  · exact q1.elim
/-- a, b = x, y on plain local names -/
def sPar (i j : Nat) (fa fb : FE) : FS := fun ρ μ => rS ρ (fa ρ μ) fun x μ1 => rS ρ (fb ρ μ1) fun y μ2 => if i < ρ.length ∧ j < ρ.length then .nx ((ρ.set i (some x)).set j (some y)) μ2 else .stuck
theorem ss_par (i j : Nat) {x y : Str} {a b : Expr} {fa fb : FE} {px py pt : Pos} {kt k2 pt2} (hc : X.calm = true) (hN : X.N.Nodup) (ha : SE X W cls a fa) (hb : SE X W cls b fb) (hi : X.N[i]? = some x := by rfl) (hj : X.N[j]? = some y := by rfl) (hij : i ≠ j := by decide)
    (hx : X.env.scope.names.lookup x = some .local := by rfl) (hy : X.env.scope.names.lookup y = some .local := by rfl) (hs1 : starEach [a, b] X.env = (false, eval a X.env) :: starEach [b] X.env := by rfl) (hs2 : starEach [b] X.env = (false, eval b X.env) :: starEach [] X.env := by rfl)
    (hw : swappedStores [.Tuple [.Name x px, .Name y py] kt pt] (.Tuple [a, b] k2 pt2) X.env = pure (some [x, y]) := by rfl)
    (hs : swapsWithSole [.Tuple [.Name x px, .Name y py] kt pt] (.Tuple [a, b] k2 pt2) pos.line X.env = pure false := by rfl) :
    SS X W cls (.Assign [.Tuple [.Name x px, .Name y py] kt pt] (.Tuple [a, b] k2 pt2) pos) (sPar i j fa fb) := by
  obtain ⟨t1, p1, h1⟩ := ha
  obtain ⟨t2, p2, h2⟩ := hb
  refine ⟨_, ps_par hc hN hi hj hij hx hy (pa_cons p1 (pa_cons p2 pa_nil hs2) hs1) hw hs, fun D σ w ρ μ S E h => ?_⟩
  refine h1 σ _ w ρ μ S E ((PostS.bind E h).imp fun w1 d s1 ⟨μ1, S1, q1⟩ v r1 => ?_)
  refine h2 σ _ w1 ρ μ1 S1 (E.mono s1.kp) ((PostS.bind (E.mono s1.kp) q1).imp fun w2 d2 s2 ⟨μ2, S2, q2⟩ v2 r2 => ?_)
  split at q2
  · exact ⟨v, v2, rfl, q2 w2 _ Step.refl S2 (((E.mono (s1.trans s2).kp).set (r1.mono s2.kp)).set r2)⟩
  · exact q2.elim
/-- a = b = e -/
def sAsg2 (g1 g2 : D → Env → Store → Res Env) (fe : FE) : FS := fun ρ μ => rS ρ (fe ρ μ) fun d μ1 => rS ρ (g1 d ρ μ1) fun ρ1 μ2 => rS ρ1 (g2 d ρ1 μ2) fun ρ2 μ3 => .nx ρ2 μ3
theorem ss_asg2 {t1 t2 : Expr} {is js : List Nat} {g1 g2 : D → Env → Store → Res Env} (he : SE X W cls e fe) (h1 : SG X cls t1 is g1) (h2 : SG X cls t2 js g2)
    (k : ∀ {te : TE} {u1 u2 : TG}, PE X e te → PG X t1 u1 → PG X t2 u2 → PS X (.Assign [t1, t2] e pos) (tAsg2 te u1 u2) := by exact fun p q r => ps_asg2 p q r) : SS X W cls (.Assign [t1, t2] e pos) (sAsg2 g1 g2 fe) := by
  obtain ⟨t0, p0, h0⟩ := he
  obtain ⟨t1, p1, h1⟩ := h1
  obtain ⟨t2, p2, h2⟩ := h2
  refine ⟨_, k p0 p1 p2, fun D σ w ρ μ S E h => ?_⟩
  refine h0 σ _ w ρ μ S E ((PostS.bind E h).imp fun w1 d s1 ⟨μ1, S1, q1⟩ v r1 => ?_)
  refine h1 v d σ w1 ρ μ1 _ _ S1 (E.mono s1.kp) r1 ((PostS.bind (E.mono s1.kp) q1).imp fun w2 ρ2 s2 ⟨μ2, S2, q2⟩ σ2 E2 _ => ?_)
  exact h2 v d σ2 w2 ρ2 μ2 D.nx _ S2 E2 (r1.mono s2.kp) ((PostS.bind E2 q2).imp fun w3 ρ3 s3 ⟨μ3, S3, q3⟩ σ3 E3 _ => q3 w3 σ3 Step.refl S3 E3)
/-- ints: x += e -/
def oAddI : D → D → Store → Res D := fun d e μ => match d, e with
  | .int i, .int j => .ok (.int (i + j)) μ
  | _, _ => .stuck
theorem ss_augAdd (i : Nat) {x : Str} {pos' : Pos} (hN : X.N.Nodup) (he : SE X W cls e fe) (hi : X.N[i]? = some x := by rfl) (hx : Loc X.env.scope x := by first | exact .inl rfl | exact .inr rfl) (hf : X.fn x = true ∨ X.env.scope.names.lookup x = some .local := by first | exact .inl rfl | exact .inr rfl) :
    SS X W cls (.AugAssign (.Name x pos') .Add e pos) (sAug i oAddI fe) := by
  obtain ⟨t1, p1, h1⟩ := he
  refine ⟨_, ps_aug hN hi hx p1 ip_add hf, fun D σ w ρ μ S E h => ?_⟩
  unfold sAug at h
  split at h
  · rename_i d hd
    obtain ⟨v, e1, r⟩ := E.2 i d hd
    refine ⟨v, e1, h1 σ _ w ρ μ S E ((PostS.bind E h).imp fun w1 y s1 ⟨μ1, S1, q1⟩ u r1 => ?_)⟩
    have r := r.mono s1.kp
    cases d with
    | int i =>
      cases y with
      | int j =>
        refine ⟨i, j, r, r1, ?_⟩
        simp only [oAddI, rS_ok] at q1
        split at q1
        · exact q1 w1 _ Step.refl S1 ((E.mono s1.kp).set rfl)
        · exact q1.elim
      | _ => exact q1.elim
    | _ => cases y <;> exact q1.elim
  · exact h.elim
end
end Fw

set_option Elab.async false
set_option linter.all false
set_option maxRecDepth 100000
set_option autoImplicit false
/-! Loops, comprehensions, defs. -/
namespace Fw
open PySem L2 PyProof.Rows

/-! ### the readings as such -/
/-- nothing may be raised -/
abbrev W0 : WX := fun _ _ _ _ => False
abbrev E00 : XK := fun _ _ _ => False
section
variable {X : Cx} {W : WX} {cls : Nat → Option Addr}
def TEof (K : PySem.W.Frag) (cls : Nat → Option Addr) (f : FE) : TE := fun σ H Q => ∃ (w : Wd) (ρ : Env) (μ : Store), w.H = H ∧ RelS K cls w μ ∧ RelE K cls w ρ σ ∧ PostR K cls w E00 (fun w' d => ∀ v, RV K cls w' d v → Q v w'.H) (f ρ μ)
theorem SE.pe {e : Expr} {f : FE} (h : SE X W0 cls e f) : PE X e (TEof X.K cls f) := by
  obtain ⟨t, p, k⟩ := h
  refine ⟨fun pins s σ H Q I z => ?_⟩
  obtain ⟨w, ρ, μ, rfl, S, E, q⟩ := z
  exact p.run pins s σ w.H Q I (k σ Q w ρ μ S E q)
def TTof (K : PySem.W.Frag) (cls : Nat → Option Addr) (f : FT) : TT := fun σ H Q => ∃ (w : Wd) (ρ : Env) (μ : Store), w.H = H ∧ RelS K cls w μ ∧ RelE K cls w ρ σ ∧ PostR K cls w E00 (fun w' b => Q b w'.H) (f ρ μ)
def STs (X : Cx) (cls : Nat → Option Addr) (es : List Expr) (f : FT) : Prop := PTs X es (TTof X.K cls f)
theorem sts_nil : STs X cls [] (fun _ μ => .ok true μ) := by
  refine ⟨fun pins s σ H Q I z => ?_⟩
  obtain ⟨w, ρ, μ, rfl, S, E, q⟩ := z
  exact pts_nil.run pins s σ w.H Q I (q w Step.refl S)
theorem sts_one {e : Expr} {f : FT} (h : ST X W0 cls e f) : STs X cls [e] f := by
  obtain ⟨t, p, k⟩ := h
  refine ⟨fun pins s σ H Q I z => ?_⟩
  obtain ⟨w, ρ, μ, rfl, S, E, q⟩ := z
  exact (pts_one p).run pins s σ w.H Q I (k σ Q w ρ μ S E q)
def TGof (K : PySem.W.Frag) (cls : Nat → Option Addr) (is : List Nat) (g : D → Env → Store → Res Env) : TG := fun v σ H Q => ∃ (w : Wd) (ρ : Env) (μ : Store) (d : D), w.H = H ∧ RelS K cls w μ ∧ RelE K cls w ρ σ ∧ RV K cls w d v ∧
  PostR K cls w E00 (fun w' ρ' => ∀ σ', RelE K cls w' ρ' σ' → Off is σ σ' → Q σ' w'.H) (g d ρ μ)
theorem SG.pg {e : Expr} {is : List Nat} {g : D → Env → Store → Res Env} (h : SG X cls e is g) : PG X e (TGof X.K cls is g) := by
  obtain ⟨t, p, k⟩ := h
  refine ⟨fun pins s σ H v u Q I r z => ?_⟩
  obtain ⟨w, ρ, μ, d, rfl, S, E, rd, q⟩ := z
  exact p.run pins s σ w.H v u Q I r (k v d σ w ρ μ Q _ S E rd q)
end

/-! ### what is walked -/
abbrev FI := Env → Store → Res (List D × Option Nat)
def srcOk (src : Option Nat) (items : List D) (μ : Store) : Bool := match src with
  | none => true
  | some n => decide (μ[n]? = some (.lst items))
def Wk (K : PySem.W.Frag) (cls : Nat → Option Addr) (J : It) (w : Wd) (items : List D) (src : Option Nat) : Prop :=
  ∀ (i : Nat) (w' : Wd) (μ' : Store), Kp w w' → RelS K cls w' μ' → srcOk src items μ' = true →
    (∀ d, items[i]? = some d → J.go i w'.H ∧ ∀ x H2, J.yld i w'.H x H2 → ∃ w2 : Wd, w2.H = H2 ∧ Step w' w2 ∧ RelS K cls w2 μ' ∧ RV K cls w2 d x) ∧
    (items.length ≤ i → J.stop i w'.H)
def SI (X : Cx) (W : WX) (cls : Nat → Option Addr) (tg iter : Expr) (f : FI) : Prop := ∃ wi, PI X tg iter wi ∧ ∀ (σ : L2.St) (R : It → Hp → Prop) (w : Wd) (ρ : Env) (μ : Store), RelS X.K cls w μ → RelE X.K cls w ρ σ →
  PostR X.K cls w (WE W σ) (fun w' it => ∀ J, Wk X.K cls J w' it.1 it.2 → R J w'.H) (f ρ μ) → wi σ w.H R
theorem pi_or {X : Cx} {tg iter : Expr} {a b : TI} (h : PI X tg iter a) (h' : PI X tg iter b) : PI X tg iter (fun σ H R => a σ H R ∨ b σ H R) :=
  ⟨fun pins s σ H R I z => z.elim (h.run pins s σ H R I) (h'.run pins s σ H R I)⟩
def oWalk (d : D) (μ : Store) : Res (List D × Option Nat) := match d with
  | .lst ds => .ok (ds, none) μ
  | .flst is => .ok (is.map .int, none) μ
  | .tup ds => .ok (ds, none) μ
  | .str s => .ok (s.map fun c => .str [c], none) μ
  | .loc n => match μ[n]? with
    | some (.lst ds) => .ok (ds, some n) μ
    | _ => .stuck
  | _ => .stuck
def iOf (fe : FE) : FI := fun ρ μ => (fe ρ μ).bind fun d μ1 => oWalk d μ1
section
variable {K : PySem.W.Frag} {cls : Nat → Option Addr} {w : Wd} {μ : Store}
theorem wk_list {a : Addr} {ds : List D} {src : Option Nat} (h : ∀ (w' : Wd) (μ' : Store), Kp w w' → RelS K cls w' μ' → srcOk src ds μ' = true → ∃ vs, SqL K w'.H a vs ∧ RVs K cls w' ds vs) : Wk K cls (Itl K a) w ds src := by
  intro i w' μ' k S' so
  obtain ⟨vs, h1, h2⟩ := h w' μ' k S' so
  refine ⟨fun d hd => ?_, fun hi => ⟨vs, h1, by rw [h2.length]; exact hi⟩⟩
  obtain ⟨v, hv, rv⟩ := h2.get hd
  refine ⟨⟨vs, v, h1, hv⟩, fun x H2 ⟨e, y⟩ => ⟨w', e.symm, Step.refl, S', ?_⟩⟩
  have := y vs h1
  rw [hv] at this
  cases this
  exact rv
theorem wk_tup {a : Addr} {ds : List D} (h : ∀ (w' : Wd), Kp w w' → ∃ vs, SqT K w'.H a vs ∧ RVs K cls w' ds vs) : Wk K cls (Itt K a) w ds none := by
  intro i w' μ' k S' so
  obtain ⟨vs, h1, h2⟩ := h w' k
  refine ⟨fun d hd => ?_, fun hi => ⟨vs, h1, by rw [h2.length]; exact hi⟩⟩
  obtain ⟨v, hv, rv⟩ := h2.get hd
  refine ⟨⟨vs, v, h1, hv⟩, fun x H2 ⟨e, y⟩ => ⟨w', e.symm, Step.refl, S', ?_⟩⟩
  have := y vs h1
  rw [hv] at this
  cases this
  exact rv
theorem wk_str {s : List Nat} : Wk K cls (Its ⟨s.toArray⟩) w (s.map fun c => .str [c]) none := by
  intro i w' μ' k S' so
  refine ⟨fun d hd => ?_, fun hi => ?_⟩
  · rw [List.getElem?_map, Option.map_eq_some_iff] at hd
    obtain ⟨c, hc, rfl⟩ := hd
    have hi : i < s.length := (List.getElem?_eq_some_iff.mp hc).1
    refine ⟨by show i < s.toArray.size; simpa using hi, fun x H2 ⟨e, c', h1, h2⟩ => ⟨w', e.symm, Step.refl, S', ?_⟩⟩
    have h1 : s.toArray[i]? = some c' := h1
    rw [List.getElem?_toArray, hc] at h1
    cases h1
    rw [h2]
    rfl
  · show s.toArray.size ≤ i
    simpa using hi
theorem wk_range {lo : Int} {n : Nat} : Wk K cls (Itr lo n) w ((List.range n).map fun i => .int (lo + (i : Nat))) none := by
  intro i w' μ' k S' so
  refine ⟨fun d hd => ?_, fun hi => ?_⟩
  · rw [List.getElem?_map, Option.map_eq_some_iff] at hd
    obtain ⟨c, hc, rfl⟩ := hd
    obtain ⟨hi, e⟩ := List.getElem?_eq_some_iff.mp hc
    rw [List.length_range] at hi
    rw [List.getElem_range] at e
    subst e
    exact ⟨hi, fun x H2 ⟨e, h2⟩ => ⟨w', e.symm, Step.refl, S', h2⟩⟩
  · rw [List.length_map, List.length_range] at hi
    exact hi
end
section
variable {X : Cx} {W : WX} {cls : Nat → Option Addr} {tg e a b : Expr} {fe fa fb : FE} {p pos : Pos}
theorem si_of (he : SE X W cls e fe) : SI X W cls tg e (iOf fe) := by
  obtain ⟨t, p, k⟩ := he
  refine ⟨_, pi_or (pi_list p) (pi_or (pi_tup p) (pi_str p)), fun σ R w ρ μ S E h => ?_⟩
  have h := PostR.bind h
  cases hf : fe ρ μ with
  | stuck => rw [hf] at h; exact h.elim
  | err k' ns ds μ1 =>
    rw [hf] at h
    exact .inl (k σ _ w ρ μ S E (by rw [hf]; exact h))
  | ok d μ1 =>
    have go := k σ
    rw [hf] at h
    cases d with
    | lst ds =>
      refine .inl (go _ w ρ μ S E ?_)
      rw [hf]
      intro w1 s1 S1 v r1
      obtain ⟨μ', S2, q⟩ := h w1 s1 S1
      obtain ⟨a, vs, e1, h1, h2⟩ := r1
      refine ⟨a, e1, ⟨vs, .inl (.inl h1.1)⟩, q w1 Step.refl S2 _ (wk_list fun w' μ' kp S' _ => ?_)⟩
      exact ⟨vs, .inl (.inl (kp.at_ a _ h1.2.1 h1.2.2 h1.1).1), h2.mono kp⟩
    | flst is =>
      refine .inl (go _ w ρ μ S E ?_)
      rw [hf]
      intro w1 s1 S1 v r1
      obtain ⟨μ', S2, q⟩ := h w1 s1 S1
      obtain ⟨a, e1, h1⟩ := r1
      refine ⟨a, e1, ⟨_, h1.sq⟩, q w1 Step.refl S2 _ (wk_list fun w' μ' kp S' _ => ?_)⟩
      exact ⟨_, (h1.mono kp).sq, RVs.ints⟩
    | loc n =>
      refine .inl (go _ w ρ μ S E ?_)
      rw [hf]
      intro w1 s1 S1 v r1
      obtain ⟨μ', S2, q⟩ := h w1 s1 S1
      simp only [oWalk] at q
      split at q
      · rename_i ds hc
        obtain ⟨a, vs, e1, hn, h1, h2⟩ := S2.lst r1 hc
        refine ⟨a, e1, ⟨vs, .inl (.inl h1)⟩, q w1 Step.refl S2 _ (wk_list fun w' μ' kp S' so => ?_)⟩
        have so : μ'[n]? = some (.lst ds) := of_decide_eq_true so
        obtain ⟨a', vs', e2, hn', h3, h4⟩ := S'.lst (x := .ref a) ⟨a, rfl, kp.loc n a hn⟩ so
        cases e2
        exact ⟨vs', .inl (.inl h3), h4⟩
      · exact q.elim
    | tup ds =>
      refine .inr (.inl (go _ w ρ μ S E ?_))
      rw [hf]
      intro w1 s1 S1 v r1
      obtain ⟨μ', S2, q⟩ := h w1 s1 S1
      obtain ⟨a, vs, e1, h1, h2⟩ := r1
      refine ⟨a, e1, ⟨vs, h1.sq⟩, q w1 Step.refl S2 _ (wk_tup fun w' kp => ?_)⟩
      exact ⟨vs, (h1.mono kp).sq, h2.mono kp⟩
    | str s =>
      refine .inr (.inr (go _ w ρ μ S E ?_))
      rw [hf]
      intro w1 s1 S1 v r1
      obtain ⟨μ', S2, q⟩ := h w1 s1 S1
      exact ⟨_, r1, q w1 Step.refl S2 _ wk_str⟩
    | non =>
      refine .inl (go _ w ρ μ S E ?_)
      rw [hf]
      intro w1 s1 S1 v r1
      obtain ⟨μ', S2, q⟩ := h w1 s1 S1
      exact q.elim
    | bl _ =>
      refine .inl (go _ w ρ μ S E ?_)
      rw [hf]
      intro w1 s1 S1 v r1
      obtain ⟨μ', S2, q⟩ := h w1 s1 S1
      exact q.elim
    | int _ =>
      refine .inl (go _ w ρ μ S E ?_)
      rw [hf]
      intro w1 s1 S1 v r1
      obtain ⟨μ', S2, q⟩ := h w1 s1 S1
      exact q.elim
    | obj _ _ _ =>
      refine .inl (go _ w ρ μ S E ?_)
      rw [hf]
      intro w1 s1 S1 v r1
      obtain ⟨μ', S2, q⟩ := h w1 s1 S1
      exact q.elim
    | ptr _ =>
      refine .inl (go _ w ρ μ S E ?_)
      rw [hf]
      intro w1 s1 S1 v r1
      obtain ⟨μ', S2, q⟩ := h w1 s1 S1
      exact q.elim
    | dct _ _ =>
      refine .inl (go _ w ρ μ S E ?_)
      rw [hf]
      intro w1 s1 S1 v r1
      obtain ⟨μ', S2, q⟩ := h w1 s1 S1
      exact q.elim
def iRange1 (fa : FE) : FI := fun ρ μ => (fa ρ μ).bind fun d μ1 => match d with
  | .int j => if -1000000 ≤ j ∧ j ≤ 1000000 then .ok ((List.range j.toNat).map fun i => .int (0 + (i : Nat)), none) μ1 else .stuck
  | _ => .stuck
theorem si_range1 (hg : Gl X "range") (hm : X.mg "range" = none) (ha : SE X W cls a fa) (hs : starEach [a] X.env = [(false, eval a X.env)] := by rfl) : SI X W cls tg (.Call (.Name "range" p) [a] [] pos) (iRange1 fa) := by
  obtain ⟨t, p, k⟩ := ha
  refine ⟨_, pi_range1 hg hm (pa_cons p pa_nil hs) hs, fun σ R w ρ μ S E h => ?_⟩
  refine k σ _ w ρ μ S E ((PostR.bind h).imp fun w1 d s1 ⟨μ1, S1, q1⟩ v r1 => ?_)
  cases d with
  | int j =>
    simp only at q1
    split at q1
    · rename_i hj
      exact ⟨j, by rw [show v = V.int j from r1], by omega, by omega, q1 w1 Step.refl S1 _ wk_range⟩
    · exact q1.elim
  | _ => exact q1.elim
def iRange2 (fa fb : FE) : FI := fun ρ μ => (fa ρ μ).bind fun d μ1 => (fb ρ μ1).bind fun e μ2 => match d, e with
  | .int i, .int j => if -1000000 ≤ i ∧ i ≤ 1000000 ∧ -1000000 ≤ j ∧ j ≤ 1000000 then .ok ((List.range (j - i).toNat).map fun k => .int (i + (k : Nat)), none) μ2 else .stuck
  | _, _ => .stuck
theorem si_range2 (hg : Gl X "range") (hm : X.mg "range" = none) (ha : SE X W cls a fa) (hb : SE X W cls b fb) (hs : starEach [a, b] X.env = [(false, eval a X.env), (false, eval b X.env)] := by rfl) (hs2 : starEach [b] X.env = [(false, eval b X.env)] := by rfl) :
    SI X W cls tg (.Call (.Name "range" p) [a, b] [] pos) (iRange2 fa fb) := by
  obtain ⟨t, p, k⟩ := ha
  obtain ⟨t2, p2, k2⟩ := hb
  refine ⟨_, pi_range2 hg hm (pa_cons p (pa_cons p2 pa_nil hs2) (by rw [hs, hs2])) hs hs2, fun σ R w ρ μ S E h => ?_⟩
  refine k σ _ w ρ μ S E ((PostR.bind h).imp fun w1 d s1 ⟨μ1, S1, q1⟩ v r1 => ?_)
  refine k2 σ _ w1 ρ μ1 S1 (E.mono s1.kp) ((PostR.bind q1).imp fun w2 d2 s2 ⟨μ2, S2, q2⟩ v2 r2 => ?_)
  cases d with
  | int i =>
    cases d2 with
    | int j =>
      simp only at q2
      split at q2
      · rename_i hj
        exact ⟨i, j, by rw [show v = V.int i from r1, show v2 = V.int j from r2], ⟨by omega, by omega, by omega, by omega⟩, q2 w2 Step.refl S2 _ wk_range⟩
      · exact q2.elim
    | _ => exact q2.elim
  | _ => cases d2 <;> exact q2.elim
end

/-- what comes first, the rest at the base -/
theorem PostS.bind0 {α : Type} {K : PySem.W.Frag} {cls : Nat → Option Addr} {w w' : Wd} {W : WX} {D : Ends} {ρ : Env} {σ : L2.St} {r : Res α} {f : α → Store → SR} (st : Step w w') (E : RelE K cls w' ρ σ)
    (h : PostS K cls w W D (rS ρ r f)) : PostR K cls w' (WE W σ) (fun w3 a => Step w' w3 ∧ ∃ μ', RelS K cls w3 μ' ∧ PostS K cls w W D (f a μ')) r := by
  cases r with
  | ok a μ => exact fun w3 s S => ⟨s, μ, S, h⟩
  | err k ns ds μ => exact fun w3 cv d s S x => h w3 σ cv d (st.trans s) S (E.mono s.kp) x
  | stuck => exact h
theorem PostR.bind0 {α β : Type} {K : PySem.W.Frag} {cls : Nat → Option Addr} {w w' : Wd} {Er Er' : XK} {R : Wd → β → Prop} {r : Res α} {f : α → Store → Res β}
    (h : PostR K cls w Er R (r.mute.bind f)) : PostR K cls w' Er' (fun w3 a => Step w' w3 ∧ ∃ μ', RelS K cls w3 μ' ∧ PostR K cls w Er R (f a μ')) r := by
  cases r with
  | ok a μ => exact fun w3 s S => ⟨s, μ, S, h⟩
  | err k ns ds μ => exact h.elim
  | stuck => exact h

/-! ### for -/
def forL (items : List D) (src : Option Nat) (g : D → Env → Store → Res Env) (body : FS) : List D → Env → Store → SR
  | [], ρ, μ => if srcOk src items μ = true then .nx ρ μ else .stuck
  | d :: ds, ρ, μ => if srcOk src items μ = true then rS ρ (g d ρ μ) fun ρ1 μ1 => match body ρ1 μ1 with
      | .nx ρ2 μ2 => forL items src g body ds ρ2 μ2
      | .ct ρ2 μ2 => forL items src g body ds ρ2 μ2
      | .bk ρ2 μ2 => .nx ρ2 μ2
      | .rt d μ2 => .rt d μ2
      | .er k ns es ρ2 μ2 => .er k ns es ρ2 μ2
      | .stuck => .stuck
    else .stuck
def sFor (fi : FI) (g : D → Env → Store → Res Env) (body : FS) : FS := fun ρ μ => rS ρ (fi ρ μ) fun it μ1 => forL it.1 it.2 g body it.1 ρ μ1
theorem ss_for {X : Cx} {W : WX} {cls : Nat → Option Addr} {tg iter : Expr} {body : List Stmt} {pos : Pos} {fi : FI} {is : List Nat} {g : D → Env → Store → Res Env} {fb : FS} (hp : PassesOwn (model X.prog X.w) X.A X.env X.xe) (hc : X.calm = true)
    (hi : SI X W cls tg iter fi) (hg : SG X cls tg is g) (hb : SSs X W cls body fb) (hs : ∀ x, foldedSetIterable iter X.env x = pure x := by intro _; rfl) : SS X W cls (.For tg iter body [] pos) (sFor fi g fb) := by
  obtain ⟨t1, p1, h1⟩ := hi
  obtain ⟨t2, p2, h2⟩ := hg
  obtain ⟨t3, p3, h3⟩ := hb
  refine ⟨_, ps_for hp hc p1 p2 p3 hs, fun D σ w ρ μ S E h => ?_⟩
  refine h1 σ _ w ρ μ S E ((PostS.bind E h).imp fun w1 it s1 ⟨μ1, S1, q1⟩ J wk => ?_)
  obtain ⟨items, src⟩ := it
  have E1 := E.mono s1.kp
  refine ⟨fun i m σ' H' => m = items.length - i ∧ i ≤ items.length ∧ ∃ (w' : Wd) (ρ' : Env) (μ' : Store), w'.H = H' ∧ Step w1 w' ∧ RelS X.K cls w' μ' ∧ RelE X.K cls w' ρ' σ' ∧ PostS X.K cls w1 W D (forL items src g fb (items.drop i) ρ' μ'),
    ⟨items.length, by simp, Nat.zero_le _, w1, ρ, μ1, rfl, Step.refl, S1, E1, by simpa using q1⟩, ?_⟩
  rintro i m σ' H' ⟨rfl, hle, w', ρ', μ', rfl, st, S', E', q⟩
  by_cases hlt : i < items.length
  · rw [List.drop_eq_getElem_cons hlt] at q
    simp only [forL] at q
    split at q
    · rename_i so
      obtain ⟨wd, _⟩ := wk i w' μ' st.kp S' so
      obtain ⟨go, yld⟩ := wd items[i] (List.getElem?_eq_getElem hlt)
      refine .inr ⟨go, fun σ2 H2 => ∃ (w2 : Wd) (ρ2 : Env) (μ2 : Store), w2.H = H2 ∧ Step w1 w2 ∧ RelS X.K cls w2 μ2 ∧ RelE X.K cls w2 ρ2 σ2 ∧ PostS X.K cls w1 W D (forL items src g fb (items.drop (i + 1)) ρ2 μ2), ?_, fun x H2 y => ?_⟩
      · rintro σ2 H2 ⟨w2, ρ2, μ2, e, st2, S2, E2, q2⟩
        exact ⟨_, by omega, rfl, hlt, w2, ρ2, μ2, e, st2, S2, E2, q2⟩
      · obtain ⟨w2, rfl, st2, S2, rx⟩ := yld x H2 y
        refine h2 x items[i] σ' w2 ρ' μ' _ _ S2 (E'.mono st2.kp) rx ((PostS.bind0 (st.trans st2) (E'.mono st2.kp) q).imp fun w3 ρ3 _ ⟨st3, μ3, S3, q3⟩ σ3 E3 _ => ?_)
        have st13 := (st.trans st2).trans st3
        refine h3 _ σ3 w3 ρ3 μ3 S3 E3 ?_
        split at q3
        · rename_i ρ4 μ4 hf
          rw [hf]
          exact fun w4 σ4 s4 S4 E4 => ⟨w4, ρ4, μ4, rfl, st13.trans s4, S4, E4, q3⟩
        · rename_i ρ4 μ4 hf
          rw [hf]
          exact fun w4 σ4 s4 S4 E4 => ⟨w4, ρ4, μ4, rfl, st13.trans s4, S4, E4, q3⟩
        · rename_i ρ4 μ4 hf
          rw [hf]
          exact fun w4 σ4 s4 S4 E4 => q3 w4 σ4 (st13.trans s4) S4 E4
        · rename_i d μ4 hf
          rw [hf]
          exact fun w4 σ4 s4 S4 E4 => q3 w4 σ4 (st13.trans s4) S4 E4
        · rename_i k4 ns4 ds4 ρ4 μ4 hf
          rw [hf]
          exact fun w4 σ4 cv d s4 S4 E4 => q3 w4 σ4 cv d (st13.trans s4) S4 E4
        · exact q3.elim
    · exact q.elim
  · have e : i = items.length := by omega
    subst e
    rw [List.drop_length] at q
    simp only [forL] at q
    split at q
    · rename_i so
      obtain ⟨_, stop⟩ := wk items.length w' μ' st.kp S' so
      exact .inl ⟨stop (Nat.le_refl _), q w' σ' st S' E'⟩
    · exact q.elim

/-! ### while -/
def whileL (c : FT) (body : FS) : Nat → Env → Store → SR
  | 0, _, _ => .stuck
  | n + 1, ρ, μ => rS ρ (c ρ μ) fun b μ1 => if b = true then match body ρ μ1 with
      | .nx ρ2 μ2 => whileL c body n ρ2 μ2
      | .ct ρ2 μ2 => whileL c body n ρ2 μ2
      | .bk ρ2 μ2 => .nx ρ2 μ2
      | .rt d μ2 => .rt d μ2
      | .er k ns es ρ2 μ2 => .er k ns es ρ2 μ2
      | .stuck => .stuck
    else .nx ρ μ1
def sWhile (n : Nat) (c : FT) (body : FS) : FS := fun ρ μ => whileL c body n ρ μ
theorem ss_while (n : Nat) {X : Cx} {W : WX} {cls : Nat → Option Addr} {c : Expr} {body : List Stmt} {pos : Pos} {fc : FT} {fb : FS} (hp : PassesOwn (model X.prog X.w) X.A X.env X.xe) (hc : ST X W cls c fc) (hb : SSs X W cls body fb) :
    SS X W cls (.While c body [] pos) (sWhile n fc fb) := by
  obtain ⟨t1, p1, h1⟩ := hc
  obtain ⟨t3, p3, h3⟩ := hb
  refine ⟨_, ps_while hp p1 p3, fun D σ w ρ μ S E h => ?_⟩
  refine ⟨fun m σ' H' => ∃ (w' : Wd) (ρ' : Env) (μ' : Store), w'.H = H' ∧ Step w w' ∧ RelS X.K cls w' μ' ∧ RelE X.K cls w' ρ' σ' ∧ PostS X.K cls w W D (whileL fc fb m ρ' μ'), ⟨n, w, ρ, μ, rfl, Step.refl, S, E, h⟩, ?_⟩
  rintro m σ' H' ⟨w', ρ', μ', rfl, st, S', E', q⟩
  cases m with
  | zero => exact q.elim
  | succ m =>
    simp only [whileL] at q
    refine h1 σ' _ w' ρ' μ' S' E' ((PostS.bind0 st E' q).imp fun w3 b _ ⟨st3, μ3, S3, q3⟩ => ?_)
    have st13 := st.trans st3
    have E3 := E'.mono st3.kp
    cases b with
    | false => exact q3 w3 σ' st13 S3 E3
    | true =>
      refine ⟨fun σ2 H2 => ∃ (w2 : Wd) (ρ2 : Env) (μ2 : Store), w2.H = H2 ∧ Step w w2 ∧ RelS X.K cls w2 μ2 ∧ RelE X.K cls w2 ρ2 σ2 ∧ PostS X.K cls w W D (whileL fc fb m ρ2 μ2), fun σ2 H2 z => ⟨m, Nat.lt_succ_self _, z⟩, ?_⟩
      refine h3 _ σ' w3 ρ' μ3 S3 E3 ?_
      simp only [if_true] at q3
      split at q3
      · rename_i ρ4 μ4 hf
        rw [hf]
        exact fun w4 σ4 s4 S4 E4 => ⟨w4, ρ4, μ4, rfl, st13.trans s4, S4, E4, q3⟩
      · rename_i ρ4 μ4 hf
        rw [hf]
        exact fun w4 σ4 s4 S4 E4 => ⟨w4, ρ4, μ4, rfl, st13.trans s4, S4, E4, q3⟩
      · rename_i ρ4 μ4 hf
        rw [hf]
        exact fun w4 σ4 s4 S4 E4 => q3 w4 σ4 (st13.trans s4) S4 E4
      · rename_i d μ4 hf
        rw [hf]
        exact fun w4 σ4 s4 S4 E4 => q3 w4 σ4 (st13.trans s4) S4 E4
      · rename_i k4 ns4 ds4 ρ4 μ4 hf
        rw [hf]
        exact fun w4 σ4 cv d s4 S4 E4 => q3 w4 σ4 cv d (st13.trans s4) S4 E4
      · exact q3.elim

/-! ### a comprehension -/
def wipeE (ρ : Env) : List Nat → Env
  | [] => ρ
  | v :: vs => (wipeE ρ vs).set v none
def lcL (items : List D) (src : Option Nat) (g : D → Env → Store → Res Env) (ft : FT) (fe : FE) (ρ : Env) : List D → Store → List D → Res D
  | [], μ, acc => if srcOk src items μ = true then .ok (.lst acc) μ else .stuck
  | d :: ds, μ, acc => if srcOk src items μ = true then (g d ρ μ).mute.bind fun ρ1 μ1 => (ft ρ1 μ1).mute.bind fun b μ2 =>
      if b = true then (fe ρ1 μ2).mute.bind fun y μ3 => if acc.length < LIM then lcL items src g ft fe ρ ds μ3 (acc ++ [y]) else .stuck
      else lcL items src g ft fe ρ ds μ2 acc
    else .stuck
def eLc (vs : List Nat) (fi : FI) (g : D → Env → Store → Res Env) (ft : FT) (fe : FE) : FE := fun ρ μ => (fi ρ μ).bind fun it μ1 => lcL it.1 it.2 g ft fe (wipeE ρ vs) it.1 μ1 []
section
variable {K : PySem.W.Frag} {cls : Nat → Option Addr} {w : Wd} {μ : Store}
theorem RelE.setN {ρ : Env} {σ : L2.St} {i : Nat} (h : RelE K cls w ρ σ) : RelE K cls w (ρ.set i none) (σ.set i none) := by
  refine ⟨by rw [List.length_set, List.length_set]; exact h.1, fun j d' e => ?_⟩
  by_cases hj : i = j
  · subst hj
    by_cases hl : i < ρ.length
    · rw [List.getElem?_set_self hl] at e
      cases e
    · rw [List.getElem?_eq_none (by rw [List.length_set]; omega)] at e
      cases e
  · rw [List.getElem?_set_ne hj] at e
    obtain ⟨v', h1, h2⟩ := h.2 j d' e
    exact ⟨v', by rw [List.getElem?_set_ne hj]; exact h1, h2⟩
theorem RelE.wipe {ρ : Env} {σ : L2.St} (h : RelE K cls w ρ σ) : ∀ vs : List Nat, RelE K cls w (wipeE ρ vs) (L2.wipe σ vs)
  | [] => h
  | v :: vs => (RelE.wipe h vs).setN
theorem wipe_in {σ : L2.St} {i : Nat} : ∀ {vs : List Nat}, i ∈ vs → i < σ.length → (L2.wipe σ vs)[i]? = some none
  | [], h, _ => absurd h (by simp)
  | v :: vs, h, hl => by
    unfold L2.wipe
    by_cases e : v = i
    · subst e
      rw [List.getElem?_set_self (by rw [wipe_length]; exact hl)]
    · rw [List.getElem?_set_ne e]
      exact wipe_in (by simpa [Ne.symm e] using h) hl
theorem wipe_off {σ σ2 : L2.St} {is vs : List Nat} (h : Off is (L2.wipe σ vs) σ2) (hs : is.all (vs.contains ·) = true) : L2.wipe σ2 vs = L2.wipe σ vs := by
  have hl : σ2.length = σ.length := by rw [h.1, wipe_length]
  refine List.ext_getElem? fun i => ?_
  by_cases hi : i ∈ vs
  · by_cases hlt : i < σ.length
    · rw [wipe_in hi (by rw [hl]; exact hlt), wipe_in hi hlt]
    · rw [List.getElem?_eq_none (by rw [wipe_length, hl]; omega), List.getElem?_eq_none (by rw [wipe_length]; omega)]
  · rw [wipe_out hi]
    refine h.2 i fun z => hi ?_
    have := List.all_eq_true.mp hs i z
    simpa using this
/-- one more banned -/
theorem RelS.ban1 (S : RelS K cls w μ) {p : Addr} {o : HO} (h : w.H p = none) : RelS K cls ⟨w.x, w.ι, p :: w.B, upd w.H p o⟩ μ where
  len := S.len
  nd := S.nd
  ban := fun b hb => by
    rcases List.mem_cons.mp hb with e | hb
    · subst e
      exact ⟨(S.free h).1, o, upd_same⟩
    · obtain ⟨h1, u, h2⟩ := S.ban b hb
      exact ⟨h1, u, by show upd w.H p o b = some u; rw [upd_ne (ne_of_none h2 h)]; exact h2⟩
  cell := fun n c e => by
    obtain ⟨a, h1, h2⟩ := S.cell n c e
    refine ⟨a, h1, h2.mono (kp_ban h) fun u e => ?_⟩
    show upd w.H p o a = some u
    rw [upd_ne (ne_of_none e h)]
    exact e
where
  kp_ban {p : Addr} {o : HO} (h : w.H p = none) : Kp w ⟨w.x, w.ι, p :: w.B, upd w.H p o⟩ := ⟨fun a u hi hb e => ⟨by
    show upd w.H p o a = some u
    rw [upd_ne (ne_of_none e h)]
    exact e, hi, fun z => (List.mem_cons.mp z).elim (fun e1 => ne_of_none e h e1) hb⟩, fun n a e => e, rfl⟩
end

section
variable {K : PySem.W.Frag} {cls : Nat → Option Addr} {w w1 w' w4 : Wd} {μ : Store}
theorem kp_bump {p : Addr} {o : HO} (hp : p ∈ w.B) : Kp w ⟨w.x, w.ι, w.B, upd w.H p o⟩ := ⟨fun a u hi hb e => ⟨by
    show upd w.H p o a = some u
    rw [upd_ne fun z => hb (by rw [z]; exact hp)]
    exact e, hi, hb⟩, fun n a e => e, rfl⟩
theorem RelS.bump (S : RelS K cls w μ) {p : Addr} {o : HO} (hp : p ∈ w.B) : RelS K cls ⟨w.x, w.ι, w.B, upd w.H p o⟩ μ where
  len := S.len
  nd := S.nd
  ban := fun b hb => by
    obtain ⟨h1, u, h2⟩ := S.ban b hb
    refine ⟨h1, ?_⟩
    by_cases e : b = p
    · subst e
      exact ⟨o, upd_same⟩
    · exact ⟨u, by show upd w.H p o b = some u; rw [upd_ne e]; exact h2⟩
  cell := fun n c e => by
    obtain ⟨a, h1, h2⟩ := S.cell n c e
    refine ⟨a, h1, h2.mono (kp_bump hp) fun u e => ?_⟩
    show upd w.H p o a = some u
    rw [upd_ne fun z => (S.ban p hp).1 (by rw [← z]; exact List.mem_of_getElem? h1)]
    exact e
theorem Step.under {B : List Addr} (st : Step w1 ⟨w'.x, w'.ι, B, w'.H⟩) (s : Step w' w4) : Step w1 ⟨w4.x, w4.ι, B, w4.H⟩ where
  keep := fun a o hi e => s.keep a o (st.notin e hi) (st.keep a o hi e)
  pre := by
    obtain ⟨l, e⟩ := st.pre
    obtain ⟨l', e'⟩ := s.pre
    exact ⟨l ++ l', by show w4.ι = _; rw [e', show w'.ι = _ from e, List.append_assoc]⟩
  fresh := fun a h n => by
    by_cases q : a ∈ w'.ι
    · exact st.fresh a q n
    · have z := s.fresh a h q
      cases e : w1.H a with
      | none => rfl
      | some o =>
        have := st.keep a o n e
        rw [show w'.H a = none from z] at this
        cases this
  ban := st.ban
  exn := s.exn.trans st.exn
theorem Step.bumped {B : List Addr} {p : Addr} {o : HO} (st : Step w1 ⟨w'.x, w'.ι, B, w'.H⟩) (h : w1.H p = none) : Step w1 ⟨w'.x, w'.ι, B, upd w'.H p o⟩ where
  keep := fun a u hi e => by
    show upd w'.H p o a = some u
    rw [upd_ne (ne_of_none e h)]
    exact st.keep a u hi e
  pre := st.pre
  fresh := st.fresh
  ban := st.ban
  exn := st.exn
theorem kp_unban {B : List Addr} {p : Addr} (hB : w.B = p :: B) : Kp w ⟨w.x, w.ι, B, w.H⟩ := ⟨fun a o hi hb e => ⟨e, hi, fun z => hb (by rw [hB]; exact List.mem_cons_of_mem _ z)⟩, fun n a e => e, rfl⟩
theorem RelS.unban {B : List Addr} {p : Addr} (S : RelS K cls w μ) (hB : w.B = p :: B) : RelS K cls ⟨w.x, w.ι, B, w.H⟩ μ := by
  have kp : Kp w ⟨w.x, w.ι, B, w.H⟩ := kp_unban hB
  exact ⟨S.len, S.nd, fun b hb => S.ban b (by rw [hB]; exact List.mem_cons_of_mem _ hb), fun n c e => by
    obtain ⟨a, h1, h2⟩ := S.cell n c e
    exact ⟨a, h1, h2.mono kp fun u e => e⟩⟩
theorem RVs.unban {B : List Addr} {p : Addr} {ds : List D} {vs : List V} (r : RVs K cls w ds vs) (hB : w.B = p :: B) : RVs K cls ⟨w.x, w.ι, B, w.H⟩ ds vs :=
  RVs.mono (kp_unban hB) r
theorem lc_ok {W : WX} {wi : TI} {fi : FI} {is vs : List Nat} {g : D → Env → Store → Res Env} {ft : FT} {fe : FE}
    (h1 : ∀ (σ : L2.St) (R : It → Hp → Prop) (w : Wd) (ρ : Env) (μ : Store), RelS K cls w μ → RelE K cls w ρ σ → PostR K cls w (WE W σ) (fun w' it => ∀ J, Wk K cls J w' it.1 it.2 → R J w'.H) (fi ρ μ) → wi σ w.H R)
    (hs : is.all (vs.contains ·) = true) {σ : L2.St} {Q : VK} {ρ : Env} (S : RelS K cls w μ) (E : RelE K cls w ρ σ) (h : PostR K cls w (WE W σ) (fun w' d => ∀ v, RV K cls w' d v → Q v w'.H) (eLc vs fi g ft fe ρ μ)) :
    tLc wi (TGof K cls is g) (TTof K cls ft) (TEof K cls fe) vs σ w.H Q := by
  refine h1 σ _ w ρ μ S E ((PostR.bind h).imp fun w1 it s1 ⟨μ1, S1, q1⟩ J wk => ?_)
  obtain ⟨items, src⟩ := it
  have E1 := E.mono s1.kp
  intro p hp
  refine ⟨fun i m H => m = items.length - i ∧ i ≤ items.length ∧ ∃ (w' : Wd) (μ' : Store) (acc : List D) (us : List V), w'.H = H ∧ w'.B = p :: w1.B ∧ Step w1 ⟨w'.x, w'.ι, w1.B, w'.H⟩ ∧ RelS K cls w' μ' ∧ H p = some (.lst us) ∧
      RVs K cls w' acc us ∧ PostR K cls w1 (WE W σ) (fun w' d => ∀ v, RV K cls w' d v → Q v w'.H) (lcL items src g ft fe (wipeE ρ vs) (items.drop i) μ' acc),
    ⟨items.length, by simp, Nat.zero_le _, ⟨w1.x, w1.ι, p :: w1.B, upd w1.H p (.lst [])⟩, μ1, [], [], rfl, rfl, step_new hp, S1.ban1 hp, upd_same, rfl, by simpa using q1⟩, ?_⟩
  rintro i m H ⟨rfl, hle, w', μ', acc, us, rfl, hB, st, S', hD, racc, q⟩
  have kp : Kp w1 w' := ⟨fun a o hi hb e => ⟨st.keep a o hi e, st.notin e hi, fun z => by
      rw [hB] at z
      rcases List.mem_cons.mp z with e1 | z
      · exact ne_of_none e hp e1
      · exact hb z⟩, fun n a e => st.loc e, st.exn⟩
  have E' := (E1.mono kp).wipe vs
  by_cases hlt : i < items.length
  · rw [List.drop_eq_getElem_cons hlt] at q
    simp only [lcL] at q
    split at q
    · rename_i so
      obtain ⟨wd, _⟩ := wk i w' μ' kp S' so
      obtain ⟨go, yld⟩ := wd items[i] (List.getElem?_eq_getElem hlt)
      refine .inr ⟨go, fun H => ∃ (w' : Wd) (μ' : Store) (acc : List D) (us : List V), w'.H = H ∧ w'.B = p :: w1.B ∧ Step w1 ⟨w'.x, w'.ι, w1.B, w'.H⟩ ∧ RelS K cls w' μ' ∧ H p = some (.lst us) ∧
          RVs K cls w' acc us ∧ PostR K cls w1 (WE W σ) (fun w' d => ∀ v, RV K cls w' d v → Q v w'.H) (lcL items src g ft fe (wipeE ρ vs) (items.drop (i + 1)) μ' acc), fun H z => ⟨_, by omega, rfl, hlt, z⟩, fun x H2 y => ?_⟩
      obtain ⟨w2, rfl, st2, S2, rx⟩ := yld x H2 y
      refine ⟨w2, wipeE ρ vs, μ', items[i], rfl, S2, E'.mono st2.kp, rx, (PostR.bind0 q).imp fun w3 ρ3 _ ⟨st3, μ3, S3, q3⟩ σ3 E3 off => ⟨wipe_off off hs, w3, ρ3, μ3, rfl, S3, E3, (PostR.bind0 q3).imp fun w4 b _ ⟨st4, μ4, S4, q4⟩ => ?_⟩⟩
      have st14 : Step w' w4 := (st2.trans st3).trans st4
      have stw := st.under st14
      have hpB : p ∈ w'.B := by rw [hB]; exact List.mem_cons_self
      cases b with
      | false =>
        refine iteF ?_
        exact ⟨w4, μ4, acc, us, rfl, st14.ban.trans hB, stw, S4, st14.keep p _ (S'.ban p hpB).1 hD, racc.mono st14.kp, by simpa using q4⟩
      | true =>
        refine iteT ?_
        simp only [if_true] at q4
        refine ⟨w4, ρ3, μ4, rfl, S4, E3.mono st4.kp, (PostR.bind0 q4).imp fun w5 y _ ⟨st5, μ5, S5, q5⟩ v rv => ?_⟩
        have st15 : Step w' w5 := st14.trans st5
        split at q5
        · rename_i hl
          have hB5 : w5.B = p :: w1.B := st15.ban.trans hB
          have hp5 : p ∈ w5.B := by rw [hB5]; exact List.mem_cons_self
          refine ⟨us, st15.keep p _ (S'.ban p hpB).1 hD, by rw [racc.length]; exact lim_lt hl, ⟨w5.x, w5.ι, w5.B, upd w5.H p (.lst (us ++ [v]))⟩, μ5, acc ++ [y], us ++ [v], rfl, hB5, (st.under st15).bumped hp, S5.bump hp5, upd_same, ?_, q5⟩
          exact ((racc.mono st15.kp).append (.cons rv .nil)).mono (kp_bump hp5)
        · exact q5.elim
    · exact q.elim
  · have e : i = items.length := by omega
    subst e
    rw [List.drop_length] at q
    simp only [lcL] at q
    split at q
    · rename_i so
      obtain ⟨_, stop⟩ := wk items.length w' μ' kp S' so
      refine .inl ⟨stop (Nat.le_refl _), q ⟨w'.x, w'.ι, w1.B, w'.H⟩ st (S'.unban hB) _ ⟨p, us, rfl, ⟨hD, (S'.ban p (by rw [hB]; exact List.mem_cons_self)).1, (S1.free hp).2⟩, racc.unban hB⟩⟩
    · exact q.elim
end
section
variable {X : Cx} {W : WX} {cls : Nat → Option Addr} {elt tg iter : Expr} {ifs : List Expr} {scope : Scope} {own : List (Str × Nat)} {pos : Pos} {is : List Nat} {fi : FI} {g : D → Env → Store → Res Env} {ft : FT} {fe : FE}
theorem se_lc (hc : X.calm = true) (hN : X.N.Nodup) (hi : SI X W cls tg iter fi) (ok : BlkOk X.N X.env.scope scope own)
    (hg : ∀ (s : Shared) (H : Hp) (C : Addr) (cl : List (Str × Addr)) (fp : List Addr), SG (X.blk s H scope (compEnvC scope cl C X.env) fp) cls tg is g) (ht : ∀ (s : Shared) (H : Hp) (C : Addr) (cl : List (Str × Addr)) (fp : List Addr), STs (X.blk s H scope (compEnvC scope cl C X.env) fp) cls ifs ft)
    (he : ∀ (s : Shared) (H : Hp) (C : Addr) (cl : List (Str × Addr)) (fp : List Addr), SE (X.blk s H scope (compEnvC scope cl C X.env) fp) W0 cls elt fe) (hs : is.all ((own.map (·.2)).contains ·) = true := by decide) (hf : ∀ x, foldedSetIterable iter X.env x = pure x := by intro _; rfl) :
    SE X W cls (.ListComp elt [⟨tg, iter, ifs, 0⟩] scope pos) (eLc (own.map (·.2)) fi g ft fe) := by
  obtain ⟨t1, p1, h1⟩ := hi
  exact ⟨_, pe_lc (g := TGof X.K cls is g) (tt := TTof X.K cls ft) (te := TEof X.K cls fe) hc hN p1 ok (fun s H C cl fp => (hg s H C cl fp).pg) ht (fun s H C cl fp => (he s H C cl fp).pe) hf, fun σ Q w ρ μ S E h => lc_ok h1 hs S E h⟩
theorem ss_setLc {i : Nat} {y : Str} {py spos : Pos} (hc : X.calm = true) (hN : X.N.Nodup) (hy : X.N[i]? = some y) (hyl : X.env.scope.names.lookup y = some .local) (hsw : swapsWith (.ListComp elt [⟨tg, iter, ifs, 0⟩] scope pos) (some (.Name y py)) spos.line X.env = pure true)
    (hi : SI X W cls tg iter fi) (ok : BlkOk X.N X.env.scope scope own)
    (hg : ∀ (s : Shared) (H : Hp) (C : Addr) (cl : List (Str × Addr)) (fp : List Addr), SG (X.blk s H scope (compEnvC scope cl C X.env) fp) cls tg is g) (ht : ∀ (s : Shared) (H : Hp) (C : Addr) (cl : List (Str × Addr)) (fp : List Addr), STs (X.blk s H scope (compEnvC scope cl C X.env) fp) cls ifs ft)
    (he : ∀ (s : Shared) (H : Hp) (C : Addr) (cl : List (Str × Addr)) (fp : List Addr), SE (X.blk s H scope (compEnvC scope cl C X.env) fp) W0 cls elt fe) (hs : is.all ((own.map (·.2)).contains ·) = true := by decide) (hf : ∀ x, foldedSetIterable iter X.env x = pure x := by intro _; rfl) :
    SS X W cls (.Assign [.Name y py] (.ListComp elt [⟨tg, iter, ifs, 0⟩] scope pos) spos) (sAsg (gVar i) (eLc (own.map (·.2)) fi g ft fe)) := by
  obtain ⟨t1, p1, h1⟩ := hi
  refine ⟨_, ps_setLc (g := TGof X.K cls is g) (tt := TTof X.K cls ft) (te := TEof X.K cls fe) hc hN hy hyl hsw p1 ok (fun s H C cl fp => (hg s H C cl fp).pg) ht (fun s H C cl fp => (he s H C cl fp).pe) hf, fun D σ w ρ μ S E h => ?_⟩
  refine lc_ok (Q := fun x H1 => L2.gName i x σ H1 D.nx) h1 hs S E ((PostS.bind E h).imp fun w1 d s1 ⟨μ1, S1, q1⟩ v r1 => ?_)
  unfold gVar at q1
  split at q1
  · exact q1 w1 _ Step.refl S1 ((E.mono s1.kp).set r1)
  · exact q1.elim
end

/-! ### a list that changes: it becomes a place -/
/-- xs = [..] (the list is new and nothing else) becomes the next place -/
def sNewL (i : Nat) (fs : FA) : FS := fun ρ μ => rS ρ (fs ρ μ) fun ds μ1 => if ds.length ≤ LIM ∧ i < ρ.length then .nx (ρ.set i (some (.loc μ1.length))) (μ1 ++ [.lst ds]) else .stuck
section
variable {K : PySem.W.Frag} {cls : Nat → Option Addr} {w : Wd} {μ : Store}
theorem kp_add {p : Addr} {o : HO} (h : w.H p = none) : Kp w ⟨w.x, w.ι ++ [p], w.B, upd w.H p o⟩ := ⟨fun a u hi hb e => ⟨by
    show upd w.H p o a = some u
    rw [upd_ne (ne_of_none e h)]
    exact e, fun z => (List.mem_append.mp z).elim hi fun z => ne_of_none e h (by simpa using z), hb⟩, fun n a e => by
    rw [List.getElem?_append_left (List.getElem?_eq_some_iff.mp e).1]
    exact e, rfl⟩
theorem step_add {p : Addr} {o : HO} (h : w.H p = none) : Step w ⟨w.x, w.ι ++ [p], w.B, upd w.H p o⟩ where
  keep := fun a u hi e => by
    show upd w.H p o a = some u
    rw [upd_ne (ne_of_none e h)]
    exact e
  pre := ⟨[p], rfl⟩
  fresh := fun a hm hn => by
    have : a = p := (List.mem_append.mp hm).elim (fun z => absurd z hn) fun z => by simpa using z
    rw [this]
    exact h
  ban := rfl
  exn := rfl
theorem RelS.add (S : RelS K cls w μ) {p : Addr} {o : HO} {c : Cell} (h : w.H p = none) (hc : CellOk K cls ⟨w.x, w.ι ++ [p], w.B, upd w.H p o⟩ p c) : RelS K cls ⟨w.x, w.ι ++ [p], w.B, upd w.H p o⟩ (μ ++ [c]) where
  len := by rw [List.length_append, List.length_append, S.len]; rfl
  nd := by
    rw [List.nodup_append]
    refine ⟨S.nd, by simp, fun a ha b hb e => ?_⟩
    have hb : b = p := by simpa using hb
    rw [e, hb] at ha
    exact (S.free h).1 ha
  ban := fun b hb => by
    obtain ⟨h1, u, h2⟩ := S.ban b hb
    have hbp : b ≠ p := ne_of_none h2 h
    exact ⟨fun z => (List.mem_append.mp z).elim h1 fun z => hbp (by simpa using z), u, by show upd w.H p o b = some u; rw [upd_ne hbp]; exact h2⟩
  cell := fun n c' e => by
    by_cases hn : n < μ.length
    · rw [List.getElem?_append_left hn] at e
      obtain ⟨a, h1, h2⟩ := S.cell n c' e
      refine ⟨a, by rw [List.getElem?_append_left (by rw [S.len]; exact hn)]; exact h1, h2.mono (kp_add h) fun u e => ?_⟩
      show upd w.H p o a = some u
      rw [upd_ne (ne_of_none e h)]
      exact e
    · rw [List.getElem?_append_right (by omega)] at e
      have hn2 : n - μ.length = 0 := by
        have := (List.getElem?_eq_some_iff.mp e).1
        simp at this
        omega
      rw [hn2] at e
      cases e
      refine ⟨p, ?_, hc⟩
      rw [List.getElem?_append_right (by rw [S.len]; omega), S.len, hn2]
      rfl
end
section
variable {X : Cx} {W : WX} {cls : Nat → Option Addr} {es : List Expr} {fs : FA} {pos pos2 : Pos}
theorem ss_newL (i : Nat) {x : Str} {pos' : Pos} (hN : X.N.Nodup) (he : SA X W cls es fs) (hi : X.N[i]? = some x := by rfl) (hx : Loc X.env.scope x := by first | exact .inl rfl | exact .inr rfl) (hs : swapsWith (.List es pos2) (some (.Name x pos')) pos.line X.env = pure false := by rfl)
    (hf : X.fn x = true ∨ X.env.scope.names.lookup x = some .local := by first | exact .inl rfl | exact .inr rfl) : SS X W cls (.Assign [.Name x pos'] (.List es pos2) pos) (sNewL i fs) := by
  obtain ⟨t1, p1, h1⟩ := he
  refine ⟨_, ps_set hN hi hx (pe_lst p1) hs hf, fun D σ w ρ μ S E h => ?_⟩
  refine h1 σ _ w ρ μ S E ((PostS.bind E h).imp fun w1 d s1 ⟨μ1, S1, q1⟩ v r1 => ?_)
  split at q1
  · rename_i hl
    refine ⟨by rw [r1.length]; exact lim_le hl.1, fun p hp => ?_⟩
    refine q1 ⟨w1.x, w1.ι ++ [p], w1.B, upd w1.H p (.lst v)⟩ _ (step_add hp) (S1.add hp ⟨v, upd_same, r1.mono (kp_add hp)⟩) (((E.mono s1.kp).mono (kp_add hp)).set (v := .ref p) ⟨p, rfl, ?_⟩)
    rw [List.getElem?_append_right (by rw [S1.len]; omega), S1.len, Nat.sub_self]
    rfl
  · exact q1.elim
end

/-! ### a def -/
def mD (m : Nat) (g : FS) : List D → Store → Res D := fun ds μ => match g (ds.map some ++ List.replicate (m - ds.length) none) μ with
  | .rt d μ' => .ok d μ'
  | .nx _ μ' => .ok .non μ'
  | .er k ns es _ μ' => .err k ns es μ'
  | _ => .stuck
mutual
/-- no place from n on in it -/
def low (n : Nat) : D → Bool
  | .tup ds => lows n ds
  | .lst ds => lows n ds
  | .obj _ _ ds => lows n ds
  | .loc k => decide (k < n)
  | .dct _ ds => lows n ds
  | _ => true
def lows (n : Nat) : List D → Bool
  | [] => true
  | d :: ds => low n d && lows n ds
end
def lowC (n : Nat) : Cell → Bool
  | .lst ds => lows n ds
  | .ins _ _ ds => lows n ds
  | .dct _ ds => lows n ds
/-- a new list in a tuple that is handed back is frozen -/
def frz (n : Nat) (μ : Store) (d : D) : Option D := match d with
  | .loc k => if k < n then some (.loc k) else match μ[k]? with
    | some (.lst es) => if lows n es = true then some (.lst es) else none
    | _ => none
  | d => if low n d = true then some d else none
def frzs (n : Nat) (μ : Store) : List D → Option (List D)
  | [] => some []
  | d :: ds => match frz n μ d with
    | some e => match frzs n μ ds with
      | some es => some (e :: es)
      | none => none
    | none => none
/-- a def's own lists are gone behind it; one that it hands back is frozen -/
def fin (n : Nat) : Res D → Res D
  | .ok d μ => match d with
    | .loc k => if k < n then (if (μ.take n).all (lowC n) = true then .ok (.loc k) (μ.take n) else .stuck) else match μ[k]? with
      | some (.lst ds) => if (lows n ds && (μ.take n).all (lowC n)) = true then .ok (.lst ds) (μ.take n) else .stuck
      | _ => .stuck
    | d => if (low n d && (μ.take n).all (lowC n)) = true then .ok d (μ.take n) else match d with
      | .tup ds => if (μ.take n).all (lowC n) = true then match frzs n μ ds with
          | some es => .ok (.tup es) (μ.take n)
          | none => .stuck
        else .stuck
      | _ => .stuck
  | .err k ns es μ => if (lows n es && (μ.take n).all (lowC n)) = true then .err k ns es (μ.take n) else .stuck
  | .stuck => .stuck
def mDf (m : Nat) (g : FS) : List D → Store → Res D := fun ds μ => fin μ.length (mD m g ds μ)
end Fw

set_option Elab.async false
set_option linter.all false
set_option maxRecDepth 100000
set_option autoImplicit false
/-! New lists as places, defs. -/
namespace Fw
open PySem L2 PyProof.Rows

def thaw : Res D → Res D
  | .ok (.lst ds) μ => .ok (.loc μ.length) (μ ++ [.lst ds])
  | .err k ns es μ => .err k ns es μ
  | _ => .stuck
def eThaw (f : FE) : FE := fun ρ μ => thaw (f ρ μ)
section
variable {K : PySem.W.Frag} {cls : Nat → Option Addr} {w : Wd} {μ : Store} {Q : VK} {Er : XK}
/-- a list is laid at p and becomes the next place -/
theorem thaw_new (S : RelS K cls w μ) {ds : List D} {vs : List V} (r : RVs K cls w ds vs) (h : PostR K cls w Er (fun w' d => ∀ v, RV K cls w' d v → Q v w'.H) (thaw (.ok (.lst ds) μ))) {p : Addr} (hp : w.H p = none) : Q (.ref p) (upd w.H p (.lst vs)) := by
  refine h ⟨w.x, w.ι ++ [p], w.B, upd w.H p (.lst vs)⟩ (step_add hp) (S.add hp ⟨vs, upd_same, r.mono (kp_add hp)⟩) _ ⟨p, rfl, ?_⟩
  show (w.ι ++ [p])[μ.length]? = some p
  rw [List.getElem?_append_right (by rw [S.len]; omega), S.len, Nat.sub_self]
  rfl
theorem PostR.thaw {α : Type} {R : Wd → D → Prop} {r : Res α} {f : α → Store → Res D} (h : PostR K cls w Er R (thaw (r.bind f))) : PostR K cls w Er (fun w' a => ∃ μ', RelS K cls w' μ' ∧ PostR K cls w' Er R (thaw (f a μ'))) r := by
  cases r with
  | ok a μ => exact fun w' s S => ⟨μ, S, PostR.step s h⟩
  | err k ns ds μ => exact h
  | stuck => exact h
end
section
variable {X : Cx} {W : WX} {cls : Nat → Option Addr} {a b : Expr} {fa fb : FE} {es : List Expr} {fs : FA} {p pos : Pos}
theorem se_lstT (ha : SA X W cls es fs) : SE X W cls (.List es pos) (eThaw (eLst fs)) := by
  obtain ⟨t1, p1, h1⟩ := ha
  refine ⟨_, pe_lst p1, fun σ Q w ρ μ S E h => ?_⟩
  refine h1 σ _ w ρ μ S E ((PostR.thaw h).imp fun w1 d s1 ⟨μ1, S1, q1⟩ v r1 => ?_)
  by_cases hl : d.length ≤ LIM
  · rw [if_pos hl] at q1
    exact ⟨by rw [r1.length]; exact lim_le hl, fun p hp => thaw_new S1 r1 q1 hp⟩
  · rw [if_neg hl] at q1
    exact q1.elim
theorem se_listT (hg : Gl X "list") (hm : X.mg "list" = none) (ha : SE X W cls a fa) (hs : starEach [a] X.env = (false, eval a X.env) :: starEach [] X.env := by rfl) (hpl : (backTo pos (starEach [] X.env)).any (·.1) = false := by rfl) :
    SE X W cls (.Call (.Name "list" p) [a] [] pos) (eThaw (eCall cList (aCons fa aNil))) := by
  obtain ⟨t1, p1, h1⟩ := ha
  refine ⟨_, pe_callTy call_list_of hg hm (by decide +kernel) (pa_cons p1 pa_nil hs) (by decide +kernel) (by decide +kernel) hs hpl, fun σ Q w ρ μ S E h => ?_⟩
  have h : PostR X.K cls w (WE W σ) (fun w' d => ∀ v, RV X.K cls w' d v → Q v w'.H) (thaw ((fa ρ μ).bind fun d μ1 => cList [d] μ1)) := by
    unfold eThaw eCall aCons aNil at h
    cases hf : fa ρ μ with
    | ok d μ1 => rw [hf] at h; exact h
    | err k ns ds μ1 => rw [hf] at h; exact h
    | stuck => rw [hf] at h; exact h
  refine h1 σ _ w ρ μ S E ((PostR.thaw h).imp fun w1 d s1 ⟨μ1, S1, q1⟩ v r1 => ?_)
  simp only [cList] at q1
  split at q1
  · rename_i es hd
    obtain ⟨l, vs, e, h3, h4⟩ := seqOf_at S1 r1 hd
    exact ⟨l, vs, congrArg (fun z => [z]) e, h3, fun p hp => thaw_new S1 h4 q1 hp⟩
  · exact q1.elim
theorem se_repT (ha : SE X W cls a fa) (hb : SE X W cls b fb) : SE X W cls (.BinOp a .Mult b pos) (eThaw (eBin oMul fa fb)) := by
  obtain ⟨t1, p1, h1⟩ := ha
  obtain ⟨t2, p2, h2⟩ := hb
  refine ⟨_, pe_op op_rep p1 p2, fun σ Q w ρ μ S E h => ?_⟩
  refine h1 σ _ w ρ μ S E ((PostR.thaw h).imp fun w1 d s1 ⟨μ1, S1, q1⟩ v r1 => ?_)
  refine h2 σ _ w1 ρ μ1 S1 (E.mono s1.kp) ((PostR.thaw q1).imp fun w2 e s2 ⟨μ2, S2, q2⟩ u r2 => ?_)
  have r1 := r1.mono s2.kp
  unfold oMul at q2
  split at q2
  · split at q2 <;> exact q2.elim
  · split at q2 <;> exact q2.elim
  · split at q2
    · rename_i a ha
      split at q2
      · rename_i hs
        obtain ⟨l, vs, e1, h1, h2⟩ := lstOf_at S2 r1 ha
        have hm : ∀ n : Nat, n ≤ 1000 → vs.length * n ≤ sizeLine := fun n hn => by
          rw [h2.length]
          exact lim_le (Nat.mul_le_mul hs.2.2 hn)
        exact ⟨l, _, vs, e1, r2, h1, by omega, by omega, hm _ (by omega), fun p hp => thaw_new S2 (h2.rep _) q2 hp⟩
      · exact q2.elim
    · exact q2.elim
  · exact q2.elim
/-- tuple(range(..)), list(range(..)) -/
def eTupRg (fi : FI) : FE := fun ρ μ => (fi ρ μ).bind fun it μ1 => .ok (.tup it.1) μ1
theorem se_tupRg1 (hc : X.calm = true) (hg : Gl X "tuple") (hm : X.mg "tuple" = none) (hg2 : Gl X "range") (hm2 : X.mg "range" = none) (ha : SE X W cls a fa) {p2 pos2 : Pos} (na : starEach [a] X.env = (false, eval a X.env) :: starEach [] X.env := by rfl)
    (na2 : starEach [.Call (.Name "range" p2) [a] [] pos2] X.env = (false, eval (.Call (.Name "range" p2) [a] [] pos2) X.env) :: starEach [] X.env := by rfl) :
    SE X W cls (.Call (.Name "tuple" p) [.Call (.Name "range" p2) [a] [] pos2] [] pos) (eTupRg (iRange1 fa)) := by
  obtain ⟨t1, p1, h1⟩ := ha
  refine ⟨_, pe_tupRg hc hg hm (prg_1 hg2 hm2 p1 na) na2, fun σ Q w ρ μ S E h => ?_⟩
  have h := PostR.bind h
  refine h1 σ _ w ρ μ S E ((PostR.bind h).imp fun w1 d s1 ⟨μ1, S1, q1⟩ v r1 => ?_)
  cases d with
  | int j =>
    refine ⟨j, r1, ?_⟩
    simp only at q1
    split at q1
    · rename_i hj
      obtain ⟨μ2, S2, q2⟩ := q1 w1 Step.refl S1
      refine ⟨⟨by omega, by omega, by omega, by omega, by omega⟩, fun p hp => ?_⟩
      have r : RVs X.K cls w1 ((List.range j.toNat).map fun i => D.int (0 + (i : Nat))) (rgV 0 j) := by
        have e : rgV 0 j = ((List.range j.toNat).map fun i => (0 + (i : Nat) : Int)).map V.int := by
          unfold rgV
          rw [List.map_map, show (j - 0).toNat = j.toNat by omega]
          rfl
        have e2 : ((List.range j.toNat).map fun i => D.int (0 + (i : Nat))) = ((List.range j.toNat).map fun i => (0 + (i : Nat) : Int)).map D.int := by
          rw [List.map_map]
          rfl
        rw [e, e2]
        exact RVs.ints
      exact q2 (w1.up p (.tup (rgV 0 j))) (step_new hp) (S2.new hp) _ (new_tup S2 hp r)
    · exact q1.elim
  | _ => exact q1.elim
end

/-! ### a def -/
section
variable {K : PySem.W.Frag} {cls : Nat → Option Addr} {w w' : Wd} {μ : Store}
/-- kept but for the places from n on -/
structure Kl (n : Nat) (w w' : Wd) : Prop where
  at_ : ∀ a o, a ∉ w.ι → a ∉ w.B → w.H a = some o → w'.H a = some o ∧ a ∉ w'.ι ∧ a ∉ w'.B
  loc : ∀ (k : Nat) (a : Addr), k < n → w.ι[k]? = some a → w'.ι[k]? = some a
  exn : w'.x = w.x
mutual
theorem RV.low {n : Nat} (s : Kl n w w') : ∀ {d : D} {v : V}, low n d = true → RV K cls w d v → RV K cls w' d v
  | .non, _, _, h => h
  | .bl _, _, _, h => h
  | .int _, _, _, h => h
  | .str _, _, _, h => h
  | .tup ds, _, l, ⟨a, vs, e, h, r⟩ => ⟨a, vs, e, (match h with
    | .inl ⟨h, m, b⟩ => .inl (s.at_ a _ m b h)
    | .inr h => .inr h), RVs.low s l r⟩
  | .lst ds, _, l, ⟨a, vs, e, ⟨h, m, b⟩, r⟩ => ⟨a, vs, e, s.at_ a _ m b h, RVs.low s l r⟩
  | .flst _, _, _, ⟨a, e, h⟩ => ⟨a, e, match h with
    | .inl ⟨⟨o, h⟩, m, b⟩ => let z := s.at_ a _ m b h; .inl ⟨⟨o, z.1⟩, z.2⟩
    | .inr h => .inr h⟩
  | .obj _ _ ds, _, l, ⟨a, C, dx, vs, e, c, ⟨h, m, b⟩, hl, r⟩ => ⟨a, C, dx, vs, e, c, s.at_ a _ m b h, hl, RVs.low s l r⟩
  | .loc _, _, l, ⟨a, e, h⟩ => ⟨a, e, s.loc _ _ (of_decide_eq_true l) h⟩
  | .ptr _, _, _, h => h
  | .dct _ ds, _, l, ⟨a, vs, e, ⟨h, m, b⟩, hl, r⟩ => ⟨a, vs, e, s.at_ a _ m b h, hl, RVs.low s l r⟩
theorem RVs.low {n : Nat} (s : Kl n w w') : ∀ {ds : List D} {vs : List V}, lows n ds = true → RVs K cls w ds vs → RVs K cls w' ds vs
  | [], _, _, h => h
  | d :: ds, _, l, ⟨v, r, e, h, t⟩ => by
    have l : Fw.low n d = true ∧ lows n ds = true := by simpa [lows] using l
    exact ⟨v, r, e, RV.low s l.1 h, RVs.low s l.2 t⟩
end
/-- the places from the entry's on are gone -/
theorem kl_cut (s : Step w w') : Kl w.ι.length w' ⟨w.x, w.ι, w'.B, w'.H⟩ := ⟨fun a o hi hb e => ⟨e, fun z => hi (by obtain ⟨l, e⟩ := s.pre; rw [e]; exact List.mem_append_left _ z), hb⟩, fun k a hk e => by
  obtain ⟨l, el⟩ := s.pre
  rw [el, List.getElem?_append_left hk] at e
  exact e, s.exn.symm⟩
theorem step_cut (s : Step w w') : Step w ⟨w.x, w.ι, w'.B, w'.H⟩ := ⟨s.keep, ⟨[], by simp⟩, fun a h n => absurd h n, s.ban, rfl⟩
theorem RelS.cut (S : RelS K cls w μ) {μ' : Store} (s : Step w w') (S' : RelS K cls w' μ') (h : (μ'.take μ.length).all (lowC μ.length) = true) : RelS K cls ⟨w.x, w.ι, w'.B, w'.H⟩ (μ'.take μ.length) := by
  have hle : μ.length ≤ μ'.length := by
    obtain ⟨l, e⟩ := s.pre
    rw [← S.len, ← S'.len, e, List.length_append]
    omega
  refine ⟨by rw [List.length_take, S.len]; omega, S.nd, fun b hb => ?_, fun n c e => ?_⟩
  · obtain ⟨h1, h2⟩ := S'.ban b hb
    exact ⟨fun z => h1 (by obtain ⟨l, e⟩ := s.pre; rw [e]; exact List.mem_append_left _ z), h2⟩
  · have hn : n < μ.length := by
      have := (List.getElem?_eq_some_iff.mp e).1
      rw [List.length_take] at this
      omega
    have lc : lowC μ.length c = true := List.all_eq_true.mp h c (List.mem_of_getElem? e)
    rw [List.getElem?_take_of_lt hn] at e
    obtain ⟨a, h1, h2⟩ := S'.cell n c e
    have hk := kl_cut s
    rw [S.len] at hk
    refine ⟨a, hk.loc n a hn h1, ?_⟩
    cases c with
    | lst ds =>
      obtain ⟨vs, e1, r⟩ := h2
      exact ⟨vs, e1, RVs.low hk lc r⟩
    | ins cn ns ds =>
      obtain ⟨C, dx, vs, e0, e1, e2, r⟩ := h2
      exact ⟨C, dx, vs, e0, e1, e2, RVs.low hk lc r⟩
    | dct ks ds =>
      obtain ⟨vs, e1, e2, r⟩ := h2
      exact ⟨vs, e1, e2, RVs.low hk lc r⟩
theorem frz_ok (S : RelS K cls w μ) {μ' : Store} (s : Step w w') (S' : RelS K cls w' μ') (hk : Kl μ.length w' ⟨w.x, w.ι, w'.B, w'.H⟩) {d e : D} {v : V} (r : RV K cls w' d v) (he : frz μ.length μ' d = some e) : RV K cls ⟨w.x, w.ι, w'.B, w'.H⟩ e v := by
  have plain : ∀ {d : D}, RV K cls w' d v → (if low μ.length d = true then some d else none) = some e → RV K cls ⟨w.x, w.ι, w'.B, w'.H⟩ e v := fun {d} r he => by
    split at he
    · cases he
      exact RV.low hk (by assumption) r
    · cases he
  cases d with
  | loc k =>
    simp only [frz] at he
    split at he
    · rename_i hlt
      cases he
      exact RV.low hk (by simp [low, hlt]) r
    · split at he
      · rename_i ds hm
        split at he
        · rename_i hlow
          cases he
          obtain ⟨a, vs, ex, hn, h3, h4⟩ := S'.lst r hm
          refine ⟨a, vs, ex, ⟨h3, fun z => ?_, (fun z => (S'.ban a z).1 (List.mem_of_getElem? hn))⟩, RVs.low hk hlow h4⟩
          obtain ⟨l, el⟩ := s.pre
          obtain ⟨j, hj, ej⟩ := List.getElem_of_mem z
          have hj : j < w.ι.length := hj
          have hj' : w'.ι[j]? = some a := by rw [el, List.getElem?_append_left hj, List.getElem?_eq_getElem hj, ej]
          obtain ⟨l1, e1⟩ := List.getElem?_eq_some_iff.mp hn
          obtain ⟨l2, e2⟩ := List.getElem?_eq_some_iff.mp hj'
          have : k = j := (List.getElem_inj S'.nd).mp (e1.trans e2.symm)
          have hw : w.ι.length = μ.length := S.len
          omega
        · cases he
      · cases he
  | non => exact plain r he
  | bl _ => exact plain r he
  | int _ => exact plain r he
  | str _ => exact plain r he
  | tup _ => exact plain r he
  | lst _ => exact plain r he
  | flst _ => exact plain r he
  | obj _ _ _ => exact plain r he
  | ptr _ => exact plain r he
  | dct _ _ => exact plain r he
theorem frzs_ok (S : RelS K cls w μ) {μ' : Store} (s : Step w w') (S' : RelS K cls w' μ') (hk : Kl μ.length w' ⟨w.x, w.ι, w'.B, w'.H⟩) : ∀ {ds es : List D} {vs : List V}, RVs K cls w' ds vs → frzs μ.length μ' ds = some es → RVs K cls ⟨w.x, w.ι, w'.B, w'.H⟩ es vs
  | [], es, vs, r, he => by
    cases he
    exact r
  | d :: ds, es, vs, ⟨v, rest, e, r, t⟩, he => by
    simp only [frzs] at he
    split at he
    · rename_i e1 h1
      split at he
      · rename_i es1 h2
        cases he
        exact ⟨v, rest, e, frz_ok S s S' hk r h1, frzs_ok S s S' hk t h2⟩
      · cases he
    · cases he
theorem fin_ok {Q : VK} {Er : XK} (S : RelS K cls w μ) {r : Res D} (h : PostR K cls w Er (fun w' d => ∀ v, RV K cls w' d v → Q v w'.H) (fin μ.length r)) : PostR K cls w Er (fun w' d => ∀ v, RV K cls w' d v → Q v w'.H) r := by
  cases r with
  | stuck => exact h
  | err k ns es μ' =>
    intro w' cv d s S' x
    have hk := kl_cut s
    rw [S.len] at hk
    simp only [fin] at h
    split at h
    · rename_i hc
      rw [Bool.and_eq_true] at hc
      obtain ⟨C, e1, e2, e3⟩ := x
      refine h ⟨w.x, w.ι, w'.B, w'.H⟩ cv d (step_cut s) (S.cut s S' hc.2) ⟨C, e1, e2, ?_⟩
      rcases e3 with e3 | ⟨dd, vs, e3, ⟨e4, e5, e6⟩, e7, e8⟩
      · exact .inl e3
      · exact .inr ⟨dd, vs, e3, hk.at_ dd _ e5 e6 e4, e7, RVs.low hk hc.1 e8⟩
    · exact h.elim
  | ok d μ' =>
    intro w' s S' v rv
    have hk := kl_cut s
    rw [S.len] at hk
    have plain : (low μ.length d && (μ'.take μ.length).all (lowC μ.length)) = true → PostR K cls w Er (fun w' d => ∀ v, RV K cls w' d v → Q v w'.H) (.ok d (μ'.take μ.length)) → Q v w'.H := fun hc h => by
      rw [Bool.and_eq_true] at hc
      exact h ⟨w.x, w.ι, w'.B, w'.H⟩ (step_cut s) (S.cut s S' hc.2) v (RV.low hk hc.1 rv)
    cases d with
    | loc k =>
      simp only [fin] at h
      split at h
      · rename_i hlt
        split at h
        · rename_i hc
          exact plain (by rw [hc]; simp [low, hlt]) h
        · exact h.elim
      · rename_i hge
        split at h
        · rename_i ds he
          split at h
          · rename_i hc
            rw [Bool.and_eq_true] at hc
            obtain ⟨a, vs, ex, hn, h3, h4⟩ := S'.lst rv he
            refine h ⟨w.x, w.ι, w'.B, w'.H⟩ (step_cut s) (S.cut s S' hc.2) v ⟨a, vs, ex, ⟨h3, fun z => ?_, (fun z => (S'.ban a z).1 (List.mem_of_getElem? hn))⟩, RVs.low hk hc.1 h4⟩
            obtain ⟨l, el⟩ := s.pre
            obtain ⟨j, hj, ej⟩ := List.getElem_of_mem z
            have hj : j < w.ι.length := hj
            have hj' : w'.ι[j]? = some a := by rw [el, List.getElem?_append_left hj, List.getElem?_eq_getElem hj, ej]
            obtain ⟨l1, e1⟩ := List.getElem?_eq_some_iff.mp hn
            obtain ⟨l2, e2⟩ := List.getElem?_eq_some_iff.mp hj'
            have : k = j := (List.getElem_inj S'.nd).mp (e1.trans e2.symm)
            have hw : w.ι.length = μ.length := S.len
            omega
          · exact h.elim
        · exact h.elim
    | non => simp only [fin] at h; split at h; exact plain (by assumption) h; exact h.elim
    | bl _ => simp only [fin] at h; split at h; exact plain (by assumption) h; exact h.elim
    | int _ => simp only [fin] at h; split at h; exact plain (by assumption) h; exact h.elim
    | str _ => simp only [fin] at h; split at h; exact plain (by assumption) h; exact h.elim
    | tup ds =>
      simp only [fin] at h
      split at h
      · exact plain (by assumption) h
      · split at h
        · rename_i hall
          split at h
          · rename_i es he
            obtain ⟨a, vs, ev, t, rs⟩ := rv
            refine h ⟨w.x, w.ι, w'.B, w'.H⟩ (step_cut s) (S.cut s S' hall) v ⟨a, vs, ev, ?_, frzs_ok S s S' hk rs he⟩
            rcases t with ⟨t, tn, tb⟩ | t
            · exact .inl ⟨t, fun z => tn (by obtain ⟨l, e⟩ := s.pre; rw [e]; exact List.mem_append_left _ z), tb⟩
            · exact .inr t
          · exact h.elim
        · exact h.elim
    | lst _ => simp only [fin] at h; split at h; exact plain (by assumption) h; exact h.elim
    | flst _ => simp only [fin] at h; split at h; exact plain (by assumption) h; exact h.elim
    | obj _ _ _ => simp only [fin] at h; split at h; exact plain (by assumption) h; exact h.elim
    | ptr _ => simp only [fin] at h; split at h; exact plain (by assumption) h; exact h.elim
    | dct _ _ => simp only [fin] at h; split at h; exact plain (by assumption) h; exact h.elim
theorem relE_start {N : List Str} : ∀ {ds : List D} {vs : List V}, RVs K cls w ds vs → RelE K cls w (ds.map some ++ List.replicate (N.length - ds.length) none) (L2.start N vs) := fun {ds vs} r => by
  unfold L2.start
  rw [r.length]
  refine ⟨by simp [r.length], fun i d e => ?_⟩
  by_cases hi : i < ds.length
  · rw [List.getElem?_append_left (by simpa using hi), List.getElem?_map, Option.map_eq_some_iff] at e
    obtain ⟨d', e1, e2⟩ := e
    cases e2
    obtain ⟨v, hv, rv⟩ := r.get e1
    refine ⟨v, ?_, rv⟩
    rw [List.getElem?_append_left (by rw [List.length_map, r.length]; exact hi), List.getElem?_map, hv]
    rfl
  · rw [List.getElem?_append_right (by simpa using hi)] at e
    have := List.mem_replicate.mp (List.mem_of_getElem? e)
    cases this.2
end
section
variable {P : Program} {W : World} {K : PySem.W.Frag} {cls : Nat → Option Addr} {mg : Str → Option Value} {base : Heap} {x qual : Str} {st : Stmt} {f : Addr} {fd : FuncData} {N ps : List Str} {k : Nat} {g : FS}
/-- what a def's body wishes of what it raises: what its caller wishes -/
abbrev WD (E : XK) : WX := fun cls d _ H => E cls d H
theorem fn_mk (F : Fun K x qual st f fd) (S : FnScope N ps (defScope st))
    (hb : ∀ (cdv : Value) (A : Around) (outer : List PySem.Env) (s : Shared) (H : Hp) (E : XK), Room k (A.deeper (envOfC qual (defScope st) s.heap.objs.size f cdv)) → Takes (cxOf (CX P W) P W K mg base N qual (defScope st) f cdv A outer s H E) (WD E) →
      SSs (cxOf (CX P W) P W K mg base N qual (defScope st) f cdv A outer s H E) (WD E) cls (defBody st) g) :
    FnOk P W K mg base (CX P W) (k + 1) f fd ps (spD K cls (mD N.length g) ps.length) := by
  refine F.okX S (fun vs H Q E h => ?_) fun cdv A outer s H vs Q E hr h => ?_
  · obtain ⟨w, ds, μ, _, hl, _, r, _⟩ := h
    rw [r.length, hl]
  · obtain ⟨w, ds, μ, rfl, hl, S', r, h⟩ := h
    obtain ⟨t, p, hk⟩ := hb cdv A outer s w.H E hr (takes_of rfl rfl rfl rfl)
    refine ⟨t, p, hk _ _ w _ μ S' (relE_start r) ?_⟩
    unfold mD at h
    cases hg : g (ds.map some ++ List.replicate (N.length - ds.length) none) μ with
    | nx ρ μ1 => rw [hg] at h; exact fun w' σ s S1 E1 => h w' s S1 _ rfl
    | rt d μ1 => rw [hg] at h; exact fun w' v s S1 r1 => h w' s S1 v r1
    | bk ρ μ1 => rw [hg] at h; exact h.elim
    | ct ρ μ1 => rw [hg] at h; exact h.elim
    | er k ns es ρ μ1 => rw [hg] at h; exact fun w' σ cv d s S1 E1 x => h w' cv d s S1 x
    | stuck => rw [hg] at h; exact h
theorem df_mk (F : Fun K x qual st f fd) (b : Binds K fd ps []) (hm : mg x = some (.ref f)) (S : FnScope N ps (defScope st))
    (hb : ∀ (cdv : Value) (A : Around) (outer : List PySem.Env) (s : Shared) (H : Hp) (E : XK), Room k (A.deeper (envOfC qual (defScope st) s.heap.objs.size f cdv)) → Takes (cxOf (CX P W) P W K mg base N qual (defScope st) f cdv A outer s H E) (WD E) →
      SSs (cxOf (CX P W) P W K mg base N qual (defScope st) f cdv A outer s H E) (WD E) cls (defBody st) g) :
    Df P W K cls mg base (k + 1) x ps.length (mD N.length g) := ⟨f, fd, ps, fn_mk F S hb, hm, F.kp, b, rfl⟩
theorem Df.fin {n m : Nat} {g : FS} (h : Df P W K cls mg base k x n (mD m g)) : Df P W K cls mg base k x n (mDf m g) := by
  obtain ⟨f, fd, ps, hf, hm, hk, hb, hn⟩ := h.ex
  refine ⟨f, fd, ps, hf.imp fun vs H Q E h => ?_, hm, hk, hb, hn⟩
  obtain ⟨w, ds, μ, e, hl, S, r, h⟩ := h
  exact ⟨w, ds, μ, e, hl, S, r, fin_ok S h⟩
end
end Fw

set_option Elab.async false
set_option linter.all false
set_option maxRecDepth 100000
set_option autoImplicit false
/-! enumerate over a tuple; more. -/
namespace Fw
open PySem L2 PyProof.Rows

/-! ### enumerate(t) of a tuple is called -/
/-- the heap with both of its objects: the tuple's iterator, and enumerate's own at the place behind it -/
abbrev enumH (h : Heap) (a : Addr) : Heap := (h.push { cls := .type "tuple_iterator", data := .fields #[.ref a, .int 0 0] }).push
  { cls := .type "enumerate", data := .fields #[.none, .bool false, .ref h.objs.size, rawInt 0, .none, .none] }
theorem enumH_at (h : Heap) (a : Addr) : IsEnum (enumH h a) (h.objs.size + 1) h.objs.size 0 .none ∧ (enumH h a).IsTupleIter h.objs.size a 0 ∧ ∀ b o, h.get? b = some o → (enumH h a).get? b = some o := by
  unfold enumH
  refine ⟨?_, ⟨_, Heap.get?_push_of_some _ (Heap.get?_push_size h rfl), rfl, rfl⟩, fun b o q => Heap.get?_push_of_some _ (Heap.get?_push_of_some _ q)⟩
  exact Heap.size_push h _ ▸ Heap.get?_push_size (h.push _) rfl
section
variable {P : Program} {w : World}
theorem if_both {α : Type} {M : Model} {A : Around} {c : Prop} [Decidable c] {x y : Sem α} {Q : α → Shared → Prop} {E : Value → Shared → Prop} {s : Shared} (hx : wpAny M A x Q E s) (hy : wpAny M A y Q E s) : wpAny M A (if c then x else y) Q E s := by
  split <;> assumption
set_option maxHeartbeats 1000000 in
theorem enum_new (a : Addr) (items : Array Value) : MeetsIn P w (Builtin.«enumerate.__new__» ⟨[.type "enumerate", .ref a], []⟩)
    (fun _ R s => s.heap.IsTuple a items ∧ R (.ok (.ret (.ref (s.heap.objs.size + 1)))) { s with heap := enumH s.heap a }) := by
  intro A R s h
  have own := sub_enumerate
  have begun : ∀ {A' : Around} {E Q : Value → Shared → Prop}, Q (.ref s.heap.objs.size) { s with heap := s.heap.push { cls := .type "tuple_iterator", data := .fields #[.ref a, .int 0 0] } } → wpAny (model P w) A' (pyIter (.ref a)) Q E s :=
    fun q => (begins_tuple a items).iter P w _ _ s _ h.1 q
  have last : (s.heap.push { cls := .type "tuple_iterator", data := .fields #[.ref a, .int 0 0] }).objs.size = s.heap.objs.size + 1 := Heap.size_push ..
  unfold Builtin.«enumerate.__new__»
  wp_walk using begun
  refine wpAny_stack_any fun st => wpAny_pure (if_both ?_ ?_) <;> (wp_walk using begun; exact last ▸ h.2)
theorem enum_of_tuple {A : Around} {E Q : Value → Shared → Prop} {s : Shared} {a : Addr} {items : Array Value} (p : s.heap.IsTuple a items) (h : Q (.ref (s.heap.objs.size + 1)) { s with heap := enumH s.heap a }) :
    wpAny (model P w) A (call (.type "enumerate") [.ref a]) Q E s :=
  callType_newIn F.called_enumerate (by decide) (F.typeCall_enumerate_1 _) (F.newCall_enumerate_1 _) (F.args_object_init_2 · _) F.entry_enumerate_new (enum_new a items) ⟨p, ⟨_, (enumH_at s.heap a).1, rfl⟩, h⟩
end

/-! ### its turns -/
/-- things of unlike classes lie apart -/
theorem cls_apart {h : Heap} {x y : Addr} {o o' : Obj} {T T' : String} (hx : h.get? x = some o) (hy : h.get? y = some o') (cx : o.cls = .type T) (cy : o'.cls = .type T') (ne : (T == T') = false) : x ≠ y := by
  rintro rfl
  rw [hx, Option.some.injEq] at hy
  rw [← hy, cx, Value.type.injEq] at cy
  rw [cy, beq_self_eq_true] at ne
  cases ne
/-- enumerate's object e, its iterator it, which stands at place i of the tuple at a -/
structure EnAt (e it a : Addr) (i : Nat) (h : Heap) : Prop where
  en : ∃ old, IsEnum h e it ((i : Nat) : Int) old
  on : h.IsTupleIter it a i
  two : e ≠ it
section
variable {e it a : Addr} {i : Nat} {h h' : Heap}
theorem EnAt.keep (y : EnAt e it a i h) (k : ∀ b ∈ [e, it], ∀ o, h.get? b = some o → h'.get? b = some o) : EnAt e it a i h' :=
  ⟨y.en.imp fun _ q => k e (.head _) _ q, y.on.at (k it (.tail _ (.head _))), y.two⟩
theorem EnAt.obj (y : EnAt e it a i h) {b : Addr} (hb : b ∈ [e, it]) : ∃ o vs, h.get? b = some o ∧ o.data = .fields vs := by
  rw [List.mem_cons, List.mem_singleton] at hb
  rcases hb with rfl | rfl
  · exact let ⟨_, q⟩ := y.en; ⟨_, _, q, rfl⟩
  · exact let ⟨o, q, _, d⟩ := y.on; ⟨o, _, q, d⟩
theorem EnAt.old (y : EnAt e it a i h) {b : Addr} (hb : b ∈ [e, it]) : b < h.objs.size := let ⟨_, _, q, _⟩ := y.obj hb; Heap.lt_size q
theorem EnAt.off {items : Array Value} (y : EnAt e it a i h) (p : h.IsTuple a items) : a ≠ it ∧ a ≠ e := by
  obtain ⟨o, q, c, _⟩ := p
  obtain ⟨o2, q2, c2, _⟩ := y.on
  obtain ⟨_, q3⟩ := y.en
  exact ⟨cls_apart q q2 c c2 (by decide), cls_apart q q3 c rfl (by decide)⟩
end
theorem en_item {X : Cx} {pins : List (Addr × Obj)} {σ : L2.St} {H : Hp} {s : Shared} {E : Value → Shared → Prop} {elts : List Expr} {kk : Nat} {tpos : Pos} {e it a : Addr} {i : Nat} {xs : List V} {x : V} (hc : X.calm = true) (I : Inv X pins σ H s)
    (own : ∀ b ∈ [e, it], FpOk X pins H b) (y : EnAt e it a i s.heap) (hq : SqT X.K H a xs) (hx : xs[i]? = some x) :
    wpAny (model X.prog X.w) X.A (pyNext (.ref e)) (fun r s1 => ∃ u, r = some u ∧ wpAny (model X.prog X.w) X.A (letOwnedTupleGo (.Tuple elts kk tpos) (.ref e) u)
      (fun _ s2 => ∃ T, u = .ref T ∧ s.heap.objs.size ≤ T ∧ Inv X pins σ (upd H T (.tup [.int (i : Nat), x])) s2 ∧ EnAt e it a (i + 1) s2.heap) E s1) E s := by
  obtain ⟨its, rv, p, _⟩ := I.tuple hq
  have ⟨u, hu, ru⟩ := rv.get hx
  obtain ⟨ai, ae⟩ := y.off p
  obtain ⟨_, en⟩ := y.en
  have room : i < its.toArray.size := by rw [List.size_toArray]; exact (List.getElem?_eq_some_iff.mp hu).1
  have e_old : e ≠ s.heap.objs.size := Nat.ne_of_lt (y.old (.head _))
  refine wpAny_pyNext_enum_itemD (Draws.tuple (A := X.A.in1) (I.ok.hd hc) it a ai its.toArray) en ⟨y.on, p⟩ room y.two (by simp [y.two, Ne.symm ae]) fun x1 h1 tk got out st pair _ k1 => ⟨_, rfl, ?_⟩
  obtain rfl : u = x1 := Option.some.inj (hu.symm.trans (by rw [← got, List.getElem?_toArray]))
  refine wpAny_letOwnedTupleGo_enum out fun h2 en2 same => ⟨s.heap.objs.size, rfl, Nat.le_refl _, ?_, ⟨⟨_, by rw [Int.natCast_add]; exact en2⟩, st.1.at fun _ q => (same.2 it y.two.symm).trans q, y.two⟩⟩
  refine I.turnedNew (ch := [e, it]) (fun b o nb q => ?_) own (Nat.le_refl _) ⟨by show 2 ≤ sizeLine; decide, [.int i tk, u], .cons ⟨_, rfl⟩ (.cons ru .nil), _, (same.2 _ e_old.symm).trans pair, rfl, _, rfl⟩
  simp only [List.mem_cons, List.not_mem_nil, or_false, not_or] at nb
  exact (same.2 b nb.1).trans (k1 b o nb.1 nb.2 q)
theorem en_end {X : Cx} {pins : List (Addr × Obj)} {σ : L2.St} {H : Hp} {s : Shared} {E : Value → Shared → Prop} {e it a : Addr} {i : Nat} {xs : List V} (hc : X.calm = true) (I : Inv X pins σ H s)
    (own : FpOk X pins H it) (y : EnAt e it a i s.heap) (hq : SqT X.K H a xs) (hx : xs.length ≤ i) : wpAny (model X.prog X.w) X.A (pyNext (.ref e)) (fun r s1 => r = none ∧ Inv X pins σ H s1) E s := by
  obtain ⟨its, rv, p, _⟩ := I.tuple hq
  have none_ : its.toArray[i]? = none := by
    rw [List.getElem?_toArray, List.getElem?_eq_none_iff]
    exact rv.length ▸ hx
  have D : Draws X.prog X.w X.A.in1 it [it, a] i (fun i v => its.toArray[i]? = some v) (fun k h => k = i ∧ h.IsTupleIter it a i ∧ h.IsTuple a its.toArray) := {
    live := fun _ _ st => st.2.1.imp fun _ q => q.1
    frame := fun _ _ _ st k => ⟨st.1, st.2.1.at (k it (.head _)), st.2.2.at (k a (.tail _ (.head _)))⟩
    item := fun j _ _ _ lt st => absurd (st.1 ▸ lt) (Nat.lt_irrefl _)
    done := fun _ _ _ st out => wpAny_nextOf_tuple_end (I.ok.hd hc) st.2.1 st.2.2 none_ out }
  obtain ⟨_, en⟩ := y.en
  obtain ⟨n1, n2, _, n4, n5, n6⟩ := own
  exact wpAny_pyNext_enum_endD D en ⟨rfl, y.on, p⟩ fun h' ext => ⟨rfl, I.turned (t' := s.toks) ext n1 n2 n4 n5 n6⟩

/-- the tuple at a, each item in a new pair -/
def IteT (K : PySem.W.Frag) (a : Addr) : It :=
  ⟨fun i H => ∃ (xs : List V) (x : V), SqT K H a xs ∧ xs[i]? = some x, fun i H v H' => ∃ T x, v = .ref T ∧ H T = none ∧ H' = upd H T (.tup [.int (i : Nat), x]) ∧ ∀ xs, SqT K H a xs → xs[i]? = some x, fun i H => ∃ xs : List V, SqT K H a xs ∧ xs.length ≤ i⟩
theorem turn_enumT {P : Program} {w : World} {K : PySem.W.Frag} {elts : List Expr} {kk : Nat} {tpos : Pos} (a e it : Addr) : Turn P w K (.Tuple elts kk tpos) (IteT K a) [e, it] e (EnAt e it a) where
  mem := .head _
  obj := fun _ _ y b hb => let ⟨o, _, q, d⟩ := y.obj hb; ⟨o, q, fun v => by rw [d]; exact nofun⟩
  keep := fun _ _ _ y k => y.keep k
  item := fun X hP hw hK hc i pins s σ H E I own y ⟨xs, x, hq, hx⟩ => by
    subst hP hw hK
    refine wpAny_mono (en_item (elts := elts) (kk := kk) (tpos := tpos) hc I own y hq hx) (fun r s1 ⟨u, hr, more⟩ => ⟨u, hr, ?_⟩) fun _ _ q => q
    refine wpAny_mono more (fun _ s2 ⟨T, hu, new, J, y2⟩ => ⟨.ref T, _, J, hu, ⟨T, x, rfl, I.hok.fresh new, rfl, fun ys hy => ?_⟩, y2, fun b hb => ?_⟩) fun _ _ q => q
    · rw [I.tuple_inj hy hq]
      exact hx
    · rw [upd_ne (Nat.ne_of_lt (Nat.lt_of_lt_of_le (y.old hb) new))]
      exact (own b hb).1
  done := fun X hP hw hK hc i pins s σ H E I own y ⟨xs, hq, hx⟩ => by
    subst hP hw hK
    exact en_end hc I (own it (.tail _ (.head _))) y hq hx
  self := fun A i s Q E y q => let ⟨_, en⟩ := y.en; wpAny_pyIter_enum en q
def iEnumT (K : PySem.W.Frag) (ta : TA) : TI := fun σ H R => ta σ H fun vs H1 => ∃ a xs, vs = [.ref a] ∧ SqT K H1 a xs ∧ R (IteT K a) H1
theorem pi_enumT {X : Cx} {e : Expr} {ta : TA} {p pos tpos : Pos} {elts : List Expr} {kk : Nat} (hg : Gl X "enumerate") (hm : X.mg "enumerate" = none) (ha : PA X [e] ta) (hs : starEach [e] X.env = [(false, eval e X.env)] := by rfl) :
    PI X (.Tuple elts kk tpos) (.Call (.Name "enumerate" p) [e] [] pos) (iEnumT X.K ta) where
  run pins s σ H R I h := by
    refine Call_ (ld_blt I hg hm boot_enumerate (callWith_type1 (thn (ha.run pos pins s σ H _ I h) fun us s1 q => ?_) hs rfl))
    obtain ⟨_, H1, J, rr, a, xs, rfl, hq, go⟩ := q
    obtain rfl := Vals.ref1 rr
    obtain ⟨its, _, tup, _⟩ := J.tuple hq
    obtain ⟨en, on, k⟩ := enumH_at s1.heap a
    refine enum_of_tuple tup (wpAny_pyIter_enum en ⟨_, [_, s1.heap.objs.size], _, _, H1, rfl, J.kept (t' := s1.toks) k, turn_enumT a _ _, ⟨⟨_, en⟩, on, Nat.succ_ne_self _⟩, fun b hb => ?_, go⟩)
    have le : s1.heap.objs.size ≤ b := by
      rw [List.mem_cons, List.mem_singleton] at hb
      exact hb.elim (fun z => z ▸ Nat.le_succ _) fun z => z ▸ Nat.le_refl _
    exact J.fpOk le (J.hok.fresh le)

def enumD (ds : List D) : List D := (ds.zipIdx).map fun p => .tup [.int (p.2 : Nat), p.1]
def oEnum (d : D) (μ : Store) : Res (List D × Option Nat) := match d with
  | .lst ds => .ok (enumD ds, none) μ
  | .tup ds => .ok (enumD ds, none) μ
  | _ => .stuck
def iEnumD (fe : FE) : FI := fun ρ μ => (fe ρ μ).bind fun d μ1 => oEnum d μ1
section
variable {K : PySem.W.Frag} {cls : Nat → Option Addr} {w : Wd} {μ : Store}
theorem enumD_get {ds : List D} {i : Nat} {d : D} (h : (enumD ds)[i]? = some d) : ∃ e, ds[i]? = some e ∧ d = .tup [.int (i : Nat), e] := by
  unfold enumD at h
  rw [List.getElem?_map, Option.map_eq_some_iff] at h
  obtain ⟨⟨e, j⟩, h1, rfl⟩ := h
  rw [List.getElem?_zipIdx, Option.map_eq_some_iff] at h1
  obtain ⟨e', h2, h3⟩ := h1
  simp at h3
  obtain ⟨rfl, rfl⟩ := h3
  exact ⟨_, h2, by simp⟩
theorem wk_enumG {J : It} {ds : List D} (h : ∀ (w' : Wd), Kp w w' → ∃ vs, RVs K cls w' ds vs ∧ (∀ i v, vs[i]? = some v → J.go i w'.H ∧ ∀ x H2, J.yld i w'.H x H2 → ∃ T, x = .ref T ∧ w'.H T = none ∧ H2 = upd w'.H T (.tup [.int (i : Nat), v])) ∧ (∀ i, vs.length ≤ i → J.stop i w'.H)) : Wk K cls J w (enumD ds) none := by
  intro i w' μ' k S' so
  obtain ⟨vs, h1, h2, h3⟩ := h w' k
  refine ⟨fun d hd => ?_, fun hi => h3 i (by rw [h1.length]; simpa [enumD] using hi)⟩
  obtain ⟨e, he, rfl⟩ := enumD_get hd
  obtain ⟨v, hv, rv⟩ := h1.get he
  obtain ⟨go, yld⟩ := h2 i v hv
  refine ⟨go, fun x H2 y => ?_⟩
  obtain ⟨T, rfl, hT, rfl⟩ := yld x H2 y
  exact ⟨w'.up T (.tup [.int (i : Nat), v]), rfl, step_new hT, S'.new hT, new_tup S' hT (.cons rfl (.cons rv .nil))⟩
end
theorem si_enum {X : Cx} {W : WX} {cls : Nat → Option Addr} {e : Expr} {fe : FE} {p pos tpos : Pos} {elts : List Expr} {kk : Nat} (hg : Gl X "enumerate") (hm : X.mg "enumerate" = none) (he : SE X W cls e fe) (hs : starEach [e] X.env = [(false, eval e X.env)] := by rfl) :
    SI X W cls (.Tuple elts kk tpos) (.Call (.Name "enumerate" p) [e] [] pos) (iEnumD fe) := by
  obtain ⟨t, p1, k⟩ := he
  refine ⟨_, pi_or (pi_enum hg hm (pa_cons p1 pa_nil hs) hs) (pi_enumT hg hm (pa_cons p1 pa_nil hs) hs), fun σ R w ρ μ S E h => ?_⟩
  have h := PostR.bind h
  cases hf : fe ρ μ with
  | stuck => rw [hf] at h; exact h.elim
  | err k' ns ds μ1 =>
    rw [hf] at h
    exact .inl (k σ _ w ρ μ S E (by rw [hf]; exact h))
  | ok d μ1 =>
    rw [hf] at h
    have go := k σ
    cases d with
    | lst ds =>
      refine .inl (go _ w ρ μ S E ?_)
      rw [hf]
      intro w1 s1 S1 v r1
      obtain ⟨μ', S2, q⟩ := h w1 s1 S1
      obtain ⟨a, vs, e1, h1, h2⟩ := r1
      refine ⟨a, vs, congrArg (fun z => [z]) e1, .inl (.inl h1.1), q w1 Step.refl S2 _ (wk_enumG fun w' kp => ?_)⟩
      have hL : SqL X.K w'.H a vs := .inl (.inl (kp.at_ a _ h1.2.1 h1.2.2 h1.1).1)
      refine ⟨vs, h2.mono kp, fun i v hv => ⟨⟨vs, v, hL, hv⟩, fun x H2 ⟨T, x', ex, hT, hH, hx⟩ => ⟨T, ex, hT, ?_⟩⟩, fun i hi => ⟨vs, hL, hi⟩⟩
      have := hx vs hL
      rw [hv] at this
      cases this
      exact hH
    | tup ds =>
      refine .inr (go _ w ρ μ S E ?_)
      rw [hf]
      intro w1 s1 S1 v r1
      obtain ⟨μ', S2, q⟩ := h w1 s1 S1
      obtain ⟨a, vs, e1, h1, h2⟩ := r1
      refine ⟨a, vs, congrArg (fun z => [z]) e1, h1.sq, q w1 Step.refl S2 _ (wk_enumG fun w' kp => ?_)⟩
      have hL : SqT X.K w'.H a vs := (h1.mono kp).sq
      refine ⟨vs, h2.mono kp, fun i v hv => ⟨⟨vs, v, hL, hv⟩, fun x H2 ⟨T, x', ex, hT, hH, hx⟩ => ⟨T, ex, hT, ?_⟩⟩, fun i hi => ⟨vs, hL, hi⟩⟩
      have := hx vs hL
      rw [hv] at this
      cases this
      exact hH
    | non => exact .inl (go _ w ρ μ S E (by rw [hf]; intro w1 s1 S1 v r1; obtain ⟨μ', S2, q⟩ := h w1 s1 S1; exact q.elim))
    | bl _ => exact .inl (go _ w ρ μ S E (by rw [hf]; intro w1 s1 S1 v r1; obtain ⟨μ', S2, q⟩ := h w1 s1 S1; exact q.elim))
    | int _ => exact .inl (go _ w ρ μ S E (by rw [hf]; intro w1 s1 S1 v r1; obtain ⟨μ', S2, q⟩ := h w1 s1 S1; exact q.elim))
    | str _ => exact .inl (go _ w ρ μ S E (by rw [hf]; intro w1 s1 S1 v r1; obtain ⟨μ', S2, q⟩ := h w1 s1 S1; exact q.elim))
    | flst _ => exact .inl (go _ w ρ μ S E (by rw [hf]; intro w1 s1 S1 v r1; obtain ⟨μ', S2, q⟩ := h w1 s1 S1; exact q.elim))
    | obj _ _ _ => exact .inl (go _ w ρ μ S E (by rw [hf]; intro w1 s1 S1 v r1; obtain ⟨μ', S2, q⟩ := h w1 s1 S1; exact q.elim))
    | ptr _ => exact .inl (go _ w ρ μ S E (by rw [hf]; intro w1 s1 S1 v r1; obtain ⟨μ', S2, q⟩ := h w1 s1 S1; exact q.elim))
    | dct _ _ => exact .inl (go _ w ρ μ S E (by rw [hf]; intro w1 s1 S1 v r1; obtain ⟨μ', S2, q⟩ := h w1 s1 S1; exact q.elim))
    | loc _ => exact .inl (go _ w ρ μ S E (by rw [hf]; intro w1 s1 S1 v r1; obtain ⟨μ', S2, q⟩ := h w1 s1 S1; exact q.elim))
end Fw

set_option Elab.async false
set_option linter.all false
set_option maxRecDepth 100000
set_option autoImplicit false
/-! Instances of own classes. -/
namespace Fw
open PySem L2 PyProof.Rows

/-- a method as the top has left it -/
structure Dm (P : Program) (W : World) (K : PySem.W.Frag) (cls : Nat → Option Addr) (mg : Str → Option Value) (base : Heap) (k : Nat) (f : Addr) (n : Nat) (F : List D → Store → Res D) : Prop where
  ex : ∃ (fd : FuncData) (ps : List Str), FnOk P W K mg base (CX P W) k f fd ps (spD K cls F n) ∧ Binds K fd ps [] ∧ ps.length = n
/-- an own class -/
structure Kl1 (K : PySem.W.Frag) (cls : Nat → Option Addr) (c : Nat) (C : Addr) : Prop where
  at_ : cls c = some C
  cl : Cls K C
def putNs (f : Str) : List Str → List Str
  | [] => [f]
  | g :: r => if g = f then g :: r else g :: putNs f r
def putXs {α : Type} (f : Str) (d : α) : List Str → List α → List α
  | g :: r, x :: xs => if g = f then d :: xs else x :: putXs f d r xs
  | _, _ => [d]
theorem putF_zip (f : Str) (y : V) : ∀ (ns : List Str) (vs : List V), ns.length = vs.length → putF f y (ns.zip vs) = (putNs f ns).zip (putXs f y ns vs)
  | [], [], _ => rfl
  | g :: r, x :: xs, h => by
    show (if g = f then (g, y) :: r.zip xs else (g, x) :: putF f y (r.zip xs)) = (if g = f then g :: r else g :: putNs f r).zip (if g = f then y :: xs else x :: putXs f y r xs)
    by_cases e : g = f
    · rw [if_pos e, if_pos e, if_pos e]; rfl
    · rw [if_neg e, if_neg e, if_neg e, putF_zip f y r xs (by simpa using h)]; rfl
theorem put_len {α : Type} (f : Str) (y : α) : ∀ (ns : List Str) (vs : List α), ns.length = vs.length → (putNs f ns).length = (putXs f y ns vs).length
  | [], [], _ => rfl
  | g :: r, x :: xs, h => by
    show (if g = f then g :: r else g :: putNs f r).length = (if g = f then y :: xs else x :: putXs f y r xs).length
    have := put_len f y r xs (by simpa using h)
    split <;> simp_all
theorem RVs.put {K : PySem.W.Frag} {cls : Nat → Option Addr} {w : Wd} {f : Str} {d : D} {y : V} (h : RV K cls w d y) : ∀ {ns : List Str} {ds : List D} {vs : List V}, RVs K cls w ds vs → RVs K cls w (putXs f d ns ds) (putXs f y ns vs)
  | [], _, _, _ => ⟨y, [], rfl, h, rfl⟩
  | g :: r, [], _, t => by rw [show _ = [] from t]; exact ⟨y, [], rfl, h, rfl⟩
  | g :: r, e :: ds, _, ⟨v, vs, q, t1, t2⟩ => by
    rw [q]
    show RVs K cls w (if g = f then d :: ds else e :: putXs f d r ds) (if g = f then y :: vs else v :: putXs f y r vs)
    split
    · exact ⟨y, vs, rfl, h, t2⟩
    · exact ⟨v, _, rfl, t1, RVs.put h t2⟩
theorem RVs.lookup {K : PySem.W.Frag} {cls : Nat → Option Addr} {w : Wd} {f : Str} {d : D} : ∀ {ns : List Str} {ds : List D} {vs : List V}, RVs K cls w ds vs → (ns.zip ds).lookup f = some d → ∃ v, (ns.zip vs).lookup f = some v ∧ RV K cls w d v
  | [], _, _, _, h => by simp at h
  | g :: r, [], _, _, h => by simp at h
  | g :: r, e :: ds, _, ⟨v, vs, q, t1, t2⟩, h => by
    rw [q]
    rw [List.zip_cons_cons, List.lookup_cons] at h ⊢
    by_cases e : (f == g) = true
    · rw [e] at h ⊢
      cases h
      exact ⟨v, rfl, t1⟩
    · have e : (f == g) = false := by simpa using e
      rw [e] at h ⊢
      exact RVs.lookup t2 h

/-! ### x.f -/
def insOf (c : Nat) (μ : Store) : D → Option (List Str × List D)
  | .obj c' ns ds => if c' = c then some (ns, ds) else none
  | .loc n => match μ[n]? with
    | some (.ins c' ns ds) => if c' = c then some (ns, ds) else none
    | _ => none
  | _ => none
theorem insOf_at {K : PySem.W.Frag} {cls : Nat → Option Addr} {w : Wd} {μ : Store} (S : RelS K cls w μ) {c : Nat} {C : Addr} (hc : cls c = some C) {d : D} {x : V} {ns : List Str} {ds : List D} (r : RV K cls w d x) (h : insOf c μ d = some (ns, ds)) :
    ∃ a dx vs, x = .ref a ∧ w.H a = some (.ins C dx (ns.zip vs)) ∧ ns.length = vs.length ∧ RVs K cls w ds vs := by
  cases d with
  | obj c' ns' ds' =>
    simp only [insOf] at h
    split at h
    · rename_i e
      cases h
      subst e
      obtain ⟨a, C', dx, vs, e1, e2, ⟨e3, _⟩, e4, e5⟩ := r
      rw [hc] at e2
      cases e2
      exact ⟨a, dx, vs, e1, e3, e4, e5⟩
    · cases h
  | loc n =>
    simp only [insOf] at h
    split at h
    · rename_i c' ns' ds' hm
      split at h
      · rename_i e
        cases h
        subst e
        obtain ⟨a, e1, hn⟩ := r
        obtain ⟨a', h1, C', dx, vs, e2, e3, e4, e5⟩ := S.cell n _ hm
        rw [hn] at h1
        cases h1
        rw [hc] at e2
        cases e2
        exact ⟨a, dx, vs, e1, e3, e4, e5⟩
      · cases h
    · cases h
  | _ => cases h
def eFld (c : Nat) (f : Str) (fa : FE) : FE := fun ρ μ => (fa ρ μ).bind fun d μ1 => match insOf c μ1 d with
  | some (ns, ds) => match (ns.zip ds).lookup f with
    | some e => .ok e μ1
    | none => .stuck
  | none => .stuck
def eProp (c : Nat) (F : List D → Store → Res D) (fa : FE) : FE := fun ρ μ => (fa ρ μ).bind fun d μ1 => match insOf c μ1 d with
  | some _ => (F [d] μ1).mute
  | none => .stuck
def sFld (c : Nat) (f : Str) (fo fv : FE) : FS := fun ρ μ => rS ρ (fv ρ μ) fun e μ1 => rS ρ (fo ρ μ1) fun d μ2 => match d with
  | .loc n => match μ2[n]? with
    | some (.ins c' ns ds) => if c' = c ∧ ns.length < 900 then .nx ρ (μ2.set n (.ins c (putNs f ns) (putXs f e ns ds))) else .stuck
    | _ => .stuck
  | _ => .stuck
def cLenO (c : Nat) (F : List D → Store → Res D) : List D → Store → Res D := fun ds μ => match ds with
  | [d] => match insOf c μ d with
    | some _ => (F [d] μ).mute.bind fun e μ1 => match e with
      | .int n => if 0 ≤ n ∧ n < 1000000 then .ok (.int n) μ1 else .stuck
      | _ => .stuck
    | none => cLen [d] μ
  | _ => .stuck
/-- C(..) -/
def eMake (c n : Nat) (F : List D → Store → Res D) (fs : FA) : FE := fun ρ μ => (fs ρ μ).bind fun ds μ1 => if ds.length + 1 = n then match F (.loc μ1.length :: ds) (μ1 ++ [.ins c [] []]) with
    | .ok .non μ2 => match μ2[μ1.length]? with
      | some (.ins c' ns es) => if (decide (c' = c) && decide (μ2.length = μ1.length + 1) && lows μ1.length es && (μ2.take μ1.length).all (lowC μ1.length)) = true then .ok (.obj c ns es) (μ2.take μ1.length) else .stuck
      | _ => .stuck
    | .err k ns es μ2 => if (lows μ1.length es && (μ2.take μ1.length).all (lowC μ1.length)) = true then .err k ns es (μ2.take μ1.length) else .stuck
    | _ => .stuck
  else .stuck
theorem passes_nox {X : Cx} : Passes (CX X.prog X.w) X.nox E00 := fun _ _ _ _ _ _ _ ⟨_, _, _, _, _, _, _, _, _, _, _, _, e⟩ => e.elim
section
variable {X : Cx} {W : WX} {cls : Nat → Option Addr} {e o v : Expr} {fe fo fv : FE} {c : Nat} {C : Addr} {f : Str} {pos pos' : Pos}
theorem se_fld (T : Kl1 X.K cls c C) (hn : NoAttr X.K C f) (he : SE X W cls e fe) (hb : attributeBase e f X.env (eval e X.env) = eval e X.env := by rfl) : SE X W cls (.Attribute e f pos) (eFld c f fe) := by
  obtain ⟨t1, p1, h1⟩ := he
  refine ⟨_, pe_fld p1 hb, fun σ Q w ρ μ S E h => ?_⟩
  refine h1 σ _ w ρ μ S E ((PostR.bind h).imp fun w1 d s1 ⟨μ1, S1, q1⟩ x r1 => ?_)
  split at q1
  · rename_i ns ds hd
    split at q1
    · rename_i y hy
      obtain ⟨a, dx, vs, e1, e2, e3, e4⟩ := insOf_at S1 T.at_ r1 hd
      obtain ⟨u, hu, ru⟩ := e4.lookup hy
      exact ⟨a, C, dx, _, u, e1, e2, T.cl, hn, hu, q1 w1 Step.refl S1 u ru⟩
    · exact q1.elim
  · exact q1.elim
theorem se_prop {p g : Addr} {k : Nat} {F : List D → Store → Res D} (T : Kl1 X.K cls c C) (hp : PropOf X.K C f p g) (G : Dm X.prog X.w X.K cls X.mg X.base k g 1 F) (hr : Room (k + 1) X.A) (he : SE X W cls e fe) (hb : attributeBase e f X.env (eval e X.env) = eval e X.env := by rfl) :
    SE X W cls (.Attribute e f pos) (eProp c F fe) := by
  obtain ⟨t1, p1, h1⟩ := he
  obtain ⟨fd, ps, hf, hbd, hl⟩ := G.ex
  refine ⟨_, pe_prop p1 T.cl hp hf hr hbd .nil passes_nox hb, fun σ Q w ρ μ S E h => ?_⟩
  refine h1 σ _ w ρ μ S E ((PostR.bind h).imp fun w1 d s1 ⟨μ1, S1, q1⟩ x r1 => ?_)
  split at q1
  · rename_i hd
    obtain ⟨a, dx, vs, e1, e2, e3, e4⟩ := insOf_at S1 T.at_ r1 hd
    subst e1
    exact ⟨a, dx, _, rfl, e2, w1, [d], μ1, rfl, rfl, S1, .cons r1 .nil, q1.mute⟩
  · exact q1.elim
theorem ss_fld (T : Kl1 X.K cls c C) (hn : NoAttr X.K C f) (ho : SE X W cls o fo) (hv : SE X W cls v fv) (hs : swapsWith v (some (.Attribute o f pos')) pos.line X.env = pure false := by rfl) : SS X W cls (.Assign [.Attribute o f pos'] v pos) (sFld c f fo fv) := by
  obtain ⟨t1, p1, h1⟩ := ho
  obtain ⟨t2, p2, h2⟩ := hv
  refine ⟨_, ps_fld p1 p2 hs, fun D σ w ρ μ S E h => ?_⟩
  refine h2 σ _ w ρ μ S E ((PostS.bind E h).imp fun w1 d s1 ⟨μ1, S1, q1⟩ x r1 => ?_)
  refine h1 σ _ w1 ρ μ1 S1 (E.mono s1.kp) ((PostS.bind (E.mono s1.kp) q1).imp fun w2 e s2 ⟨μ2, S2, q2⟩ y r2 => ?_)
  cases e with
  | loc n =>
    simp only at q2
    split at q2
    · rename_i c' ns ds hm
      split at q2
      · rename_i hc
        obtain ⟨rfl, hl⟩ := hc
        obtain ⟨a, e1, hn'⟩ := r2
        obtain ⟨a', h1', C', dx, vs, e2, e3, e4, e5⟩ := S2.cell n _ hm
        rw [hn'] at h1'
        cases h1'
        rw [T.at_] at e2
        cases e2
        refine ⟨a, C, dx, _, e1, e3, T.cl, hn, by rw [List.length_zip, ← e4]; omega, ?_⟩
        have kw := (Step.write (o := .ins C dx (putF f x (ns.zip vs))) hn').kp
        refine q2 (w2.up a (.ins C dx (putF f x (ns.zip vs)))) σ (Step.write hn') (S2.write hn' ⟨C, dx, putXs f x ns vs, T.at_, ?_, put_len f x ns vs e4, (e5.mono kw).put ((r1.mono s2.kp).mono kw)⟩) (E.mono ((s1.trans s2).trans (Step.write hn')).kp)
        show upd w2.H a _ a = _
        rw [upd_same, putF_zip f x ns vs e4]
      · exact q2.elim
    · exact q2.elim
  | _ => exact q2.elim
theorem call_lenOwn {k : Nat} {g : Addr} {F : List D → Store → Res D} (T : Kl1 X.K cls c C) (hs : PySem.W.findIn X.K (.ref C) "__len__" = some (some (.ref g))) (hf : PySem.W.isFn X.K (.ref g) = true) (G : Dm X.prog X.w X.K cls X.mg X.base k g 1 F) (hr : Room (k + 1) X.A) :
    CallR X (.builtin "len") (fun xs H Q => ∃ a dx fs, xs = [.ref a] ∧ H a = some (.ins C dx fs) ∧ spD X.K cls F 1 [.ref a] H (fun v H' => ∃ n, v = .int n ∧ 0 ≤ n ∧ n < 2 ^ 63 ∧ Q (.int n) H') E00) := by
  intro pins s σ H xs us Q I r h
  obtain ⟨a, dx, fs, rfl, ea, hsp⟩ := h
  obtain ⟨u, rfl, ru⟩ := vals1 r
  cases ru
  obtain ⟨mA, O, _⟩ := ins_get I.hok ea
  obtain ⟨od, J, _⟩ := O.look
  obtain ⟨m, hF⟩ := I.fr
  obtain ⟨fd, ps, hfn, hbd, hl⟩ := G.ex
  refine PySem.W.len_K hF I.ok.mod.kin J hs hf ?_
  have hb := hbd s [.ref a] I.kIn (by simpa using hl.symm)
  refine wpAny_call (codeAny_mono (hfn.run X.A.in1 X.stack s H ⟨[.ref a], []⟩ [.ref a] [.ref a] _ E00 hr.in1 I.env0.in1 (by simpa using hb) (.cons rfl .nil) hsp) fun r s' hq => ?_)
  cases r with
  | error er => obtain ⟨_, _, _, _, _, _, _, _, _, _, _, _, _, e⟩ := hq
  | ok fl =>
    cases fl with
    | ret u =>
      obtain ⟨v, H', I3, rv, n, ev, h0, h1, q3⟩ := I.after hq
      subst ev
      obtain ⟨t, rfl⟩ := rv
      exact ⟨⟨h0, h1⟩, .int n, H', I3.tok _, ⟨_, rfl⟩, q3⟩
    | next => exact False.elim hq
    | brk => exact False.elim hq
    | cont => exact False.elim hq
theorem cv_lenO {k : Nat} {g : Addr} {F : List D → Store → Res D} (T : Kl1 X.K cls c C) (hs : PySem.W.findIn X.K (.ref C) "__len__" = some (some (.ref g))) (hf : PySem.W.isFn X.K (.ref g) = true) (G : Dm X.prog X.w X.K cls X.mg X.base k g 1 F) (hr : Room (k + 1) X.A) :
    CV X cls (.builtin "len") (cLenO c F) := by
  obtain ⟨r0, c0, h0⟩ := cv_len (X := X) (cls := cls)
  refine ⟨_, c0.or (call_lenOwn T hs hf G hr), fun w μ Er ds xs Q S r h => ?_⟩
  unfold cLenO at h
  split at h
  · rename_i d
    split at h
    · rename_i ns ds hd
      obtain ⟨x, rfl, r1⟩ := r.one
      obtain ⟨a, dx, vs, e1, e2, e3, e4⟩ := insOf_at S T.at_ r1 hd
      subst e1
      refine .inr ⟨a, dx, _, rfl, e2, w, [d], μ, rfl, rfl, S, r, (PostR.mute (PostR.bind h)).imp fun w1 e s1 ⟨μ1, S1, q1⟩ v rv => ?_⟩
      cases e with
      | int n =>
        simp only at q1
        split at q1
        · rename_i hn
          exact ⟨n, rv, hn.1, by omega, q1 w1 Step.refl S1 _ rfl⟩
        · exact q1.elim
      | _ => exact q1.elim
    · exact .inl (h0 w μ _ [d] xs Q S r h)
  · exact h.elim
theorem se_make (tk : Takes X W) (hW : ∀ c d σ σ' H, W c d σ H → W c d σ' H) {k n : Nat} {g : Addr} {x : Str} {p : Pos} {a : Expr} {es : List Expr} {fs : FA} {F : List D → Store → Res D} (T : Kl1 X.K cls c C) (M : Mk X.K C g) (G : Dm X.prog X.w X.K cls X.mg X.base k g n F) (hr : Room (k + 1) X.A) (hg : Gl X x) (hm : X.mg x = some (.ref C)) (ha : SA X W cls (a :: es) fs)
    (hdb : (x == ("__debug__" : Str)) = false := by decide +kernel) (he : starEach (a :: es) X.env = (false, eval a X.env) :: starEach es X.env := by rfl) (hpl : (backTo pos (starEach es X.env)).any (·.1) = false := by rfl) :
    SE X W cls (.Call (.Name x p) (a :: es) [] pos) (eMake c n F fs) := by
  obtain ⟨t1, p1, h1⟩ := ha
  obtain ⟨fd, ps, hf, hbd, hl⟩ := G.ex
  refine ⟨_, pe_make (E := fun c d H => ∃ σ, W c d σ H) M hf hr hg hm hbd .nil (passes_call tk fun c d σ H ⟨σ', h⟩ => hW c d σ' σ H h) p1 hdb he hpl, fun σ Q w ρ μ S E h => ?_⟩
  refine h1 σ _ w ρ μ S E ((PostR.bind h).imp fun w1 ds s1 ⟨μ1, S1, q1⟩ vs r1 => ?_)
  split at q1
  · rename_i hn
    intro y dy hy hdy hne
    rw [List.append_nil]
    have hy2 : (w1.up dy (.own y)).H y = none := by
      show upd w1.H dy _ y = none
      rw [upd_ne (Ne.symm hne)]
      exact hy
    have S2 := (S1.new (o := .own y) hdy).add (c := .ins c [] []) (o := .ins C dy []) hy2 ⟨C, dy, [], T.at_, upd_same, rfl, rfl⟩
    have st : Step w1 ⟨w1.x, w1.ι ++ [y], w1.B, upd (upd w1.H dy (.own y)) y (.ins C dy [])⟩ := (step_new hdy).trans (step_add hy2)
    refine ⟨_, .loc μ1.length :: ds, μ1 ++ [.ins c [] []], rfl, hn, S2, ⟨.ref y, vs, rfl, ⟨y, rfl, ?_⟩, r1.mono st.kp⟩, ?_⟩
    · show (w1.ι ++ [y])[μ1.length]? = some y
      rw [List.getElem?_append_right (by rw [S1.len]; omega), S1.len, Nat.sub_self]
      rfl
    · cases hF : F (.loc μ1.length :: ds) (μ1 ++ [.ins c [] []]) with
      | stuck => rw [hF] at q1; exact q1.elim
      | err k' ns es μ2 =>
        rw [hF] at q1
        simp only at q1
        split at q1
        · rename_i hcond
          rw [Bool.and_eq_true] at hcond
          intro w' cv d s' S' x
          have stt := st.trans s'
          have hk := kl_cut stt
          rw [S1.len] at hk
          obtain ⟨C', e1, e2, e3⟩ := x
          refine ⟨σ, q1 ⟨w1.x, w1.ι, w'.B, w'.H⟩ cv d (step_cut stt) (S1.cut stt S' hcond.2) ⟨C', e1, e2, ?_⟩⟩
          rcases e3 with e3 | ⟨dd, vs, e3, ⟨e4, e5, e6⟩, e7, e8⟩
          · exact .inl e3
          · exact .inr ⟨dd, vs, e3, hk.at_ dd _ e5 e6 e4, e7, RVs.low hk hcond.1 e8⟩
        · exact q1.elim
      | ok d μ2 =>
        rw [hF] at q1
        cases d with
        | non =>
          simp only at q1
          split at q1
          · rename_i c' ns es hm2
            split at q1
            · rename_i hcond
              simp only [Bool.and_eq_true, decide_eq_true_eq] at hcond
              obtain ⟨⟨⟨hcc, hlen⟩, hlow⟩, hall⟩ := hcond
              subst hcc
              intro w' s' S' v rv
              have stt := st.trans s'
              obtain ⟨a', h3, C', dx, us, e2, e3, e4, e5⟩ := S'.cell μ1.length _ hm2
              have hy3 : w'.ι[μ1.length]? = some y := s'.loc (by
                show (w1.ι ++ [y])[μ1.length]? = some y
                rw [List.getElem?_append_right (by rw [S1.len]; omega), S1.len, Nat.sub_self]
                rfl)
              rw [hy3] at h3
              cases h3
              rw [T.at_] at e2
              cases e2
              have hk := kl_cut stt
              rw [S1.len] at hk
              refine ⟨rv, q1 ⟨w1.x, w1.ι, w'.B, w'.H⟩ (step_cut stt) (S1.cut stt S' hall) _ ⟨y, C, dx, us, rfl, T.at_, ⟨e3, (S1.free hy).1, ?_⟩, e4, RVs.low hk hlow e5⟩⟩
              show y ∉ w'.B
              rw [stt.ban]
              exact (S1.free hy).2
            · exact q1.elim
          · exact q1.elim
        | _ => exact q1.elim
  · exact q1.elim
end
end Fw

set_option Elab.async false
set_option linter.all false
set_option maxRecDepth 100000
set_option autoImplicit false
namespace Fw
open PySem L2 PyProof.Rows
abbrev lit (s : String) : List Nat := (PySem.Str.ofString s).cps.toList
/-- a module's constant, whatever object it is -/
structure Gv (K : PySem.W.Frag) (cls : Nat → Option Addr) (mg : Str → Option Value) (x : Str) (d : D) : Prop where
  ex : ∃ (v : V) (u : Value), mg x = some u ∧ RelV v u ∧ ∀ w, RV K cls w d v
section
variable {X : Cx} {W : WX} {cls : Nat → Option Addr} {a b c : Expr} {fa fb fc : FE} {pos : Pos}
theorem se_globG {x : Str} {d : D} (hg : Gl X x) (G : Gv X.K cls X.mg x d) (hd : (x == ("__debug__" : Str)) = false := by decide +kernel) : SE X W cls (.Name x pos) (eC d) := by
  obtain ⟨v, u, hm, r, rd⟩ := G.ex
  exact se_glob hg hm r rd hd
def eNeg (fa : FE) : FE := fun ρ μ => (fa ρ μ).bind fun x μ1 => match x with
  | .int i => .ok (.int (-i)) μ1
  | _ => .stuck
theorem se_neg (ha : SE X W cls a fa) : SE X W cls (.UnaryOp .USub a pos) (eNeg fa) := by
  obtain ⟨t1, p1, h1⟩ := ha
  refine ⟨_, pe_un un_neg p1, fun σ Q w ρ μ S E h => ?_⟩
  refine h1 σ _ w ρ μ S E ((PostR.bind h).imp fun w1 d s1 ⟨μ1, S1, q1⟩ v r1 => ?_)
  cases d with
  | int i => exact ⟨i, r1, q1 w1 Step.refl S1 _ rfl⟩
  | _ => exact q1.elim
theorem st_chain {op op' : CmpOp} {g g' : D → D → Store → Res D} (ho : OV X cls (compareOp op) g) (ho' : OV X cls (compareOp op') g') (ha : SE X W cls a fa) (hb : SE X W cls b fb) (hc : SE X W cls c fc)
    (k : ∀ {r r' : R2} {t1 t2 t3 : TE}, OpR X (compareOp op) r → OpR X (compareOp op') r' → PE X a t1 → PE X b t2 → PE X c t3 → PT X (.Compare a [op, op'] [b, c] pos) (tTest (tChain r r' t1 t2 t3)) := by exact fun o o' p1 p2 p3 => pt_chain o o' p1 p2 p3) :
    ST X W cls (.Compare a [op, op'] [b, c] pos) (Fw.tB (eChain g g' fa fb fc)) := by
  obtain ⟨r, o, ho⟩ := ho
  obtain ⟨r', o', ho'⟩ := ho'
  obtain ⟨t1, p1, h1⟩ := ha
  obtain ⟨t2, p2, h2⟩ := hb
  obtain ⟨t3, p3, h3⟩ := hc
  refine ⟨_, k o o' p1 p2 p3, fun σ Q w ρ μ S E h => ?_⟩
  have h := PostR.bind h
  refine h1 σ _ w ρ μ S E ((PostR.bind h).imp fun w1 d s1 ⟨μ1, S1, q1⟩ v r1 => ?_)
  refine h2 σ _ w1 ρ μ1 S1 (E.mono s1.kp) ((PostR.bind q1).imp fun w2 e s2 ⟨μ2, S2, q2⟩ u r2 => ?_)
  refine ho w2 μ2 _ d e v u _ S2 (r1.mono s2.kp) r2 ((PostR.bind q2).imp fun w3 z s3 ⟨μ3, S3, q3⟩ x rx => ?_)
  cases z with
  | bl k =>
    refine ⟨k, rx, ?_⟩
    cases k with
    | true =>
      refine h3 σ _ w3 ρ μ3 S3 (E.mono ((s1.trans s2).trans s3).kp) ((PostR.bind q3).imp fun w4 z4 s4 ⟨μ4, S4, q4⟩ x4 rx4 => ?_)
      refine ho' w4 μ4 _ e z4 u x4 _ S4 (r2.mono (s3.trans s4).kp) rx4 ((PostR.bind q4).imp fun w5 z5 s5 ⟨μ5, S5, q5⟩ x5 rx5 => ?_)
      cases z5 with
      | bl k' =>
        obtain ⟨μ6, S6, q6⟩ := q5 w5 Step.refl S5
        exact ⟨k', rx5, q6 w5 Step.refl S6⟩
      | _ => exact q5.elim
    | false =>
      obtain ⟨μ6, S6, q6⟩ := q3 w3 Step.refl S3
      exact ⟨false, rfl, q6 w3 Step.refl S6⟩
  | _ => exact q3.elim
end
section
variable {P : Program} {W : World} {K : PySem.W.Frag} {cls : Nat → Option Addr} {mg : Str → Option Value} {base : Heap} {x qual : Str} {st : Stmt} {f : Addr} {fd : FuncData} {N ps : List Str} {k : Nat} {g : FS}
theorem dm_mk (F : Fun K x qual st f fd) (b : Binds K fd ps []) (S : FnScope N ps (defScope st))
    (hb : ∀ (cdv : Value) (A : Around) (outer : List PySem.Env) (s : Shared) (H : Hp) (E : XK), Room k (A.deeper (envOfC qual (defScope st) s.heap.objs.size f cdv)) → Takes (cxOf (CX P W) P W K mg base N qual (defScope st) f cdv A outer s H E) (WD E) →
      SSs (cxOf (CX P W) P W K mg base N qual (defScope st) f cdv A outer s H E) (WD E) cls (defBody st) g) :
    Dm P W K cls mg base (k + 1) f ps.length (mD N.length g) := ⟨fd, ps, fn_mk F S hb, b, rfl⟩
end
end Fw

set_option Elab.async false
set_option linter.all false
set_option maxRecDepth 100000
set_option autoImplicit false
namespace Fw
open PySem L2 PyProof.Rows
section
variable {K : PySem.W.Frag} {cls : Nat → Option Addr} {h : Heap} {mg : Str → Option Value} {x : Str}
theorem gv_int {i : Int} {t : Tok} (X : K.In h) (G : h.Ns mainGlobals mg) (a : PySem.W.nsIn K mainGlobals x = some (some (.int i t))) : Gv K cls mg x (.int i) := ⟨.int i, .int i t, PySem.W.mg_of X G a, ⟨t, rfl⟩, fun _ => rfl⟩
theorem gv_str {s : String} {t : Tok} (X : K.In h) (G : h.Ns mainGlobals mg) (a : PySem.W.nsIn K mainGlobals x = some (some (.str (PySem.Str.ofString s) t))) : Gv K cls mg x (.str (lit s)) :=
  ⟨.str (PySem.Str.ofString s), .str _ t, PySem.W.mg_of X G a, ⟨t, rfl⟩, fun _ => by
    show V.str _ = V.str ⟨(PySem.Str.ofString s).cps.toList.toArray⟩
    rw [Array.toArray_toList]⟩
theorem gv_tup {p : Addr} {dd : Option Addr} {its : Array Value} {n : Nat} {sl : Array (Option Value)} {vs : List V} {ds : List D} (X : K.In h) (G : h.Ns mainGlobals mg) (a : PySem.W.nsIn K mainGlobals x = some (some (.ref p)))
    (l : K.lookup p = some ⟨.type "tuple", dd, .seq its n, sl⟩) (hz : its.size ≤ LIM) (hv : Vals vs its.toList) (hr : ∀ w, RVs K cls w ds vs) : Gv K cls mg x (.tup ds) :=
  ⟨.ref p, .ref p, PySem.W.mg_of X G a, rfl, fun w => ⟨p, vs, rfl, .inr (.inr ⟨_, its, n, l, rfl, rfl, lim_le hz, hv⟩), hr w⟩⟩
theorem fn_fin {P : Program} {W : World} {base : Heap} {k : Nat} {f : Addr} {fd : FuncData} {ps : List Str} {m n : Nat} {g : FS} (hf : FnOk P W K mg base (CX P W) k f fd ps (spD K cls (mD m g) n)) : FnOk P W K mg base (CX P W) k f fd ps (spD K cls (mDf m g) n) :=
  hf.imp fun vs H Q E h => by
    obtain ⟨w, ds, μ, e, hl, S, r, h⟩ := h
    exact ⟨w, ds, μ, e, hl, S, r, fin_ok S h⟩
theorem law_sp {F : List D → Store → Res D} (hF : ∀ ns : List Int, ns.length ≤ 63 → ∃ μ, F [.flst ns] [] = .ok (.bl true) μ) {H : Hp} {a : Addr} {ns : List Int} (hl : ns.length ≤ 63) (hO : Only H) (hS : SqL K H a (ns.map V.int)) :
    spD K cls F 1 [.ref a] H (fun v _ => v = .bl true) (fun _ _ _ => False) := by
  obtain ⟨μ, e⟩ := hF ns hl
  refine ⟨⟨none, [], [], H⟩, [.flst ns], [], rfl, rfl, ⟨rfl, List.nodup_nil, (fun b hb => by simp at hb), (fun n c e => by simp at e)⟩, .cons ⟨a, rfl, ?_⟩ .nil, ?_⟩
  · rcases hS with (hS | ⟨o, hS⟩) | hS
    · rcases hO a with z | ⟨o, xs, z⟩
      · rw [hS] at z; cases z
      · rw [hS] at z; cases z
    · exact .inl ⟨⟨o, hS⟩, by simp, by simp⟩
    · exact .inr (.inr hS)
  · rw [e]
    exact fun w' s S v r => r
end
/-- the law's promise, whatever the classes' places -/
def spA (K : PySem.W.Frag) (F : List D → Store → Res D) : Sp := fun vs H Q E => ∀ cls, spD K cls F 1 vs H Q E
theorem fn_any {P : Program} {W : World} {K : PySem.W.Frag} {cls : Nat → Option Addr} {mg : Str → Option Value} {base : Heap} {k : Nat} {f : Addr} {fd : FuncData} {ps : List Str} {F : List D → Store → Res D} (hf : FnOk P W K mg base (CX P W) k f fd ps (spD K cls F 1)) : FnOk P W K mg base (CX P W) k f fd ps (spA K F) :=
  hf.imp fun vs H Q E h => h cls
theorem law_spA {K : PySem.W.Frag} {F : List D → Store → Res D} (hF : ∀ ns : List Int, ns.length ≤ 63 → ∃ μ, F [.flst ns] [] = .ok (.bl true) μ) {H : Hp} {a : Addr} {ns : List Int} (hl : ns.length ≤ 63) (hO : Only H) (hS : SqL K H a (ns.map V.int)) :
    spA K F [.ref a] H (fun v _ => v = .bl true) (fun _ _ _ => False) := fun _ => law_sp hF hl hO hS
end Fw

set_option Elab.async false
set_option linter.all false
set_option maxRecDepth 100000
set_option autoImplicit false
namespace Fw
open PySem L2
/-! ### the readings, one step at a time -/
section
variable {α β : Type} {ρ : Env} {μ : Store} {fa fb fc fd fe fo fi fv : FE} {fs fr : FA} {ft c c' : FT} {g g' : D → D → Store → Res D} {F : List D → Store → Res D} {n i j k : Nat} {s s' : FS}
theorem bok {a : α} {f : α → Store → Res β} : (Res.ok a μ).bind f = f a μ := (rfl)
theorem sok {a : α} {f : α → Store → SR} : rS ρ (.ok a μ) f = f a μ := (rfl)
@[simp] theorem eVar_ev : eVar i ρ μ = match ρ[i]? with | some (some d) => .ok d μ | _ => .stuck := (rfl)
@[simp] theorem eC_ev {d : D} : eC d ρ μ = .ok d μ := (rfl)
@[simp] theorem eBin_ev : eBin g fa fb ρ μ = (fa ρ μ).bind fun x μ1 => (fb ρ μ1).bind fun y μ2 => g x y μ2 := (rfl)
@[simp] theorem aNil_ev : aNil ρ μ = .ok [] μ := (rfl)
@[simp] theorem aCons_ev : aCons fa fr ρ μ = (fa ρ μ).bind fun x μ1 => (fr ρ μ1).bind fun xs μ2 => .ok (x :: xs) μ2 := (rfl)
@[simp] theorem eTup_ev : eTup fs ρ μ = (fs ρ μ).bind fun ds μ1 => if ds.length ≤ LIM then .ok (.tup ds) μ1 else .stuck := (rfl)
@[simp] theorem eLst_ev : eLst fs ρ μ = (fs ρ μ).bind fun ds μ1 => if ds.length ≤ LIM then .ok (.lst ds) μ1 else .stuck := (rfl)
@[simp] theorem eCall_ev : eCall F fs ρ μ = (fs ρ μ).bind fun ds μ1 => F ds μ1 := (rfl)
@[simp] theorem eCallD_ev : eCallD n F fs ρ μ = (fs ρ μ).bind fun ds μ1 => if ds.length = n then F ds μ1 else .stuck := (rfl)
@[simp] theorem tB_ev : tB fa ρ μ = (fa ρ μ).bind fun x μ1 => match x with | .bl b => .ok b μ1 | _ => .stuck := (rfl)
@[simp] theorem tNot_ev : tNot c ρ μ = (c ρ μ).bind fun b μ1 => .ok (!b) μ1 := (rfl)
@[simp] theorem tAnd_ev : tAnd c c' ρ μ = (c ρ μ).bind fun b μ1 => if b then c' ρ μ1 else .ok false μ1 := (rfl)
@[simp] theorem tOr_ev : tOr c c' ρ μ = (c ρ μ).bind fun b μ1 => if b then .ok true μ1 else c' ρ μ1 := (rfl)
@[simp] theorem eIf_ev : eIf c fa fb ρ μ = (c ρ μ).bind fun b μ1 => if b then fa ρ μ1 else fb ρ μ1 := (rfl)
@[simp] theorem eNot_ev : eNot fa ρ μ = (fa ρ μ).bind fun x μ1 => match x with | .bl b => .ok (.bl (!b)) μ1 | _ => .stuck := (rfl)
@[simp] theorem eAnd_ev : eAnd fa fb ρ μ = (fa ρ μ).bind fun x μ1 => match x with | .bl b => if b then fb ρ μ1 else .ok (.bl false) μ1 | _ => .stuck := (rfl)
@[simp] theorem eOr_ev : eOr fa fb ρ μ = (fa ρ μ).bind fun x μ1 => match x with | .bl b => if b then .ok (.bl true) μ1 else fb ρ μ1 | _ => .stuck := (rfl)
@[simp] theorem eChain_ev : eChain g g' fa fb fc ρ μ = (fa ρ μ).bind fun x μ1 => (fb ρ μ1).bind fun y μ2 => (g x y μ2).bind fun z μ3 => match z with
  | .bl b => if b then (fc ρ μ3).bind fun u μ4 => (g' y u μ4).bind fun z' μ5 => match z' with
      | .bl b' => .ok (.bl b') μ5
      | _ => .stuck
    else .ok (.bl false) μ3
  | _ => .stuck := (rfl)
@[simp] theorem oNone_ev : oNone ρ μ = .ok none μ := (rfl)
@[simp] theorem oSome_ev : oSome fa ρ μ = (fa ρ μ).bind fun d μ1 => match d with | .int i => .ok (some i) μ1 | _ => .stuck := (rfl)
@[simp] theorem eCut_ev {fl fh : FO} : eCut fa fl fh ρ μ = (fa ρ μ).bind fun d μ1 => (fl ρ μ1).bind fun l μ2 => (fh ρ μ2).bind fun u μ3 => oCut d l u μ3 := (rfl)
@[simp] theorem eIsi_ev {T : String} : eIsi T fa ρ μ = (fa ρ μ).bind fun d μ1 => match tyName μ1 d with
  | some t => match kitB t T with
    | some b => .ok (.bl b) μ1
    | none => .stuck
  | none => .stuck := (rfl)
@[simp] theorem eJoin_ev : eJoin fo fe ρ μ = (fo ρ μ).bind fun d μ1 => match d with | .str s => (fe ρ μ1).bind fun e μ2 => oJoin (.str s) e μ2 | _ => .stuck := (rfl)
@[simp] theorem eLm_ev : eLm g fo fe ρ μ = (fo ρ μ).bind fun d μ1 => if isL μ1 d = true then (fe ρ μ1).bind fun e μ2 => g d e μ2 else .stuck := (rfl)
@[simp] theorem sNext_ev : sNext ρ μ = .nx ρ μ := (rfl)
@[simp] theorem sSeq_ev : sSeq s s' ρ μ = match s ρ μ with | .nx ρ1 μ1 => s' ρ1 μ1 | r => r := (rfl)
@[simp] theorem sIf_ev : sIf c s s' ρ μ = rS ρ (c ρ μ) fun b μ1 => if b = true then s ρ μ1 else s' ρ μ1 := (rfl)
@[simp] theorem sRet_ev : sRet fe ρ μ = rS ρ (fe ρ μ) fun d μ1 => .rt d μ1 := (rfl)
@[simp] theorem sExpr_ev : sExpr fe ρ μ = rS ρ (fe ρ μ) fun _ μ1 => .nx ρ μ1 := (rfl)
@[simp] theorem sNever_ev : sNever ρ μ = .stuck := (rfl)
@[simp] theorem sAsg_ev {g : D → Env → Store → Res Env} : sAsg g fe ρ μ = rS ρ (fe ρ μ) fun d μ1 => rS ρ (g d ρ μ1) fun ρ1 μ2 => .nx ρ1 μ2 := (rfl)
@[simp] theorem gVar_ev {d : D} : gVar i d ρ μ = if i < ρ.length then .ok (ρ.set i (some d)) μ else .stuck := (rfl)
@[simp] theorem gNil_ev : gNil [] ρ μ = .ok ρ μ := (rfl)
@[simp] theorem gCons_ev {g : D → Env → Store → Res Env} {h : List D → Env → Store → Res Env} {d : D} {r : List D} : gCons g h (d :: r) ρ μ = (g d ρ μ).bind fun ρ1 μ1 => h r ρ1 μ1 := (rfl)
@[simp] theorem gTup_ev {h : List D → Env → Store → Res Env} {ds : List D} : gTup n h (.tup ds) ρ μ = if ds.length = n then h ds ρ μ else .stuck := (rfl)
@[simp] theorem gIx_ev {v : D} : gIx fo fi v ρ μ = (fo ρ μ).mute.bind fun d μ1 => (fi ρ μ1).mute.bind fun e μ2 => match d, e with
  | .loc n, .int i => match μ2[n]? with
    | some (.lst es) => match ixN es.length i with
      | some j => .ok ρ (μ2.set n (.lst (es.set j v)))
      | none => .stuck
    | _ => .stuck
  | _, _ => .stuck := (rfl)
@[simp] theorem sAug_ev : sAug i g fe ρ μ = match ρ[i]? with
  | some (some x) => rS ρ (fe ρ μ) fun y μ1 => rS ρ (g x y μ1) fun z μ2 => if i < ρ.length then .nx (ρ.set i (some z)) μ2 else .stuck
  | _ => .stuck := (rfl)
@[simp] theorem sPar_ev : sPar i j fa fb ρ μ = rS ρ (fa ρ μ) fun x μ1 => rS ρ (fb ρ μ1) fun y μ2 => if i < ρ.length ∧ j < ρ.length then .nx ((ρ.set i (some x)).set j (some y)) μ2 else .stuck := (rfl)
@[simp] theorem sAsg2_ev {g1 g2 : D → Env → Store → Res Env} : sAsg2 g1 g2 fe ρ μ = rS ρ (fe ρ μ) fun d μ1 => rS ρ (g1 d ρ μ1) fun ρ1 μ2 => rS ρ1 (g2 d ρ1 μ2) fun ρ2 μ3 => .nx ρ2 μ3 := (rfl)
@[simp] theorem iOf_ev : iOf fe ρ μ = (fe ρ μ).bind fun d μ1 => oWalk d μ1 := (rfl)
@[simp] theorem iEnumD_ev : iEnumD fe ρ μ = (fe ρ μ).bind fun d μ1 => oEnum d μ1 := (rfl)
def rangeR (d : D) (μ : Store) : Res (List D × Option Nat) := match d with
  | .int j => if -1000000 ≤ j ∧ j ≤ 1000000 then .ok ((List.range j.toNat).map fun i => .int (0 + (i : Nat)), none) μ else .stuck
  | _ => .stuck
def rg (n : Nat) : List D := (List.range n).map fun i => .int (i : Nat)
@[simp] theorem iRange1_ev : iRange1 fa ρ μ = (fa ρ μ).bind fun d μ1 => rangeR d μ1 := (rfl)
theorem rangeR_nat (h : n ≤ 1000000) : rangeR (.int (n : Nat)) μ = .ok (rg n, none) μ := by
  have h1 : (-1000000 : Int) ≤ (n : Nat) ∧ ((n : Nat) : Int) ≤ 1000000 := by omega
  simp only [rangeR, if_pos h1, rg, Int.toNat_natCast, Int.zero_add]
@[simp] theorem sFor_ev {fi : FI} {g : D → Env → Store → Res Env} : sFor fi g s ρ μ = rS ρ (fi ρ μ) fun it μ1 => forL it.1 it.2 g s it.1 ρ μ1 := (rfl)
@[simp] theorem eLc_ev {vs : List Nat} {fi : FI} {g : D → Env → Store → Res Env} : eLc vs fi g ft fe ρ μ = (fi ρ μ).bind fun it μ1 => lcL it.1 it.2 g ft fe (wipeE ρ vs) it.1 μ1 [] := (rfl)
@[simp] theorem mD_ev {ds : List D} : mD n s ds μ = match s (ds.map some ++ List.replicate (n - ds.length) none) μ with
  | .rt d μ' => .ok d μ'
  | .nx _ μ' => .ok .non μ'
  | .er k ns es _ μ' => .err k ns es μ'
  | _ => .stuck := (rfl)
@[simp] theorem mDf_ev {ds : List D} : mDf n s ds μ = fin μ.length (mD n s ds μ) := (rfl)
@[simp] theorem thaw_ev {ds : List D} : thaw (.ok (.lst ds) μ) = .ok (.loc μ.length) (μ ++ [.lst ds]) := (rfl)
@[simp] theorem eThaw_ev : eThaw fe ρ μ = thaw (fe ρ μ) := (rfl)
@[simp] theorem eTupRg_ev {fi : FI} : eTupRg fi ρ μ = (fi ρ μ).bind fun it μ1 => .ok (.tup it.1) μ1 := (rfl)
@[simp] theorem eNeg_ev : eNeg fa ρ μ = (fa ρ μ).bind fun x μ1 => match x with | .int i => .ok (.int (-i)) μ1 | _ => .stuck := (rfl)
@[simp] theorem eFld_ev {f : Str} : eFld k f fa ρ μ = (fa ρ μ).bind fun d μ1 => match insOf k μ1 d with
  | some (ns, ds) => match (ns.zip ds).lookup f with
    | some e => .ok e μ1
    | none => .stuck
  | none => .stuck := (rfl)
@[simp] theorem eProp_ev : eProp k F fa ρ μ = (fa ρ μ).bind fun d μ1 => match insOf k μ1 d with
  | some _ => (F [d] μ1).mute
  | none => .stuck := (rfl)
@[simp] theorem sFld_ev {f : Str} : sFld k f fo fv ρ μ = rS ρ (fv ρ μ) fun e μ1 => rS ρ (fo ρ μ1) fun d μ2 => match d with
  | .loc n => match μ2[n]? with
    | some (.ins c' ns ds) => if c' = k ∧ ns.length < 900 then .nx ρ (μ2.set n (.ins k (putNs f ns) (putXs f e ns ds))) else .stuck
    | _ => .stuck
  | _ => .stuck := (rfl)
@[simp] theorem eMake_ev : eMake k n F fs ρ μ = (fs ρ μ).bind fun ds μ1 => if ds.length + 1 = n then match F (.loc μ1.length :: ds) (μ1 ++ [.ins k [] []]) with
    | .ok .non μ2 => match μ2[μ1.length]? with
      | some (.ins c' ns es) => if (decide (c' = k) && decide (μ2.length = μ1.length + 1) && lows μ1.length es && (μ2.take μ1.length).all (lowC μ1.length)) = true then .ok (.obj k ns es) (μ2.take μ1.length) else .stuck
      | _ => .stuck
    | .err k ns es μ2 => if (lows μ1.length es && (μ2.take μ1.length).all (lowC μ1.length)) = true then .err k ns es (μ2.take μ1.length) else .stuck
    | _ => .stuck
  else .stuck := (rfl)
@[simp] theorem oAdd_int {a b : Int} : oAdd (.int a) (.int b) μ = .ok (.int (a + b)) μ := (rfl)
@[simp] theorem oAddI_int {a b : Int} : oAddI (.int a) (.int b) μ = .ok (.int (a + b)) μ := (rfl)
@[simp] theorem oSub_int {a b : Int} : oSub (.int a) (.int b) μ = .ok (.int (a - b)) μ := (rfl)
theorem oMul_int {a b : Int} (h : (Sm a || Sm b) = true) : oMul (.int a) (.int b) μ = .ok (.int (a * b)) μ := by simp [oMul, h]
theorem oMod_int {a b : Int} (h : 0 < b) : oMod (.int a) (.int b) μ = .ok (.int (a % b)) μ := by simp [oMod, h]
theorem oFdv_wide {a b : Int} (h : 0 < b) (h2 : b < 4611686018427387904) : oFdv (.int a) (.int b) μ = .ok (.int (a / b)) μ := by
  have h3 : b.natAbs.log2 < 9000 := by
    have h4 : b.natAbs < 2 ^ 62 := by omega
    exact Nat.lt_of_lt_of_le (PySem.Flt.log2_lt_of (by decide) h4) (by decide)
  simp [oFdv, h, h3]
theorem oFdv_int {a b : Int} (h : 0 < b) (h2 : b < 1073741824) : oFdv (.int a) (.int b) μ = .ok (.int (a / b)) μ := oFdv_wide h (by omega)
@[simp] theorem oI_int {p : Int → Int → Bool} {a b : Int} : oI p (.int a) (.int b) μ = .ok (.bl (p a b)) μ := (rfl)
@[simp] theorem oLt_int {a b : Int} : oLt (.int a) (.int b) μ = .ok (.bl (decide (a < b))) μ := (rfl)
@[simp] theorem oLe_int {a b : Int} : oLe (.int a) (.int b) μ = .ok (.bl (decide (a ≤ b))) μ := (rfl)
@[simp] theorem oGt_int {a b : Int} : oGt (.int a) (.int b) μ = .ok (.bl (decide (b < a))) μ := (rfl)
@[simp] theorem oGe_int {a b : Int} : oGe (.int a) (.int b) μ = .ok (.bl (decide (b ≤ a))) μ := (rfl)
@[simp] theorem oNotN_ev {d : D} : oNotN d .non μ = .ok (.bl (!d.isNon)) μ := (rfl)
@[simp] theorem oIsN_ev {d : D} : oIsN d .non μ = .ok (.bl d.isNon) μ := (rfl)
@[simp] theorem cInt_int {a : Int} : cInt [.int a] μ = .ok (.int a) μ := (rfl)
@[simp] theorem cInt_bl {b : Bool} : cInt [.bl b] μ = .ok (.int (if b then 1 else 0)) μ := (rfl)
@[simp] theorem cMax2_ev {a b : Int} : cMax2 [.int a, .int b] μ = .ok (.int (if b > a then b else a)) μ := (rfl)
end
/-! ### plain data -/
mutual
def pl : Nat → D → Bool
  | _, .int _ => true
  | _, .str s => s.all (· < 0x110000)
  | k + 1, .tup ds => pls k ds
  | k + 1, .lst ds => pls k ds
  | _, _ => false
def pls : Nat → List D → Bool
  | _, [] => true
  | k, d :: ds => pl k d && pls k ds
end
theorem pls_iff {k : Nat} {ds : List D} : pls k ds = true ↔ ∀ d ∈ ds, pl k d = true := by
  induction ds with
  | nil => simp [pls]
  | cons d ds ih => simp [pls, ih]
mutual
theorem pl_lay : ∀ {k : Nat} {d : D}, pl k d = true → (toPy d).canLay0 = true ∧ (toPy d).depth ≤ k + 1
  | _, .int _, _ => by simp [toPy, PyData.canLay0, PyData.depth]
  | _, .str s, h => by
    simp only [pl] at h
    simp [toPy, PyData.canLay0, PyData.depth, PyData.strOk]
    simpa using h
  | 0, .tup ds, h => by simp [pl] at h
  | 0, .lst ds, h => by simp [pl] at h
  | k + 1, .tup ds, h => by
    have := pls_lay (k := k) (ds := ds) (by simpa [pl] using h)
    simp only [toPy, PyData.canLay0, PyData.depth]
    exact ⟨this.1, by omega⟩
  | k + 1, .lst ds, h => by
    have := pls_lay (k := k) (ds := ds) (by simpa [pl] using h)
    simp only [toPy, PyData.canLay0, PyData.depth]
    exact ⟨this.1, by omega⟩
  | 0, .non, h => by simp [pl] at h
  | k + 1, .non, h => by simp [pl] at h
  | 0, .bl _, h => by simp [pl] at h
  | k + 1, .bl _, h => by simp [pl] at h
  | 0, .flst _, h => by simp [pl] at h
  | k + 1, .flst _, h => by simp [pl] at h
  | 0, .obj _ _ _, h => by simp [pl] at h
  | 0, .ptr _, h => by simp [pl] at h
  | 0, .dct _ _, h => by simp [pl] at h
  | k + 1, .obj _ _ _, h => by simp [pl] at h
  | k + 1, .ptr _, h => by simp [pl] at h
  | k + 1, .dct _ _, h => by simp [pl] at h
  | 0, .loc _, h => by simp [pl] at h
  | k + 1, .loc _, h => by simp [pl] at h
theorem pls_lay : ∀ {k : Nat} {ds : List D}, pls k ds = true → PyData.canLayAll0 (toPys ds) = true ∧ PyData.depthAll (toPys ds) ≤ k + 1
  | _, [], _ => by simp [toPys, PyData.canLayAll0, PyData.depthAll]
  | k, d :: ds, h => by
    simp only [pls, Bool.and_eq_true] at h
    have h1 := pl_lay h.1
    have h2 := pls_lay h.2
    simp only [toPys, PyData.canLayAll0, PyData.depthAll, h1.1, h2.1]
    exact ⟨rfl, by omega⟩
end
theorem pl_ok {k : Nat} {d : D} (h : pl k d = true) (hk : k ≤ 60 := by decide) : okD (toPy d) = true := by
  have := pl_lay h
  unfold okD SeqAt.shaped
  simp only [this.1, Bool.true_and, decide_eq_true_eq]
  omega
mutual
theorem pl_eqv : ∀ {k j : Nat} {d e : D}, pl k d = true → pl j e = true → (PyData.eqv (toPy d) (toPy e) = true ↔ d = e)
  | _, _, .int _, .int _, _, _ => by simp [toPy, PyData.eqv]
  | _, _, .str _, .str _, _, _ => by simp [toPy, PyData.eqv]
  | k + 1, j + 1, .tup ds, .tup es, h, h2 => by simpa [toPy, PyData.eqv] using pls_eqv (k := k) (j := j) (by simpa [pl] using h) (by simpa [pl] using h2)
  | k + 1, j + 1, .lst ds, .lst es, h, h2 => by simpa [toPy, PyData.eqv] using pls_eqv (k := k) (j := j) (by simpa [pl] using h) (by simpa [pl] using h2)
  | _, _, .int _, .str _, _, _ => by simp [toPy, PyData.eqv]
  | _, _, .int _, .tup _, _, _ => by simp [toPy, PyData.eqv]
  | _, _, .int _, .lst _, _, _ => by simp [toPy, PyData.eqv]
  | _, _, .str _, .int _, _, _ => by simp [toPy, PyData.eqv]
  | _, _, .str _, .tup _, _, _ => by simp [toPy, PyData.eqv]
  | _, _, .str _, .lst _, _, _ => by simp [toPy, PyData.eqv]
  | _, _, .tup _, .int _, _, _ => by simp [toPy, PyData.eqv]
  | _, _, .tup _, .str _, _, _ => by simp [toPy, PyData.eqv]
  | _, _, .tup _, .lst _, _, _ => by simp [toPy, PyData.eqv]
  | _, _, .lst _, .int _, _, _ => by simp [toPy, PyData.eqv]
  | _, _, .lst _, .str _, _, _ => by simp [toPy, PyData.eqv]
  | _, _, .lst _, .tup _, _, _ => by simp [toPy, PyData.eqv]
  | 0, _, .tup _, _, h, _ => by simp [pl] at h
  | 0, _, .lst _, _, h, _ => by simp [pl] at h
  | _, 0, _, .tup _, _, h => by simp [pl] at h
  | _, 0, _, .lst _, _, h => by simp [pl] at h
  | 0, _, .non, _, h, _ => by simp [pl] at h
  | k + 1, _, .non, _, h, _ => by simp [pl] at h
  | 0, _, .bl _, _, h, _ => by simp [pl] at h
  | k + 1, _, .bl _, _, h, _ => by simp [pl] at h
  | 0, _, .flst _, _, h, _ => by simp [pl] at h
  | k + 1, _, .flst _, _, h, _ => by simp [pl] at h
  | 0, _, .obj _ _ _, _, h, _ => by simp [pl] at h
  | 0, _, .ptr _, _, h, _ => by simp [pl] at h
  | 0, _, .dct _ _, _, h, _ => by simp [pl] at h
  | k + 1, _, .obj _ _ _, _, h, _ => by simp [pl] at h
  | k + 1, _, .ptr _, _, h, _ => by simp [pl] at h
  | k + 1, _, .dct _ _, _, h, _ => by simp [pl] at h
  | 0, _, .loc _, _, h, _ => by simp [pl] at h
  | k + 1, _, .loc _, _, h, _ => by simp [pl] at h
  | _, 0, _, .non, _, h => by simp [pl] at h
  | _, k + 1, _, .non, _, h => by simp [pl] at h
  | _, 0, _, .bl _, _, h => by simp [pl] at h
  | _, k + 1, _, .bl _, _, h => by simp [pl] at h
  | _, 0, _, .flst _, _, h => by simp [pl] at h
  | _, k + 1, _, .flst _, _, h => by simp [pl] at h
  | _, 0, _, .obj _ _ _, _, h => by simp [pl] at h
  | _, 0, _, .ptr _, _, h => by simp [pl] at h
  | _, 0, _, .dct _ _, _, h => by simp [pl] at h
  | _, k + 1, _, .obj _ _ _, _, h => by simp [pl] at h
  | _, k + 1, _, .ptr _, _, h => by simp [pl] at h
  | _, k + 1, _, .dct _ _, _, h => by simp [pl] at h
  | _, 0, _, .loc _, _, h => by simp [pl] at h
  | _, k + 1, _, .loc _, _, h => by simp [pl] at h
theorem pls_eqv : ∀ {k j : Nat} {ds es : List D}, pls k ds = true → pls j es = true → (PyData.eqvAll (toPys ds) (toPys es) = true ↔ ds = es)
  | _, _, [], [], _, _ => by simp [toPys, PyData.eqvAll]
  | _, _, [], _ :: _, _, _ => by simp [toPys, PyData.eqvAll]
  | _, _, _ :: _, [], _, _ => by simp [toPys, PyData.eqvAll]
  | k, j, d :: ds, e :: es, h, h2 => by
    simp only [pls, Bool.and_eq_true] at h h2
    simp [toPys, PyData.eqvAll, pl_eqv h.1 h2.1, pls_eqv h.2 h2.2]
end
/-- what stands at a place -/
def rd (μ : Store) : D → D
  | .loc n => match μ[n]? with
    | some (.lst ds) => .lst ds
    | _ => .loc n
  | d => d
theorem toPyM_rd {μ : Store} {d : D} : toPyM μ d = toPy (rd μ d) := by
  cases d <;> try rfl
  rename_i n
  simp only [toPyM, rd]
  cases h : μ[n]? with
  | none => rfl
  | some c => cases c <;> rfl
theorem oEq_pl {k j : Nat} {d e : D} {μ : Store} (h : pl k (rd μ d) = true) (h2 : pl j (rd μ e) = true) (hk : k ≤ 60 := by decide) (hj : j ≤ 60 := by decide) : oEq d e μ = .ok (.bl (decide (rd μ d = rd μ e))) μ := by
  unfold oEq
  simp only [toPyM_rd, pl_ok h hk, pl_ok h2 hj, Bool.and_true, if_true]
  congr 2
  rw [Bool.eq_iff_iff, decide_eq_true_eq]
  exact pl_eqv h h2
theorem oNe_pl {k j : Nat} {d e : D} {μ : Store} (h : pl k (rd μ d) = true) (h2 : pl j (rd μ e) = true) (hk : k ≤ 60 := by decide) (hj : j ≤ 60 := by decide) : oNe d e μ = .ok (.bl (!decide (rd μ d = rd μ e))) μ := by
  unfold oNe
  simp only [toPyM_rd, pl_ok h hk, pl_ok h2 hj, Bool.and_true, if_true]
  congr 3
  rw [Bool.eq_iff_iff, decide_eq_true_eq]
  exact pl_eqv h h2
@[simp] theorem oEq_bl {a b : Bool} {μ : Store} : oEq (.bl a) (.bl b) μ = .ok (.bl (a == b)) μ := by cases a <;> cases b <;> rfl
@[simp] theorem oNe_bl {a b : Bool} {μ : Store} : oNe (.bl a) (.bl b) μ = .ok (.bl (a != b)) μ := by cases a <;> cases b <;> rfl
@[simp] theorem oEq_int {a b : Int} {μ : Store} : oEq (.int a) (.int b) μ = .ok (.bl (decide (a = b))) μ := by
  rw [oEq_pl (k := 0) (j := 0) rfl rfl]; simp [rd]
@[simp] theorem oNe_int {a b : Int} {μ : Store} : oNe (.int a) (.int b) μ = .ok (.bl (!decide (a = b))) μ := by
  rw [oNe_pl (k := 0) (j := 0) rfl rfl]; simp [rd]
/-! ### comprehensions -/
theorem lc_pure {items : List D} {g : D → Env → Store → Res Env} {ft : FT} {fe : FE} {ρ : Env} {μ : Store} (p : D → Bool) (f : D → D) {ds : List D} {acc : List D}
    (h : ∀ d ∈ ds, ∃ ρ1, g d ρ μ = .ok ρ1 μ ∧ ft ρ1 μ = .ok (p d) μ ∧ (p d = true → fe ρ1 μ = .ok (f d) μ)) (hl : acc.length + ds.length ≤ LIM) :
    lcL items none g ft fe ρ ds μ acc = .ok (.lst (acc ++ (ds.filter p).map f)) μ := by
  induction ds generalizing acc with
  | nil => simp [lcL, srcOk]
  | cons d ds ih =>
    obtain ⟨ρ1, h1, h2, h3⟩ := h d (by simp)
    simp only [lcL, srcOk, if_true, h1, Res.mute_ok, Res.bind_ok, h2]
    simp only [List.length_cons] at hl
    cases hp : p d with
    | false =>
      simp only [Bool.false_eq_true, if_false]
      rw [ih (fun d' m => h d' (by simp [m])) (by omega)]
      simp [hp]
    | true =>
      simp only [if_true, h3 hp, Res.mute_ok, Res.bind_ok]
      rw [if_pos (by omega), ih (fun d' m => h d' (by simp [m])) (by simp; omega)]
      simp [hp]
inductive F2 {α β : Type} (P : α → β → Prop) : List α → List β → Prop
  | nil : F2 P [] []
  | cons {a : α} {b : β} {r : List α} {s : List β} (h : P a b) (t : F2 P r s) : F2 P (a :: r) (b :: s)
theorem F2.length_eq {α β : Type} {P : α → β → Prop} {r : List α} {s : List β} (h : F2 P r s) : r.length = s.length := by
  induction h with
  | nil => rfl
  | cons _ _ ih => simp [ih]
theorem F2.all {α β : Type} {P : α → β → Prop} {r : List α} {s : List β} (h : F2 P r s) : ∀ b ∈ s, ∃ a ∈ r, P a b := by
  induction h with
  | nil => simp
  | cons h _ ih =>
    intro b hb
    rcases List.mem_cons.mp hb with rfl | hb
    · exact ⟨_, by simp, h⟩
    · obtain ⟨a, m, p⟩ := ih b hb
      exact ⟨a, by simp [m], p⟩
/-- a comprehension with a state: what holds of the state goes on to hold, what holds of each thing holds of all -/
theorem lc_st {items : List D} {g : D → Env → Store → Res Env} {ft : FT} {fe : FE} {ρ : Env} (I : Store → Prop) (P : D → D → Prop) {ds : List D} {acc : List D} {μ : Store} (hI : I μ)
    (h : ∀ d ∈ ds, ∀ μ, I μ → ∃ ρ1 μ1, g d ρ μ = .ok ρ1 μ1 ∧ ∃ b μ2, ft ρ1 μ1 = .ok b μ2 ∧ (b = false → I μ2) ∧ (b = true → ∃ y μ3, fe ρ1 μ2 = .ok y μ3 ∧ I μ3 ∧ P d y)) (hl : acc.length + ds.length ≤ LIM) :
    ∃ ys zs μ', lcL items none g ft fe ρ ds μ acc = .ok (.lst (acc ++ ys)) μ' ∧ I μ' ∧ zs.Sublist ds ∧ F2 P zs ys := by
  induction ds generalizing acc μ with
  | nil => exact ⟨[], [], μ, by simp [lcL, srcOk], hI, .slnil, .nil⟩
  | cons d ds ih =>
    obtain ⟨ρ1, μ1, h1, b, μ2, h2, h3, h4⟩ := h d (by simp) μ hI
    simp only [lcL, srcOk, if_true, h1, Res.mute_ok, Res.bind_ok, h2]
    simp only [List.length_cons] at hl
    cases b with
    | false =>
      simp only [Bool.false_eq_true, if_false]
      obtain ⟨ys, zs, μ', e, i, s, f⟩ := ih (acc := acc) (h3 rfl) (fun d' m => h d' (by simp [m])) (by omega)
      exact ⟨ys, zs, μ', e, i, s.cons _, f⟩
    | true =>
      obtain ⟨y, μ3, h5, h6, h7⟩ := h4 rfl
      simp only [if_true, h5, Res.mute_ok, Res.bind_ok]
      rw [if_pos (by omega)]
      obtain ⟨ys, zs, μ', e, i, s, f⟩ := ih (acc := acc ++ [y]) h6 (fun d' m => h d' (by simp [m])) (by simp; omega)
      exact ⟨y :: ys, d :: zs, μ', by rw [e]; simp, i, s.cons₂ _, .cons h7 f⟩
theorem lc_all {items : List D} {g : D → Env → Store → Res Env} {ft : FT} {fe : FE} {ρ : Env} (I : Store → Prop) (P : D → D → Prop) {ds : List D} {acc : List D} {μ : Store} (hI : I μ)
    (h : ∀ d ∈ ds, ∀ μ, I μ → ∃ ρ1 μ1, g d ρ μ = .ok ρ1 μ1 ∧ ∃ μ2, ft ρ1 μ1 = .ok true μ2 ∧ ∃ y μ3, fe ρ1 μ2 = .ok y μ3 ∧ I μ3 ∧ P d y) (hl : acc.length + ds.length ≤ LIM) :
    ∃ ys μ', lcL items none g ft fe ρ ds μ acc = .ok (.lst (acc ++ ys)) μ' ∧ I μ' ∧ F2 P ds ys := by
  induction ds generalizing acc μ with
  | nil => exact ⟨[], μ, by simp [lcL, srcOk], hI, .nil⟩
  | cons d ds ih =>
    obtain ⟨ρ1, μ1, h1, μ2, h2, y, μ3, h5, h6, h7⟩ := h d (by simp) μ hI
    simp only [lcL, srcOk, if_true, h1, Res.mute_ok, Res.bind_ok, h2, h5]
    simp only [List.length_cons] at hl
    rw [if_pos (by omega)]
    obtain ⟨ys, μ', e, i, f⟩ := ih (acc := acc ++ [y]) h6 (fun d' m => h d' (by simp [m])) (by simp; omega)
    exact ⟨y :: ys, μ', by rw [e]; simp, i, .cons h7 f⟩
theorem F2.map_of {α β γ : Type} {P : α → β → Prop} {Q : γ → Prop} {f : γ → β} (h : ∀ a b, P a b → ∃ c, b = f c ∧ Q c) {r : List α} {s : List β} (t : F2 P r s) : ∃ cs : List γ, s = cs.map f ∧ cs.length = r.length ∧ ∀ c ∈ cs, Q c := by
  induction t with
  | nil => exact ⟨[], rfl, rfl, by simp⟩
  | cons p _ ih =>
    obtain ⟨c, rfl, q⟩ := h _ _ p
    obtain ⟨cs, rfl, l, qs⟩ := ih
    exact ⟨c :: cs, rfl, by simp [l], by simp [q]; exact qs⟩
theorem join_one : ∀ {cs : List Nat}, joinD [] (cs.map fun c => [c]) = cs
  | [] => rfl
  | [c] => rfl
  | c :: d :: r => by
    have := join_one (cs := d :: r)
    simp only [List.map_cons] at this ⊢
    simp only [joinD, this]
    rfl
theorem strs_one : ∀ {cs : List Nat}, strsOf (cs.map fun c => D.str [c]) = some (cs.map fun c => [c])
  | [] => rfl
  | c :: r => by simp [strsOf, strs_one (cs := r)]
theorem oJoin_one {cs : List Nat} {μ : Store} (h : cs.length ≤ LIM) : oJoin (.str []) (.lst (cs.map fun c => D.str [c])) μ = .ok (.str cs) μ := by
  simp [oJoin, seqOf, strs_one, join_one, Function.comp_def]
  have : ∀ l : List Nat, (List.map (fun c : Nat => 1) l).sum = l.length := fun l => by induction l <;> simp_all; omega
  rw [this]
  exact h
theorem for_cons {items : List D} {g : D → Env → Store → Res Env} {body : FS} {d : D} {ds : List D} {ρ : Env} {μ : Store} : forL items none g body (d :: ds) ρ μ = rS ρ (g d ρ μ) fun ρ1 μ1 => match body ρ1 μ1 with
      | .nx ρ2 μ2 => forL items none g body ds ρ2 μ2
      | .ct ρ2 μ2 => forL items none g body ds ρ2 μ2
      | .bk ρ2 μ2 => .nx ρ2 μ2
      | .rt d μ2 => .rt d μ2
      | .er k ns es ρ2 μ2 => .er k ns es ρ2 μ2
      | .stuck => .stuck := by rw [forL, if_pos (show srcOk none items μ = true from rfl)] <;> rfl
theorem for_nil {items : List D} {g : D → Env → Store → Res Env} {body : FS} {ρ : Env} {μ : Store} : forL items none g body [] ρ μ = .nx ρ μ := by rw [forL, if_pos (show srcOk none items μ = true from rfl)]
theorem getElem?_mid {α : Type} {μ r : List α} {x : α} : (μ ++ x :: r)[μ.length]? = some x := by simp
theorem set_mid {α : Type} {μ r : List α} {x y : α} : (μ ++ x :: r).set μ.length y = μ ++ y :: r := by simp
/-- a loop that keeps something -/
theorem for_inv {items : List D} {g : D → Env → Store → Res Env} {body : FS} (J : List D → Env → Store → Prop) {ds : List D} {ρ : Env} {μ : Store} (hJ : J ds ρ μ)
    (h : ∀ d r ρ μ, J (d :: r) ρ μ → ∃ ρ1 μ1 ρ2 μ2, g d ρ μ = .ok ρ1 μ1 ∧ body ρ1 μ1 = .nx ρ2 μ2 ∧ J r ρ2 μ2) :
    ∃ ρ' μ', forL items none g body ds ρ μ = .nx ρ' μ' ∧ J [] ρ' μ' := by
  induction ds generalizing ρ μ with
  | nil => exact ⟨ρ, μ, by simp [forL, srcOk], hJ⟩
  | cons d ds ih =>
    obtain ⟨ρ1, μ1, ρ2, μ2, h1, h2, h3⟩ := h d ds ρ μ hJ
    obtain ⟨ρ', μ', e, j⟩ := ih h3
    exact ⟨ρ', μ', by simp only [forL, srcOk, if_true, h1, rS_ok, h2, e], j⟩

end Fw

set_option Elab.async false
set_option linter.all false
set_option maxRecDepth 100000
set_option autoImplicit false
namespace Fw
open PySem L2 PyProof.Rows
/-! ### a comprehension with two fors -/
theorem Kp.refl' {w : Wd} : Kp w w := ⟨fun _ _ h1 h2 h3 => ⟨h3, h1, h2⟩, fun _ _ h => h, rfl⟩
theorem Kp.trans' {w w1 w2 : Wd} (h : Kp w w1) (g : Kp w1 w2) : Kp w w2 := ⟨fun a o h1 h2 h3 => by
    obtain ⟨x, y, z⟩ := h.at_ a o h1 h2 h3
    exact g.at_ a o y z x, fun n a e => g.loc n a (h.loc n a e), g.exn.trans h.exn⟩
def lcL2 (items : List D) (src : Option Nat) (g : D → Env → Store → Res Env) (ft : FT) (fi1 : FI) (g1 : D → Env → Store → Res Env) (ft1 : FT) (fe : FE) (vs1 : List Nat) (ρ : Env) : List D → Store → List D → Res D
  | [], μ, acc => if srcOk src items μ = true then .ok (.lst acc) μ else .stuck
  | d :: ds, μ, acc => if srcOk src items μ = true then (g d ρ μ).mute.bind fun ρ1 μ1 => (ft ρ1 μ1).mute.bind fun b μ2 =>
      if b = true then (fi1 ρ1 μ2).mute.bind fun it μ3 => (lcL it.1 it.2 g1 ft1 fe (wipeE ρ1 vs1) it.1 μ3 acc).bind fun d μ4 => match d with
        | .lst acc' => lcL2 items src g ft fi1 g1 ft1 fe vs1 ρ ds μ4 acc'
        | _ => .stuck
      else lcL2 items src g ft fi1 g1 ft1 fe vs1 ρ ds μ2 acc
    else .stuck
def eLc2 (vs vs1 : List Nat) (fi : FI) (g : D → Env → Store → Res Env) (ft : FT) (fi1 : FI) (g1 : D → Env → Store → Res Env) (ft1 : FT) (fe : FE) : FE := fun ρ μ => (fi ρ μ).bind fun it μ1 => lcL2 it.1 it.2 g ft fi1 g1 ft1 fe vs1 (wipeE ρ vs) it.1 μ1 []
section
variable {K : PySem.W.Frag} {cls : Nat → Option Addr} {w w1 w' w4 : Wd} {μ : Store}
theorem lc2_ok {W : WX} {wi wi1 : TI} {fi fi1 : FI} {is is1 vs vs1 : List Nat} {g g1 : D → Env → Store → Res Env} {ft ft1 : FT} {fe : FE}
    (h1 : ∀ (σ : L2.St) (R : It → Hp → Prop) (w : Wd) (ρ : Env) (μ : Store), RelS K cls w μ → RelE K cls w ρ σ → PostR K cls w (WE W σ) (fun w' it => ∀ J, Wk K cls J w' it.1 it.2 → R J w'.H) (fi ρ μ) → wi σ w.H R)
    (h2 : ∀ (σ : L2.St) (R : It → Hp → Prop) (w : Wd) (ρ : Env) (μ : Store), RelS K cls w μ → RelE K cls w ρ σ → PostR K cls w E00 (fun w' it => ∀ J, Wk K cls J w' it.1 it.2 → R J w'.H) (fi1 ρ μ) → wi1 σ w.H R)
    (hs : is.all (vs.contains ·) = true) (hs1 : is1.all (vs1.contains ·) = true) {σ : L2.St} {Q : VK} {ρ : Env} (S : RelS K cls w μ) (E : RelE K cls w ρ σ) (h : PostR K cls w (WE W σ) (fun w' d => ∀ v, RV K cls w' d v → Q v w'.H) (eLc2 vs vs1 fi g ft fi1 g1 ft1 fe ρ μ)) :
    tLc2 wi (TGof K cls is g) (TTof K cls ft) wi1 (TGof K cls is1 g1) (TTof K cls ft1) (TEof K cls fe) vs vs1 σ w.H Q := by
  refine h1 σ _ w ρ μ S E ((PostR.bind h).imp fun w1 it s1 ⟨μ1, S1, q1⟩ J wk => ?_)
  obtain ⟨items, src⟩ := it
  have E1 := E.mono s1.kp
  intro p hp
  refine ⟨fun i m H => m = items.length - i ∧ i ≤ items.length ∧ ∃ (w' : Wd) (μ' : Store) (acc : List D) (us : List V), w'.H = H ∧ w'.B = p :: w1.B ∧ Step w1 ⟨w'.x, w'.ι, w1.B, w'.H⟩ ∧ RelS K cls w' μ' ∧ H p = some (.lst us) ∧
      RVs K cls w' acc us ∧ PostR K cls w1 (WE W σ) (fun w' d => ∀ v, RV K cls w' d v → Q v w'.H) (lcL2 items src g ft fi1 g1 ft1 fe vs1 (wipeE ρ vs) (items.drop i) μ' acc),
    ⟨items.length, by simp, Nat.zero_le _, ⟨w1.x, w1.ι, p :: w1.B, upd w1.H p (.lst [])⟩, μ1, [], [], rfl, rfl, step_new hp, S1.ban1 hp, upd_same, rfl, by simpa using q1⟩, ?_⟩
  rintro i m H ⟨rfl, hle, w', μ', acc, us, rfl, hB, st, S', hD, racc, q⟩
  have kp : Kp w1 w' := ⟨fun a o hi hb e => ⟨st.keep a o hi e, st.notin e hi, fun z => by
      rw [hB] at z
      rcases List.mem_cons.mp z with e1 | z
      · exact ne_of_none e hp e1
      · exact hb z⟩, fun n a e => st.loc e, st.exn⟩
  have E' := (E1.mono kp).wipe vs
  by_cases hlt : i < items.length
  · rw [List.drop_eq_getElem_cons hlt] at q
    simp only [lcL2] at q
    split at q
    · rename_i so
      obtain ⟨wd, _⟩ := wk i w' μ' kp S' so
      obtain ⟨go, yld⟩ := wd items[i] (List.getElem?_eq_getElem hlt)
      refine .inr ⟨go, fun H => ∃ (w' : Wd) (μ' : Store) (acc : List D) (us : List V), w'.H = H ∧ w'.B = p :: w1.B ∧ Step w1 ⟨w'.x, w'.ι, w1.B, w'.H⟩ ∧ RelS K cls w' μ' ∧ H p = some (.lst us) ∧
          RVs K cls w' acc us ∧ PostR K cls w1 (WE W σ) (fun w' d => ∀ v, RV K cls w' d v → Q v w'.H) (lcL2 items src g ft fi1 g1 ft1 fe vs1 (wipeE ρ vs) (items.drop (i + 1)) μ' acc), fun H z => ⟨_, by omega, rfl, hlt, z⟩, fun x H2 y => ?_⟩
      obtain ⟨w2, rfl, st2, S2, rx⟩ := yld x H2 y
      refine ⟨w2, wipeE ρ vs, μ', items[i], rfl, S2, E'.mono st2.kp, rx, (PostR.bind0 q).imp fun w3 ρ3 _ ⟨st3, μ3, S3, q3⟩ σ3 E3 off => ⟨wipe_off off hs, w3, ρ3, μ3, rfl, S3, E3, (PostR.bind0 q3).imp fun w4 b _ ⟨st4, μ4, S4, q4⟩ => ?_⟩⟩
      have st14 : Step w' w4 := (st2.trans st3).trans st4
      have stw := st.under st14
      have hpB : p ∈ w'.B := by rw [hB]; exact List.mem_cons_self
      cases b with
      | false =>
        refine iteF ?_
        exact ⟨w4, μ4, acc, us, rfl, st14.ban.trans hB, stw, S4, st14.keep p _ (S'.ban p hpB).1 hD, racc.mono st14.kp, by simpa using q4⟩
      | true =>
        refine iteT ?_
        simp only [if_true] at q4
        refine h2 σ3 _ w4 ρ3 μ4 S4 (E3.mono st4.kp) ((PostR.bind0 q4).imp fun w5 it1 _ ⟨st5, μ5, S5, q5⟩ J1 wk1 => ?_)
        obtain ⟨items1, src1⟩ := it1
        have st15 : Step w' w5 := st14.trans st5
        have E5 : RelE K cls w5 ρ3 σ3 := (E3.mono st4.kp).mono st5.kp
        have hB5 : w5.B = p :: w1.B := st15.ban.trans hB
        refine ⟨fun j k H => k = items1.length - j ∧ j ≤ items1.length ∧ ∃ (w' : Wd) (μ' : Store) (acc : List D) (us : List V), w'.H = H ∧ w'.B = p :: w1.B ∧ Kp w5 w' ∧ Step w1 ⟨w'.x, w'.ι, w1.B, w'.H⟩ ∧ RelS K cls w' μ' ∧ H p = some (.lst us) ∧
            RVs K cls w' acc us ∧ PostR K cls w1 (WE W σ) (fun w' d => ∀ v, RV K cls w' d v → Q v w'.H) ((lcL items1 src1 g1 ft1 fe (wipeE ρ3 vs1) (items1.drop j) μ' acc).bind fun d μ4 => match d with
              | .lst acc' => lcL2 items src g ft fi1 g1 ft1 fe vs1 (wipeE ρ vs) (items.drop (i + 1)) μ4 acc'
              | _ => .stuck),
          ⟨items1.length, by simp, Nat.zero_le _, w5, μ5, acc, us, rfl, hB5, Kp.refl', st.under st15, S5, st15.keep p _ (S'.ban p hpB).1 hD, racc.mono st15.kp, by simpa using q5⟩, ?_⟩
        rintro j k H ⟨rfl, hle1, w6, μ6, acc6, us6, rfl, hB6, kp6, stw6, S6, hD6, racc6, q6⟩
        have hp6 : p ∈ w6.B := by rw [hB6]; exact List.mem_cons_self
        have E6 := (E5.mono kp6).wipe vs1
        by_cases hlt1 : j < items1.length
        · rw [List.drop_eq_getElem_cons hlt1] at q6
          simp only [lcL] at q6
          split at q6
          · rename_i so1
            obtain ⟨wd1, _⟩ := wk1 j w6 μ6 kp6 S6 so1
            obtain ⟨go1, yld1⟩ := wd1 items1[j] (List.getElem?_eq_getElem hlt1)
            refine .inr ⟨go1, fun H => ∃ (w' : Wd) (μ' : Store) (acc : List D) (us : List V), w'.H = H ∧ w'.B = p :: w1.B ∧ Kp w5 w' ∧ Step w1 ⟨w'.x, w'.ι, w1.B, w'.H⟩ ∧ RelS K cls w' μ' ∧ H p = some (.lst us) ∧
                RVs K cls w' acc us ∧ PostR K cls w1 (WE W σ) (fun w' d => ∀ v, RV K cls w' d v → Q v w'.H) ((lcL items1 src1 g1 ft1 fe (wipeE ρ3 vs1) (items1.drop (j + 1)) μ' acc).bind fun d μ4 => match d with
                  | .lst acc' => lcL2 items src g ft fi1 g1 ft1 fe vs1 (wipeE ρ vs) (items.drop (i + 1)) μ4 acc'
                  | _ => .stuck), fun H z => ⟨_, by omega, rfl, hlt1, z⟩, fun x1 H7 y1 => ?_⟩
            obtain ⟨w7, rfl, st7, S7, rx7⟩ := yld1 x1 H7 y1
            have q6' : PostR K cls w1 (WE W σ) (fun w' d => ∀ v, RV K cls w' d v → Q v w'.H) ((g1 items1[j] (wipeE ρ3 vs1) μ6).mute.bind fun ρ1 μ1 => (ft1 ρ1 μ1).mute.bind fun b μ2 =>
                if b = true then (fe ρ1 μ2).mute.bind fun y μ3 => if acc6.length < LIM then (lcL items1 src1 g1 ft1 fe (wipeE ρ3 vs1) (items1.drop (j + 1)) μ3 (acc6 ++ [y])).bind fun d μ4 => match d with
                    | .lst acc' => lcL2 items src g ft fi1 g1 ft1 fe vs1 (wipeE ρ vs) (items.drop (i + 1)) μ4 acc'
                    | _ => .stuck
                  else .stuck
                else (lcL items1 src1 g1 ft1 fe (wipeE ρ3 vs1) (items1.drop (j + 1)) μ2 acc6).bind fun d μ4 => match d with
                  | .lst acc' => lcL2 items src g ft fi1 g1 ft1 fe vs1 (wipeE ρ vs) (items.drop (i + 1)) μ4 acc'
                  | _ => .stuck) := by
              cases hg1 : g1 items1[j] (wipeE ρ3 vs1) μ6 with
              | stuck => simpa [hg1, Res.mute] using q6
              | err _ _ _ _ => simpa [hg1, Res.mute] using q6
              | ok ρ1 μ1 =>
                simp only [hg1, Res.mute_ok, Res.bind_ok] at q6 ⊢
                cases hft : ft1 ρ1 μ1 with
                | stuck => simpa [hft, Res.mute] using q6
                | err _ _ _ _ => simpa [hft, Res.mute] using q6
                | ok b μ2 =>
                  simp only [hft, Res.mute_ok, Res.bind_ok] at q6 ⊢
                  cases b with
                  | false => simpa using q6
                  | true =>
                    simp only [if_true] at q6 ⊢
                    cases hfe : fe ρ1 μ2 with
                    | stuck => simpa [hfe, Res.mute] using q6
                    | err _ _ _ _ => simpa [hfe, Res.mute] using q6
                    | ok y μ3 =>
                      simp only [hfe, Res.mute_ok, Res.bind_ok] at q6 ⊢
                      by_cases hl : acc6.length < LIM
                      · simpa [hl] using q6
                      · simpa [hl] using q6
            refine ⟨w7, wipeE ρ3 vs1, μ6, items1[j], rfl, S7, E6.mono st7.kp, rx7, (PostR.bind0 q6').imp fun w8 ρ8 _ ⟨st8, μ8, S8, q8⟩ σ8 E8 off8 => ⟨wipe_off off8 hs1, w8, ρ8, μ8, rfl, S8, E8, (PostR.bind0 q8).imp fun w9 b9 _ ⟨st9, μ9, S9, q9⟩ => ?_⟩⟩
            have st69 : Step w6 w9 := (st7.trans st8).trans st9
            cases b9 with
            | false =>
              refine iteF ?_
              exact ⟨w9, μ9, acc6, us6, rfl, st69.ban.trans hB6, kp6.trans' st69.kp, stw6.under st69, S9, st69.keep p _ (S6.ban p hp6).1 hD6, racc6.mono st69.kp, by simpa using q9⟩
            | true =>
              refine iteT ?_
              simp only [if_true] at q9
              refine ⟨w9, ρ8, μ9, rfl, S9, E8.mono st9.kp, (PostR.bind0 q9).imp fun wa y _ ⟨sta, μa, Sa, qa⟩ v rv => ?_⟩
              have st6a : Step w6 wa := st69.trans sta
              split at qa
              · rename_i hl
                have hBa : wa.B = p :: w1.B := st6a.ban.trans hB6
                have hpa : p ∈ wa.B := by rw [hBa]; exact List.mem_cons_self
                refine ⟨us6, st6a.keep p _ (S6.ban p hp6).1 hD6, by rw [racc6.length]; exact lim_lt hl, ⟨wa.x, wa.ι, wa.B, upd wa.H p (.lst (us6 ++ [v]))⟩, μa, acc6 ++ [y], us6 ++ [v], rfl, hBa, (kp6.trans' st6a.kp).trans' (kp_bump hpa), (stw6.under st6a).bumped hp, Sa.bump hpa, upd_same, ?_, qa⟩
                exact ((racc6.mono st6a.kp).append (.cons rv .nil)).mono (kp_bump hpa)
              · exact qa.elim
          · exact q6.elim
        · have e : j = items1.length := by omega
          subst e
          rw [List.drop_length] at q6
          simp only [lcL] at q6
          split at q6
          · rename_i so1
            obtain ⟨_, stop⟩ := wk1 items1.length w6 μ6 kp6 S6 so1
            exact .inl ⟨stop (Nat.le_refl _), w6, μ6, acc6, us6, rfl, hB6, stw6, S6, hD6, racc6, q6⟩
          · exact q6.elim
    · exact q.elim
  · have e : i = items.length := by omega
    subst e
    rw [List.drop_length] at q
    simp only [lcL2] at q
    split at q
    · rename_i so
      obtain ⟨_, stop⟩ := wk items.length w' μ' kp S' so
      refine .inl ⟨stop (Nat.le_refl _), q ⟨w'.x, w'.ι, w1.B, w'.H⟩ st (S'.unban hB) _ ⟨p, us, rfl, ⟨hD, (S'.ban p (by rw [hB]; exact List.mem_cons_self)).1, (S1.free hp).2⟩, racc.unban hB⟩⟩
    · exact q.elim
end
def TIof (K : PySem.W.Frag) (cls : Nat → Option Addr) (f : FI) : TI := fun σ H R => ∃ (w : Wd) (ρ : Env) (μ : Store), w.H = H ∧ RelS K cls w μ ∧ RelE K cls w ρ σ ∧ PostR K cls w E00 (fun w' it => ∀ J, Wk K cls J w' it.1 it.2 → R J w'.H) (f ρ μ)
section
variable {X : Cx} {W : WX} {cls : Nat → Option Addr} {elt tg iter tg1 iter1 : Expr} {ifs ifs1 : List Expr} {scope : Scope} {own : List (Str × Nat)} {vs1 : List Nat} {pos : Pos} {is is1 : List Nat} {fi fi1 : FI} {g g1 : D → Env → Store → Res Env} {ft ft1 : FT} {fe : FE}
theorem SI.pi (h : SI X W0 cls tg iter fi) : PI X tg iter (TIof X.K cls fi) := by
  obtain ⟨t, p, k⟩ := h
  refine ⟨fun pins s σ H R I z => ?_⟩
  obtain ⟨w, ρ, μ, rfl, S, E, q⟩ := z
  exact p.run pins s σ w.H R I (k σ R w ρ μ S E q)
theorem se_lc2 (vs1 : List Nat) (hc : X.calm = true) (hN : X.N.Nodup) (hi : SI X W cls tg iter fi) (ok : BlkOk X.N X.env.scope scope own)
    (hg : ∀ (s : Shared) (H : Hp) (C : Addr) (cl : List (Str × Addr)) (fp : List Addr), SG (X.blk s H scope (compEnvC scope cl C X.env) fp) cls tg is g) (ht : ∀ (s : Shared) (H : Hp) (C : Addr) (cl : List (Str × Addr)) (fp : List Addr), STs (X.blk s H scope (compEnvC scope cl C X.env) fp) cls ifs ft)
    (hi1 : ∀ (s : Shared) (H : Hp) (C : Addr) (cl : List (Str × Addr)) (fp : List Addr), SI (X.blk s H scope (compEnvC scope cl C X.env) fp) W0 cls tg1 iter1 fi1)
    (hg1 : ∀ (s : Shared) (H : Hp) (C : Addr) (cl : List (Str × Addr)) (fp : List Addr), SG (X.blk s H scope (compEnvC scope cl C X.env) fp) cls tg1 is1 g1) (ht1 : ∀ (s : Shared) (H : Hp) (C : Addr) (cl : List (Str × Addr)) (fp : List Addr), STs (X.blk s H scope (compEnvC scope cl C X.env) fp) cls ifs1 ft1)
    (he : ∀ (s : Shared) (H : Hp) (C : Addr) (cl : List (Str × Addr)) (fp : List Addr), SE (X.blk s H scope (compEnvC scope cl C X.env) fp) W0 cls elt fe) (hv : vs1.all ((own.map (·.2)).contains ·) = true := by decide) (hs : is.all ((own.map (·.2)).contains ·) = true := by decide) (hs1 : is1.all (vs1.contains ·) = true := by decide)
    (hf : ∀ x, foldedSetIterable iter X.env x = pure x := by intro _; rfl) (hf1 : ∀ env x, foldedSetIterable iter1 env x = pure x := by intro _ _; rfl) :
    SE X W cls (.ListComp elt [⟨tg, iter, ifs, 0⟩, ⟨tg1, iter1, ifs1, 0⟩] scope pos) (eLc2 (own.map (·.2)) vs1 fi g ft fi1 g1 ft1 fe) := by
  obtain ⟨t1, p1, h1⟩ := hi
  exact ⟨_, pe_lc2 (g := TGof X.K cls is g) (tt := TTof X.K cls ft) (te := TEof X.K cls fe) (wi1 := TIof X.K cls fi1) (g1 := TGof X.K cls is1 g1) (tt1 := TTof X.K cls ft1) (vs1 := vs1) hc hN p1 ok (fun i hi => by have := List.all_eq_true.mp hv i hi; simpa using this) (fun s H C cl fp => (hg s H C cl fp).pg) ht (fun s H C cl fp => (hi1 s H C cl fp).pi) (fun s H C cl fp => (hg1 s H C cl fp).pg) ht1 (fun s H C cl fp => (he s H C cl fp).pe) hf hf1,
    fun σ Q w ρ μ S E h => lc2_ok h1 (fun σ R w ρ μ S E z => ⟨w, ρ, μ, rfl, S, E, z⟩) hs hs1 S E h⟩
theorem ss_setLc2 (vs1 : List Nat) {i : Nat} {y : Str} {py spos : Pos} (hc : X.calm = true) (hN : X.N.Nodup) (hy : X.N[i]? = some y) (hyl : X.env.scope.names.lookup y = some .local) (hsw : swapsWith (.ListComp elt [⟨tg, iter, ifs, 0⟩, ⟨tg1, iter1, ifs1, 0⟩] scope pos) (some (.Name y py)) spos.line X.env = pure true)
    (hi : SI X W cls tg iter fi) (ok : BlkOk X.N X.env.scope scope own)
    (hg : ∀ (s : Shared) (H : Hp) (C : Addr) (cl : List (Str × Addr)) (fp : List Addr), SG (X.blk s H scope (compEnvC scope cl C X.env) fp) cls tg is g) (ht : ∀ (s : Shared) (H : Hp) (C : Addr) (cl : List (Str × Addr)) (fp : List Addr), STs (X.blk s H scope (compEnvC scope cl C X.env) fp) cls ifs ft)
    (hi1 : ∀ (s : Shared) (H : Hp) (C : Addr) (cl : List (Str × Addr)) (fp : List Addr), SI (X.blk s H scope (compEnvC scope cl C X.env) fp) W0 cls tg1 iter1 fi1)
    (hg1 : ∀ (s : Shared) (H : Hp) (C : Addr) (cl : List (Str × Addr)) (fp : List Addr), SG (X.blk s H scope (compEnvC scope cl C X.env) fp) cls tg1 is1 g1) (ht1 : ∀ (s : Shared) (H : Hp) (C : Addr) (cl : List (Str × Addr)) (fp : List Addr), STs (X.blk s H scope (compEnvC scope cl C X.env) fp) cls ifs1 ft1)
    (he : ∀ (s : Shared) (H : Hp) (C : Addr) (cl : List (Str × Addr)) (fp : List Addr), SE (X.blk s H scope (compEnvC scope cl C X.env) fp) W0 cls elt fe) (hv : vs1.all ((own.map (·.2)).contains ·) = true := by decide) (hs : is.all ((own.map (·.2)).contains ·) = true := by decide) (hs1 : is1.all (vs1.contains ·) = true := by decide)
    (hf : ∀ x, foldedSetIterable iter X.env x = pure x := by intro _; rfl) (hf1 : ∀ env x, foldedSetIterable iter1 env x = pure x := by intro _ _; rfl) :
    SS X W cls (.Assign [.Name y py] (.ListComp elt [⟨tg, iter, ifs, 0⟩, ⟨tg1, iter1, ifs1, 0⟩] scope pos) spos) (sAsg (gVar i) (eLc2 (own.map (·.2)) vs1 fi g ft fi1 g1 ft1 fe)) := by
  obtain ⟨t1, p1, h1⟩ := hi
  refine ⟨_, ps_setLc2 (g := TGof X.K cls is g) (tt := TTof X.K cls ft) (te := TEof X.K cls fe) (wi1 := TIof X.K cls fi1) (g1 := TGof X.K cls is1 g1) (tt1 := TTof X.K cls ft1) (vs1 := vs1) hc hN hy hyl hsw p1 ok (fun i hi => by have := List.all_eq_true.mp hv i hi; simpa using this) (fun s H C cl fp => (hg s H C cl fp).pg) ht (fun s H C cl fp => (hi1 s H C cl fp).pi) (fun s H C cl fp => (hg1 s H C cl fp).pg) ht1 (fun s H C cl fp => (he s H C cl fp).pe) hf hf1, fun D σ w ρ μ S E h => ?_⟩
  refine lc2_ok (Q := fun x H1 => L2.gName i x σ H1 D.nx) h1 (fun σ R w ρ μ S E z => ⟨w, ρ, μ, rfl, S, E, z⟩) hs hs1 S E ((PostS.bind E h).imp fun w1 d s1 ⟨μ1, S1, q1⟩ v r1 => ?_)
  unfold gVar at q1
  split at q1
  · exact q1 w1 _ Step.refl S1 ((E.mono s1.kp).set r1)
  · exact q1.elim
end
end Fw

set_option Elab.async false
set_option linter.all false
set_option maxRecDepth 100000
set_option autoImplicit false
/-! A range that goes down, x -= e. -/
namespace Fw
open PySem L2 PyProof.Rows
section
variable {K : PySem.W.Frag} {cls : Nat → Option Addr} {w : Wd}
theorem wk_rangeC {lo c : Int} {n : Nat} : Wk K cls (Itc lo c n) w ((List.range n).map fun i => .int (lo + (i : Nat) * c)) none := by
  intro i w' μ' k S' so
  refine ⟨fun d hd => ?_, fun hi => ?_⟩
  · rw [List.getElem?_map, Option.map_eq_some_iff] at hd
    obtain ⟨m, hm, rfl⟩ := hd
    obtain ⟨hi, e⟩ := List.getElem?_eq_some_iff.mp hm
    rw [List.length_range] at hi
    rw [List.getElem_range] at e
    subst e
    exact ⟨hi, fun x H2 ⟨e, h2⟩ => ⟨w', e.symm, Step.refl, S', h2⟩⟩
  · rw [List.length_map, List.length_range] at hi
    exact hi
end
section
variable {X : Cx} {W : WX} {cls : Nat → Option Addr} {tg a b c e : Expr} {fa fb fe : FE} {p pos : Pos}
/-- range(a, b, -1) -/
def iDown (fa fb : FE) : FI := fun ρ μ => (fa ρ μ).bind fun d μ1 => (fb ρ μ1).bind fun e μ2 => match d, e with
  | .int i, .int j => if -1000000 ≤ i ∧ i ≤ 1000000 ∧ -1000000 ≤ j ∧ j ≤ 1000000 then .ok ((List.range (i - j).toNat).map fun k => .int (i + (k : Nat) * (-1)), none) μ2 else .stuck
  | _, _ => .stuck
theorem pe_minus1 {j1 p1 p2} : PE X (.UnaryOp .USub (.Constant (.int 1) j1 p1) p2) (tC (.int (-1))) := ⟨fun pins s σ H Q I h => (pe_un un_neg (pe_int (X := X) (i := 1) (j := j1) (pos := p1))).run pins s σ H Q I ⟨1, rfl, h⟩⟩
theorem si_down {j1 p1 p2} (hg : Gl X "range") (hm : X.mg "range" = none) (ha : SE X W cls a fa) (hb : SE X W cls b fb)
    (hs : starEach [a, b, .UnaryOp .USub (.Constant (.int 1) j1 p1) p2] X.env = [(false, eval a X.env), (false, eval b X.env), (false, eval (.UnaryOp .USub (.Constant (.int 1) j1 p1) p2) X.env)] := by rfl)
    (hs2 : starEach [b, .UnaryOp .USub (.Constant (.int 1) j1 p1) p2] X.env = [(false, eval b X.env), (false, eval (.UnaryOp .USub (.Constant (.int 1) j1 p1) p2) X.env)] := by rfl)
    (hs3 : starEach [.UnaryOp .USub (.Constant (.int 1) j1 p1) p2] X.env = [(false, eval (.UnaryOp .USub (.Constant (.int 1) j1 p1) p2) X.env)] := by rfl) :
    SI X W cls tg (.Call (.Name "range" p) [a, b, .UnaryOp .USub (.Constant (.int 1) j1 p1) p2] [] pos) (iDown fa fb) := by
  obtain ⟨t, q1, k⟩ := ha
  obtain ⟨t2, q2, k2⟩ := hb
  refine ⟨_, pi_range3 hg hm (pa_cons q1 (pa_cons q2 (pa_cons pe_minus1 pa_nil hs3) (by rw [hs2, hs3])) (by rw [hs, hs2])) (by rw [hs, hs2]) (by rw [hs2]; rfl), fun σ R w ρ μ S E h => ?_⟩
  refine k σ _ w ρ μ S E ((PostR.bind h).imp fun w1 d s1 ⟨μ1, S1, q1⟩ v r1 => ?_)
  refine k2 σ _ w1 ρ μ1 S1 (E.mono s1.kp) ((PostR.bind q1).imp fun w2 d2 s2 ⟨μ2, S2, q2⟩ v2 r2 => ?_)
  cases d with
  | int i =>
    cases d2 with
    | int j =>
      simp only at q2
      split at q2
      · exact ⟨i, j, -1, (i - j).toNat, by rw [show v = V.int i from r1, show v2 = V.int j from r2], RgC.neg (by omega) (by omega) (by omega) (by omega), q2 w2 Step.refl S2 _ wk_rangeC⟩
      · exact q2.elim
    | _ => exact q2.elim
  | _ => cases d2 <;> exact q2.elim
/-- ints: x -= e -/
def oSubI : D → D → Store → Res D := fun d e μ => match d, e with
  | .int i, .int j => .ok (.int (i - j)) μ
  | _, _ => .stuck
theorem ss_augSub (i : Nat) {x : Str} {pos' : Pos} (hN : X.N.Nodup) (he : SE X W cls e fe) (hi : X.N[i]? = some x := by rfl) (hx : Loc X.env.scope x := by first | exact .inl rfl | exact .inr rfl)
    (hf : X.fn x = true ∨ X.env.scope.names.lookup x = some .local := by first | exact .inl rfl | exact .inr rfl) :
    SS X W cls (.AugAssign (.Name x pos') .Sub e pos) (sAug i oSubI fe) := by
  obtain ⟨t1, p1, h1⟩ := he
  refine ⟨_, ps_aug hN hi hx p1 ip_sub hf, fun D σ w ρ μ S E h => ?_⟩
  unfold sAug at h
  split at h
  · rename_i d hd
    obtain ⟨v, e1, r⟩ := E.2 i d hd
    refine ⟨v, e1, h1 σ _ w ρ μ S E ((PostS.bind E h).imp fun w1 y s1 ⟨μ1, S1, q1⟩ u r1 => ?_)⟩
    have r := r.mono s1.kp
    cases d with
    | int i =>
      cases y with
      | int j =>
        refine ⟨i, j, r, r1, ?_⟩
        simp only [oSubI, rS_ok] at q1
        split at q1
        · exact q1 w1 _ Step.refl S1 ((E.mono s1.kp).set rfl)
        · exact q1.elim
      | _ => exact q1.elim
    | _ => cases y <;> exact q1.elim
  · exact h.elim
end
end Fw

set_option Elab.async false
set_option linter.all false
set_option maxRecDepth 100000
set_option autoImplicit false
/-! set(xs) of a list or a tuple, whatever is told of the set while it is filled. -/
namespace Fw
open PySem PySem.Spec PyProof.Rows L2
/-- the set that is made first -/
abbrev eS (w : World) : Obj := { cls := .type "set", dict := none, data := .set #[] 0 (.fresh 0 0 (!w.params.followText "set-order")) }
section
variable {P : Program} {w : World} {A : Around} {s : Shared}
/-- one turn of the loop by which a set is filled -/
abbrev updCode (S I : Addr) : Code := .builtin "set.update.loop" ⟨[.ref S, .ref I], []⟩
/-- a type of the language is called, by the runs of its __new__ and its __init__ -/
theorem type_call {T newId initId : String} {args : List Value} {Q Q1 E : Value → Shared → Prop} (ft : TypeCalled T newId initId) (hct : checkTypeCall T ⟨args, []⟩ = pure ())
    (new : codeAny (model P w) A.in1 (.call (.builtin newId) ⟨.type T :: args, []⟩) (wants Q1 E) s)
    (init : ∀ o s1, Q1 o s1 → s1.TypeIs o T ∧ codeAny (model P w) A.in1 (.call (.builtin initId) ⟨o :: args, []⟩) (wants (fun r s2 => r = .none ∧ Q o s2) E) s1) :
    wpAny (model P w) A (call (.type T) args) Q E s := by
  have ⟨c0, t0, mro⟩ := ft.mro
  have made := ft.made
  have sub := ft.sub
  have f1 := ft.notType
  have f2 := ft.canCreate
  refine wpAny_call (codeAny_of_tree (show wpAny _ _ (callAny (.type T) _) _ _ _ from wpAny_pure ⟨Code.quiet_builtin _ (by decide +kernel), codeAny_builtin F.entry_type_call ?_⟩))
  have under := Around.under_plain (A := A) (weight_type_call_type T args []) (units_type_call_type T args [])
  rw [under]
  repeat any_goals first | assumption | wp_step
  refine codeAny_mono new fun r s1 q => ?_
  match r, q with
  | .error _, q => exact q
  | .ok (.ret o), q =>
    have ⟨ty, go⟩ := init o s1 q
    have f3 := ft.init.lookup
    have f4 := ft.init.bind o
    repeat any_goals first | assumption | wp_step
    refine codeAny_mono go fun r s2 q => ?_
    match r, q with
    | .error _, q => exact q
    | .ok (.ret _), ⟨rfl, q⟩ =>
      repeat any_goals first | assumption | wp_step
theorem set_init {S l : Addr} {o : Obj} {T : String} {Q E : Value → Shared → Prop} (made : s.heap.get? S = some (eS w)) (hl : s.heap.get? l = some o) (ct : o.cls = .type T)
    (k1 : isSubtype (.type T) (.type "set") = pure false) (k2 : isSubtype (.type T) (.type "frozenset") = pure false) (k3 : (Value.type T == Value.type "dict") = false)
    (h : wpAny (model P w) A.in1 (pyIter (.ref l)) (fun it s2 => codeAny (model P w) A.in1 (.builtin "set.update.loop" ⟨[.ref S, it], []⟩) (wants (fun _ s3 => Q .none s3) E) s2) E s) :
    codeAny (model P w) A (.call (.builtin "set.__init__") ⟨[.ref S, .ref l], []⟩) (wants Q E) s := by
  refine codeAny_call_builtin F.called_set.init.plain F.entry_set_init (check_set_init_1 (show s.TypeIs (.ref S) "set" from ⟨_, made, rfl⟩) ?_)
  have whole : o = { cls := .type T, dict := o.dict, data := o.data, slots := o.slots } := by rw [← ct]
  rw [whole] at hl
  unfold Builtin.«set.__init__» Builtin.Frozenset.updateFrom noKeywords
  generalize hIt : pyIter = It0
  wp_walk
  subst hIt
  refine wpAny_mono h (fun it s2 q => wpAny_bind (wpAny_runValue (codeAny_mono q fun r s3 q3 => ?_))) fun _ _ q => q
  match r, q3 with
  | .error _, q3 => exact q3
  | .ok (.ret _), q3 => exact wpAny_pure (wpAny_pure q3)

/-- how v is put into the set at S: Kn i is known of the set's object when i values were taken -/
structure Fills (P : Program) (w : World) (S : Addr) (n : Nat) (Pv : Nat → Value → Prop) (Kn : Nat → Obj → Prop) : Prop where
  add : ∀ (i : Nat) (v : Value), i < n → Pv i v → ∀ (A : Around) (E : Value → Shared → Prop) (Q : Bool → Shared → Prop) (s : Shared) (o : Obj), s.heap.get? S = some o → Kn i o →
    (∀ b h' tk o', Heap.SameBut S s.heap h' → s.toks ≤ tk → h'.get? S = some o' → Kn (i + 1) o' → Q b { s with heap := h', toks := tk }) → wpAny (model P w) A (setAdd S v) Q E s
theorem upd_turn {S I : Addr} {R : Result → Shared → Prop} (h : wpAny (model P w) A.in1 (pyNext (.ref I)) (fun r s1 => match r with
      | none => R (.ok (.ret .none)) s1
      | some v => wpAny (model P w) A.in1 (setAdd S v) (fun _ s2 => codeAny (model P w) A (updCode S I) R s2) (fun e s2 => R (.error e) s2) s1) (fun e s1 => R (.error e) s1) s) :
    codeAny (model P w) A (updCode S I) R s := by
  have quiet := plainId_quiet F.plain_set_update_loop
  refine codeAny_builtin F.entry_set_update_loop (Around.under_plainId F.plain_set_update_loop _ ▸ ?_)
  unfold Builtin.«set.update.loop»
  refine wpAny_bind (wpAny_mono h (fun r s1 q => ?_) fun _ _ q => q)
  match r, q with
  | none, q => exact wpAny_pure q
  | some v, q => exact wpAny_bind (wpAny_holding (wpAny_mono q (fun _ _ q => wpAny_pure ⟨quiet _, q⟩) fun _ _ q => q))
theorem Fills.loop {S I : Addr} {fp wr : List Addr} {n : Nat} {Pv : Nat → Value → Prop} {St : Nat → Shared → Prop} {G : Array GenState → Array GenState → Prop} {Kn : Nat → Obj → Prop} {R : Result → Shared → Prop} (F : Fills P w S n Pv Kn)
    (W : WalksS P w A.in1 I fp wr G n Pv St) (off : S ∉ fp) : ∀ (m i : Nat) {s : Shared} {o : Obj}, i + m = n → St i s → s.heap.get? S = some o → Kn i o →
    (∀ s' o', Moved (S :: wr) G s s' → s'.heap.get? S = some o' → Kn n o' → R (.ok (.ret .none)) s') → codeAny (model P w) A (updCode S I) R s
  | 0, i, s, o, hi, st, hS, kn, fin => by
    obtain rfl : i = n := hi
    exact upd_turn (W.done s _ _ st fun s1 m => fin s1 o (m.mono fun _ => .tail _) (m.heap S o (fun z => off (W.sub _ z)) hS) kn)
  | m + 1, i, s, o, hi, st, hS, kn, fin => by
    refine upd_turn (W.item i s _ _ (by omega) st fun v s1 hv st1 m1 => ?_)
    refine F.add i v (by omega) hv _ _ _ s1 o (m1.heap S o (fun z => off (W.sub _ z)) hS) kn fun b h2 tk o2 same up hS2 kn2 => ?_
    refine F.loop W off m (i + 1) (by omega) (W.frame _ s1 h2 tk st1 up fun b hb o q => (same.2 b fun z => off (z ▸ hb)).trans q) hS2 kn2 fun s3 o3 m3 => fin s3 o3 (Moved.trans W.gtrans (Moved.then_heap (m1.mono fun _ => .tail _) up fun b o nb q => (same.2 b fun z => nb (z ▸ .head _)).trans q) m3)
/-- set(xs), where xs is walked -/
theorem set_call {l : Addr} {o : Obj} {T : String} {n : Nat} {Pv : Nat → Value → Prop} {Kn : Nat → Obj → Prop} {Q E : Value → Shared → Prop} (hl : s.heap.get? l = some o) (ct : o.cls = .type T)
    (k1 : isSubtype (.type T) (.type "set") = pure false) (k2 : isSubtype (.type T) (.type "frozenset") = pure false) (k3 : (Value.type T == Value.type "dict") = false)
    (walk : ∀ (h0 : Heap) (s1 : Shared) {R : Value → Shared → Prop}, s1 = { s with heap := h0 } → (∀ b o, s.heap.get? b = some o → h0.get? b = some o) → h0.objs.size = s.heap.objs.size + 1 →
      (∀ (I : Addr) (fp wr : List Addr) (St : Nat → Shared → Prop) (s2 : Shared), WalksS P w A.in1.in1.in1 I fp wr (fun a b => b = a) n Pv St → St 0 s2 → s.heap.objs.size ∉ fp → Moved wr (fun a b => b = a) s1 s2 →
        (∀ b ∈ wr, s.heap.objs.size < b) → R (.ref I) s2) → wpAny (model P w) A.in1.in1 (pyIter (.ref l)) R E s1)
    (fl : Fills P w s.heap.objs.size n Pv Kn) (k0 : Kn 0 (eS w))
    (h : ∀ (h' : Heap) (tk : Nat) (o' : Obj), h'.get? s.heap.objs.size = some o' → Kn n o' → (∀ b o, s.heap.get? b = some o → h'.get? b = some o) → Q (.ref s.heap.objs.size) { s with heap := h', toks := tk }) : wpAny (model P w) A (call (.type "set") [.ref l]) Q E s := by
  have made : (s.heap.push (eS w)).get? s.heap.objs.size = some (eS w) := Heap.get?_push_size _ rfl
  have old : ∀ b o, s.heap.get? b = some o → (s.heap.push (eS w)).get? b = some o := fun b o q => Heap.get?_push_of_some _ q
  refine type_call F.called_set (F.typeCall_set_1 (.ref l)) (Q1 := fun v z => v = .ref s.heap.objs.size ∧ z = { s with heap := s.heap.push (eS w) }) (code_set_led1 (.ref l) ⟨rfl, rfl⟩) fun v z ⟨hv, hz⟩ => ?_
  subst hv hz
  refine ⟨⟨_, made, rfl⟩, set_init made (old l o hl) ct k1 k2 k3 (walk _ _ rfl old (Heap.size_push ..) fun I fp wr St s2 W st off mv new => ?_)⟩
  refine fl.loop W off n 0 (by omega) st (mv.heap _ _ (fun z => Nat.lt_irrefl _ (new _ z)) made) k0 fun s3 o3 m3 hS3 kn3 => ⟨rfl, ?_⟩
  have m := (Moved.mono mv fun b => List.mem_cons_of_mem s.heap.objs.size).trans W.gtrans m3
  rw [m.eq_with]
  refine h s3.heap s3.toks o3 hS3 kn3 fun b o q => m.heap b o (fun z => ?_) (old b o q)
  · have lt := Heap.lt_size q
    exact (List.mem_cons.mp z).elim (fun z => Nat.lt_irrefl _ (z ▸ lt)) fun z => Nat.lt_asymm lt (new b z)
theorem set_of {l : Addr} {items : Array Value} {Kn : Nat → Obj → Prop} {Q E : Value → Shared → Prop} (nh : A.handled = none) (hl : s.heap.IsList l items ∨ s.heap.IsTuple l items)
    (fl : Fills P w s.heap.objs.size items.size (fun i v => items[i]? = some v) Kn) (k0 : Kn 0 (eS w))
    (h : ∀ (h' : Heap) (tk : Nat) (o' : Obj), h'.get? s.heap.objs.size = some o' → Kn items.size o' → (∀ b o, s.heap.get? b = some o → h'.get? b = some o) → Q (.ref s.heap.objs.size) { s with heap := h', toks := tk }) : wpAny (model P w) A (call (.type "set") [.ref l]) Q E s := by
  have lt : l < s.heap.objs.size := by rcases hl with ⟨_, q, _⟩ | ⟨_, q, _⟩ <;> exact Heap.lt_size q
  -- the iterator lies behind the set
  have apart : ∀ {s1 : Shared}, s1.heap.objs.size = s.heap.objs.size + 1 → s.heap.objs.size ∉ [s1.heap.objs.size, l] ∧ ∀ b ∈ [s1.heap.objs.size], s.heap.objs.size < b := fun {s1} z => by
    rw [z]
    refine ⟨fun m => ?_, fun b m => by rw [List.mem_singleton.mp m]; exact Nat.lt_succ_self _⟩
    rw [List.mem_cons, List.mem_singleton] at m
    exact m.elim (fun e => absurd e (Nat.ne_of_lt (Nat.lt_succ_self _))) fun e => absurd e (Nat.ne_of_gt lt)
  rcases hl with hl | hl
  all_goals obtain ⟨o, q, c, more⟩ := id hl
  · refine set_call q c F.sub_list_set F.sub_list_frozenset (by decide) (fun h0 s1 R e old z go => ?_) fl k0 h
    subst e
    refine wpAny_of_in1 (PySem.W.iter_listW (A := A.in1.in1.in1) (by simp [nh]) ⟨o, old l o q, c, more⟩ fun s2 e W st _ new k => ?_)
    exact go _ _ _ _ s2 W st (apart z).1 (e ▸ ⟨fun b o _ q => by rw [← e]; exact k b o q, rfl, rfl, rfl, Nat.le_refl _⟩) (apart z).2
  · refine set_call q c (by rw [isSubtype_type]; kernel_rfl) (by rw [isSubtype_type]; kernel_rfl) (by decide) (fun h0 s1 R e old z go => ?_) fl k0 h
    subst e
    refine wpAny_of_in1 (PySem.W.iter_tupleW (A := A.in1.in1.in1) (by simp [nh]) ⟨o, old l o q, c, more⟩ fun s2 e W st _ new k => ?_)
    exact go _ _ _ _ s2 W st (apart z).1 (e ▸ ⟨fun b o _ q => by rw [← e]; exact k b o q, rfl, rfl, rfl, Nat.le_refl _⟩) (apart z).2
end
end Fw

set_option Elab.async false
set_option linter.all false
set_option maxRecDepth 100000
set_option autoImplicit false
/-! sorted(set(xs)) of a list of whole numbers. -/
namespace Fw
open PySem PySem.Spec PyProof.Rows L2
section
variable {P : Program} {w : World} {A : Around} {s : Shared}
theorem setAdd_of {K : Type} [DecidableEq K] (kd : PySem.KeyKind P w K) {a : Addr} {k : K} {x : Value} {Q : Bool → Shared → Prop} {E : Value → Shared → Prop} (hk : kd.is k x = true)
    (h : wpAny (model P w) A (setAddHashed a x (kd.hash k)) Q E { s with toks := s.toks + 1 }) : wpAny (model P w) A (setAdd a x) Q E s := by
  unfold setAdd
  exact wpAny_holding (wpAny_bind (kd.pyHash hk h))
/-- the first whole numbers are in -/
def KnI (w : World) (a : Addr) (ns : List Int) (i : Nat) (o : Obj) : Prop := ∃ h c, h.get? a = some o ∧ SetR w h a (fun j => decide (j ∈ ns.take i)) c ∧ c ≤ i
theorem fills_ints {a : Addr} {items : Array Value} (ns : List Int) (hi : IntsAre items.toList ns) (room : ns.length + 1 < scanBound) : Fills P w a items.size (fun i v => items[i]? = some v) (KnI w a ns) where
  add i v lt hv A E Q s o ho kn q := by
    obtain ⟨h, c, at_, R, le⟩ := kn
    have many : items.size = ns.length := by rw [← Array.length_toList]; exact hi.length
    obtain ⟨t, rfl⟩ := hi.int_at i v (by rw [Array.getElem?_toList]; exact hv)
    have R0 : SetR w s.heap a (fun j => decide (j ∈ ns.take i)) c := R.at fun o' e => by rw [ho, ← e, at_]
    refine setAdd_of (intKind P w) (intKind_is P w _ _) (setR_add_hashed (s := { s with toks := s.toks + 1 }) R0 (by omega) fun h' same R1 => ?_)
    obtain ⟨o', ho'⟩ : ∃ o', h'.get? a = some o' := by obtain ⟨o', _, _, _, e, _⟩ := R1; exact ⟨o', e⟩
    refine q _ h' _ o' same (Nat.le_succ _) ho' ⟨h', _, ho', R1.congr fun k => ?_, by split <;> omega⟩
    have one : ns.take (i + 1) = ns.take i ++ [ns.getD i 0] := by rw [List.take_add_one, List.getD_eq_getElem?_getD, List.getElem?_eq_getElem (many ▸ lt)]; rfl
    simp only [one, List.mem_append, List.mem_singleton, Bool.decide_or]
theorem set_of_list {l : Addr} {items : Array Value} (ns : List Int) {Q E : Value → Shared → Prop} (nh : A.handled = none) (hl : s.heap.IsList l items) (hi : IntsAre items.toList ns) (room : ns.length + 1 < scanBound)
    (h : ∀ (h' : Heap) (tk c : Nat), SetR w h' s.heap.objs.size (fun j => decide (j ∈ ns)) c → c ≤ ns.length →
      (∀ b o, s.heap.get? b = some o → h'.get? b = some o) → Q (.ref s.heap.objs.size) { s with heap := h', toks := tk }) : wpAny (model P w) A (call (.type "set") [.ref l]) Q E s := by
  have many : items.size = ns.length := by rw [← Array.length_toList]; exact hi.length
  have first : (s.heap.push (eS w)).get? s.heap.objs.size = some (eS w) := Heap.get?_push_size _ rfl
  refine set_of nh (.inl hl) (fills_ints ns hi room) ⟨_, 0, first, setR_new_at first, Nat.zero_le _⟩ fun h' tk o' ho ⟨h1, c, e, R, le⟩ old => ?_
  rw [many, List.take_length] at R
  exact h h' tk c (R.at fun o2 e2 => by rw [ho, ← e2, e]) (many ▸ le) old
end
section
variable {X : Cx}
def rSetL (K : PySem.W.Frag) (w : World) : List V → Hp → VK → Prop := fun xs H Q => ∃ (l : Addr) (ns : List Int), xs = [V.ref l] ∧ SqL K H l (ns.map V.int) ∧ ns.length < 64 ∧
  ∀ a n, H a = none → n ≤ ns.length → Q (.ref a) (upd H a (SetO w a (fun j => decide (j ∈ ns)) n))
theorem cr_setL (hc : X.calm = true) : CallR X (.type "set") (rSetL X.K X.w) := by
  intro pins s σ H xs us Q I r h
  obtain ⟨l, ns, rfl, hl, h64, q⟩ := h
  rw [Vals.ref1 r]
  obtain ⟨its, rv, pl, hz⟩ := I.list hl
  refine set_of_list (P := X.prog) (w := X.w) ns (I.ok.hd hc) pl.isList (ints_of_vals rv) (by unfold scanBound; omega) fun h' tk c R hcn k => ?_
  exact ⟨.ref s.heap.objs.size, upd H s.heap.objs.size (SetO X.w s.heap.objs.size (fun j => decide (j ∈ ns)) c), I.laid (t' := tk) k (Nat.le_refl _) (setO_new R), rfl, q _ c (I.hok.fresh (Nat.le_refl _)) hcn⟩
end

/-! ### the members of a list of whole numbers, ascending -/
def insS (x : Int) : List Int → List Int
  | [] => [x]
  | y :: r => if x < y then x :: y :: r else if x = y then y :: r else y :: insS x r
def sset (is : List Int) : List Int := is.foldr insS []
theorem mem_insS {x z : Int} : ∀ {l : List Int}, z ∈ insS x l ↔ z = x ∨ z ∈ l
  | [] => by simp [insS]
  | y :: r => by
    unfold insS
    split
    · simp
    · split
      · rename_i h
        subst h
        simp
      · rw [List.mem_cons, mem_insS, List.mem_cons]
        constructor
        · rintro (h | h | h) <;> simp [h]
        · rintro (h | h | h) <;> simp [h]
theorem asc_insS {x : Int} : ∀ {l : List Int}, l.Pairwise (· < ·) → (insS x l).Pairwise (· < ·)
  | [], _ => List.pairwise_singleton _ _
  | y :: r, h => by
    obtain ⟨h1, h2⟩ := List.pairwise_cons.mp h
    unfold insS
    split
    · rename_i hx
      refine List.pairwise_cons.mpr ⟨fun z hz => ?_, h⟩
      rcases List.mem_cons.mp hz with e | e
      · rw [e]; exact hx
      · have := h1 z e
        omega
    · split
      · exact h
      · refine List.pairwise_cons.mpr ⟨fun z hz => ?_, asc_insS h2⟩
        rcases mem_insS.mp hz with e | e
        · omega
        · exact h1 z e
theorem mem_sset {z : Int} : ∀ {l : List Int}, z ∈ sset l ↔ z ∈ l
  | [] => by simp [sset]
  | y :: r => by
    show z ∈ insS y (sset r) ↔ _
    rw [mem_insS, mem_sset, List.mem_cons]
theorem asc_sset : ∀ {l : List Int}, (sset l).Pairwise (· < ·)
  | [] => List.Pairwise.nil
  | y :: r => asc_insS (asc_sset (l := r))
theorem insS_len {x : Int} : ∀ {l : List Int}, (insS x l).length ≤ l.length + 1
  | [] => by simp [insS]
  | y :: r => by
    unfold insS
    split
    · simp
    · split
      · simp
      · have := insS_len (x := x) (l := r)
        simp only [List.length_cons]
        omega
theorem sset_len : ∀ {l : List Int}, (sset l).length ≤ l.length
  | [] => Nat.le_refl _
  | y :: r => by
    have h1 := insS_len (x := y) (l := sset r)
    have h2 := sset_len (l := r)
    show (insS y (sset r)).length ≤ r.length + 1
    omega
theorem asc_unique : ∀ {l m : List Int}, l.Pairwise (· < ·) → m.Pairwise (· < ·) → (∀ z, z ∈ l ↔ z ∈ m) → l = m
  | [], [], _, _, _ => rfl
  | [], y :: m, _, _, h => absurd ((h y).mpr (List.mem_cons_self ..)) (by simp)
  | x :: l, [], _, _, h => absurd ((h x).mp (List.mem_cons_self ..)) (by simp)
  | x :: l, y :: m, hl, hm, h => by
    obtain ⟨h1, h2⟩ := List.pairwise_cons.mp hl
    obtain ⟨h3, h4⟩ := List.pairwise_cons.mp hm
    have e : x = y := by
      have hx := (h x).mp (List.mem_cons_self ..)
      have hy := (h y).mpr (List.mem_cons_self ..)
      rcases List.mem_cons.mp hx with e | e
      · exact e
      · rcases List.mem_cons.mp hy with e' | e'
        · exact e'.symm
        · have := h3 x e
          have := h1 y e'
          omega
    subst e
    rw [asc_unique h2 h4 fun z => ?_]
    constructor
    · intro hz
      rcases List.mem_cons.mp ((h z).mp (List.mem_cons_of_mem _ hz)) with e | e
      · have := h1 z hz
        omega
      · exact e
    · intro hz
      rcases List.mem_cons.mp ((h z).mpr (List.mem_cons_of_mem _ hz)) with e | e
      · have := h3 z hz
        omega
      · exact e

/-- sorted(set(e)) -/
def eSortSet (fa : FE) : FE := fun ρ μ => (fa ρ μ).bind fun d μ1 => match lintsOf μ1 d with
  | some is => if is.length < 64 then .ok (.lst ((sset is).map .int)) μ1 else .stuck
  | none => .stuck
section
variable {X : Cx} {W : WX} {cls : Nat → Option Addr} {a : Expr} {fa : FE} {p p2 q pos : Pos}
theorem se_sortSet (hc : X.calm = true) (hg : Gl X "sorted") (hm : X.mg "sorted" = none) (hg2 : Gl X "set") (hm2 : X.mg "set" = none) (ha : SE X W cls a fa)
    (hs : starEach [a] X.env = [(false, eval a X.env)] := by rfl)
    (hs2 : starEach [.Call (.Name "set" p2) [a] [] q] X.env = [(false, eval (.Call (.Name "set" p2) [a] [] q) X.env)] := by rfl) :
    SE X W cls (.Call (.Name "sorted" p) [.Call (.Name "set" p2) [a] [] q] [] pos) (eSortSet fa) := by
  obtain ⟨t1, p1, h1⟩ := ha
  refine ⟨_, pe_callB (cr_sortedSet hc) hg hm (by decide +kernel) (pa_cons (pe_callTy (cr_setL hc) hg2 hm2 (by decide +kernel) (pa_cons p1 pa_nil hs) (by decide +kernel) (by decide +kernel) hs rfl) pa_nil hs2) (by decide +kernel) (by decide +kernel) hs2 rfl, fun σ Q w ρ μ S E h => ?_⟩
  refine h1 σ _ w ρ μ S E ((PostR.bind h).imp fun w1 d s1 ⟨μ1, S1, q1⟩ v r1 => ?_)
  split at q1
  · rename_i is he
    split at q1
    · rename_i hl
      obtain ⟨l, rfl, sq⟩ := lintsOf_at S1 r1 he
      refine ⟨l, is, rfl, sq, hl, fun b n hb hn => ⟨b, _, n, rfl, upd_same, by omega, fun ns c asc mem _ hcn => ?_⟩⟩
      have e : ns = sset is := asc_unique asc asc_sset fun z => by rw [mem, mem_sset, decide_eq_true_eq]
      subst e
      have S2 : RelS X.K cls (w1.up b (SetO X.w b (fun j => decide (j ∈ is)) n)) μ1 := S1.new hb
      have hcn2 : (w1.up b (SetO X.w b (fun j => decide (j ∈ is)) n)).H c = none := hcn
      refine q1 ((w1.up b (SetO X.w b (fun j => decide (j ∈ is)) n)).up c (.lst ((sset is).map V.int))) ((step_new hb).trans (step_new hcn2)) (S2.new hcn2) _ (new_lst S2 hcn2 ?_)
      exact RVs.ints
    · exact q1.elim
  · exact q1.elim
end
end Fw

set_option Elab.async false
set_option linter.all false
set_option maxRecDepth 100000
set_option autoImplicit false
/-! list(text). -/
namespace Fw
open PySem PySem.Spec PyProof.Rows L2
def rLstS : List V → Hp → VK → Prop := fun xs H Q => ∃ x : Str, xs = [V.str x] ∧ x.cps.size ≤ sizeLine ∧ ∀ p, H p = none → Q (.ref p) (upd H p (.lst (x.cps.toList.map fun c => V.str ⟨#[c]⟩)))
theorem vals_signs {x : Str} : ∀ {cs : List Nat} {us : List Value} (k : Nat), x.cps.toList.drop k = cs → us.length = cs.length → (∀ j v, us[j]? = some v → SignAt x (k + j) v) → Vals (cs.map fun c => V.str ⟨#[c]⟩) us
  | [], us, k, _, hl, _ => by
    rw [List.length_eq_zero_iff.mp hl]
    exact .nil
  | c :: cs, [], k, _, hl, _ => by simp at hl
  | c :: cs, u :: us, k, e, hl, h => by
    obtain ⟨c', t, h1, h2⟩ := h 0 u rfl
    have e1 : x.cps[k]? = some c := by
      have : (x.cps.toList.drop k)[0]? = some c := by rw [e]; rfl
      rw [List.getElem?_drop, Nat.add_zero, Array.getElem?_toList] at this
      exact this
    rw [Nat.add_zero, e1] at h1
    cases h1
    refine .cons ⟨t, h2⟩ (vals_signs (k + 1) (by rw [← List.drop_drop, e]; rfl) (by simpa using hl) fun j v hj => ?_)
    have := h (j + 1) v (by simpa using hj)
    rwa [show k + (j + 1) = k + 1 + j from by omega] at this
theorem cr_listS {X : Cx} (hc : X.calm = true) : CallR X (.type "list") rLstS := by
  intro pins s σ H xs us Q I r h
  obtain ⟨x, rfl, hl, q⟩ := h
  cases r with
  | cons r0 r1 =>
    cases r1
    obtain ⟨t, rfl⟩ := r0
    refine call_list_str (I.ok.hd hc) x t (fun h' tk acc' c' k e items => ?_) hl
    have hv : Vals (x.cps.toList.map fun c => V.str ⟨#[c]⟩) acc'.toList := vals_signs 0 rfl (by rw [Array.length_toList, items.1, Array.length_toList]) fun j v hj => by
      rw [Nat.zero_add]
      exact items.2 j v (by rw [← Array.getElem?_toList]; exact hj)
    have hz : (x.cps.toList.map fun c => V.str ⟨#[c]⟩).length ≤ sizeLine := by rw [List.length_map, Array.length_toList]; exact hl
    exact ⟨.ref s.heap.objs.size, _, I.laid (t' := tk) k (Nat.le_refl _) (show ObjOk X.prog X.w _ h' _ (.lst _) from ⟨hz, acc'.toList, c', hv, e⟩), rfl, q _ (I.hok.fresh (Nat.le_refl _))⟩
def cListA : List D → Store → Res D := fun ds μ => match ds with
  | [.str s] => if s.length ≤ LIM then .ok (.lst (s.map fun c => .str [c])) μ else .stuck
  | ds => cList ds μ
theorem rvs_signs {K : PySem.W.Frag} {cls : Nat → Option Addr} {w : Wd} : ∀ {s : List Nat}, RVs K cls w (s.map fun c => .str [c]) (s.map fun c => V.str ⟨#[c]⟩)
  | [] => rfl
  | c :: s => ⟨_, _, rfl, rfl, rvs_signs⟩
section
variable {X : Cx} {W : WX} {cls : Nat → Option Addr} {a : Expr} {fa : FE} {p pos : Pos}
theorem cv_listA (hc : X.calm = true) : CV X cls (.type "list") cListA := by
  obtain ⟨r, c, h0⟩ := cv_list (X := X) (cls := cls)
  refine ⟨_, (cr_listS hc).or c, fun w μ Er ds xs Q S r0 h => ?_⟩
  unfold cListA at h
  split at h
  · rename_i s
    obtain ⟨x, rfl, rx⟩ := r0.one
    split at h
    · rename_i hl
      refine .inl ⟨⟨s.toArray⟩, congrArg (fun z => [z]) rx, by rw [List.size_toArray]; exact lim_le hl, fun p hp => ?_⟩
      exact h (w.up p (.lst _)) (step_new hp) (S.new hp) _ (new_lst S hp rvs_signs)
    · exact h.elim
  · exact .inr (h0 w μ _ ds xs Q S r0 h)
theorem se_listTA (hc : X.calm = true) (hg : Gl X "list") (hm : X.mg "list" = none) (ha : SE X W cls a fa) (hs : starEach [a] X.env = (false, eval a X.env) :: starEach [] X.env := by rfl) (hpl : (backTo pos (starEach [] X.env)).any (·.1) = false := by rfl) :
    SE X W cls (.Call (.Name "list" p) [a] [] pos) (eThaw (eCall cListA (aCons fa aNil))) := by
  obtain ⟨t1, p1, h1⟩ := ha
  refine ⟨_, pe_callTy ((cr_listS hc).or call_list_of) hg hm (by decide +kernel) (pa_cons p1 pa_nil hs) (by decide +kernel) (by decide +kernel) hs hpl, fun σ Q w ρ μ S E h => ?_⟩
  have h : PostR X.K cls w (WE W σ) (fun w' d => ∀ v, RV X.K cls w' d v → Q v w'.H) (thaw ((fa ρ μ).bind fun d μ1 => cListA [d] μ1)) := by
    unfold eThaw eCall aCons aNil at h
    cases hf : fa ρ μ with
    | ok d μ1 => rw [hf] at h; exact h
    | stuck => rw [hf] at h; exact h
    | err k ns ds μ1 => rw [hf] at h; exact h
  refine h1 σ _ w ρ μ S E ((PostR.thaw h).imp fun w1 d s1 ⟨μ1, S1, q1⟩ v r1 => ?_)
  unfold cListA at q1
  split at q1
  · rename_i s e
    cases e
    split at q1
    · rename_i hl
      exact .inl ⟨⟨s.toArray⟩, congrArg (fun z => [z]) r1, by rw [List.size_toArray]; exact lim_le hl, fun p hp => thaw_new S1 rvs_signs q1 hp⟩
    · exact q1.elim
  · simp only [cList] at q1
    split at q1
    · rename_i es hd
      obtain ⟨l, vs, e, h3, h4⟩ := seqOf_at S1 r1 hd
      exact .inr ⟨l, vs, congrArg (fun z => [z]) e, h3, fun p hp => thaw_new S1 h4 q1 hp⟩
    · exact q1.elim
end
end Fw

set_option Elab.async false
set_option linter.all false
set_option maxRecDepth 100000
set_option autoImplicit false
/-! zip of two texts; multiplied in place; sets of longer lists. -/
namespace Fw
open PySem PySem.Spec PyProof.Rows L2
open PySem.Sem (wp)
abbrev AscIt (h : Heap) (a : Addr) (x : Str) (t : Tok) (k : Nat) : Prop := h.IsStrIter a "str_ascii_iterator" x t k
section
variable {P : Program} {w : World} {A : Around} {E : Value → Shared → Prop} {s : Shared}
theorem AscIt.at {h h' : Heap} {a : Addr} {x : Str} {t : Tok} {k : Nat} (y : AscIt h a x t k) (e : ∀ o, h.get? a = some o → h'.get? a = some o) : AscIt h' a x t k := let ⟨o, ho, r⟩ := y; ⟨o, e o ho, r⟩
/-- the next sign -/
theorem sign_item {a : Addr} {x : Str} {t : Tok} {k c : Nat} {Q : Value → Shared → Prop} (y : AscIt s.heap a x t k) (hx : x.cps[k]? = some c)
    (q : ∀ h', AscIt h' a x t (k + 1) → Heap.SameBut a s.heap h' → Q (.str ⟨#[c]⟩ s.toks) { s with heap := h', toks := s.toks + 1 }) : wpAny (model P w) A (Builtin.SmallTypes.nextOf (.ref a)) Q E s := by
  have ⟨o, ho, oc, od⟩ := y
  have ty := Heap.IsStrIter.typeIs y
  unfold Builtin.SmallTypes.nextOf
  refine wpAny_bind (wpAny_callSpecial?_slot (name := Str.ofString "__next__") ty F.slot_str_ascii_iterator_next (wpAny_call_entry F.slot_str_ascii_iterator_next ty F.entry_str_ascii_iterator_next ?_ (F.args_str_ascii_iterator_next_1 _)))
  refine show wpAny _ _ (field (.ref a) 0 >>= _) _ _ s from wpAny_bind (wpAny_field ho od (x := .str x t) rfl (show wpAny _ _ (field (.ref a) 1 >>= _) _ _ s from wpAny_bind (wpAny_field ho od (x := .int k 0) rfl ?_)))
  simp only [hx, Int.toNat_natCast]
  refine wpAny_bind (wpAny_setField ho od (by simp) (wpAny_bind (wpAny_mkStr (wpAny_pure ⟨_, rfl, wpAny_pure (q _ ⟨_, Heap.get?_update_self _ ho (Obj.isFreed_of_fields (Obj.data_mapFields od _)), (Obj.cls_mapFields ..).trans oc, ?_⟩ (Heap.SameBut.update ..))⟩) (by show 1 ≤ sizeLine; decide))))
  rw [Obj.data_mapFields od]; simp [rawInt]
theorem sign_end {a : Addr} {x : Str} {t : Tok} {k : Nat} {Q : Value → Shared → Prop} (nh : A.handled = none) (y : AscIt s.heap a x t k) (hx : x.cps[k]? = none)
    (q : ∀ h' e, Heap.ExtBut a s.heap h' → (∃ o, h'.get? e = some o ∧ o.cls = .type "StopIteration") → E (.ref e) { s with heap := h' }) : wpAny (model P w) A (Builtin.SmallTypes.nextOf (.ref a)) Q E s := by
  have ⟨o, ho, oc, od⟩ := y
  have ty := Heap.IsStrIter.typeIs y
  unfold Builtin.SmallTypes.nextOf
  refine wpAny_bind (wpAny_callSpecial?_slot (name := Str.ofString "__next__") ty F.slot_str_ascii_iterator_next (wpAny_call_entry F.slot_str_ascii_iterator_next ty F.entry_str_ascii_iterator_next ?_ (F.args_str_ascii_iterator_next_1 _)))
  refine show wpAny _ _ (field (.ref a) 0 >>= _) _ _ s from wpAny_bind (wpAny_field ho od (x := .str x t) rfl (show wpAny _ _ (field (.ref a) 1 >>= _) _ _ s from wpAny_bind (wpAny_field ho od (x := .int k 0) rfl ?_)))
  simp only [hx, Int.toNat_natCast]
  refine wpAny_bind (wpAny_rule (wpAny_bind (wpAny_setField ho od (by simp) (wpAny_bind (wpAny_letGo (show wpAny _ _ (newExc (.type "StopIteration") [] >>= _) _ _ _ from wpAny_bind ?_))))))
  simp only [newTuple, newExc]
  refine wpAny_bind (wpAny_newObj_type (wpAny_bind (m := firstArgMember _ _) (wpAny_of_eq (a := Value.none) (by first | rfl | (simp only [firstArgMember]; rfl)) ?_)) (by size_fits))
  refine wpAny_newObj_type ?_ (by size_fits)
  simp only [raiseNew]
  refine wpAny_bind (wpAny_handled ?_); rw [show A.in1.handled = none from nh]
  exact wpAny_bind (wpAny_pure (wpAny_throw (q _ _ (((Heap.SameBut.update ..).extBut.push _).push _) ⟨_, Heap.get?_push_size _ rfl, rfl⟩)))

/-- five places of their own -/
structure Five (z TI TO a b : Addr) : Prop where
  Iz : TI ≠ z
  Oz : TO ≠ z
  az : a ≠ z
  bz : b ≠ z
  IO : TI ≠ TO
  Ia : TI ≠ a
  Ib : TI ≠ b
  Oa : TO ≠ a
  Ob : TO ≠ b
  ab : a ≠ b
theorem five (n : Nat) : Five (n + 4) (n + 2) (n + 3) n (n + 1) := by
  constructor
  all_goals (intro h; have : (_ : Nat) = _ := h; omega)
/-- a zip over two texts, behind so many pairs -/
structure ZS (h : Heap) (z TI TO a b : Addr) (x y : Str) (t u : Tok) (k : Nat) : Prop where
  z : IsZip h z TI TO .none
  I : IsPair h TI (.ref a) (.ref b)
  O : ∃ v v', IsPair h TO v v'
  a : AscIt h a x t k
  b : AscIt h b y u k
theorem zs_item {z TI TO a b : Addr} {x y : Str} {t u : Tok} {k c d : Nat} {Q : Value → Shared → Prop} (D : Five z TI TO a b) (Z : ZS s.heap z TI TO a b x y t u k) (hx : x.cps[k]? = some c) (hy : y.cps[k]? = some d)
    (q : ∀ h' v v', IsZip h' z TI TO (rawInt s.heap.objs.size) → IsPair h' TO v v' → AscIt h' a x t (k + 1) → AscIt h' b y u (k + 1) → IsPair h' s.heap.objs.size (.str ⟨#[c]⟩ s.toks) (.str ⟨#[d]⟩ (s.toks + 1)) → h'.objs.size = s.heap.objs.size + 1 →
      (∀ e o, e ≠ z → e ≠ TO → e ≠ a → e ≠ b → s.heap.get? e = some o → h'.get? e = some o) → Q (.ref s.heap.objs.size) { s with heap := h', toks := s.toks + 1 + 1 }) :
    wpAny (model P w) A (Builtin.«zip.__next__» ⟨[.ref z], []⟩) (fun fin s' => ∃ v, fin = .done (.ret v) ∧ Q v s') E s := by
  obtain ⟨hz, hI, ⟨v0, v1, hO⟩, ha, hb⟩ := Z
  refine show wpAny _ _ (field (.ref z) 2 >>= _) _ _ _ from wpAny_bind (wpAny_field hz rfl (x := .bool false) rfl ?_)
  refine show wpAny _ _ (field (.ref z) 3 >>= _) _ _ _ from wpAny_bind (wpAny_field hz rfl (x := .ref TI) rfl (wpAny_bind (wpAny_seqItems hI rfl ?_)))
  refine show wpAny _ _ (Builtin.SmallTypes.ownedTupleIsFree (.ref z) >>= _) _ _ _ from wpAny_bind ?_
  unfold Builtin.SmallTypes.ownedTupleIsFree; refine wpAny_bind (wpAny_field hz rfl (x := .none) rfl (wpAny_pure ?_)); simp only [if_true]
  refine wpAny_bind (wpAny_rule (wpAny_bind (wpAny_field hz rfl (x := .ref TO) rfl (wpAny_bind (wpAny_setField_rec hz (by simp) fun g1 z1 k1 => ?_)))))
  replace z1 : IsZip g1 z TI TO .ellipsis := z1
  refine wpAny_bind ?_; simp only [List.zipIdx_nil, List.zipIdx_cons, List.forIn_nil, List.forIn_cons]
  refine wpAny_bind (wpAny_bind (wpAny_onRaise (show wpAny _ _ (Builtin.SmallTypes.nextOf (.ref a) >>= _) _ _ _ from wpAny_bind (sign_item (s := { s with heap := g1 }) (Heap.IsStrIter.extBut ha k1.extBut D.az) hx fun g2 a2 k2 => wpAny_pure ?_))))
  have O2 : IsPair g2 TO v0 v1 := k2.extBut _ _ D.Oa (k1.extBut _ _ D.Oz hO)
  refine wpAny_bind (wpAny_seqItems O2 rfl (wpAny_bind (wpAny_updateSeq_pair O2 fun g3 O3 k3 => ?_)))
  replace O3 : IsPair g3 TO (.str ⟨#[c]⟩ s.toks) v1 := O3
  refine wpAny_bind (wpAny_letGo (wpAny_pure (wpAny_bind (wpAny_bind (wpAny_onRaise (show wpAny _ _ (Builtin.SmallTypes.nextOf (.ref b) >>= _) _ _ _ from wpAny_bind ?_))))))
  have b3 : AscIt g3 b y u k := ((Heap.IsStrIter.extBut hb k1.extBut D.bz).extBut k2.extBut D.ab.symm).extBut k3.extBut D.Ob.symm
  refine sign_item (s := { s with heap := g3, toks := s.toks + 1 }) b3 hy fun g4 b4 k4 => wpAny_pure ?_
  have O4 : IsPair g4 TO (.str ⟨#[c]⟩ s.toks) v1 := k4.extBut _ _ D.Ob O3
  refine wpAny_bind (wpAny_seqItems O4 rfl (wpAny_bind (wpAny_updateSeq_pair O4 fun g5 O5 k5 => ?_)))
  replace O5 : IsPair g5 TO (.str ⟨#[c]⟩ s.toks) (.str ⟨#[d]⟩ (s.toks + 1)) := O5
  refine wpAny_bind (wpAny_letGo (wpAny_pure (wpAny_pure (wpAny_bind (wpAny_seqItems O5 rfl (wpAny_bind (wpAny_newTuple ?_)))))))
  have sz : g5.objs.size = s.heap.objs.size := by rw [k5.1, k4.1, k3.1, k2.1, k1.1]
  have z5 : IsZip g5 z TI TO .ellipsis := k5.extBut _ _ D.Oz.symm (k4.extBut _ _ D.bz.symm (k3.extBut _ _ D.Oz.symm (k2.extBut _ _ D.az.symm z1)))
  have kp : ∀ e o, e ≠ z → e ≠ TO → e ≠ a → e ≠ b → s.heap.get? e = some o → g5.get? e = some o := fun e o n1 n2 n3 n4 r => k5.extBut _ _ n2 (k4.extBut _ _ n4 (k3.extBut _ _ n2 (k2.extBut _ _ n3 (k1.extBut _ _ n1 r))))
  have a5 : AscIt g5 a x t (k + 1) := ((Heap.IsStrIter.extBut a2 k3.extBut D.Oa.symm).extBut k4.extBut D.ab).extBut k5.extBut D.Oa.symm
  have b5 : AscIt g5 b y u (k + 1) := Heap.IsStrIter.extBut b4 k5.extBut D.Ob.symm
  have zl : z < g5.objs.size := Heap.lt_size z5
  refine show wpAny _ _ (Builtin.SmallTypes.ownedTupleHandOut (.ref z) (.ref g5.objs.size) >>= _) _ _ _ from wpAny_bind ?_
  unfold Builtin.SmallTypes.ownedTupleHandOut
  have z6 : IsZip (g5.push { cls := .type "tuple", data := .seq #[.str ⟨#[c]⟩ s.toks, .str ⟨#[d]⟩ (s.toks + 1)] }) z TI TO .ellipsis := Heap.get?_push_of_some _ z5
  refine wpAny_bind (wpAny_setField_rec z6 (by simp) fun g7 z7 k7 => ?_)
  replace z7 : IsZip g7 z TI TO (rawInt g5.objs.size) := z7
  refine wpAny_setField_rec z7 (by simp) fun g8 z8 k8 => ?_
  replace z8 : IsZip g8 z TI TO (rawInt g5.objs.size) := z8
  have up : ∀ e o, e ≠ z → g5.get? e = some o → g8.get? e = some o := fun e o n r => k8.extBut _ _ n (k7.extBut _ _ n (Heap.get?_push_of_some _ r))
  have T8 : IsPair g8 g5.objs.size (.str ⟨#[c]⟩ s.toks) (.str ⟨#[d]⟩ (s.toks + 1)) := k8.extBut _ _ (Nat.ne_of_gt zl) (k7.extBut _ _ (Nat.ne_of_gt zl) (Heap.get?_push_size _ rfl))
  have s8 : g8.objs.size = g5.objs.size + 1 := by rw [k8.1, k7.1, Heap.size_push]
  rw [sz] at z8 T8 s8
  refine wpAny_pure ⟨_, rfl, show Q (.ref g5.objs.size) _ from ?_⟩; rw [sz]
  exact q g8 _ _ z8 (up _ _ D.Oz O5) (AscIt.at a5 fun o r => up _ o D.az r) (AscIt.at b5 fun o r => up _ o D.bz r) T8 s8 fun e o n1 n2 n3 n4 r => up e o n1 (kp e o n1 n2 n3 n4 r)
theorem zs_end {z TI TO a b : Addr} {x y : Str} {t u : Tok} {k : Nat} {Q : Fin → Shared → Prop} (nh : A.handled = none) (D : Five z TI TO a b) (Z : ZS s.heap z TI TO a b x y t u k) (he : x.cps[k]? = none ∨ y.cps[k]? = none)
    (q : ∀ h' tk e, (∀ c o, c ≠ z → c ≠ TO → c ≠ a → c ≠ b → s.heap.get? c = some o → h'.get? c = some o) → (∃ o, h'.get? e = some o ∧ o.cls = .type "StopIteration") → E (.ref e) { s with heap := h', toks := tk }) :
    wpAny (model P w) A (Builtin.«zip.__next__» ⟨[.ref z], []⟩) Q E s := by
  obtain ⟨hz, hI, ⟨v0, v1, hO⟩, ha, hb⟩ := Z
  refine show wpAny _ _ (field (.ref z) 2 >>= _) _ _ _ from wpAny_bind (wpAny_field hz rfl (x := .bool false) rfl ?_)
  refine show wpAny _ _ (field (.ref z) 3 >>= _) _ _ _ from wpAny_bind (wpAny_field hz rfl (x := .ref TI) rfl (wpAny_bind (wpAny_seqItems hI rfl ?_)))
  refine show wpAny _ _ (Builtin.SmallTypes.ownedTupleIsFree (.ref z) >>= _) _ _ _ from wpAny_bind ?_
  unfold Builtin.SmallTypes.ownedTupleIsFree; refine wpAny_bind (wpAny_field hz rfl (x := .none) rfl (wpAny_pure ?_)); simp only [if_true]
  refine wpAny_bind (wpAny_rule (wpAny_bind (wpAny_field hz rfl (x := .ref TO) rfl (wpAny_bind (wpAny_setField_rec hz (by simp) fun g1 z1 k1 => ?_)))))
  replace z1 : IsZip g1 z TI TO .ellipsis := z1
  refine wpAny_bind ?_; simp only [List.zipIdx_nil, List.zipIdx_cons, List.forIn_nil, List.forIn_cons]
  refine wpAny_bind (wpAny_bind (wpAny_onRaise (show wpAny _ _ (Builtin.SmallTypes.nextOf (.ref a) >>= _) _ _ _ from wpAny_bind ?_)))
  have a1 : AscIt g1 a x t k := Heap.IsStrIter.extBut ha k1.extBut D.az
  cases hx : x.cps[k]? with
  | none =>
    refine sign_end (s := { s with heap := g1 }) nh a1 hx fun g2 e k2 he => ?_
    obtain ⟨oe, h1, h2⟩ := he
    have z2 : IsZip g2 z TI TO .ellipsis := k2 _ _ D.az.symm z1
    have nz : e ≠ z := fun r => by subst r; rw [z2] at h1; cases h1; simp at h2
    exact wpAny_setField_rec z2 (by simp) fun g3 _ k3 => q g3 s.toks e (fun c o n1 _ n3 _ r => k3.extBut _ _ n1 (k2 _ _ n3 (k1.extBut _ _ n1 r))) ⟨oe, k3.extBut _ _ nz h1, h2⟩
  | some c =>
    have hy : y.cps[k]? = none := he.resolve_left (by rw [hx]; exact nofun)
    refine sign_item (s := { s with heap := g1 }) a1 hx fun g2 a2 k2 => wpAny_pure ?_
    have O2 : IsPair g2 TO v0 v1 := k2.extBut _ _ D.Oa (k1.extBut _ _ D.Oz hO)
    refine wpAny_bind (wpAny_seqItems O2 rfl (wpAny_bind (wpAny_updateSeq_pair O2 fun g3 O3 k3 => ?_)))
    refine wpAny_bind (wpAny_letGo (wpAny_pure (wpAny_bind (wpAny_bind (wpAny_onRaise (show wpAny _ _ (Builtin.SmallTypes.nextOf (.ref b) >>= _) _ _ _ from wpAny_bind ?_))))))
    have b3 : AscIt g3 b y u k := ((Heap.IsStrIter.extBut hb k1.extBut D.bz).extBut k2.extBut D.ab.symm).extBut k3.extBut D.Ob.symm
    refine sign_end (s := { s with heap := g3, toks := s.toks + 1 }) nh b3 hy fun g4 e k4 he => ?_
    obtain ⟨oe, h1, h2⟩ := he
    have z4 : IsZip g4 z TI TO .ellipsis := k4 _ _ D.bz.symm (k3.extBut _ _ D.Oz.symm (k2.extBut _ _ D.az.symm z1))
    have nz : e ≠ z := fun r => by subst r; rw [z4] at h1; cases h1; simp at h2
    exact wpAny_setField_rec z4 (by simp) fun g5 _ k5 => q g5 (s.toks + 1) e (fun c o n1 n2 n3 n4 r => k5.extBut _ _ n1 (k4 _ _ n4 (k3.extBut _ _ n2 (k2.extBut _ _ n3 (k1.extBut _ _ n1 r))))) ⟨oe, k5.extBut _ _ nz h1, h2⟩

theorem zs_next {z TI TO a b : Addr} {x y : Str} {t u : Tok} {k c d : Nat} {Q : Option Value → Shared → Prop} (D : Five z TI TO a b) (Z : ZS s.heap z TI TO a b x y t u k) (hx : x.cps[k]? = some c) (hy : y.cps[k]? = some d)
    (q : ∀ h' v v', IsZip h' z TI TO (rawInt s.heap.objs.size) → IsPair h' TO v v' → AscIt h' a x t (k + 1) → AscIt h' b y u (k + 1) → IsPair h' s.heap.objs.size (.str ⟨#[c]⟩ s.toks) (.str ⟨#[d]⟩ (s.toks + 1)) → h'.objs.size = s.heap.objs.size + 1 →
      (∀ e o, e ≠ z → e ≠ TO → e ≠ a → e ≠ b → s.heap.get? e = some o → h'.get? e = some o) → Q (some (.ref s.heap.objs.size)) { s with heap := h', toks := s.toks + 1 + 1 }) :
    wpAny (model P w) A (pyNext (.ref z)) Q E s := by
  have ty : s.TypeIs (.ref z) "zip" := ⟨_, Z.z, rfl⟩
  unfold pyNext
  exact wpAny_bind (wpAny_attempt (wpAny_callSpecial?_slot (name := Str.ofString "__next__") ty F.slot_zip_next (wpAny_call_entry F.slot_zip_next ty F.entry_zip_next
    (zs_item D Z hx hy fun h' v v' a1 a2 a3 a4 a5 a6 a7 => wpAny_pure (q h' v v' a1 a2 a3 a4 a5 a6 a7)) (F.args_zip_next_1 _))))
theorem zs_stop {z TI TO a b : Addr} {x y : Str} {t u : Tok} {k : Nat} {Q : Option Value → Shared → Prop} (nh : A.handled = none) (D : Five z TI TO a b) (Z : ZS s.heap z TI TO a b x y t u k) (he : x.cps[k]? = none ∨ y.cps[k]? = none)
    (q : ∀ h' tk, (∀ c o, c ≠ z → c ≠ TO → c ≠ a → c ≠ b → s.heap.get? c = some o → h'.get? c = some o) → Q none { s with heap := h', toks := tk }) : wpAny (model P w) A (pyNext (.ref z)) Q E s := by
  have ty : s.TypeIs (.ref z) "zip" := ⟨_, Z.z, rfl⟩
  unfold pyNext
  refine wpAny_bind (wpAny_attempt (wpAny_callSpecial?_slot (name := Str.ofString "__next__") ty F.slot_zip_next (wpAny_call_entry F.slot_zip_next ty F.entry_zip_next (zs_end nh D Z he fun h' tk e kp ⟨o, h1, h2⟩ => ?_) (F.args_zip_next_1 _))))
  exact wpAny_bind (wpAny_isInstance (T := "StopIteration") (b := true) ⟨o, h1, h2⟩ isSubtype_stop (wpAny_pure (q _ tk kp)))
end
/-! ### zip(a, b) -/
abbrev g1 (h : Heap) (x : Str) (t : Tok) : Heap := h.push { cls := .type "str_ascii_iterator", data := .fields #[.str x t, .int 0 0] }
abbrev g2 (h : Heap) (x y : Str) (t u : Tok) : Heap := (g1 h x t).push { cls := .type "str_ascii_iterator", data := .fields #[.str y u, .int 0 0] }
abbrev g3 (h : Heap) (x y : Str) (t u : Tok) : Heap := (g2 h x y t u).push { cls := .type "tuple", data := .seq #[.ref h.objs.size, .ref (g1 h x t).objs.size] }
abbrev g4 (h : Heap) (x y : Str) (t u : Tok) : Heap := (g3 h x y t u).push { cls := .type "tuple", data := .seq #[.none, .none] }
abbrev g5 (h : Heap) (x y : Str) (t u : Tok) : Heap := (g4 h x y t u).push { cls := .type "zip", data := .fields #[.none, .bool false, .bool false, .ref (g2 h x y t u).objs.size, .ref (g3 h x y t u).objs.size] }
set_option maxHeartbeats 4000000 in
theorem zs_new (x y : Str) (t u : Tok) : Meets (Builtin.«zip.__new__» ⟨[.type "zip", .str x t, .str y u], []⟩) (fun _ R s => x.cps.all (· < 128) = true ∧ y.cps.all (· < 128) = true ∧
    R (.ok (.ret (.ref (g4 s.heap x y t u).objs.size))) { s with heap := g5 s.heap x y t u }) :=
  .of_wp fun prog w A R s h => by
    obtain ⟨hp, g, d, tk, os⟩ := s; obtain ⟨h1, h2, h⟩ := h
    have sb := sub_zip
    have i1 := fun (Q : Value → Shared → Prop) (E : Value → Shared → Prop) (A : Around) q => wpAny_pyIter_ascii (prog := prog) (w := w) (A := A) (E := E) (s := ⟨hp, g, d, tk, os⟩) (t := t) (Q := Q) h1 q
    have i2 := fun (Q : Value → Shared → Prop) (E : Value → Shared → Prop) (A : Around) q => wpAny_pyIter_ascii (prog := prog) (w := w) (A := A) (E := E) (s := ⟨g1 hp x t, g, d, tk, os⟩) (t := u) (Q := Q) h2 q
    wp_walk using i1 _ _ _, i2 _ _ _
    exact ⟨_, rfl, h⟩
section
variable {P : Program} {w : World} {A : Around} {E : Value → Shared → Prop} {s : Shared}
theorem zs_call {x y : Str} {t u : Tok} {Q : Value → Shared → Prop} (h1 : x.cps.all (· < 128) = true) (h2 : y.cps.all (· < 128) = true)
    (q : ∀ h', ZS h' (s.heap.objs.size + 4) (s.heap.objs.size + 2) (s.heap.objs.size + 3) s.heap.objs.size (s.heap.objs.size + 1) x y t u 0 → (∀ c o, s.heap.get? c = some o → h'.get? c = some o) → Q (.ref (s.heap.objs.size + 4)) { s with heap := h' }) :
    wpAny (model P w) A (call (.type "zip") [.str x t, .str y u]) Q E s := by
  refine callType_new F.called_zip (by decide) (F.typeCall_zip_2 _ _) (F.newCall_zip_2 _ _) (fun obj => F.args_object_init_3 obj _ _) F.entry_zip_new (zs_new x y t u) ⟨h1, h2, ?_⟩
  have n1 : (g1 s.heap x t).objs.size = s.heap.objs.size + 1 := Heap.size_push ..
  have n2 : (g2 s.heap x y t u).objs.size = s.heap.objs.size + 2 := by rw [Heap.size_push, n1]
  have n3 : (g3 s.heap x y t u).objs.size = s.heap.objs.size + 3 := by rw [Heap.size_push, n2]
  have n4 : (g4 s.heap x y t u).objs.size = s.heap.objs.size + 4 := by rw [Heap.size_push, n3]
  have e5 : (g5 s.heap x y t u).get? (g4 s.heap x y t u).objs.size = some _ := Heap.get?_push_size _ rfl
  have e4 : (g5 s.heap x y t u).get? (g3 s.heap x y t u).objs.size = some _ := Heap.get?_push_of_some _ (Heap.get?_push_size _ rfl)
  have e3 : (g5 s.heap x y t u).get? (g2 s.heap x y t u).objs.size = some _ := Heap.get?_push_of_some _ (Heap.get?_push_of_some _ (Heap.get?_push_size _ rfl))
  have e2 : (g5 s.heap x y t u).get? (g1 s.heap x t).objs.size = some _ := Heap.get?_push_of_some _ (Heap.get?_push_of_some _ (Heap.get?_push_of_some _ (Heap.get?_push_size _ rfl)))
  have e1 : (g5 s.heap x y t u).get? s.heap.objs.size = some _ := Heap.get?_push_of_some _ (Heap.get?_push_of_some _ (Heap.get?_push_of_some _ (Heap.get?_push_of_some _ (Heap.get?_push_size _ rfl))))
  show _ ∧ _
  rw [n2, n3, n4] at e5
  rw [n1, n2] at e3
  rw [n3] at e4
  rw [n1] at e2
  rw [n4]
  exact ⟨⟨_, e5, rfl⟩, q _ ⟨e5, e3, ⟨_, _, e4⟩, ⟨_, e1, rfl, rfl⟩, ⟨_, e2, rfl, rfl⟩⟩ fun c o r => Heap.get?_push_of_some _ (Heap.get?_push_of_some _ (Heap.get?_push_of_some _ (Heap.get?_push_of_some _ (Heap.get?_push_of_some _ r))))⟩
end
/-- the pairs of signs -/
def Itp (x y : Str) : It := ⟨fun k _ => k < x.cps.size ∧ k < y.cps.size, fun k H v H' => ∃ T c d, v = .ref T ∧ H T = none ∧ H' = upd H T (.tup [.str ⟨#[c]⟩, .str ⟨#[d]⟩]) ∧ x.cps[k]? = some c ∧ y.cps[k]? = some d, fun k _ => x.cps.size ≤ k ∨ y.cps.size ≤ k⟩
theorem turn_zs {P : Program} {w : World} {K : PySem.W.Frag} {elts : List Expr} {kk : Nat} {tpos : Pos} {z TI TO a b : Addr} {x y : Str} {t u : Tok} (D : Five z TI TO a b) :
    Turn P w K (.Tuple elts kk tpos) (Itp x y) [z, TI, TO, a, b] z (fun i h => ZS h z TI TO a b x y t u i) where
  mem := by simp
  obj := fun i h Z c hc => by
    obtain ⟨hz, hI, ⟨v, v', hO⟩, ⟨o1, e1, _, d1⟩, ⟨o2, e2, _, d2⟩⟩ := Z
    simp only [List.mem_cons, List.not_mem_nil, or_false] at hc
    rcases hc with r | r | r | r | r
    · exact r ▸ ⟨_, hz, fun v q => nomatch q⟩
    · exact r ▸ ⟨_, hI, fun v q => nomatch q⟩
    · exact r ▸ ⟨_, hO, fun v q => nomatch q⟩
    · exact r ▸ ⟨o1, e1, fun v q => by rw [d1] at q; cases q⟩
    · exact r ▸ ⟨o2, e2, fun v q => by rw [d2] at q; cases q⟩
  keep := fun i h h' Z kp => by
    obtain ⟨hz, hI, ⟨v, v', hO⟩, ha, hb⟩ := Z
    exact ⟨kp z (by simp) _ hz, kp TI (by simp) _ hI, ⟨v, v', kp TO (by simp) _ hO⟩, AscIt.at ha fun o r => kp a (by simp) o r, AscIt.at hb fun o r => kp b (by simp) o r⟩
  item := by
    intro X e1 e2 e3 calm i pins s σ H E I fp Z go
    subst e1 e2 e3
    obtain ⟨gx, gy⟩ := go
    have zl : z < s.heap.objs.size := Heap.lt_size Z.z
    have hx : x.cps[i]? = some x.cps[i] := Array.getElem?_eq_getElem gx
    have hy : y.cps[i]? = some y.cps[i] := Array.getElem?_eq_getElem gy
    generalize x.cps[i] = c at hx
    generalize y.cps[i] = d at hy
    have ZZ := Z
    obtain ⟨hz, hI, ⟨v, v', hO⟩, ha, hb⟩ := Z
    refine zs_next D ZZ hx hy fun h' w1 w2 z' O' a' b' T' sz kp => ⟨_, rfl, wpAny_letOwnedTupleGo_zip (s := { s with heap := h', toks := s.toks + 1 + 1 }) z' fun h2 z2 sb => ?_⟩
    have T2 : h2.get? s.heap.objs.size = some { cls := .type "tuple", data := .seq #[.str ⟨#[c]⟩ s.toks, .str ⟨#[d]⟩ (s.toks + 1)] } := (sb.2 _ (Nat.ne_of_gt zl)).trans T'
    have new : ObjOk X.prog X.w (upd H s.heap.objs.size (.tup [.str ⟨#[c]⟩, .str ⟨#[d]⟩])) h2 s.heap.objs.size (.tup [.str ⟨#[c]⟩, .str ⟨#[d]⟩]) :=
      ⟨by show 2 ≤ sizeLine; decide, [_, _], .cons ⟨_, rfl⟩ (.cons ⟨_, rfl⟩ .nil), ⟨_, T2, rfl, _, rfl⟩⟩
    have J : Inv X pins σ (upd H s.heap.objs.size (.tup [.str ⟨#[c]⟩, .str ⟨#[d]⟩])) { s with heap := h2, toks := s.toks + 1 + 1 } :=
      I.turnedNew (t' := s.toks + 1 + 1) (ch := [z, TI, TO, a, b]) (fun e o ne r => (sb.2 e (fun n => ne (by simp [n]))).trans (kp e o (fun n => ne (by simp [n])) (fun n => ne (by simp [n])) (fun n => ne (by simp [n])) (fun n => ne (by simp [n])) r)) fp (Nat.le_refl _) new
    refine ⟨.ref s.heap.objs.size, _, J, rfl, ⟨_, c, d, rfl, I.hok.fresh (Nat.le_refl _), rfl, hx, hy⟩, ⟨z2, (sb.2 _ D.Iz).trans (kp _ _ D.Iz D.IO D.Ia D.Ib hI), ⟨w1, w2, (sb.2 _ D.Oz).trans O'⟩, AscIt.at a' fun o r => (sb.2 _ D.az).trans r, AscIt.at b' fun o r => (sb.2 _ D.bz).trans r⟩, fun e he => ?_⟩
    have lt : e < s.heap.objs.size := by
      simp only [List.mem_cons, List.not_mem_nil, or_false] at he
      rcases he with r | r | r | r | r
      · exact r ▸ zl
      · exact r ▸ Heap.lt_size hI
      · exact r ▸ Heap.lt_size hO
      · obtain ⟨_, q, _⟩ := ha; exact r ▸ Heap.lt_size q
      · obtain ⟨_, q, _⟩ := hb; exact r ▸ Heap.lt_size q
    rw [upd_ne (Nat.ne_of_lt lt)]
    exact (fp e he).1
  done := by
    intro X e1 e2 e3 calm i pins s σ H E I fp Z go
    subst e1 e2 e3
    refine zs_stop (I.ok.hd calm) D Z (go.imp (fun r => by simpa using r) (fun r => by simpa using r)) fun h' tk kp => ⟨rfl, I.turnedL (t' := tk) (ch := [z, TI, TO, a, b]) (fun e o ne r => ?_) fp⟩
    exact kp e o (fun n => ne (by simp [n])) (fun n => ne (by simp [n])) (fun n => ne (by simp [n])) (fun n => ne (by simp [n])) r
  self := fun A i s Q E Z h => wpAny_pyIter_zip Z.z h
def iZipS (ta : TA) : TI := fun σ H R => ta σ H fun vs H1 => ∃ x y : Str, vs = [.str x, .str y] ∧ x.cps.all (· < 128) = true ∧ y.cps.all (· < 128) = true ∧ R (Itp x y) H1
theorem pi_zipS {X : Cx} {e e2 : Expr} {ta : TA} {p pos tpos : Pos} {elts : List Expr} {kk : Nat} (hg : Gl X "zip") (hm : X.mg "zip" = none) (ha : PA X [e, e2] ta)
    (hs : starEach [e, e2] X.env = (false, eval e X.env) :: starEach [e2] X.env) (hpl : (backTo pos (starEach [e2] X.env)).any (·.1) = false) : PI X (.Tuple elts kk tpos) (.Call (.Name "zip" p) [e, e2] [] pos) (iZipS ta) := by
  refine ⟨fun pins s σ H R I h => Call_ (ld_blt I hg hm PyProof.Rows.boot_zip (PyProof.Rows.callWith_type1 (thn (ha.run pos pins s σ H _ I h) fun us s1 ⟨vs, H1, J, r, x, y, ex, ax, ay, q⟩ => ?_) hs hpl))⟩
  subst ex
  rcases r with _ | ⟨r1, r⟩
  rcases r with _ | ⟨r2, r⟩
  cases r
  obtain ⟨t, rfl⟩ := r1
  obtain ⟨u, rfl⟩ := r2
  refine zs_call ax ay fun h' Z kp => wpAny_pyIter_zip Z.z ?_
  have J2 : Inv X pins σ H1 { s1 with heap := h' } := J.kept (t' := s1.toks) kp
  refine ⟨s1.heap.objs.size + 4, [s1.heap.objs.size + 4, s1.heap.objs.size + 2, s1.heap.objs.size + 3, s1.heap.objs.size, s1.heap.objs.size + 1], _, _, H1, rfl, J2, turn_zs (five s1.heap.objs.size), Z, fun c hc => ?_, q⟩
  have le : s1.heap.objs.size ≤ c := by
    simp only [List.mem_cons, List.not_mem_nil, or_false] at hc
    rcases hc with r | r | r | r | r
    · exact r ▸ Nat.le_add_right _ _
    · exact r ▸ Nat.le_add_right _ _
    · exact r ▸ Nat.le_add_right _ _
    · exact r ▸ Nat.le_refl _
    · exact r ▸ Nat.le_add_right _ _
  exact J.fpOk le (J.hok.fresh le)
/-! ### its reading -/
def zipD (s t : List Nat) : List D := (s.zip t).map fun p => .tup [.str [p.1], .str [p.2]]
def oZip (d e : D) (μ : Store) : Res (List D × Option Nat) := match d, e with
  | .str s, .str t => if (s.all (· < 128) && t.all (· < 128)) = true then .ok (zipD s t, none) μ else .stuck
  | _, _ => .stuck
def iZipD (fa fb : FE) : FI := fun ρ μ => (fa ρ μ).bind fun d μ1 => (fb ρ μ1).bind fun e μ2 => oZip d e μ2
theorem wk_zip {K : PySem.W.Frag} {cls : Nat → Option Addr} {w : Wd} {s t : List Nat} : Wk K cls (Itp ⟨s.toArray⟩ ⟨t.toArray⟩) w (zipD s t) none := by
  intro i w' μ' k S' so
  refine ⟨fun d hd => ?_, fun hi => ?_⟩
  · unfold zipD at hd
    rw [List.getElem?_map, Option.map_eq_some_iff] at hd
    obtain ⟨p, hp, rfl⟩ := hd
    rw [List.getElem?_zip_eq_some] at hp
    obtain ⟨h1, h2⟩ := hp
    refine ⟨⟨by simpa using (List.getElem?_eq_some_iff.mp h1).1, by simpa using (List.getElem?_eq_some_iff.mp h2).1⟩, fun x H2 ⟨T, c, d, e1, e2, e3, e4, e5⟩ => ?_⟩
    have e4 : s.toArray[i]? = some c := e4
    have e5 : t.toArray[i]? = some d := e5
    rw [List.getElem?_toArray, h1] at e4
    rw [List.getElem?_toArray, h2] at e5
    cases e4
    cases e5
    subst e1 e3
    exact ⟨w'.up T (.tup [.str ⟨#[p.1]⟩, .str ⟨#[p.2]⟩]), rfl, step_new e2, S'.new e2, new_tup S' e2 (.cons rfl (.cons rfl .nil))⟩
  · have : (zipD s t).length = min s.length t.length := by simp [zipD]
    rw [this] at hi
    show s.toArray.size ≤ i ∨ t.toArray.size ≤ i
    simp only [List.size_toArray]
    omega
theorem si_zip {X : Cx} {W : WX} {cls : Nat → Option Addr} {e e2 : Expr} {fa fb : FE} {p pos tpos : Pos} {elts : List Expr} {kk : Nat} (hg : Gl X "zip") (hm : X.mg "zip" = none) (ha : SE X W cls e fa) (hb : SE X W cls e2 fb)
    (hs : starEach [e, e2] X.env = [(false, eval e X.env), (false, eval e2 X.env)] := by rfl) (hs2 : starEach [e2] X.env = [(false, eval e2 X.env)] := by rfl) : SI X W cls (.Tuple elts kk tpos) (.Call (.Name "zip" p) [e, e2] [] pos) (iZipD fa fb) := by
  obtain ⟨t, p1, k⟩ := ha
  obtain ⟨t2, p2, k2⟩ := hb
  refine ⟨_, pi_zipS hg hm (pa_cons p1 (pa_cons p2 pa_nil hs2) (by rw [hs, hs2])) (by rw [hs, hs2]) (by rw [hs2]; rfl), fun σ R w ρ μ S E h => ?_⟩
  refine k σ _ w ρ μ S E ((PostR.bind h).imp fun w1 d s1 ⟨μ1, S1, q1⟩ v r1 => ?_)
  refine k2 σ _ w1 ρ μ1 S1 (E.mono s1.kp) ((PostR.bind q1).imp fun w2 d2 s2 ⟨μ2, S2, q2⟩ v2 r2 => ?_)
  have r1 := r1.mono s2.kp
  cases d with
  | str a =>
    cases d2 with
    | str b =>
      simp only [oZip] at q2
      split at q2
      · rename_i hl
        rw [Bool.and_eq_true] at hl
        exact ⟨⟨a.toArray⟩, ⟨b.toArray⟩, by rw [show v = V.str ⟨a.toArray⟩ from r1, show v2 = V.str ⟨b.toArray⟩ from r2], by simpa using hl.1, by simpa using hl.2, q2 w2 Step.refl S2 _ wk_zip⟩
      · exact q2.elim
    | _ => exact q2.elim
  | _ => cases d2 <;> exact q2.elim
/-! ### x *= e -/
def oMulI : D → D → Store → Res D := fun d e μ => match d, e with
  | .int i, .int j => if (Sm i && Sm j) = true then .ok (.int (i * j)) μ else .stuck
  | _, _ => .stuck
/-! ### sorted(set(xs)) of lists that are longer -/
def rSetM (K : PySem.W.Frag) (w : World) : List V → Hp → VK → Prop := fun xs H Q => ∃ (l : Addr) (ns : List Int), xs = [V.ref l] ∧ SqL K H l (ns.map V.int) ∧ ns.length ≤ 1000 ∧
  ∀ a, H a = none → Q (.ref a) (upd H a (SetO w a (fun j => decide (j ∈ ns)) (sset ns).length))
theorem nodup_len : ∀ {l m : List Int}, l.Nodup → m.Nodup → (∀ z, z ∈ l ↔ z ∈ m) → l.length = m.length := fun h1 h2 h => ((List.perm_ext_iff_of_nodup h1 h2).mpr h).length_eq
theorem cr_setM {X : Cx} (hc : X.calm = true) : CallR X (.type "set") (rSetM X.K X.w) := by
  intro pins s σ H xs us Q I r h
  obtain ⟨l, ns, rfl, hl, h64, q⟩ := h
  rw [Vals.ref1 r]
  obtain ⟨its, rv, pl, hz⟩ := I.list hl
  refine set_of_list (P := X.prog) (w := X.w) ns (I.ok.hd hc) pl.isList (ints_of_vals rv) (by unfold scanBound; omega) fun h' tk c R hcn k => ?_
  have hcc : c = (sset ns).length := by
    obtain ⟨o, es, ep, t, _, _, _, _, nd, mem, _, _, hn, _⟩ := R
    have e1 : (es.toList.map keyOf).length = (sset ns).length := nodup_len nd (asc_sset.imp fun h => by omega) fun z => by rw [← mem z, mem_sset, decide_eq_true_eq]
    rw [← e1, List.length_map, Array.length_toList, hn]
  subst hcc
  exact ⟨.ref s.heap.objs.size, upd H s.heap.objs.size (SetO X.w s.heap.objs.size (fun j => decide (j ∈ ns)) (sset ns).length), I.laid (t' := tk) k (Nat.le_refl _) (setO_new R), rfl, q _ (I.hok.fresh (Nat.le_refl _))⟩
def eSortSetM (fa : FE) : FE := fun ρ μ => (fa ρ μ).bind fun d μ1 => match lintsOf μ1 d with
  | some is => if is.length ≤ 1000 ∧ (sset is).length < 64 then .ok (.lst ((sset is).map .int)) μ1 else .stuck
  | none => .stuck
section
variable {X : Cx} {W : WX} {cls : Nat → Option Addr} {a : Expr} {fa fe : FE} {p p2 q pos : Pos}
theorem se_sortSetM (hc : X.calm = true) (hg : Gl X "sorted") (hm : X.mg "sorted" = none) (hg2 : Gl X "set") (hm2 : X.mg "set" = none) (ha : SE X W cls a fa)
    (hs : starEach [a] X.env = [(false, eval a X.env)] := by rfl)
    (hs2 : starEach [.Call (.Name "set" p2) [a] [] q] X.env = [(false, eval (.Call (.Name "set" p2) [a] [] q) X.env)] := by rfl) :
    SE X W cls (.Call (.Name "sorted" p) [.Call (.Name "set" p2) [a] [] q] [] pos) (eSortSetM fa) := by
  obtain ⟨t1, p1, h1⟩ := ha
  refine ⟨_, pe_callB (cr_sortedSet hc) hg hm (by decide +kernel) (pa_cons (pe_callTy (cr_setM hc) hg2 hm2 (by decide +kernel) (pa_cons p1 pa_nil hs) (by decide +kernel) (by decide +kernel) hs rfl) pa_nil hs2) (by decide +kernel) (by decide +kernel) hs2 rfl, fun σ Q w ρ μ S E h => ?_⟩
  refine h1 σ _ w ρ μ S E ((PostR.bind h).imp fun w1 d s1 ⟨μ1, S1, q1⟩ v r1 => ?_)
  split at q1
  · rename_i is he
    split at q1
    · rename_i hl
      obtain ⟨l, rfl, sq⟩ := lintsOf_at S1 r1 he
      refine ⟨l, is, rfl, sq, hl.1, fun b hb => ⟨b, _, _, rfl, upd_same, hl.2, fun ns c asc mem _ hcn => ?_⟩⟩
      have e : ns = sset is := asc_unique asc asc_sset fun z => by rw [mem, mem_sset, decide_eq_true_eq]
      subst e
      have S2 : RelS X.K cls (w1.up b (SetO X.w b (fun j => decide (j ∈ is)) (sset is).length)) μ1 := S1.new hb
      have hcn2 : (w1.up b (SetO X.w b (fun j => decide (j ∈ is)) (sset is).length)).H c = none := hcn
      refine q1 ((w1.up b (SetO X.w b (fun j => decide (j ∈ is)) (sset is).length)).up c (.lst ((sset is).map V.int))) ((step_new hb).trans (step_new hcn2)) (S2.new hcn2) _ (new_lst S2 hcn2 ?_)
      exact RVs.ints
    · exact q1.elim
  · exact q1.elim
end
end Fw

set_option Elab.async false
set_option linter.all false
set_option maxRecDepth 100000
set_option autoImplicit false
/-! Multiplied in place. -/
namespace Fw
open PySem PySem.Spec PyProof.Rows L2
theorem ip_mulI {X : Cx} : PIp X .Mult (fun x y H Q => ∃ i j, x = .int i ∧ y = .int j ∧ CMulW i j ∧ Q (.int (i * j)) H) := by
  intro pins s σ H x y v u Q I r1 r2 h
  obtain ⟨i, j, e1, e2, hc, q⟩ := h
  subst e1 e2
  obtain ⟨t, rfl⟩ := r1
  obtain ⟨t', rfl⟩ := r2
  exact imul_int ⟨.int _, H, I.tok _, ⟨_, rfl⟩, q⟩ (CMulW.ok hc)
theorem sm_wide {i j : Int} (h : Sm i = true) (h2 : Sm j = true) : CMulW i j := by
  simp only [Sm, Bool.and_eq_true, decide_eq_true_eq] at h h2
  exact wide_mul (a := 64) (b := 64) (by omega) (by omega) (by decide) (by decide) (by decide)
section
variable {X : Cx} {W : WX} {cls : Nat → Option Addr} {e : Expr} {fe : FE} {pos : Pos}
theorem ss_augMul (i : Nat) {x : Str} {pos' : Pos} (hN : X.N.Nodup) (he : SE X W cls e fe) (hi : X.N[i]? = some x := by rfl) (hx : Loc X.env.scope x := by first | exact .inl rfl | exact .inr rfl)
    (hf : X.fn x = true ∨ X.env.scope.names.lookup x = some .local := by first | exact .inl rfl | exact .inr rfl) :
    SS X W cls (.AugAssign (.Name x pos') .Mult e pos) (sAug i oMulI fe) := by
  obtain ⟨t1, p1, h1⟩ := he
  refine ⟨_, ps_aug hN hi hx p1 ip_mulI hf, fun D σ w ρ μ S E h => ?_⟩
  unfold sAug at h
  split at h
  · rename_i d hd
    obtain ⟨v, e1, r⟩ := E.2 i d hd
    refine ⟨v, e1, h1 σ _ w ρ μ S E ((PostS.bind E h).imp fun w1 y s1 ⟨μ1, S1, q1⟩ u r1 => ?_)⟩
    have r := r.mono s1.kp
    cases d with
    | int i =>
      cases y with
      | int j =>
        simp only [oMulI] at q1
        split at q1
        · rename_i hs
          rw [Bool.and_eq_true] at hs
          refine ⟨i, j, r, r1, sm_wide hs.1 hs.2, ?_⟩
          simp only [rS_ok] at q1
          split at q1
          · exact q1 w1 _ Step.refl S1 ((E.mono s1.kp).set rfl)
          · exact q1.elim
        · exact q1.elim
      | _ => exact q1.elim
    | _ => cases y <;> exact q1.elim
  · exact h.elim
end
end Fw

set_option Elab.async false
set_option linter.all false
set_option maxRecDepth 100000
set_option autoImplicit false
/-! reversed(range(n)). -/
namespace Fw
open PySem L2 PyProof.Rows
section
variable {X : Cx} {W : WX} {cls : Nat → Option Addr} {tg a : Expr} {fa : FE} {p p2 pos pos2 : Pos}
def iRevD (fa : FE) : FI := fun ρ μ => (fa ρ μ).bind fun d μ1 => match d with
  | .int j => if -1000000 ≤ j ∧ j ≤ 1000000 then .ok ((List.range j.toNat).map fun k => .int ((j.toNat : Int) - 1 + (k : Nat) * (-1)), none) μ1 else .stuck
  | _ => .stuck
theorem si_rev (hg : Gl X "reversed") (hm : X.mg "reversed" = none) (hg2 : Gl X "range") (hm2 : X.mg "range" = none) (ha : SE X W cls a fa)
    (hs : starEach [a] X.env = (false, eval a X.env) :: starEach [] X.env := by rfl)
    (hs2 : starEach [.Call (.Name "range" p2) [a] [] pos2] X.env = (false, eval (.Call (.Name "range" p2) [a] [] pos2) X.env) :: starEach [] X.env := by rfl) :
    SI X W cls tg (.Call (.Name "reversed" p) [.Call (.Name "range" p2) [a] [] pos2] [] pos) (iRevD fa) := by
  obtain ⟨t, q, k⟩ := ha
  refine ⟨_, L2.pi_revR hg hm (prg_1 hg2 hm2 q hs) hs2, fun σ R w ρ μ S E h => ?_⟩
  refine k σ _ w ρ μ S E ((PostR.bind h).imp fun w1 d s1 ⟨μ1, S1, q1⟩ v r1 => ?_)
  cases d with
  | int j =>
    simp only at q1
    split at q1
    · rename_i hj
      refine ⟨j, by rw [show v = V.int j from r1], by omega, by omega, by omega, by omega, ?_⟩
      have e1 : (0 : Int) + (((j - 0).toNat : Nat) : Int) - 1 = (j.toNat : Int) - 1 := by omega
      have e2 : (j - 0).toNat = j.toNat := by omega
      rw [e1, e2]
      exact q1 w1 Step.refl S1 _ wk_rangeC
    · exact q1.elim
  | _ => exact q1.elim
end
end Fw

set_option Elab.async false
set_option linter.all false
set_option maxRecDepth 100000
set_option autoImplicit false
/-! A for loop of a generator. -/
namespace Fw
open PySem
open PySem.Sem (wp)
section
variable {M : Model} {A : Around} {R : GenEnd} {Y : Protocol} {n : Nat} {s₀ : Shared} {c : Code} {fs : List Frame} {s : Shared} {env : PySem.Env}
  {K : Flow → Sem PySem.Fin} {H : Value → Sem PySem.Fin} {gd : Bool → Bool} {lv : List Value → List Value}
theorem sg_for {tg iter : Expr} {body : List Stmt} {pos : Pos} (hs : ∀ x, foldedSetIterable iter env x = pure x)
    (h : wpAny M (A.over c fs) (eval iter env) (fun x s1 => wpAny M (A.over c fs) (pyIter x) (fun it s2 => ∀ p, Seg M A R Y n s₀ (.forLoop tg it body [] env) (M.den (.forLoop tg it body [] env))
      (.ret (fun r => ((match r with | .ok f => (.pure f : Sem Flow) | .error e => .raise e).onRaise fun (x : Value) => do
        if (← field x 1) == Value.none then unsupported "frame.own-activation:exception-without-traceback"
        setFlight x env.frame).wrap K H gd lv) none (gd false) (lv []) c p [] :: fs) s2) (fun e s2 => Seg M A R Y n s₀ c (H e) fs s2) s1) (fun e s1 => Seg M A R Y n s₀ c (H e) fs s1) s) :
    Seg M A R Y n s₀ c ((exec (.For tg iter body [] pos) env).wrap K H gd lv) fs s := by
  rw [exec_For]
  refine seg_at (show Seg M A R Y n s₀ c (Sem.wrap K H gd lv ((eval iter env) >>= fun x0 => (foldedSetIterable iter env x0 >>= fun x => standAt iter.pos >>= fun _ => holding [x] (pyIter x) >>= fun it => runOwn (.forLoop tg it body [] env) env))) fs s from ?_)
  rw [Sem.bind_eq_wrap', Sem.wrap_wrap]
  refine seg_wrap (wpAny_mono h (fun x s1 h1 => ?_) fun x s1 h1 => h1)
  rw [hs x]
  refine seg_at (show Seg M A R Y n s₀ c (Sem.wrap K H gd lv (holding [x] (pyIter x) >>= fun it => runOwn (.forLoop tg it body [] env) env)) fs s1 from ?_)
  rw [Sem.bind_eq_wrap', Sem.wrap_wrap]
  refine seg_wrap (wpAny_holding (wpAny_mono h1 (fun it s2 h2 => ?_) fun e s2 h2 => h2))
  exact seg_call h2
/-- the frame's note behind an error -/
abbrev EH (env : PySem.Env) (e : Value) : Sem PySem.Fin := (do noteFrame e env; theTreesLotGoes e : Sem Unit).wrap (fun _ => .raise e) .raise id id
theorem sg_turn {prog : Program} {w : World} {tg : Expr} {it : Value} {body : List Stmt}
    (h : wpAny (model prog w) (A.over (.forLoop tg it body [] env) fs) (pyNext it) (fun r s1 => match r with
      | none => Seg (model prog w) A R Y n s₀ (.forLoop tg it body [] env) (.pure (.again (.block [] env))) fs s1
      | some v => wpAny (model prog w) (A.over (.forLoop tg it body [] env) fs) (letOwnedTupleGo tg it v) (fun _ s2 => wpAny (model prog w) (A.over (.forLoop tg it body [] env) fs) (assign tg env v) (fun _ s3 =>
          Seg (model prog w) A R Y n s₀ (.forLoop tg it body [] env) ((execs body env).wrap (fun f => match f with
            | .next | .cont => .pure (.again (.forLoop tg it body [] env))
            | .brk => .pure (.done .next)
            | .ret v => .pure (.done (.ret v))) (EH env) id id) fs s3)
          (fun x s3 => Seg (model prog w) A R Y n s₀ (.forLoop tg it body [] env) (EH env x) fs s3) s2) (fun x s2 => Seg (model prog w) A R Y n s₀ (.forLoop tg it body [] env) (EH env x) fs s2) s1)
      (fun x s1 => Seg (model prog w) A R Y n s₀ (.forLoop tg it body [] env) (EH env x) fs s1) s) :
    Seg (model prog w) A R Y n s₀ (.forLoop tg it body [] env) ((model prog w).den (.forLoop tg it body [] env)) fs s := by
  have eh : ∀ x : Value, ((do noteFrame x env; theTreesLotGoes x : Sem Unit).bind fun _ => (Sem.raise x : Sem PySem.Fin)) = EH env x := fun x => Sem.bind_eq_wrap _ _
  show Seg _ A R Y n s₀ _ ((forTurn tg it body [] env).onRaise (fun x => do noteFrame x env; theTreesLotGoes x)) fs s
  rw [Sem.onRaise_eq_wrap, show (fun e : Value => ((do noteFrame e env; theTreesLotGoes e : Sem Unit).bind fun _ => (Sem.raise e : Sem PySem.Fin))) = EH env from funext eh]
  unfold forTurn
  refine seg_at (show Seg _ A R Y n s₀ _ (Sem.wrap Sem.pure (EH env) id id (((pyNext it).onRaise (fun _ => standAt { tg.pos with line := 0 })) >>= fun r => match r with
    | none => again (.block [] env)
    | some v => letOwnedTupleGo tg it v >>= fun _ => assign tg env v >>= fun _ => execs body env >>= fun f => match f with
      | .next | .cont => again (.forLoop tg it body [] env)
      | .brk => pure (.done .next)
      | .ret v => pure (.done (.ret v)))) fs s from ?_)
  rw [Sem.bind_eq_wrap', Sem.wrap_wrap]
  refine seg_wrap (wpAny_onRaise (wpAny_mono h (fun r s1 h1 => ?_) fun x s1 h1 => wpAny_standAt h1))
  cases r with
  | none => exact h1
  | some v =>
    show Seg _ A R Y n s₀ _ (Sem.wrap Sem.pure (EH env) id id (letOwnedTupleGo tg it v >>= fun _ => assign tg env v >>= fun _ => execs body env >>= fun f => match f with
      | .next | .cont => again (.forLoop tg it body [] env)
      | .brk => pure (.done .next)
      | .ret v => pure (.done (.ret v)))) fs s1
    rw [Sem.bind_eq_wrap', Sem.wrap_wrap]
    refine seg_wrap (wpAny_mono h1 (fun _ s2 h2 => ?_) fun x s2 h2 => h2)
    show Seg _ A R Y n s₀ _ (Sem.wrap Sem.pure (EH env) id id (assign tg env v >>= fun _ => execs body env >>= fun f => match f with
      | .next | .cont => again (.forLoop tg it body [] env)
      | .brk => pure (.done .next)
      | .ret v => pure (.done (.ret v)))) fs s2
    rw [Sem.bind_eq_wrap', Sem.wrap_wrap]
    refine seg_wrap (wpAny_mono h2 (fun _ s3 h3 => ?_) fun x s3 h3 => h3)
    show Seg _ A R Y n s₀ _ (Sem.wrap Sem.pure (EH env) id id (execs body env >>= fun f => match f with
      | .next | .cont => again (.forLoop tg it body [] env)
      | .brk => pure (.done .next)
      | .ret v => pure (.done (.ret v)))) fs s3
    rw [Sem.bind_eq_wrap', Sem.wrap_wrap]
    have eq := Sem.wrap_congr (execs body env) (K := fun a => Sem.wrap Sem.pure (EH env) id id (match a with
          | Flow.next => again (Code.forLoop tg it body [] env)
          | Flow.cont => again (Code.forLoop tg it body [] env)
          | Flow.brk => pure (PySem.Fin.done Flow.next)
          | Flow.ret v => pure (PySem.Fin.done (Flow.ret v)))) (H := fun e => Sem.wrap Sem.pure (EH env) id id (Sem.raise e)) id id (K' := fun f => match f with
            | .next | .cont => .pure (.again (.forLoop tg it body [] env))
            | .brk => .pure (.done .next)
            | .ret v => .pure (.done (.ret v))) (H' := EH env) (fun f => by cases f <;> rfl) (fun e => rfl)
    have h4 : Seg (model prog w) A R Y n s₀ (.forLoop tg it body [] env) (Sem.wrap (fun a => Sem.wrap Sem.pure (EH env) id id (match a with
          | Flow.next => again (Code.forLoop tg it body [] env)
          | Flow.cont => again (Code.forLoop tg it body [] env)
          | Flow.brk => pure (PySem.Fin.done Flow.next)
          | Flow.ret v => pure (PySem.Fin.done (Flow.ret v)))) (fun e => Sem.wrap Sem.pure (EH env) id id (Sem.raise e)) id id (execs body env)) fs s3 := by
      rw [eq]; exact h3
    exact h4
/-- behind the last turn: no else -/
theorem sg_none {prog : Program} {w : World} {k : Result → Sem PySem.Fin} {hh : Option Value} {g : Bool} {l kp : List Value} {c' c1 : Code} {p1 : Pos} (h : Seg (model prog w) A R Y n s₀ c1 (k (.ok .next)) fs s) :
    Seg (model prog w) A R Y n s₀ c' (.pure (.again (.block [] env))) (.ret k hh g l c1 p1 kp :: fs) s := by
  refine seg_again rfl (show Seg _ A R Y n s₀ _ (((execs [] env).onRaise (fun x => do noteFrame x env; theTreesLotGoes x)) >>= fun f => (pure (PySem.Fin.done f) : Sem PySem.Fin)) _ s from ?_)
  exact seg_leaf (.ok .next) h
end
end Fw

set_option Elab.async false
set_option linter.all false
set_option maxRecDepth 100000
set_option maxHeartbeats 1000000
set_option autoImplicit false
/-! A for loop of a generator, by its turns; readings of generators. -/
namespace Fw
open PySem L2 PyProof.Rows GenW

/-- the frame that waits for the end of a for loop -/
abbrev forFr (env : PySem.Env) (K : Flow → Sem PySem.Fin) (J : Value → Sem PySem.Fin) (gd : Bool → Bool) (lv : List Value → List Value) (c : Code) (p : Pos) : Frame :=
  .ret (fun r => ((match r with | .ok f => (.pure f : Sem Flow) | .error e => .raise e).onRaise (cameBack env)).wrap K J gd lv) none (gd false) (lv []) c p []
/-- W: by the turn, a measure, what is out -/
def tGFor (wi : TI) (g : TG) (tb : TGn) : TGn := fun D ys σ H => wi σ H fun J H1 => ∃ W : Nat → Nat → List V → L2.St → Hp → Prop, (∃ m, W 0 m ys σ H1) ∧ ∀ i m ys σ H, W i m ys σ H →
  (J.stop i H ∧ D.nx ys σ H) ∨ (J.go i H ∧ ∃ N : List V → L2.St → Hp → Prop, (∀ ys' σ' H', N ys' σ' H' → ∃ m', m' < m ∧ W (i + 1) m' ys' σ' H') ∧ ∀ x H', J.yld i H x H' → g x σ H' fun σ2 H2 => tb { D with nx := N, ct := N, bk := D.nx } ys σ2 H2)
section
variable {X : Cx}
theorem gi_less {S : Addr} {ip pl : List (Addr × Obj)} {ys : List V} {σ : L2.St} {H : Hp} {s : Shared} (h : GI X S (ip ++ pl) ys σ H s) : GI X S ip ys σ H s := by
  obtain ⟨acc, cc, r, I⟩ := h
  exact ⟨acc, cc, r, Inv.unpinned (pins := (S, lstObj acc cc) :: ip) (pl := pl) I⟩
theorem gs_for {tg iter : Expr} {body : List Stmt} {wi : TI} {g : TG} {tb : TGn} {pos : Pos} (hp : PassesOwn (model X.prog X.w) X.A X.env X.xe) (hc : X.calm = true) (hi : PI X tg iter wi) (hg : PG X tg g) (hb : GSs X body tb)
    (hs : ∀ x, foldedSetIterable iter X.env x = pure x := by intro _; rfl) : GS X (.For tg iter body [] pos) (tGFor wi g tb) := by
  refine ⟨fun A S ip R n ys s₀ c fs K J gd lv s σ H D G hn k hI ht => ?_⟩
  obtain ⟨acc, cc, r, I⟩ := hI
  refine sg_for hs ?_
  rw [G.over]
  refine wpAny_mono (hi.run _ s σ H _ I ht) (fun v s1 h1 => ?_) fun x s1 hx => k.exc n s₀ x s1 hx
  refine wpAny_mono h1 (fun itv s2 h2 => ?_) fun x s2 hx => k.exc n s₀ x s2 hx
  obtain ⟨it, fp, tn, JJ, H2, e, I2, T, st2, f2, W, ⟨m0, w0⟩, turn⟩ := h2
  subst e
  intro p
  have stat : ∀ {H' : Hp} {acc' : Array Value} {c' : Nat}, (∀ b ∈ fp, H' b = none) → ∀ b ∈ fp, FpOk X ((S, lstObj acc' c') :: ip) H' b := fun {H' acc' c'} hn b hb => by
    obtain ⟨_, q1, q2, q3, q4, q5⟩ := f2 b hb
    refine ⟨hn b hb, q1, q2, q3, q4, fun p hp => ?_⟩
    rw [List.mem_append, List.mem_cons] at hp
    rcases hp with z | rfl | z
    · exact q5 p (List.mem_append_left _ z)
    · exact q5 (S, lstObj acc cc) (List.mem_append_right _ (.head _))
    · exact q5 p (List.mem_append_right _ (.tail _ z))
  have gl := fun (kk : Result → Sem PySem.Fin) => gc_loop (k := kk) (c' := .forLoop tg (.ref it) body [] X.env) (l := lv []) (kp := []) (p := p) G rfl rfl
  have loop : ∀ (m i n : Nat) (ys : List V) (s₀ s : Shared) (σ : L2.St) (H : Hp), n + ys.length = sizeLine → W i m ys σ H → GI X S ip ys σ H s → tn i s.heap → (∀ b ∈ fp, H b = none) →
      Seg (model X.prog X.w) A R (GY X S) n s₀ (.forLoop tg (.ref it) body [] X.env) ((model X.prog X.w).den (.forLoop tg (.ref it) body [] X.env))
        (forFr X.env K J gd lv c p :: fs) s := by
    intro m
    induction m using Nat.strongRecOn with
    | ind m ih =>
      intro i n ys s₀ s σ H hn w hI st fr
      have ee : ∀ (n : Nat) (s₀ : Shared) (x : Value) (s' : Shared), X.xe x s' → Seg (model X.prog X.w) A R (GY X S) n s₀ (.forLoop tg (.ref it) body [] X.env) (EH X.env x)
          (forFr X.env K J gd lv c p :: fs) s' := fun n s₀ x s' hx => by
        refine seg_wrap ?_
        rw [(gl _).over]
        refine wpAny_bind (wpAny_mono (hp x s' hx) (fun _ s2 h => wpAny_theTreesLotGoes ?_) fun y s2 h => ?_) <;> exact seg_leaf (.error _) (seg_cameBack G k h)
      refine sg_turn ?_
      rw [(gl _).over]
      obtain ⟨acc1, c1, r1, I1⟩ := hI
      rcases turn i m ys σ H w with ⟨stop, qn⟩ | ⟨go, N, hN, step⟩
      · refine wpAny_mono (T.done X rfl rfl rfl hc i _ s σ H X.xe I1 (stat fr) st stop) (fun rr s4 h4 => ?_) fun x s' hx => ee n s₀ x s' hx
        obtain ⟨hr, I4⟩ := h4
        subst hr
        exact sg_none (k.ok n ys s₀ s4 .next hn ⟨σ, H, ⟨acc1, c1, r1, I4⟩, qn⟩)
      · refine wpAny_mono (T.item X rfl rfl rfl hc i _ s σ H X.xe I1 (stat fr) st go) (fun rr s4 h4 => ?_) fun x s' hx => ee n s₀ x s' hx
        obtain ⟨u, hr, h4⟩ := h4
        subst hr
        refine wpAny_mono h4 (fun _ s5 h5 => ?_) fun x s' hx => ee n s₀ x s' hx
        obtain ⟨x, H5, I5, r5, y5, st5, fr5⟩ := h5
        have I5' : Inv X ((S, lstObj acc1 c1) :: (ip ++ pinsAt fp s5.heap)) σ H5 s5 := I5.pinned (stat fr5) (T.obj _ _ st5)
        refine wpAny_mono (hg.run _ s5 σ H5 x u _ I5' r5 (step x H5 y5)) (fun _ s6 h6 => ?_) fun x s' hx => ee n s₀ x s' hx
        obtain ⟨σ6, H6, I6, q6⟩ := h6
        have gl2 := fun (kk : Result → Sem PySem.Fin) => gc_loop (k := kk) (c' := .forLoop tg (.ref it) body [] X.env) (l := lv []) (kp := []) (p := p) (ip := ip ++ pinsAt fp s5.heap) (S := S) (A := A) (c := c) (fs := fs) (gd := gd)
          ⟨G.pn, fun q hq => (List.mem_append.mp hq).elim (G.ip q) fun z hS => (by
            obtain ⟨z1, _⟩ := of_pinsAt z
            exact (f2 _ z1).2.2.2.2.2 (S, lstObj acc cc) (List.mem_append_right _ List.mem_cons_self) hS.symm), G.apart, G.over, G.split, G.guard, G.gd⟩ rfl rfl
        refine hb.run A S (ip ++ pinsAt fp s5.heap) R n ys s₀ _ _ _ _ id id s6 σ6 H6 { D with nx := N, ct := N, bk := D.nx } (gl2 _) hn ⟨fun n' ys' s₀' s7 f hn' hs => ?_, fun n' s₀' x s7 hx => ee n' s₀' x s7 hx⟩ ⟨acc1, c1, r1, I6⟩ q6
        have again : ∀ {σ7 : L2.St} {H7 : Hp}, GI X S (ip ++ pinsAt fp s5.heap) ys' σ7 H7 s7 → N ys' σ7 H7 → Seg (model X.prog X.w) A R (GY X S) n' s₀' (.forLoop tg (.ref it) body [] X.env) (.pure (.again (.forLoop tg (.ref it) body [] X.env)))
            (forFr X.env K J gd lv c p :: fs) s7 := fun {σ7 H7} g7 n7 => by
          obtain ⟨m', hm, w7⟩ := hN ys' σ7 H7 n7
          have g7' := g7
          obtain ⟨acc7, c7, r7, I7⟩ := g7
          have I7p : ∀ q ∈ pinsAt fp s5.heap, s7.heap.get? q.1 = some q.2 ∧ H7 q.1 = none := fun q hq =>
            ⟨(I7.pin q (List.mem_append_right _ (List.mem_cons_of_mem _ (List.mem_append_right _ hq)))).1, (I7.pin q (List.mem_append_right _ (List.mem_cons_of_mem _ (List.mem_append_right _ hq)))).2.1⟩
          refine seg_again rfl (ih m' hm (i + 1) n' ys' s₀' s7 σ7 H7 hn' w7 (gi_less g7') (T.keep _ _ _ st5 fun b hb o e => (I7p (b, o) (mem_pinsAt hb e)).1) fun b hb => ?_)
          have ⟨o, e, d⟩ := T.obj _ _ st5 b hb
          exact (I7p (b, o) (mem_pinsAt hb e)).2
        cases f with
        | next => obtain ⟨σ7, H7, g7, n7⟩ := hs; exact again g7 n7
        | cont => obtain ⟨σ7, H7, g7, n7⟩ := hs; exact again g7 n7
        | brk => obtain ⟨σ7, H7, g7, q7⟩ := hs; exact seg_leaf (.ok .next) (k.ok n' ys' s₀' s7 .next hn' ⟨σ7, H7, gi_less g7, q7⟩)
        | ret v => obtain ⟨v7, σ7, H7, g7, r7, q7⟩ := hs; exact seg_leaf (.ok (.ret v)) (k.ok n' ys' s₀' s7 (.ret v) hn' ⟨v7, σ7, H7, gi_less g7, r7, q7⟩)
  exact loop m0 0 n ys s₀ s2 σ H2 hn w0 ⟨acc, cc, r, I2⟩ st2 fun b hb => (f2 b hb).1
end
end Fw

set_option Elab.async false
set_option linter.all false
set_option maxRecDepth 100000
set_option maxHeartbeats 1000000
set_option autoImplicit false
/-! Readings of generators. -/
namespace Fw
open PySem L2 GenW PyProof.Rows

inductive GRes where
  | nx (zs : List D) (ρ : Env) (μ : Store)
  | stuck
abbrev FG := Env → Store → GRes
def gApp (zs : List D) : GRes → GRes
  | .nx us ρ μ => .nx (zs ++ us) ρ μ
  | .stuck => .stuck
def rG {α : Type} (r : Res α) (f : α → Store → GRes) : GRes := match r with
  | .ok a μ => f a μ
  | _ => .stuck
def PostG (K : PySem.W.Frag) (cls : Nat → Option Addr) (w : Wd) (D : GEnds) (ys : List V) : GRes → Prop
  | .nx zs ρ μ => ys.length + zs.length ≤ sizeLine ∧ ∀ w' σ us, Step w w' → RelS K cls w' μ → RelE K cls w' ρ σ → RVs K cls w' zs us → D.nx (ys ++ us) σ w'.H
  | .stuck => False
section
variable {K : PySem.W.Frag} {cls : Nat → Option Addr} {w w' : Wd} {zs : List D} {D : GEnds} {ys us : List V} {r : GRes}
theorem PostG.step (s : Step w w') (h : PostG K cls w D ys r) : PostG K cls w' D ys r := by
  cases r with
  | nx zs ρ μ => exact ⟨h.1, fun w2 σ us s2 => h.2 w2 σ us (s.trans s2)⟩
  | stuck => exact h
theorem PostG.bind {α : Type} {r : Res α} {f : α → Store → GRes} (h : PostG K cls w D ys (rG r f)) : PostR K cls w E00 (fun w' a => ∃ μ', RelS K cls w' μ' ∧ PostG K cls w' D ys (f a μ')) r := by
  cases r with
  | ok a μ => exact fun w' s S => ⟨μ, S, PostG.step s h⟩
  | err _ _ _ _ => exact h.elim
  | stuck => exact h
theorem PostG.len (h : PostG K cls w D ys (gApp zs r)) : ys.length + zs.length ≤ sizeLine := by
  cases r with
  | nx us ρ μ =>
    have := h.1
    rw [List.length_append] at this
    omega
  | stuck => exact h.elim
theorem PostG.app (s : Step w w') (r1 : RVs K cls w' zs us) (h : PostG K cls w D ys (gApp zs r)) : PostG K cls w' D (ys ++ us) r := by
  cases r with
  | nx vs ρ μ =>
    refine ⟨?_, fun w2 σ us2 s2 S2 E2 r2 => ?_⟩
    · have h1 := h.1
      rw [List.length_append] at h1 ⊢
      have hz := r1.length
      omega
    · rw [List.append_assoc]
      exact h.2 w2 σ (us ++ us2) (s.trans s2) S2 E2 ((RVs.mono s2.kp r1).append r2)
  | stuck => exact h.elim
end
section
variable (X : Cx) (cls : Nat → Option Addr)
def SGn (st : Stmt) (f : FG) : Prop := ∃ t, GS X st t ∧ ∀ (D : GEnds) (ys : List V) (σ : L2.St) (w : Wd) (ρ : Env) (μ : Store), RelS X.K cls w μ → RelE X.K cls w ρ σ → PostG X.K cls w D ys (f ρ μ) → t D ys σ w.H
def SGns (st : List Stmt) (f : FG) : Prop := ∃ t, GSs X st t ∧ ∀ (D : GEnds) (ys : List V) (σ : L2.St) (w : Wd) (ρ : Env) (μ : Store), RelS X.K cls w μ → RelE X.K cls w ρ σ → PostG X.K cls w D ys (f ρ μ) → t D ys σ w.H
end
def gPl (f : FS) : FG := fun ρ μ => match f ρ μ with
  | .nx ρ1 μ1 => .nx [] ρ1 μ1
  | _ => .stuck
def gNx : FG := fun ρ μ => .nx [] ρ μ
def gSeq (f g : FG) : FG := fun ρ μ => match f ρ μ with
  | .nx zs ρ1 μ1 => gApp zs (g ρ1 μ1)
  | .stuck => .stuck
def gYield (fe : FE) : FG := fun ρ μ => rG (fe ρ μ) fun d μ1 => .nx [d] ρ μ1
def forG (items : List D) (src : Option Nat) (g : D → Env → Store → Res Env) (body : FG) : List D → Env → Store → GRes
  | [], ρ, μ => if srcOk src items μ = true then .nx [] ρ μ else .stuck
  | d :: ds, ρ, μ => if srcOk src items μ = true then rG (g d ρ μ) fun ρ1 μ1 => match body ρ1 μ1 with
      | .nx zs ρ2 μ2 => gApp zs (forG items src g body ds ρ2 μ2)
      | .stuck => .stuck
    else .stuck
def gFor (fi : FI) (g : D → Env → Store → Res Env) (body : FG) : FG := fun ρ μ => rG (fi ρ μ) fun it μ1 => forG it.1 it.2 g body it.1 ρ μ1
section
variable {X : Cx} {cls : Nat → Option Addr} {st : Stmt} {rest : List Stmt} {f g : FG} {e : Expr} {fe : FE} {pos yp : Pos}
theorem sgn_plain {fs : FS} (h : SS X W0 cls st fs) : SGn X cls st (gPl fs) := by
  obtain ⟨t, p, k⟩ := h
  refine ⟨_, gs_ps p, fun D ys σ w ρ μ S E h => ?_⟩
  refine k _ σ w ρ μ S E ?_
  unfold gPl at h
  cases hf : fs ρ μ with
  | nx ρ1 μ1 =>
    rw [hf] at h
    intro w' σ' s' S' E'
    have := h.2 w' σ' [] s' S' E' RVs.nil
    rw [List.append_nil] at this
    exact this
  | rt d μ1 => rw [hf] at h; exact h.elim
  | bk ρ1 μ1 => rw [hf] at h; exact h.elim
  | ct ρ1 μ1 => rw [hf] at h; exact h.elim
  | er _ _ _ _ _ => rw [hf] at h; exact h.elim
  | stuck => rw [hf] at h; exact h.elim
theorem sgns_nil : SGns X cls [] gNx := ⟨_, gss_nil, fun D ys σ w ρ μ S E h => by
  have := h.2 w σ [] Step.refl S E RVs.nil
  rw [List.append_nil] at this
  exact this⟩
theorem sgns_cons (h1 : SGn X cls st f) (h2 : SGns X cls rest g) : SGns X cls (st :: rest) (gSeq f g) := by
  obtain ⟨t1, p1, h1⟩ := h1
  obtain ⟨t2, p2, h2⟩ := h2
  refine ⟨_, gss_cons p1 p2, fun D ys σ w ρ μ S E h => ?_⟩
  refine h1 _ ys σ w ρ μ S E ?_
  unfold gSeq at h
  cases hf : f ρ μ with
  | nx zs ρ1 μ1 =>
    rw [hf] at h
    exact ⟨PostG.len h, fun w' σ' us s' S' E' r' => h2 D (ys ++ us) σ' w' ρ1 μ1 S' E' (PostG.app s' r' h)⟩
  | stuck => rw [hf] at h; exact h
theorem sgn_yield (he : SE X W0 cls e fe) (hco : X.env.scope.isCoroutine = false := by rfl) (hi : interactive X.env = false := by rfl) : SGn X cls (.Expr (.Yield (some e) yp) pos) (gYield fe) := by
  obtain ⟨t1, p1, h1⟩ := he
  refine ⟨_, gs_yield p1 hco hi, fun D ys σ w ρ μ S E h => ⟨?_, ?_⟩⟩
  · unfold gYield at h
    cases hf : fe ρ μ with
    | ok d μ1 =>
      rw [hf] at h
      have := h.1
      simp only [List.length_singleton] at this
      omega
    | err _ _ _ _ => rw [hf] at h; exact h.elim
    | stuck => rw [hf] at h; exact h.elim
  · exact h1 σ _ w ρ μ S E ((PostG.bind h).imp fun w1 d s1 ⟨μ1, S1, q1⟩ v r1 => q1.2 w1 σ [v] Step.refl S1 (E.mono s1.kp) ⟨v, [], rfl, r1, rfl⟩)
theorem sgn_for {tg iter : Expr} {body : List Stmt} {fi : FI} {is : List Nat} {g : D → Env → Store → Res Env} {fb : FG} (hp : PassesOwn (model X.prog X.w) X.A X.env X.xe) (hc : X.calm = true)
    (hi : SI X W0 cls tg iter fi) (hg : SG X cls tg is g) (hb : SGns X cls body fb) (hs : ∀ x, foldedSetIterable iter X.env x = pure x := by intro _; rfl) : SGn X cls (.For tg iter body [] pos) (gFor fi g fb) := by
  obtain ⟨t1, p1, h1⟩ := hi
  obtain ⟨t2, p2, h2⟩ := hg
  obtain ⟨t3, p3, h3⟩ := hb
  refine ⟨_, gs_for hp hc p1 p2 p3 hs, fun D ys σ w ρ μ S E h => ?_⟩
  refine h1 σ _ w ρ μ S E ((PostG.bind h).imp fun w1 it s1 ⟨μ1, S1, q1⟩ J wk => ?_)
  obtain ⟨items, src⟩ := it
  have E1 := E.mono s1.kp
  refine ⟨fun i m ys' σ' H' => m = items.length - i ∧ i ≤ items.length ∧ ∃ (w' : Wd) (ρ' : Env) (μ' : Store), w'.H = H' ∧ Step w1 w' ∧ RelS X.K cls w' μ' ∧ RelE X.K cls w' ρ' σ' ∧ PostG X.K cls w' D ys' (forG items src g fb (items.drop i) ρ' μ'),
    ⟨items.length, by simp, Nat.zero_le _, w1, ρ, μ1, rfl, Step.refl, S1, E1, by simpa using q1⟩, ?_⟩
  rintro i m ys' σ' H' ⟨rfl, hle, w', ρ', μ', rfl, st, S', E', q⟩
  by_cases hlt : i < items.length
  · rw [List.drop_eq_getElem_cons hlt] at q
    simp only [forG] at q
    split at q
    · rename_i so
      obtain ⟨wd, _⟩ := wk i w' μ' st.kp S' so
      obtain ⟨go, yld⟩ := wd items[i] (List.getElem?_eq_getElem hlt)
      refine .inr ⟨go, fun ys2 σ2 H2 => ∃ (w2 : Wd) (ρ2 : Env) (μ2 : Store), w2.H = H2 ∧ Step w1 w2 ∧ RelS X.K cls w2 μ2 ∧ RelE X.K cls w2 ρ2 σ2 ∧ PostG X.K cls w2 D ys2 (forG items src g fb (items.drop (i + 1)) ρ2 μ2), ?_, fun x H2 y => ?_⟩
      · rintro ys2 σ2 H2 ⟨w2, ρ2, μ2, e, st2, S2, E2, q2⟩
        exact ⟨_, by omega, rfl, hlt, w2, ρ2, μ2, e, st2, S2, E2, q2⟩
      · obtain ⟨w2, rfl, st2, S2, rx⟩ := yld x H2 y
        refine h2 x items[i] σ' w2 ρ' μ' _ _ S2 (E'.mono st2.kp) rx ((PostG.bind (PostG.step st2 q)).imp fun w3 ρ3 st3 ⟨μ3, S3, q3⟩ σ3 E3 _ => ?_)
        refine h3 _ ys' σ3 w3 ρ3 μ3 S3 E3 ?_
        have st13 := (st.trans st2).trans st3
        cases hf : fb ρ3 μ3 with
        | nx zs ρ4 μ4 =>
          rw [hf] at q3
          exact ⟨PostG.len q3, fun w4 σ4 us s4 S4 E4 r4 => ⟨w4, ρ4, μ4, rfl, st13.trans s4, S4, E4, PostG.app s4 r4 q3⟩⟩
        | stuck =>
          rw [hf] at q3
          exact q3.elim
    · exact q.elim
  · have e : i = items.length := by omega
    subst e
    rw [List.drop_length] at q
    simp only [forG] at q
    split at q
    · rename_i so
      obtain ⟨_, stop⟩ := wk items.length w' μ' st.kp S' so
      have := q.2 w' σ' [] Step.refl S' E' RVs.nil
      rw [List.append_nil] at this
      exact .inl ⟨stop (Nat.le_refl _), this⟩
    · exact q.elim
end

/-! ### a generator def -/
def mG (m : Nat) (g : FG) : List D → Store → Res (List D) := fun ds μ => match g (ds.map some ++ List.replicate (m - ds.length) none) μ with
  | .nx zs _ μ' => if zs.length ≤ LIM then .ok zs μ' else .stuck
  | .stuck => .stuck
def spGn (K : PySem.W.Frag) (cls : Nat → Option Addr) (F : List D → Store → Res (List D)) (n : Nat) : SpG := fun vs H Q _ => ∃ (w : Wd) (ds : List D) (μ : Store), w.H = H ∧ ds.length = n ∧ RelS K cls w μ ∧ RVs K cls w ds vs ∧
  PostR K cls w E00 (fun w' zs => ∀ us, RVs K cls w' zs us → Q us w'.H) (F ds μ)
structure Dg (P : Program) (W : World) (K : PySem.W.Frag) (cls : Nat → Option Addr) (mg : Str → Option Value) (base : Heap) (k : Nat) (x : Str) (n : Nat) (F : List D → Store → Res (List D)) : Prop where
  ex : ∃ (f : Addr) (fd : FuncData) (ps : List Str), GFn P W K mg base k f fd ps (spGn K cls F n) ∧ mg x = some (.ref f) ∧ PySem.W.keepIn K (.ref f) = true ∧ Binds K fd ps [] ∧ ps.length = n
section
variable {P : Program} {W : World} {K : PySem.W.Frag} {cls : Nat → Option Addr} {mg : Str → Option Value} {base : Heap} {x qual : Str} {st : Stmt} {f : Addr} {fd : FuncData} {N ps : List Str} {k : Nat} {g : FG}
theorem dg_mk (F : Fun K x qual st f fd) (b : Binds K fd ps []) (hm : mg x = some (.ref f)) (S : GScope N ps (defScope st))
    (hb : ∀ (cdv : Value) (A : Around) (outer : List PySem.Env) (s : Shared) (H : Hp) (E : XK) (pn : List (Addr × Obj)), Room k (A.deeper (envOfC qual (defScope st) s.heap.objs.size f cdv)) → SGns (gcxOf P W K mg base N qual (defScope st) f cdv A outer s H E pn) cls (defBody st) g) :
    Dg P W K cls mg base (k + 1) x ps.length (mG N.length g) := by
  refine ⟨f, fd, ps, ?_, hm, F.kp, b, rfl⟩
  obtain ⟨oc, od, kV, doc, pm, an, cdv, ct, osl, rfl, lk, hcd⟩ := F.ex
  refine gfn_of lk hcd S (fun vs H Q E h => ?_) fun A outer s H vs Q E pn hr h => ?_
  · obtain ⟨w, ds, μ, _, hl, _, r, _⟩ := h
    rw [r.length, hl]
  · obtain ⟨w, ds, μ, rfl, hl, S', r, h⟩ := h
    obtain ⟨t, p, hk⟩ := hb cdv A outer s w.H E pn hr
    refine ⟨t, p, hk _ _ _ w _ μ S' (relE_start r) ?_⟩
    unfold mG at h
    cases hg : g (ds.map some ++ List.replicate (N.length - ds.length) none) μ with
    | nx zs ρ μ1 =>
      rw [hg] at h
      simp only at h
      split at h
      · rename_i hl
        refine ⟨?_, fun w' σ us s S1 E1 r1 => h w' s S1 us r1⟩
        rw [List.length_nil, Nat.zero_add]
        exact lim_le hl
      · exact h.elim
    | stuck => rw [hg] at h; exact h.elim
end
def eListG (n : Nat) (F : List D → Store → Res (List D)) (fs : FA) : FE := fun ρ μ => (fs ρ μ).bind fun ds μ1 => if ds.length = n then (F ds μ1).mute.bind fun zs μ2 => .ok (.lst zs) μ2 else .stuck
section
variable {X : Cx} {cls : Nat → Option Addr} {a : Expr} {pos p pos2 p2 : Pos}
theorem se_listG {W : WX} (tk : Takes X W) {k n : Nat} {x : Str} {es : List Expr} {fr : FA} {F : List D → Store → Res (List D)} (G : Dg X.prog X.w X.K cls X.mg X.base k x n F) (hr : Room (k + 3) X.A) (hg : Gl X x) (hgl : Gl X "list") (hml : X.mg "list" = none) (ha : SA X W cls (a :: es) fr)
    (hdb : (x == ("__debug__" : Str)) = false := by decide +kernel) (he : starEach (a :: es) X.env = (false, eval a X.env) :: starEach es X.env := by rfl) (hpl : (backTo pos2 (starEach es X.env)).any (·.1) = false := by rfl)
    (he2 : starEach [.Call (.Name x p2) (a :: es) [] pos2] X.env = (false, eval (.Call (.Name x p2) (a :: es) [] pos2) X.env) :: starEach [] X.env := by rfl) :
    SE X W cls (.Call (.Name "list" p) [.Call (.Name x p2) (a :: es) [] pos2] [] pos) (eListG n F fr) := by
  obtain ⟨f, fd, ps, hf, hm, hk, hb, hn⟩ := G.ex
  obtain ⟨t1, p1, h1⟩ := ha
  have hpass : Passes (L2.CX X.prog X.w) X E00 := fun _ _ _ _ _ _ _ h => by
    obtain ⟨_, _, _, _, _, _, _, _, _, _, _, _, h⟩ := h
    exact h.elim
  refine ⟨_, pe_listG (pgen_call (E := E00) hf (hr.mono (by omega)) hg hm hk hb .nil p1 hdb he hpl) hpass (fun _ _ _ h => h.elim) hr hgl hml (by decide +kernel) (by decide +kernel) (by decide +kernel) he2, fun σ Q w ρ μ S E h => ?_⟩
  refine h1 σ _ w ρ μ S E ((PostR.bind h).imp fun w1 d s1 ⟨μ1, S1, q1⟩ v r1 => ?_)
  by_cases hl : d.length = n
  · rw [if_pos hl] at q1
    rw [List.append_nil]
    refine ⟨w1, d, μ1, rfl, hl, S1, r1, (PostR.mute (PostR.bind q1)).imp fun w2 zs s2 ⟨μ2, S2, q2⟩ us r2 p hp => ?_⟩
    exact q2 (w2.up p (.lst us)) (step_new hp) (S2.new hp) _ (new_lst S2 hp r2)
  · rw [if_neg hl] at q1
    exact q1.elim
end
end Fw

set_option Elab.async false
set_option linter.all false
set_option maxRecDepth 100000
set_option autoImplicit false
/-! The truth of any value; membership of lists in lists; list(range(n)). -/
namespace Fw
open PySem L2 PyProof.Rows
/-! ### truth -/
def oTru (d : D) (μ : Store) : Res Bool := match d with
  | .non => .ok false μ
  | .bl b => .ok b μ
  | .int i => .ok (i != 0) μ
  | .str s => if s.length ≤ LIM then .ok (!s.isEmpty) μ else .stuck
  | d => match seqOf μ d with
    | some ds => .ok (!ds.isEmpty) μ
    | none => .stuck
def tTr (fa : FE) : FT := fun ρ μ => (fa ρ μ).bind fun d μ1 => oTru d μ1
section
variable {X : Cx} {W : WX} {cls : Nat → Option Addr} {a : Expr} {fa : FE}
theorem tru_seq {K : PySem.W.Frag} {w : Wd} {μ : Store} (S : RelS K cls w μ) {d : D} {x : V} {ds : List D} (r : RV K cls w d x) (h : seqOf μ d = some ds) : TruV K x w.H (!ds.isEmpty) := by
  obtain ⟨p, vs, e, hs, rs⟩ := seqOf_at S r h
  have he : (!ds.isEmpty) = !vs.isEmpty := by
    have := rs.length
    cases ds <;> cases vs <;> simp_all
  rw [e, he]
  rcases hs with hs | hs
  · exact .inl ⟨vs, hs, rfl⟩
  · exact .inr (.inl ⟨vs, hs, rfl⟩)
theorem st_tru (ha : SE X W cls a fa) (he : ∀ whole, isTrue a X.env whole = (do let v ← whole; standAt a.pos; holding [v] (truthy v)) := by intro _; rfl) : ST X W cls a (tTr fa) := by
  obtain ⟨t1, p1, h1⟩ := ha
  refine ⟨_, pt_truth p1 he, fun σ Q w ρ μ S E h => ?_⟩
  refine h1 σ _ w ρ μ S E ((PostR.bind h).imp fun w1 d s1 ⟨μ1, S1, q1⟩ v r1 => ?_)
  have seq : ∀ ds, seqOf μ1 d = some ds → PostR X.K cls w1 (WE W σ) (fun w' b => Q b w'.H) (.ok (!ds.isEmpty) μ1) → ∃ k, TruV X.K v w1.H k ∧ Q k w1.H := fun ds hd q => ⟨_, tru_seq S1 r1 hd, q w1 Step.refl S1⟩
  cases d with
  | non => exact ⟨false, by rw [show v = V.non from r1]; rfl, q1 w1 Step.refl S1⟩
  | bl b => exact ⟨b, by rw [show v = V.bl b from r1]; rfl, q1 w1 Step.refl S1⟩
  | int i => exact ⟨i != 0, by rw [show v = V.int i from r1]; rfl, q1 w1 Step.refl S1⟩
  | str s =>
    simp only [oTru] at q1
    split at q1
    · rename_i hl
      refine ⟨!s.isEmpty, ?_, q1 w1 Step.refl S1⟩
      rw [show v = V.str ⟨s.toArray⟩ from r1]
      refine ⟨by rw [strLen]; exact lim_le hl, ?_⟩
      rw [strLen]
      cases s with
      | nil => rfl
      | cons a r =>
        simp only [List.isEmpty_cons, Bool.not_false, List.length_cons]
        symm
        rw [bne_iff_ne]
        omega
    · exact q1.elim
  | tup ds => exact seq ds rfl q1
  | lst ds => exact seq ds rfl q1
  | flst is => exact seq _ rfl q1
  | loc n =>
    simp only [oTru] at q1
    split at q1
    · rename_i ds hd
      exact seq ds hd q1
    · exact q1.elim
  | obj _ _ _ => exact q1.elim
  | ptr _ => exact q1.elim
  | dct _ _ => exact q1.elim
end
/-! ### in, of any depth -/
def oInP (neg : Bool) (d e : D) (μ : Store) : Res D := match toPyM μ e with
  | .list ps => if (okD (toPyM μ d) && okD (.list ps)) = true then .ok (.bl (if neg then !(ps.any fun z => PyData.eqv z (toPyM μ d)) else ps.any fun z => PyData.eqv z (toPyM μ d))) μ else .stuck
  | _ => .stuck
def oInX (neg : Bool) (d e : D) (μ : Store) : Res D := match oIn neg d e μ with
  | .ok a μ1 => .ok a μ1
  | _ => oInP neg d e μ
section
variable {X : Cx} {W : WX} {cls : Nat → Option Addr}
theorem ov_inX (hu : X.A.units + 65 < cLine) : OV X cls (compareOp .In) (oInX false) := by
  obtain ⟨r, o, ho⟩ := ov_in (X := X) (cls := cls)
  refine ⟨_, o.or (op_inD hu), fun w μ Er d e x y Q S r1 r2 h => ?_⟩
  unfold oInX at h
  split at h
  · rename_i a μ1 he
    exact .inl (ho w μ _ d e x y Q S r1 r2 (by rw [he]; exact h))
  · unfold oInP at h
    split at h
    · rename_i ps hp
      split at h
      · rename_i hs
        rw [Bool.and_eq_true] at hs
        refine .inr ⟨_, ps, dpM_of S r1 hs.1, by rw [← hp]; exact dpM_of S r2 (by rw [hp]; exact hs.2), hs.1, hs.2, h w Step.refl S _ rfl⟩
      · exact h.elim
    · exact h.elim
theorem ov_notInX (hu : X.A.units + 65 < cLine) : OV X cls (compareOp .NotIn) (oInX true) := by
  obtain ⟨r, o, ho⟩ := ov_notIn (X := X) (cls := cls)
  refine ⟨_, o.or (op_notInD hu), fun w μ Er d e x y Q S r1 r2 h => ?_⟩
  unfold oInX at h
  split at h
  · rename_i a μ1 he
    exact .inl (ho w μ _ d e x y Q S r1 r2 (by rw [he]; exact h))
  · unfold oInP at h
    split at h
    · rename_i ps hp
      split at h
      · rename_i hs
        rw [Bool.and_eq_true] at hs
        refine .inr ⟨_, ps, dpM_of S r1 hs.1, by rw [← hp]; exact dpM_of S r2 (by rw [hp]; exact hs.2), hs.1, hs.2, h w Step.refl S _ rfl⟩
      · exact h.elim
    · exact h.elim
theorem units65 {k : Nat} {A : Around} (r : Room k A) : A.units + 65 < cLine := by have := r.un; omega
end
/-! ### list(range(n)) -/
def eLstRg (fi : FI) : FE := fun ρ μ => (fi ρ μ).bind fun it μ1 => .ok (.lst it.1) μ1
section
variable {X : Cx} {W : WX} {cls : Nat → Option Addr} {a : Expr} {fa : FE} {p pos : Pos}
theorem se_lstRg1 (hc : X.calm = true) (hg : Gl X "list") (hm : X.mg "list" = none) (hg2 : Gl X "range") (hm2 : X.mg "range" = none) (ha : SE X W cls a fa) {p2 pos2 : Pos} (na : starEach [a] X.env = (false, eval a X.env) :: starEach [] X.env := by rfl)
    (na2 : starEach [.Call (.Name "range" p2) [a] [] pos2] X.env = (false, eval (.Call (.Name "range" p2) [a] [] pos2) X.env) :: starEach [] X.env := by rfl) :
    SE X W cls (.Call (.Name "list" p) [.Call (.Name "range" p2) [a] [] pos2] [] pos) (eLstRg (iRange1 fa)) := by
  obtain ⟨t1, p1, h1⟩ := ha
  refine ⟨_, pe_listRg hc hg hm (prg_1 hg2 hm2 p1 na) na2, fun σ Q w ρ μ S E h => ?_⟩
  have h := PostR.bind h
  refine h1 σ _ w ρ μ S E ((PostR.bind h).imp fun w1 d s1 ⟨μ1, S1, q1⟩ v r1 => ?_)
  cases d with
  | int j =>
    refine ⟨j, r1, ?_⟩
    simp only at q1
    split at q1
    · rename_i hj
      obtain ⟨μ2, S2, q2⟩ := q1 w1 Step.refl S1
      refine ⟨⟨by omega, by omega, by omega, by omega, by omega⟩, fun p hp => ?_⟩
      have e : rgV 0 j = ((List.range j.toNat).map fun i => (0 + (i : Nat) : Int)).map V.int := by
        unfold rgV
        rw [List.map_map, show (j - 0).toNat = j.toNat by omega]
        rfl
      have e2 : ((List.range j.toNat).map fun i => D.int (0 + (i : Nat))) = ((List.range j.toNat).map fun i => (0 + (i : Nat) : Int)).map D.int := by
        rw [List.map_map]
        rfl
      have r : RVs X.K cls w1 ((List.range j.toNat).map fun i => D.int (0 + (i : Nat))) (rgV 0 j) := by
        rw [e, e2]
        exact RVs.ints
      exact q2 (w1.up p (.lst (rgV 0 j))) (step_new hp) (S2.new hp) _ (new_lst S2 hp r)
    · exact q1.elim
  | _ => exact q1.elim
end
end Fw


set_option Elab.async false
set_option linter.all false
set_option maxRecDepth 100000
set_option autoImplicit false
/-! max and min of a list of whole numbers; a range with any step. -/
namespace Fw
open PySem L2 PyProof.Rows
def maxI (i : Int) (is : List Int) : Int := is.foldl (fun a b => if a < b then b else a) i
def minI (i : Int) (is : List Int) : Int := is.foldl (fun a b => if b < a then b else a) i
theorem maxI_ok : ∀ (is : List Int) (i : Int), maxI i is ∈ i :: is ∧ ∀ y ∈ i :: is, y ≤ maxI i is
  | [], i => by simp [maxI]
  | b :: is, i => by
    obtain ⟨h1, h2⟩ := maxI_ok is (if i < b then b else i)
    have e : maxI i (b :: is) = maxI (if i < b then b else i) is := rfl
    rw [e]
    have h0 := h2 (if i < b then b else i) List.mem_cons_self
    generalize maxI (if i < b then b else i) is = M at *
    refine ⟨?_, fun y hy => ?_⟩
    · rcases List.mem_cons.mp h1 with h | h
      · rw [h]
        split
        · simp
        · simp
      · simp [h]
    · rcases List.mem_cons.mp hy with rfl | hy
      · split at h0 <;> omega
      · rcases List.mem_cons.mp hy with rfl | hy
        · split at h0 <;> omega
        · exact h2 y (List.mem_cons_of_mem _ hy)
theorem minI_ok : ∀ (is : List Int) (i : Int), minI i is ∈ i :: is ∧ ∀ y ∈ i :: is, minI i is ≤ y
  | [], i => by simp [minI]
  | b :: is, i => by
    obtain ⟨h1, h2⟩ := minI_ok is (if b < i then b else i)
    have e : minI i (b :: is) = minI (if b < i then b else i) is := rfl
    rw [e]
    have h0 := h2 (if b < i then b else i) List.mem_cons_self
    generalize minI (if b < i then b else i) is = M at *
    refine ⟨?_, fun y hy => ?_⟩
    · rcases List.mem_cons.mp h1 with h | h
      · rw [h]
        split
        · simp
        · simp
      · simp [h]
    · rcases List.mem_cons.mp hy with rfl | hy
      · split at h0 <;> omega
      · rcases List.mem_cons.mp hy with rfl | hy
        · split at h0 <;> omega
        · exact h2 y (List.mem_cons_of_mem _ hy)
def cMaxL (ds : List D) (μ : Store) : Res D := match ds with
  | [d] => match lintsOf μ d with
    | some (i :: is) => .ok (.int (maxI i is)) μ
    | _ => .stuck
  | _ => .stuck
def cMinL (ds : List D) (μ : Store) : Res D := match ds with
  | [d] => match lintsOf μ d with
    | some (i :: is) => .ok (.int (minI i is)) μ
    | _ => .stuck
  | _ => .stuck
section
variable {X : Cx} {W : WX} {cls : Nat → Option Addr} {tg a b c : Expr} {fa fb fc : FE} {p pos : Pos}
theorem cv_maxL (hc : X.calm = true) : CV X cls (.builtin "max") cMaxL := by
  refine ⟨_, cr_max hc, fun w μ Er ds xs Q S r h => ?_⟩
  unfold cMaxL at h
  split at h
  · split at h
    · rename_i i is he
      obtain ⟨v, rest, e1, rv, rt⟩ := r
      obtain rfl : rest = [] := rt
      obtain ⟨l, rfl, sq⟩ := lintsOf_at S rv he
      obtain ⟨m1, m2⟩ := maxI_ok is i
      refine ⟨l, i :: is, e1, sq, by simp, fun m hm hy => ?_⟩
      have : m = maxI i is := Int.le_antisymm (m2 m hm) (hy _ m1)
      rw [this]
      exact h w Step.refl S _ rfl
    · exact h.elim
  · exact h.elim
theorem cv_minL (hc : X.calm = true) : CV X cls (.builtin "min") cMinL := by
  refine ⟨_, cr_min hc, fun w μ Er ds xs Q S r h => ?_⟩
  unfold cMinL at h
  split at h
  · split at h
    · rename_i i is he
      obtain ⟨v, rest, e1, rv, rt⟩ := r
      obtain rfl : rest = [] := rt
      obtain ⟨l, rfl, sq⟩ := lintsOf_at S rv he
      obtain ⟨m1, m2⟩ := minI_ok is i
      refine ⟨l, i :: is, e1, sq, by simp, fun m hm hy => ?_⟩
      have : m = minI i is := Int.le_antisymm (hy _ m1) (m2 m hm)
      rw [this]
      exact h w Step.refl S _ rfl
    · exact h.elim
  · exact h.elim
/-- range(a, b, c) -/
def okStep (i j c : Int) : Bool := decide (c ≠ 0) && decide (c.natAbs < 1073741824) && Builtin.Range.small i j c && decide (0 ≤ Builtin.Range.rangeSize i j c)
def iStep (fa fb fc : FE) : FI := fun ρ μ => (fa ρ μ).bind fun d μ1 => (fb ρ μ1).bind fun e μ2 => (fc ρ μ2).bind fun f μ3 => match d, e, f with
  | .int i, .int j, .int c => if okStep i j c = true then .ok ((List.range (Builtin.Range.rangeSize i j c).toNat).map fun k => .int (i + (k : Nat) * c), none) μ3 else .stuck
  | _, _, _ => .stuck
theorem si_step (hg : Gl X "range") (hm : X.mg "range" = none) (ha : SE X W cls a fa) (hb : SE X W cls b fb) (hcc : SE X W cls c fc)
    (hs : starEach [a, b, c] X.env = [(false, eval a X.env), (false, eval b X.env), (false, eval c X.env)] := by rfl)
    (hs2 : starEach [b, c] X.env = [(false, eval b X.env), (false, eval c X.env)] := by rfl)
    (hs3 : starEach [c] X.env = [(false, eval c X.env)] := by rfl) :
    SI X W cls tg (.Call (.Name "range" p) [a, b, c] [] pos) (iStep fa fb fc) := by
  obtain ⟨t, q1, k⟩ := ha
  obtain ⟨t2, q2, k2⟩ := hb
  obtain ⟨t3, q3, k3⟩ := hcc
  refine ⟨_, pi_range3 hg hm (pa_cons q1 (pa_cons q2 (pa_cons q3 pa_nil hs3) (by rw [hs2, hs3])) (by rw [hs, hs2])) (by rw [hs, hs2]) (by rw [hs2]; rfl), fun σ R w ρ μ S E h => ?_⟩
  refine k σ _ w ρ μ S E ((PostR.bind h).imp fun w1 d s1 ⟨μ1, S1, q1⟩ v r1 => ?_)
  refine k2 σ _ w1 ρ μ1 S1 (E.mono s1.kp) ((PostR.bind q1).imp fun w2 d2 s2 ⟨μ2, S2, q2⟩ v2 r2 => ?_)
  refine k3 σ _ w2 ρ μ2 S2 (E.mono (s1.trans s2).kp) ((PostR.bind q2).imp fun w3 d3 s3 ⟨μ3, S3, q3⟩ v3 r3 => ?_)
  cases d with
  | int i =>
    cases d2 with
    | int j =>
      cases d3 with
      | int c =>
        simp only at q3
        split at q3
        · rename_i ok
          simp only [okStep, Bool.and_eq_true, decide_eq_true_eq] at ok
          obtain ⟨⟨⟨o1, o2⟩, o3⟩, o4⟩ := ok
          exact ⟨i, j, c, (Builtin.Range.rangeSize i j c).toNat, by rw [show v = V.int i from r1, show v2 = V.int j from r2, show v3 = V.int c from r3], ⟨o1, o2, o3, (Int.toNat_of_nonneg o4).symm⟩, q3 w3 Step.refl S3 _ wk_rangeC⟩
        · exact q3.elim
      | _ => exact q3.elim
    | _ => exact q3.elim
  | _ => exact q3.elim
end
end Fw

set_option Elab.async false
set_option linter.all false
set_option maxRecDepth 100000
set_option autoImplicit false
/-! divmod; len where the program has no own class; sorts of fits. -/
namespace Fw
open PySem L2 PyProof.Rows
def cDivmod (ds : List D) (μ : Store) : Res D := match ds with
  | [.int i, .int j] => if 0 < j ∧ j.natAbs.log2 < 9000 then .ok (.tup [.int (i / j), .int (i % j)]) μ else .stuck
  | _ => .stuck
section
variable {X : Cx} {W : WX} {cls : Nat → Option Addr}
theorem cv_divmod : CV X cls (.builtin "divmod") cDivmod := by
  refine ⟨_, call_divmodW, fun w μ Er ds xs Q S r h => ?_⟩
  unfold cDivmod at h
  split at h
  · rename_i i j
    split at h
    · rename_i hc
      obtain ⟨v1, r1, e1, a1, t1⟩ := r
      obtain ⟨v2, r2, e2, a2, t2⟩ := t1
      subst e1 e2
      obtain rfl : r2 = [] := t2
      rw [show v1 = V.int i from a1, show v2 = V.int j from a2]
      exact ⟨i, j, rfl, ⟨hc.1, PyProof.noPylong_of_log2 hc.2⟩, fun p hp => h (w.up p (.tup [.int (i / j), .int (i % j)])) (step_new hp) (S.new hp) _ (new_tup S hp (.cons rfl (.cons rfl .nil)))⟩
    · exact h.elim
  · exact h.elim
/-- len, where no class of one's own stands at the number c -/
theorem cv_lenON {c : Nat} {F : List D → Store → Res D} (hn : cls c = none) : CV X cls (.builtin "len") (cLenO c F) := by
  obtain ⟨r0, c0, h0⟩ := cv_len (X := X) (cls := cls)
  refine ⟨_, c0, fun w μ Er ds xs Q S r h => ?_⟩
  unfold cLenO at h
  split at h
  · rename_i d
    split at h
    · rename_i ns ds hd
      exfalso
      obtain ⟨x, rfl, r1⟩ := r.one
      cases d with
      | obj c' ns' ds' =>
        simp only [insOf] at hd
        split at hd
        · rename_i e
          subst e
          obtain ⟨a, C', dx, vs, e1, e2, _⟩ := r1
          rw [hn] at e2
          cases e2
        · cases hd
      | loc n =>
        simp only [insOf] at hd
        split at hd
        · rename_i c' ns' ds' hm
          split at hd
          · rename_i e
            subst e
            obtain ⟨a', h1, C', dx, vs, e2, _⟩ := S.cell n _ hm
            rw [hn] at e2
            cases e2
          · cases hd
        · cases hd
      | _ => cases hd
    · exact h0 w μ Er [d] xs Q S r h
  · exact h.elim
end
/-- a, b, c = x, y, z on plain local names -/
def sPar3 (i j k : Nat) (fa fb fc : FE) : FS := fun ρ μ => rS ρ (fa ρ μ) fun x μ1 => rS ρ (fb ρ μ1) fun y μ2 => rS ρ (fc ρ μ2) fun z μ3 => if i < ρ.length ∧ j < ρ.length ∧ k < ρ.length then .nx (((ρ.set i (some x)).set j (some y)).set k (some z)) μ3 else .stuck
theorem sPar3_ev {i j k : Nat} {fa fb fc : FE} {ρ : Env} {μ : Store} : sPar3 i j k fa fb fc ρ μ = rS ρ (fa ρ μ) fun x μ1 => rS ρ (fb ρ μ1) fun y μ2 => rS ρ (fc ρ μ2) fun z μ3 => if i < ρ.length ∧ j < ρ.length ∧ k < ρ.length then .nx (((ρ.set i (some x)).set j (some y)).set k (some z)) μ3 else .stuck := (rfl)
section
variable {X : Cx} {W : WX} {cls : Nat → Option Addr}
theorem ss_par3 (i j l : Nat) {x y z : Str} {a b c : Expr} {fa fb fc : FE} {px py pz pt pos : Pos} {kt k2 pt2} (hc : X.calm = true) (hN : X.N.Nodup) (ha : SE X W cls a fa) (hb : SE X W cls b fb) (hcc : SE X W cls c fc) (hi : X.N[i]? = some x := by rfl) (hj : X.N[j]? = some y := by rfl) (hl : X.N[l]? = some z := by rfl)
    (hij : i ≠ j := by decide) (hil : i ≠ l := by decide) (hjl : j ≠ l := by decide) (hx : X.env.scope.names.lookup x = some .local := by rfl) (hy : X.env.scope.names.lookup y = some .local := by rfl) (hz : X.env.scope.names.lookup z = some .local := by rfl)
    (hs1 : starEach [a, b, c] X.env = (false, eval a X.env) :: starEach [b, c] X.env := by rfl) (hs2 : starEach [b, c] X.env = (false, eval b X.env) :: starEach [c] X.env := by rfl) (hs3 : starEach [c] X.env = (false, eval c X.env) :: starEach [] X.env := by rfl)
    (hw : swappedStores [.Tuple [.Name x px, .Name y py, .Name z pz] kt pt] (.Tuple [a, b, c] k2 pt2) X.env = pure (some [x, y, z]) := by rfl)
    (hs : swapsWithSole [.Tuple [.Name x px, .Name y py, .Name z pz] kt pt] (.Tuple [a, b, c] k2 pt2) pos.line X.env = pure false := by rfl) :
    SS X W cls (.Assign [.Tuple [.Name x px, .Name y py, .Name z pz] kt pt] (.Tuple [a, b, c] k2 pt2) pos) (sPar3 i j l fa fb fc) := by
  obtain ⟨t1, p1, h1⟩ := ha
  obtain ⟨t2, p2, h2⟩ := hb
  obtain ⟨t3, p3, h3⟩ := hcc
  refine ⟨_, ps_par3 hc hN hi hj hl hij hil hjl hx hy hz (pa_cons p1 (pa_cons p2 (pa_cons p3 pa_nil hs3) hs2) hs1) hw hs, fun D σ w ρ μ S E h => ?_⟩
  refine h1 σ _ w ρ μ S E ((PostS.bind E h).imp fun w1 d s1 ⟨μ1, S1, q1⟩ v r1 => ?_)
  refine h2 σ _ w1 ρ μ1 S1 (E.mono s1.kp) ((PostS.bind (E.mono s1.kp) q1).imp fun w2 d2 s2 ⟨μ2, S2, q2⟩ v2 r2 => ?_)
  refine h3 σ _ w2 ρ μ2 S2 (E.mono (s1.trans s2).kp) ((PostS.bind (E.mono (s1.trans s2).kp) q2).imp fun w3 d3 s3 ⟨μ3, S3, q3⟩ v3 r3 => ?_)
  split at q3
  · exact ⟨v, v2, v3, rfl, q3 w3 _ Step.refl S3 ((((E.mono ((s1.trans s2).trans s3).kp).set (r1.mono (s2.trans s3).kp)).set (r2.mono s3.kp)).set r3)⟩
  · exact q3.elim
end
theorem cDivmod_ev {i j : Int} {μ : Store} (h : 0 < j) (h2 : j < 4611686018427387904) : cDivmod [.int i, .int j] μ = .ok (.tup [.int (i / j), .int (i % j)]) μ := by
  have h3 : j.natAbs.log2 < 9000 := by
    have h4 : j.natAbs < 2 ^ 62 := by omega
    exact Nat.lt_of_lt_of_le (PySem.Flt.log2_lt_of (by decide) h4) (by decide)
  simp [cDivmod, h, h3]
end Fw

set_option Elab.async false
set_option linter.all false
set_option maxRecDepth 100000
set_option autoImplicit false
/-! raise X(), X an own class without own __init__; try. -/
namespace Fw
open PySem L2 PyProof.Rows
abbrev veBase : List Value := [.type "ValueError", .type "Exception", .type "BaseException", .type "object"]
/-- an error class as the top has left it -/
structure Ek (K : PySem.W.Frag) (cls : Nat → Option Addr) (mg : Str → Option Value) (x : Str) (k : Nat) (C : Addr) : Prop where
  at_ : 100 ≤ k ∧ cls k = some C
  mg : mg x = some (.ref C)
  kp : PySem.W.keepIn K (.ref C) = true
  sub : PySem.W.subIn K (.ref C) (.type "BaseException") = some true
  ty : PySem.W.typeIn K (.ref C) = some (.type "type")
structure Ek0 (K : PySem.W.Frag) (cls : Nat → Option Addr) (mg : Str → Option Value) (x : Str) (k : Nat) (C : Addr) : Prop extends Ek K cls mg x k C where
  ex : PySem.W.excIn K C veBase "ValueError.__new__" = true
section
variable {X : Cx} {W : WX} {cls : Nat → Option Addr} {x : Str} {k : Nat} {C : Addr} {p pos rpos : Pos}
/-- X() -/
theorem pmk_none (T : Ek0 X.K cls X.mg x k C) (hg : Gl X x) (hdb : (x == ("__debug__" : Str)) = false := by decide +kernel) : PMk X (.Call (.Name x p) [] [] pos) (fun _ H Q => Q (.ref C) none H) := by
  intro pins s σ H Q I h
  refine wpAny_Call_Name_kw (ld_glob I hg T.mg ?_ hdb)
  refine PySem.W.callWith_K0 I.kIn T.kp ?_
  show wpAny _ _ (call (.ref C) []) _ _ _
  obtain ⟨bm, N, nm, qn, bs, hdct, sn, sub, ab, col, dd, k0, k1, k2, k3, k5, mN, hC, hN, hni, tl⟩ := exc_obj I.kIn T.ex
  refine wpAny_call_exc_subT PySem.F.excBase_ValueError tl hC hN hni (fun h' e hm => ?_) (Nat.zero_le _)
  exact mk_of I hm (raises_own T.sub T.ty) h (I.hok.gone hm.new)
def sRaise (k : Nat) : FS := fun ρ μ => .er k [] [] ρ μ
theorem ss_raise (hc : X.calm = true) (tk : Takes X W) (T : Ek0 X.K cls X.mg x k C) (hg : Gl X x) (hdb : (x == ("__debug__" : Str)) = false := by decide +kernel) :
    SS X W cls (.Raise (some (.Call (.Name x p) [] [] pos)) none rpos) (sRaise k) :=
  ⟨_, ps_raise hc tk (pmk_none T hg hdb), fun D σ w ρ μ S E h => h w σ (.ref C) none Step.refl S E ⟨C, T.at_, rfl, .inl ⟨rfl, rfl, rfl⟩⟩⟩
@[simp] theorem sRaise_ev {ρ : Env} {μ : Store} : sRaise k ρ μ = .er k [] [] ρ μ := (rfl)
end
end Fw

set_option Elab.async false
set_option linter.all false
set_option maxRecDepth 100000
set_option autoImplicit false
namespace Pg
open PySem L2 Fw

def B_Negativedd__lendd_ : FS :=
  sRet (eCall cLen (aCons (eFld 0 "figures" (eVar 0)) (aNil)))
def M_Negativedd__lendd_ : List D → Store → Res D := mD 1 B_Negativedd__lendd_
def B_Negative_densities : FS :=
  sRet (eFld 0 "figures" (eVar 0))
def M_Negative_densities : List D → Store → Res D := mD 1 B_Negative_densities
def B_Negative_width : FS :=
  sRet (eFld 0 "columns" (eVar 0))
def M_Negative_width : List D → Store → Res D := mD 1 B_Negative_width
def B_l_open : FS :=
  sSeq (sIf (tB (eBin oEq (eBin oIx (eVar 1) (eC (.int 0))) (eC (.str (lit "flip"))))) (
  sRet (eBin oMul (eLst (aCons (eC (.int 0)) (aNil))) (eCall (cLenO 0 M_Negativedd__lendd_) (aCons (eVar 0) (aNil))))) (
  sNext)) (
  sSeq (sIf (tB (eBin oEq (eBin oIx (eVar 1) (eC (.int 0))) (eC (.str (lit "expose"))))) (
  sRet (eLc [2] (iRange1 (eCall (cLenO 0 M_Negativedd__lendd_) (aCons (eVar 0) (aNil)))) (gVar 2) (fun _ μ => .ok true μ) (eBin oMul (eBin oIx (eVar 1) (eC (.int 1))) (eCall cInt (aCons (eBin (oIn true) (eVar 2) (eBin oIx (eVar 1) (eC (.int 2)))) (aNil)))))) (
  sNext)) (
  sRet (eLc [2] (iRange1 (eCall (cLenO 0 M_Negativedd__lendd_) (aCons (eVar 0) (aNil)))) (gVar 2) (fun _ μ => .ok true μ) (eCall cMax2 (aCons (eC (.int 0)) (aCons (eBin oSub (eBin oIx (eVar 1) (eC (.int 1))) (eBin oMul (eBin oIx (eVar 1) (eC (.int 2))) (eBin oMod (eCall cInt (aCons (eVar 2) (aNil))) (eProp 0 M_Negative_width (eVar 0))))) (aNil)))))))
def M_l_open : List D → Store → Res D := mD 3 B_l_open
def B_l_lights : FS :=
  sSeq (sPar3 2 3 4 (eThaw (eBin oMul (eLst (aCons (eC (.int 0)) (aNil))) (eCall (cLenO 0 M_Negativedd__lendd_) (aCons (eVar 0) (aNil))))) (eC (.bl false)) (eProp 0 M_Negative_width (eVar 0))) (
  sSeq (sFor (iOf (eVar 1)) (gVar 5) (
  sSeq (sAsg (gVar 3) (eBin oNe (eVar 3) (eBin oEq (eBin oIx (eVar 5) (eC (.int 0))) (eC (.str (lit "flip")))))) (
  sSeq (sAsg (gVar 6) (eCallD 2 M_l_open (aCons (eVar 0) (aCons (eVar 5) (aNil))))) (
  sFor (iRange1 (eCall (cLenO 0 M_Negativedd__lendd_) (aCons (eVar 0) (aNil)))) (gVar 7) (
  sSeq (sAsg (gVar 8) (eBin oMod (eCall cInt (aCons (eVar 7) (aNil))) (eVar 4))) (
  sSeq (sAsg (gVar 9) (eIf (tB (eVar 3)) (eBin oSub (eBin oSub (eBin oAdd (eVar 7) (eVar 4)) (eC (.int 1))) (eBin oMul (eC (.int 2)) (eVar 8))) (eVar 7))) (
  sAsg (gIx (eVar 2) (eVar 7)) (eBin oAdd (eBin oIx (eVar 2) (eVar 7)) (eBin oMul (eBin oIx (eVar 6) (eVar 7)) (eBin oIx (eLst (aCons (eC (.int 16)) (aCons (eC (.int 8)) (aCons (eC (.int 4)) (aCons (eC (.int 2)) (aCons (eC (.int 1)) (aNil))))))) (eCall cInt (aCons (eBin oIx (eProp 0 M_Negative_densities (eVar 0)) (eVar 9)) (aNil))))))))))))) (
  sRet (eTup (aCons (eVar 2) (aCons (eVar 3) (aNil))))))
def M_l_lights : List D → Store → Res D := mDf 10 B_l_lights
def B_is_number : FS :=
  sRet (eAnd (eIsi "int" (eVar 0)) (eAnd (eNot (eIsi "bool" (eVar 0))) (eChain oLe oLe (eVar 1) (eVar 0) (eVar 2))))
def M_is_number : List D → Store → Res D := mD 3 B_is_number
def B_wrong_side : FS :=
  sSeq (sIf (tNot (tB (eCallD 3 M_is_number (aCons (eVar 0) (aCons (eC (.int 1)) (aCons (eC (.int 4)) (aNil))))))) (
  sRet (eC (.str (lit "width")))) (
  sNext)) (
  sSeq (sIf (tOr (tNot (tB (eCallD 3 M_is_number (aCons (eVar 1) (aCons (eC (.int 1)) (aCons (eC (.int 4)) (aNil))))))) (tB (eBin oGt (eBin oMul (eVar 0) (eVar 1)) (eC (.int 9))))) (
  sRet (eC (.str (lit "height")))) (
  sNext)) (
  sRet (eC .non)))
def M_wrong_side : List D → Store → Res D := mD 2 B_wrong_side
def B_wrong_part : FS :=
  sSeq (sAsg (gVar 3) (eCallD 2 M_wrong_side (aCons (eVar 0) (aCons (eVar 1) (aNil))))) (
  sSeq (sIf (tB (eBin oNotN (eVar 3) (eC .non))) (
  sRet (eVar 3)) (
  sNext)) (
  sSeq (sIf (tOr (tB (eBin oNe (eCall (cLenO 0 M_Negativedd__lendd_) (aCons (eVar 2) (aNil))) (eBin oMul (eVar 0) (eVar 1)))) (tNot (tB (eCall cAll (aCons (eLc [4] (iOf (eVar 2)) (gVar 4) (fun _ μ => .ok true μ) (eBin (oIn false) (eVar 4) (eC (.str (lit "01234"))))) (aNil)))))) (
  sRet (eC (.str (lit "densities")))) (
  sNext)) (
  sRet (eC .non))))
def M_wrong_part : List D → Store → Res D := mD 5 B_wrong_part
def B_Negativedd__initdd_ : FS :=
  sSeq (sAsg (gVar 4) (eCallD 3 M_wrong_part (aCons (eVar 1) (aCons (eVar 2) (aCons (eVar 3) (aNil)))))) (
  sSeq (sIf (tB (eBin oNotN (eVar 4) (eC .non))) (
  sNever) (
  sNext)) (
  sSeq (sFld 0 "columns" (eVar 0) (eVar 1)) (
  sSeq (sFld 0 "lines" (eVar 0) (eVar 2)) (
  sFld 0 "figures" (eVar 0) (eVar 3)))))
def M_Negativedd__initdd_ : List D → Store → Res D := mD 5 B_Negativedd__initdd_
def B_l_taken : FS :=
  sSeq (sIf (tB (eBin oGt (eBin oIx (eVar 0) (eC (.int 3))) (eC (.int 0)))) (
  sSeq (sAsg (gVar 2) (eBin oMod (eCall cInt (aCons (eBin oIx (eVar 0) (eC (.int 3))) (aNil))) (eVar 1))) (
  sSeq (sAsg (gIx (eVar 0) (eC (.int 3))) (eBin oFdv (eBin oIx (eVar 0) (eC (.int 3))) (eVar 1))) (
  sRet (eVar 2)))) (
  sNext)) (
  sSeq (sAsg (gIx (eVar 0) (eC (.int 1))) (eBin oAdd (eBin oIx (eVar 0) (eC (.int 1))) (eC (.int 1)))) (
  sSeq (sIf (tB (eBin oGt (eBin oIx (eVar 0) (eC (.int 1))) (eCall (cLenO 0 M_Negativedd__lendd_) (aCons (eBin oIx (eVar 0) (eC (.int 0))) (aNil))))) (
  sSeq (sAsg (gIx (eVar 0) (eC (.int 2))) (eBin oMod (eCall cInt (aCons (eBin oAdd (eBin oMul (eBin oIx (eVar 0) (eC (.int 2))) (eC (.int 48271))) (eC (.int 11))) (aNil))) (eC (.int 2147483647)))) (
  sRet (eBin oMod (eCall cInt (aCons (eBin oFdv (eBin oIx (eVar 0) (eC (.int 2))) (eC (.int 7))) (aNil))) (eVar 1)))) (
  sNext)) (
  sSeq (sAsg (gVar 3) (eBin oIx (eBin oIx (eVar 0) (eC (.int 0))) (eBin oSub (eBin oIx (eVar 0) (eC (.int 1))) (eC (.int 1))))) (
  sSeq (sAsg (gIx (eVar 0) (eC (.int 2))) (eBin oMod (eCall cInt (aCons (eBin oAdd (eBin oAdd (eBin oMul (eBin oIx (eVar 0) (eC (.int 2))) (eC (.int 48271))) (eVar 3)) (eC (.int 11))) (aNil))) (eC (.int 2147483647)))) (
  sSeq (sIf (tB (eBin oGe (eVar 3) (eBin oPow (eC (.int 10)) (eC (.int 18))))) (
  sAsg (gIx (eVar 0) (eC (.int 3))) (eBin oFdv (eVar 3) (eVar 1))) (
  sNext)) (
  sRet (eBin oMod (eCall cInt (aCons (eVar 3) (aNil))) (eVar 1))))))))
def M_l_taken : List D → Store → Res D := mD 4 B_l_taken
def B_l_negative : FS :=
  sSeq (sPar 2 3 (eBin oAdd (eC (.int 1)) (eCallD 2 M_l_taken (aCons (eVar 0) (aCons (eC (.int 3)) (aNil))))) (eBin oAdd (eC (.int 1)) (eCallD 2 M_l_taken (aCons (eVar 0) (aCons (eVar 1) (aNil)))))) (
  sRet (eMake 0 4 M_Negativedd__initdd_ (aCons (eVar 2) (aCons (eVar 3) (aCons (eJoin (eC (.str (lit ""))) (eLc [4] (iRange1 (eBin oMul (eVar 2) (eVar 3))) (gVar 4) (fun _ μ => .ok true μ) (eBin oIx (eC (.str (lit "01234"))) (eCallD 2 M_l_taken (aCons (eVar 0) (aCons (eC (.int 5)) (aNil))))))) (aNil))))))
def M_l_negative : List D → Store → Res D := mD 5 B_l_negative
def B_l_deed : FS :=
  sSeq (sAsg (gVar 2) (eCallD 2 M_l_taken (aCons (eVar 0) (aCons (eC (.int 5)) (aNil))))) (
  sSeq (sIf (tB (eBin oLt (eVar 2) (eC (.int 3)))) (
  sSeq (sAsg (gVar 3) (eCall cTuple (aCons (eLc [4] (iRange1 (eCall (cLenO 0 M_Negativedd__lendd_) (aCons (eVar 1) (aNil)))) (gVar 4) (tB (eBin oEq (eCallD 2 M_l_taken (aCons (eVar 0) (aCons (eC (.int 3)) (aNil)))) (eC (.int 0)))) (eVar 4)) (aNil)))) (
  sRet (eTup (aCons (eC (.str (lit "expose"))) (aCons (eBin oAdd (eC (.int 1)) (eCallD 2 M_l_taken (aCons (eVar 0) (aCons (eBin oIx (eLst (aCons (eC (.int 6)) (aCons (eC (.int 99)) (aNil)))) (eCallD 2 M_l_taken (aCons (eVar 0) (aCons (eC (.int 2)) (aNil))))) (aNil))))) (aCons (eVar 3) (aNil))))))) (
  sNext)) (
  sSeq (sIf (tB (eBin oEq (eVar 2) (eC (.int 3)))) (
  sRet (eTup (aCons (eC (.str (lit "draw"))) (aCons (eBin oAdd (eC (.int 1)) (eCallD 2 M_l_taken (aCons (eVar 0) (aCons (eC (.int 20)) (aNil))))) (aCons (eBin oAdd (eC (.int 1)) (eCallD 2 M_l_taken (aCons (eVar 0) (aCons (eC (.int 9)) (aNil))))) (aNil)))))) (
  sNext)) (
  sRet (eTup (aCons (eC (.str (lit "flip"))) (aNil))))))
def M_l_deed : List D → Store → Res D := mD 5 B_l_deed
def B_l_recipe : FS :=
  sRet (eCall cTuple (aCons (eLc [3] (iRange1 (eCallD 2 M_l_taken (aCons (eVar 0) (aCons (eBin oAdd (eVar 2) (eC (.int 1))) (aNil))))) (gVar 3) (fun _ μ => .ok true μ) (eCallD 2 M_l_deed (aCons (eVar 0) (aCons (eVar 1) (aNil))))) (aNil)))
def M_l_recipe : List D → Store → Res D := mD 4 B_l_recipe
def B_l_steps : FS :=
  sSeq (sPar 1 2 (eThaw (eLst (aNil))) (eC (.int 0))) (
  sSeq (sFor (iRange1 (eBin oAdd (eC (.int 1)) (eCallD 2 M_l_taken (aCons (eVar 0) (aCons (eC (.int 5)) (aNil)))))) (gVar 3) (
  sSeq (sAsg (gVar 2) (eBin oAdd (eBin oAdd (eVar 2) (eC (.int 1))) (eCallD 2 M_l_taken (aCons (eVar 0) (aCons (eBin oIx (eLst (aCons (eC (.int 8)) (aCons (eC (.int 60)) (aCons (eC (.int 200)) (aNil))))) (eCallD 2 M_l_taken (aCons (eVar 0) (aCons (eC (.int 3)) (aNil))))) (aNil)))))) (
  sExpr (eLm oApp (eVar 1) (eVar 2))))) (
  sRet (eCall cTuple (aCons (eVar 1) (aNil)))))
def M_l_steps : List D → Store → Res D := mDf 4 B_l_steps
def B_check_cell : FS :=
  sIf (tNot (tB (eCallD 3 M_is_number (aCons (eVar 0) (aCons (eC (.int 0)) (aCons (eBin oSub (eVar 1) (eC (.int 1))) (aNil))))))) (
  sRaise 105) (
  sNext)
def M_check_cell : List D → Store → Res D := mD 2 B_check_cell
def B_check_number : FS :=
  sIf (tNot (tB (eCallD 3 M_is_number (aCons (eVar 0) (aCons (eVar 1) (aCons (eVar 2) (aNil))))))) (
  sRaise 106) (
  sNext)
def M_check_number : List D → Store → Res D := mD 3 B_check_number
def B_ascends : FS :=
  sSeq (sFor (iOf (eVar 0)) (gVar 3) (
  sSeq (sIf (tNot (tB (eCallD 3 M_is_number (aCons (eVar 3) (aCons (eVar 1) (aCons (eVar 2) (aNil))))))) (
  sRet (eC (.bl false))) (
  sNext)) (
  sAsg (gVar 1) (eBin oAdd (eVar 3) (eC (.int 1)))))) (
  sRet (eC (.bl true)))
def M_ascends : List D → Store → Res D := mD 4 B_ascends
def B_is_mask : FS :=
  sRet (eAnd (eIsi "tuple" (eVar 0)) (eCallD 3 M_ascends (aCons (eVar 0) (aCons (eC (.int 0)) (aCons (eBin oSub (eVar 1) (eC (.int 1))) (aNil))))))
def M_is_mask : List D → Store → Res D := mD 2 B_is_mask
def B_is_deed : FS :=
  sSeq (sIf (tB (eBin oEq (eVar 0) (eC (.tup [.str (lit "flip")])))) (
  sRet (eC (.bl true))) (
  sNext)) (
  sSeq (sIf (tOr (tB (eBin oNe (eCall (cLenO 0 M_Negativedd__lendd_) (aCons (eVar 0) (aNil))) (eC (.int 3)))) (tNot (tB (eCallD 3 M_is_number (aCons (eBin oIx (eVar 0) (eC (.int 1))) (aCons (eC (.int 1)) (aCons (eC (.int 99)) (aNil)))))))) (
  sRet (eC (.bl false))) (
  sNext)) (
  sSeq (sIf (tB (eBin oEq (eBin oIx (eVar 0) (eC (.int 0))) (eC (.str (lit "expose"))))) (
  sRet (eCallD 2 M_is_mask (aCons (eBin oIx (eVar 0) (eC (.int 2))) (aCons (eVar 1) (aNil))))) (
  sNext)) (
  sRet (eAnd (eBin oEq (eBin oIx (eVar 0) (eC (.int 0))) (eC (.str (lit "draw")))) (eCallD 3 M_is_number (aCons (eBin oIx (eVar 0) (eC (.int 2))) (aCons (eC (.int 1)) (aCons (eC (.int 99)) (aNil)))))))))
def M_is_deed : List D → Store → Res D := mD 2 B_is_deed
def B_check_recipe : FS :=
  sFor (iEnumD (eVar 0)) (gTup 2 (gCons (gVar 2) (gCons (gVar 3) (gNil)))) (
  sIf (tOr (tB (eBin oEq (eVar 2) (eC (.int 8)))) (tNot (tB (eCallD 2 M_is_deed (aCons (eVar 3) (aCons (eVar 1) (aNil))))))) (
  sNever) (
  sNext))
def M_check_recipe : List D → Store → Res D := mD 4 B_check_recipe
def B_light_by_times : FS :=
  sSeq (sAsg (gTup 2 (gCons (gVar 2) (gCons (gVar 3) (gNil)))) (eVar 0)) (
  sRet (eBin oAdd (eBin oMul (eBin oFdv (eBin oAdd (eVar 1) (eC (.int 1))) (eC (.int 2))) (eVar 2)) (eBin oMul (eBin oFdv (eVar 1) (eC (.int 2))) (eVar 3))))
def M_light_by_times : List D → Store → Res D := mD 4 B_light_by_times
def B_light_by : FS :=
  sSeq (sAsg (gTup 2 (gCons (gVar 3) (gCons (gVar 4) (gNil)))) (eVar 0)) (
  sRet (eBin oAdd (eBin oMul (eVar 3) (eBin oIx (eC (.tup [.int 16, .int 8, .int 4, .int 2, .int 1])) (eVar 1))) (eBin oMul (eVar 4) (eBin oIx (eC (.tup [.int 16, .int 8, .int 4, .int 2, .int 1])) (eVar 2)))))
def M_light_by : List D → Store → Res D := mD 5 B_light_by
def B_mirrored : FS :=
  sSeq (sAsg (gVar 2) (eBin oMod (eVar 0) (eVar 1))) (
  sRet (eBin oSub (eBin oSub (eBin oAdd (eBin oSub (eVar 0) (eVar 2)) (eVar 1)) (eC (.int 1))) (eVar 2)))
def M_mirrored : List D → Store → Res D := mD 3 B_mirrored
def B_ticks_of : FS :=
  sSeq (sIf (tB (eBin oEq (eBin oIx (eVar 0) (eC (.int 0))) (eC (.str (lit "expose"))))) (
  sRet (eIf (tB (eBin (oIn false) (eVar 2) (eBin oIx (eVar 0) (eC (.int 2))))) (eC (.int 0)) (eBin oIx (eVar 0) (eC (.int 1))))) (
  sNext)) (
  sRet (eCall cMax2 (aCons (eC (.int 0)) (aCons (eBin oSub (eBin oIx (eVar 0) (eC (.int 1))) (eBin oMul (eBin oIx (eVar 0) (eC (.int 2))) (eBin oMod (eVar 2) (eVar 1)))) (aNil)))))
def M_ticks_of : List D → Store → Res D := mD 3 B_ticks_of
def B_open_pair : FS :=
  sSeq (sAsg2 (gVar 3) (gVar 4) (eC (.int 0))) (
  sSeq (sAsg (gVar 5) (eC (.bl false))) (
  sSeq (sFor (iOf (eVar 1)) (gVar 6) (
  sIf (tB (eBin oEq (eVar 6) (eC (.tup [.str (lit "flip")])))) (
  sAsg (gVar 5) (eNot (eVar 5))) (
  sIf (tB (eVar 5)) (
  sAug 4 oAddI (eCallD 3 M_ticks_of (aCons (eVar 6) (aCons (eVar 0) (aCons (eVar 2) (aNil)))))) (
  sAug 3 oAddI (eCallD 3 M_ticks_of (aCons (eVar 6) (aCons (eVar 0) (aCons (eVar 2) (aNil))))))))) (
  sRet (eTup (aCons (eVar 3) (aCons (eVar 4) (aNil)))))))
def M_open_pair : List D → Store → Res D := mD 7 B_open_pair
def B_light_of : FS :=
  sSeq (sAsg (gVar 4) (eCallD 2 M_mirrored (aCons (eVar 3) (aCons (eVar 0) (aNil))))) (
  sRet (eCallD 3 M_light_by (aCons (eCallD 3 M_open_pair (aCons (eVar 0) (aCons (eVar 2) (aCons (eVar 3) (aNil))))) (aCons (eCall cInt (aCons (eBin oIx (eVar 1) (eVar 3)) (aNil))) (aCons (eCall cInt (aCons (eBin oIx (eVar 1) (eVar 4)) (aNil))) (aNil))))))
def M_light_of : List D → Store → Res D := mD 5 B_light_of
def B_light_turns : FS :=
  sSeq (sAsg (gVar 3) (eCallD 4 M_light_of (aCons (eProp 0 M_Negative_width (eVar 0)) (aCons (eProp 0 M_Negative_densities (eVar 0)) (aCons (eVar 1) (aCons (eVar 2) (aNil))))))) (
  sSeq (sAsg (gVar 4) (eCallD 4 M_light_of (aCons (eProp 0 M_Negative_width (eVar 0)) (aCons (eProp 0 M_Negative_densities (eVar 0)) (aCons (eBin oAdd (eVar 1) (eVar 1)) (aCons (eVar 2) (aNil))))))) (
  sRet (eTup (aCons (eVar 3) (aCons (eBin oSub (eVar 4) (eVar 3)) (aNil))))))
def M_light_turns : List D → Store → Res D := mD 5 B_light_turns
def B_light_after : FS :=
  sSeq (sExpr (eCallD 2 M_check_recipe (aCons (eVar 1) (aCons (eCall (cLenO 0 M_Negativedd__lendd_) (aCons (eVar 0) (aNil))) (aNil))))) (
  sSeq (sExpr (eCallD 2 M_check_cell (aCons (eVar 2) (aCons (eCall (cLenO 0 M_Negativedd__lendd_) (aCons (eVar 0) (aNil))) (aNil))))) (
  sSeq (sExpr (eCallD 3 M_check_number (aCons (eVar 3) (aCons (eC (.int 0)) (aCons (eC (.int 1000000000000000)) (aNil)))))) (
  sRet (eCallD 2 M_light_by_times (aCons (eCallD 3 M_light_turns (aCons (eVar 0) (aCons (eVar 1) (aCons (eVar 2) (aNil))))) (aCons (eVar 3) (aNil)))))))
def M_light_after : List D → Store → Res D := mD 4 B_light_after
def B_are_steps : FS :=
  sRet (eAnd (eChain oLe oLe (eC (.int 1)) (eCall (cLenO 0 M_Negativedd__lendd_) (aCons (eVar 0) (aNil))) (eC (.int 5))) (eCallD 3 M_ascends (aCons (eVar 0) (aCons (eC (.int 1)) (aCons (eC (.int 9999)) (aNil))))))
def M_are_steps : List D → Store → Res D := mD 1 B_are_steps
def B_check_steps : FS :=
  sIf (tNot (tB (eCallD 1 M_are_steps (aCons (eVar 0) (aNil))))) (
  sRaise 104) (
  sNext)
def M_check_steps : List D → Store → Res D := mD 1 B_check_steps
def B_times_to : FS :=
  sSeq (sAsg (gTup 2 (gCons (gVar 2) (gCons (gVar 3) (gNil)))) (eVar 0)) (
  sSeq (sIf (tB (eBin oEq (eBin oAdd (eVar 2) (eVar 3)) (eC (.int 0)))) (
  sRet (eC .non)) (
  sNext)) (
  sSeq (sAsg (gTup 2 (gCons (gVar 4) (gCons (gVar 5) (gNil)))) (eCall cDivmod (aCons (eBin oSub (eVar 1) (eC (.int 1))) (aCons (eBin oAdd (eVar 2) (eVar 3)) (aNil))))) (
  sRet (eBin oAdd (eBin oMul (eC (.int 2)) (eVar 4)) (eIf (tB (eBin oLt (eVar 5) (eVar 2))) (eC (.int 1)) (eC (.int 2)))))))
def M_times_to : List D → Store → Res D := mD 6 B_times_to
def B_times_until : FS :=
  sSeq (sExpr (eCallD 1 M_check_steps (aCons (eVar 1) (aNil)))) (
  sSeq (sExpr (eCallD 2 M_check_recipe (aCons (eVar 2) (aCons (eCall (cLenO 0 M_Negativedd__lendd_) (aCons (eVar 0) (aNil))) (aNil))))) (
  sSeq (sExpr (eCallD 2 M_check_cell (aCons (eVar 3) (aCons (eCall (cLenO 0 M_Negativedd__lendd_) (aCons (eVar 0) (aNil))) (aNil))))) (
  sSeq (sExpr (eCallD 3 M_check_number (aCons (eVar 4) (aCons (eC (.int 0)) (aCons (eCall (cLenO 0 M_Negativedd__lendd_) (aCons (eVar 1) (aNil))) (aNil)))))) (
  sSeq (sIf (tB (eBin oEq (eVar 4) (eC (.int 0)))) (
  sRet (eC (.int 0))) (
  sNext)) (
  sRet (eCallD 2 M_times_to (aCons (eCallD 3 M_light_turns (aCons (eVar 0) (aCons (eVar 2) (aCons (eVar 3) (aNil))))) (aCons (eBin oIx (eVar 1) (eBin oSub (eVar 4) (eC (.int 1)))) (aNil)))))))))
def M_times_until : List D → Store → Res D := mD 5 B_times_until
end Pg
namespace K34
open PySem L2 Fw Pg
def B_law : FS :=
  sSeq (sAsg (gVar 1) (eThaw (eLst (aCons (eVar 0) (aCons (eC (.int 0)) (aCons (eC (.int 0)) (aCons (eC (.int 0)) (aNil)))))))) (
  sSeq (sFor (iRange1 (eC (.int 4))) (gVar 2) (
  sSeq (sPar 3 4 (eCallD 2 M_l_negative (aCons (eVar 1) (aCons (eC (.int 3)) (aNil)))) (eCallD 1 M_l_steps (aCons (eVar 1) (aNil)))) (
  sSeq (sPar 5 6 (eCallD 3 M_l_recipe (aCons (eVar 1) (aCons (eVar 3) (aCons (eC (.int 5)) (aNil))))) (eCallD 2 M_l_taken (aCons (eVar 1) (aCons (eCall (cLenO 0 M_Negativedd__lendd_) (aCons (eVar 3) (aNil))) (aNil))))) (
  sSeq (sAsg (gVar 7) (eCallD 2 M_l_taken (aCons (eVar 1) (aCons (eBin oAdd (eCall (cLenO 0 M_Negativedd__lendd_) (aCons (eVar 4) (aNil))) (eC (.int 1))) (aNil))))) (
  sSeq (sAsg (gTup 2 (gCons (gVar 8) (gCons (gVar 9) (gNil)))) (eCallD 2 M_l_lights (aCons (eVar 3) (aCons (eVar 5) (aNil))))) (
  sSeq (sAsg (gVar 10) (eBin oIx (eCallD 2 M_l_lights (aCons (eVar 3) (aCons (eBin oAdd (eVar 5) (eVar 5)) (aNil)))) (eC (.int 0)))) (
  sSeq (sAsg (gTup 2 (gCons (gVar 11) (gCons (gVar 12) (gNil)))) (eTup (aCons (eC (.int 0)) (aCons (eC .non) (aNil))))) (
  sSeq (sFor (iRange1 (eC (.int 30))) (gVar 13) (
  sSeq (sIf (tB (eBin oNe (eCallD 4 M_light_after (aCons (eVar 3) (aCons (eVar 5) (aCons (eVar 6) (aCons (eVar 13) (aNil)))))) (eVar 11))) (
  sRet (eC (.bl false))) (
  sNext)) (
  sSeq (sIf (tAnd (tB (eBin oIsN (eVar 12) (eC .non))) (tOr (tB (eBin oEq (eVar 7) (eC (.int 0)))) (tB (eBin oGe (eVar 11) (eBin oIx (eVar 4) (eBin oSub (eVar 7) (eC (.int 1)))))))) (
  sAsg (gVar 12) (eVar 13)) (
  sNext)) (
  sSeq (sAsg (gVar 11) (eBin oAdd (eVar 11) (eBin oIx (eVar 8) (eVar 6)))) (
  sIf (tB (eBin oEq (eBin oMod (eCall cInt (aCons (eVar 13) (aNil))) (eC (.int 2))) (eC (.int 1)))) (
  sAsg (gVar 11) (eBin oSub (eBin oAdd (eVar 11) (eBin oIx (eVar 10) (eVar 6))) (eBin oMul (eC (.int 2)) (eBin oIx (eVar 8) (eVar 6))))) (
  sNext)))))) (
  sSeq (sAsg (gVar 14) (eCallD 5 M_times_until (aCons (eVar 3) (aCons (eVar 4) (aCons (eVar 5) (aCons (eVar 6) (aCons (eVar 7) (aNil)))))))) (
  sSeq (sIf (tAnd (tB (eBin oNotN (eVar 12) (eC .non))) (tB (eBin oNe (eVar 14) (eVar 12)))) (
  sRet (eC (.bl false))) (
  sNext)) (
  sSeq (sIf (tB (eBin oNe (eBin oIsN (eVar 14) (eC .non)) (eAnd (eBin oGt (eVar 7) (eC (.int 0))) (eBin oEq (eBin oIx (eVar 10) (eVar 6)) (eC (.int 0)))))) (
  sRet (eC (.bl false))) (
  sNext)) (
  sSeq (sIf (tAnd (tB (eBin oNotN (eVar 14) (eC .non))) (tB (eBin oGt (eVar 14) (eC (.int 0))))) (
  sSeq (sAsg (gVar 15) (eBin oIx (eVar 4) (eBin oSub (eVar 7) (eC (.int 1))))) (
  sSeq (sIf (tB (eBin oLt (eCallD 4 M_light_after (aCons (eVar 3) (aCons (eVar 5) (aCons (eVar 6) (aCons (eVar 14) (aNil)))))) (eVar 15))) (
  sRet (eC (.bl false))) (
  sNext)) (
  sIf (tB (eBin oGe (eCallD 4 M_light_after (aCons (eVar 3) (aCons (eVar 5) (aCons (eVar 6) (aCons (eBin oSub (eVar 14) (eC (.int 1))) (aNil)))))) (eVar 15))) (
  sRet (eC (.bl false))) (
  sNext)))) (
  sNext)) (
  sSeq (sAsg (gVar 16) (eBin oAdd (eBin oPow (eC (.int 10)) (eC (.int 14))) (eCallD 2 M_l_taken (aCons (eVar 1) (aCons (eC (.int 999)) (aNil)))))) (
  sSeq (sIf (tB (eBin oNe (eCallD 4 M_light_after (aCons (eVar 3) (aCons (eVar 5) (aCons (eVar 6) (aCons (eBin oMul (eC (.int 2)) (eVar 16)) (aNil)))))) (eBin oMul (eVar 16) (eBin oIx (eVar 10) (eVar 6))))) (
  sRet (eC (.bl false))) (
  sNext)) (
  sIf (tB (eBin oNe (eCallD 4 M_light_after (aCons (eVar 3) (aCons (eVar 5) (aCons (eVar 6) (aCons (eBin oAdd (eBin oMul (eC (.int 2)) (eVar 16)) (eC (.int 1))) (aNil)))))) (eBin oAdd (eBin oMul (eVar 16) (eBin oIx (eVar 10) (eVar 6))) (eBin oIx (eVar 8) (eVar 6))))) (
  sRet (eC (.bl false))) (
  sNext)))))))))))))))) (
  sRet (eC (.bl true))))
def M_law : List D → Store → Res D := mDf 17 B_law
end K34

set_option Elab.async false
set_option linter.all false
set_option maxRecDepth 100000
set_option autoImplicit false
namespace Pg
open PySem L2 Fw
theorem cLenO_ev {F : List D → Store → Res D} {d : D} {μ : Store} (h : insOf 0 μ d = none) : cLenO 0 F [d] μ = cLen [d] μ := by simp [cLenO, h]
def Row0 (c : Cell) : Prop := ∃ (ns : List Int) (a b d : Int), ns.length ≤ 63 ∧ c = .lst [.flst ns, .int a, .int b, .int d] ∧ 0 ≤ a
theorem ixN_in {n : Nat} {i : Int} (h : 0 ≤ i) (h2 : i < n) : ixN n i = some i.toNat := by simp [ixN, h, h2]
theorem atI_in {α : Type} {xs : List α} {i : Int} (h : 0 ≤ i) (h2 : i < xs.length) : atI xs i = xs[i.toNat]? := by simp [atI, ixN_in h h2]
theorem oPow18 {μ : Store} : oPow (.int 10) (.int 18) μ = .ok (.int 1000000000000000000) μ := by rfl
structure Sz (w h n : Nat) : Prop where
  w1 : 1 ≤ w
  w4 : w ≤ 4
  h1 : 1 ≤ h
  h4 : h ≤ 4
  n1 : 1 ≤ n
  n9 : n ≤ 9
  e : w * h = n
theorem mulN {w h n : Nat} (s : Sz w h n) {μ : Store} : oMul (.int (w : Nat)) (.int (h : Nat)) μ = .ok (.int (n : Nat)) μ := by
  rw [oMul_int, ← s.e]
  · simp
  · have := s.w4
    have : Sm (w : Nat) = true := by simp [Sm]; omega
    simp [this]
@[simp] theorem l01234 : lit "01234" = [48, 49, 50, 51, 52] := by decide +kernel
@[simp] theorem l02 : lit "02" = [48, 50] := by decide +kernel
@[simp] theorem l4 : lit "4" = [52] := by decide +kernel
@[simp] theorem l0 : lit "0" = [48] := by decide +kernel
@[simp] theorem lE : lit "" = [] := by decide +kernel
def OkT (n : Nat) (T : List Nat) : Prop := T.length = n ∧ ∀ c ∈ T, 48 ≤ c ∧ c ≤ 52
theorem len_rg {n : Nat} : (rg n).length = n := by simp [rg]
inductive Deed where
  | flip
  | draw (t s : Int)
  | expo (t : Int) (m : List Nat)
@[simp] theorem len_flip : lit "flip" = [102, 108, 105, 112] := by decide +kernel
@[simp] theorem len_draw : lit "draw" = [100, 114, 97, 119] := by decide +kernel
@[simp] theorem len_expo : lit "expose" = [101, 120, 112, 111, 115, 101] := by decide +kernel
def encD : Deed → D
  | .flip => .tup [.str [102, 108, 105, 112]]
  | .draw t s => .tup [.str [100, 114, 97, 119], .int t, .int s]
  | .expo t m => .tup [.str [101, 120, 112, 111, 115, 101], .int t, .tup (m.map fun k => .int (k : Nat))]
def OkD (n : Nat) : Deed → Prop
  | .flip => True
  | .draw t s => 1 ≤ t ∧ t ≤ 99 ∧ 1 ≤ s ∧ s ≤ 99
  | .expo t m => 1 ≤ t ∧ t ≤ 99 ∧ m.Sublist (List.range n)
def isF : Deed → Bool
  | .flip => true
  | _ => false
def tk (w c : Nat) : Deed → Int
  | .flip => 0
  | .draw t s => if t - s * ((c % w : Nat) : Int) > 0 then t - s * ((c % w : Nat) : Int) else 0
  | .expo t m => if c ∈ m then 0 else t
def stp (w c : Nat) (q : Bool × Int × Int) (d : Deed) : Bool × Int × Int :=
  if (q.1 != isF d) = true then (true, q.2.1, q.2.2 + tk w c d) else (false, q.2.1 + tk w c d, q.2.2)
def op (w : Nat) (R : List Deed) (c : Nat) : Bool × Int × Int := R.foldl (stp w c) (false, 0, 0)
theorem oEq_str {a b : List Nat} {μ : Store} (ha : (a.all (· < 0x110000)) = true := by decide) (hb : (b.all (· < 0x110000)) = true := by decide) : oEq (.str a) (.str b) μ = .ok (.bl (decide (a = b))) μ := by
  rw [oEq_pl (k := 0) (j := 0) (by simpa [rd, pl] using ha) (by simpa [rd, pl] using hb)]; simp [rd]
theorem enc0 {d : Deed} {μ : Store} : oIx (encD d) (.int 0) μ = .ok (.str (match d with | .flip => [102, 108, 105, 112] | .draw _ _ => [100, 114, 97, 119] | .expo _ _ => [101, 120, 112, 111, 115, 101])) μ := by
  cases d <;> rfl
theorem inD_nat {c : Nat} {m : List Nat} : inD (.int c) (m.map fun k => .int (k : Nat)) = decide (c ∈ m) := by
  induction m with
  | nil => simp [inD]
  | cons a m ih =>
    have e : inD (.int c) ((a :: m).map fun k => .int (k : Nat)) = (((a : Int) == (c : Int)) || inD (.int c) (m.map fun k => .int (k : Nat))) := rfl
    rw [e, ih, Bool.eq_iff_iff]
    simp only [Bool.or_eq_true, beq_iff_eq, decide_eq_true_eq, List.mem_cons]
    constructor
    · rintro (h | h)
      · exact .inl (by omega)
      · exact .inr h
    · rintro (h | h)
      · exact .inl (by omega)
      · exact .inr h
theorem oIn_nat {c : Nat} {m : List Nat} {neg : Bool} {μ : Store} : oIn neg (.int c) (.tup (m.map fun k => .int (k : Nat))) μ = .ok (.bl (if neg then !decide (c ∈ m) else decide (c ∈ m))) μ := by
  have h : (m.map fun k => D.int (k : Nat)).all flatD = true := by simp [flatD]
  simp only [oIn, seqOf, h, flatD, Bool.and_self, if_true, inD_nat]
theorem sm_nat {i : Nat} (h : i < 1000) : Sm (i : Int) = true := by simp [Sm]; omega
theorem mod_lt' {w h n c : Nat} (hs : Sz w h n) : c % w < 1000 := by have := Nat.mod_lt c (show w > 0 from hs.w1); have := hs.w4; omega
theorem oMod_nat {w h n c : Nat} (hs : Sz w h n) {μ : Store} : oMod (.int (c : Nat)) (.int (w : Nat)) μ = .ok (.int ((c % w : Nat) : Int)) μ := by
  rw [oMod_int (by have := hs.w1; omega)]; simp
theorem d1 {t s : Int} {μ : Store} : oIx (encD (.draw t s)) (.int 1) μ = .ok (.int t) μ := (rfl)
theorem d2 {t s : Int} {μ : Store} : oIx (encD (.draw t s)) (.int 2) μ = .ok (.int s) μ := (rfl)
theorem x1 {t : Int} {m : List Nat} {μ : Store} : oIx (encD (.expo t m)) (.int 1) μ = .ok (.int t) μ := (rfl)
theorem x2 {t : Int} {m : List Nat} {μ : Store} : oIx (encD (.expo t m)) (.int 2) μ = .ok (.tup (m.map fun k => .int (k : Nat))) μ := (rfl)
theorem oMul_sm {a : Int} {i : Nat} (h : i < 1000) {μ : Store} : oMul (.int a) (.int (i : Nat)) μ = .ok (.int (a * i)) μ := oMul_int (by simp [sm_nat h])
theorem ticks_of {w h n c : Nat} (hs : Sz w h n) {d : Deed} (hd : isF d = false) {μ : Store} : M_ticks_of [encD d, .int w, .int c] μ = .ok (.int (tk w c d)) μ := by
  unfold M_ticks_of B_ticks_of
  cases d with
  | flip => simp [isF] at hd
  | draw t s =>
    have e1 : ∀ μ, oEq (.str [100, 114, 97, 119]) (.str [101, 120, 112, 111, 115, 101]) μ = .ok (.bl false) μ := fun μ => by rw [oEq_str]; rfl
    simp only [mD_ev, Res.mute_ok, sSeq_ev, sAsg_ev, eCallD_ev, eCall_ev, aCons_ev, aNil_ev, eVar_ev, List.map_cons, List.map_nil, List.length_cons, List.length_nil, List.cons_append, List.nil_append, Nat.reduceAdd, Nat.reduceSub, List.reduceReplicate, List.getElem?_cons_zero, List.getElem?_cons_succ, bok, if_true, eC_ev, sok, gVar_ev, List.set_cons_succ, List.set_cons_zero, Nat.reduceLT, eBin_ev, eLc_ev, iOf_ev, oWalk, wipeE, gTup_ev, gCons_ev, gNil_ev, eLst_ev, eTup_ev, eJoin_ev, iRange1_ev, sRet_ev, sIf_ev, tB_ev, tAnd_ev, tOr_ev, tNot_ev, eNot_ev, eAnd_ev, eIf_ev, sNext_ev, sExpr_ev, sPar_ev, sAug_ev, sAsg2_ev, sFor_ev, and_self, eThaw_ev, thaw_ev, enc0, len_expo, e1, Bool.false_eq_true, if_false, d1, d2, oMod_nat hs, oMul_sm (mod_lt' hs), oSub_int, cMax2_ev, tk]
  | expo t m =>
    have e1 : ∀ μ, oEq (.str [101, 120, 112, 111, 115, 101]) (.str [101, 120, 112, 111, 115, 101]) μ = .ok (.bl true) μ := fun μ => by rw [oEq_str]; rfl
    by_cases hm : c ∈ m
    all_goals simp only [mD_ev, Res.mute_ok, sSeq_ev, sAsg_ev, eCallD_ev, eCall_ev, aCons_ev, aNil_ev, eVar_ev, List.map_cons, List.map_nil, List.length_cons, List.length_nil, List.cons_append, List.nil_append, Nat.reduceAdd, Nat.reduceSub, List.reduceReplicate, List.getElem?_cons_zero, List.getElem?_cons_succ, bok, if_true, eC_ev, sok, gVar_ev, List.set_cons_succ, List.set_cons_zero, Nat.reduceLT, eBin_ev, eLc_ev, iOf_ev, oWalk, wipeE, gTup_ev, gCons_ev, gNil_ev, eLst_ev, eTup_ev, eJoin_ev, iRange1_ev, sRet_ev, sIf_ev, tB_ev, tAnd_ev, tOr_ev, tNot_ev, eNot_ev, eAnd_ev, eIf_ev, sNext_ev, sExpr_ev, sPar_ev, sAug_ev, sAsg2_ev, sFor_ev, and_self, eThaw_ev, thaw_ev, enc0, len_expo, e1, x1, x2, oIn_nat, Bool.false_eq_true, if_false, hm, decide_true, decide_false, tk]
theorem pl_enc {n : Nat} {d : Deed} : pl 2 (encD d) = true := by
  cases d with
  | flip => rfl
  | draw t s => rfl
  | expo t m =>
    have : pls 0 (m.map fun k => D.int (k : Nat)) = true := pls_iff.mpr (by simp [pl])
    simp [pl, pls, encD, this]
theorem isFlip {d : Deed} {μ : Store} : oEq (encD d) (.tup [.str (lit "flip")]) μ = .ok (.bl (isF d)) μ := by
  have h2 : pl 2 (rd μ (.tup [.str (lit "flip")])) = true := by rw [len_flip]; rfl
  have h1 : rd μ (encD d) = encD d := by cases d <;> rfl
  rw [oEq_pl (k := 2) (j := 2) (by rw [h1]; exact pl_enc (n := 0)) h2, h1, len_flip]
  cases d <;> simp [encD, rd, isF]
theorem isFlip0 {d : Deed} {μ : Store} : oEq (.str (match d with | .flip => [102, 108, 105, 112] | .draw _ _ => [100, 114, 97, 119] | .expo _ _ => [101, 120, 112, 111, 115, 101])) (.str [102, 108, 105, 112]) μ = .ok (.bl (isF d)) μ := by
  have a1 : oEq (.str [102, 108, 105, 112]) (.str [102, 108, 105, 112]) μ = .ok (.bl true) μ := by rw [oEq_str]; rfl
  have a2 : oEq (.str [100, 114, 97, 119]) (.str [102, 108, 105, 112]) μ = .ok (.bl false) μ := by rw [oEq_str]; rfl
  have a3 : oEq (.str [101, 120, 112, 111, 115, 101]) (.str [102, 108, 105, 112]) μ = .ok (.bl false) μ := by rw [oEq_str]; rfl
  cases d
  · exact a1
  · exact a2
  · exact a3
theorem open_in {w h n c : Nat} (hs : Sz w h n) {items : List D} {r : D} {μ : Store} : ∀ (R : List Deed) (q : Bool × Int × Int) (x : Option D), ∃ x', forL items none (gVar 6) (sIf (tB (eBin oEq (eVar 6) (eC (.tup [.str (lit "flip")])))) (
  sAsg (gVar 5) (eNot (eVar 5))) (
  sIf (tB (eVar 5)) (
  sAug 4 oAddI (eCallD 3 M_ticks_of (aCons (eVar 6) (aCons (eVar 0) (aCons (eVar 2) (aNil)))))) (
  sAug 3 oAddI (eCallD 3 M_ticks_of (aCons (eVar 6) (aCons (eVar 0) (aCons (eVar 2) (aNil)))))))) (R.map encD) [some (.int w), some r, some (.int c), some (.int q.2.1), some (.int q.2.2), some (.bl q.1), x] μ =
   .nx [some (.int w), some r, some (.int c), some (.int (R.foldl (stp w c) q).2.1), some (.int (R.foldl (stp w c) q).2.2), some (.bl (R.foldl (stp w c) q).1), x'] μ
  | [], q, x => ⟨x, by rw [List.map_nil, for_nil]; rfl⟩
  | d :: R, (b, s, o), x => by
    obtain ⟨x', e⟩ := open_in hs (items := items) (r := r) (μ := μ) R (stp w c (b, s, o) d) (some (encD d))
    refine ⟨x', ?_⟩
    rw [List.foldl_cons, ← e]
    cases hd : isF d with
    | true =>
      obtain rfl : d = .flip := by cases d <;> simp [isF] at hd ⊢
      rw [List.map_cons, for_cons]
      cases b
      all_goals
        simp only [mD_ev, Res.mute_ok, sSeq_ev, sAsg_ev, eCallD_ev, eCall_ev, aCons_ev, aNil_ev, eVar_ev, List.map_cons, List.map_nil, List.length_cons, List.length_nil, List.cons_append, List.nil_append, Nat.reduceAdd, Nat.reduceSub, List.reduceReplicate, List.getElem?_cons_zero, List.getElem?_cons_succ, bok, if_true, eC_ev, sok, gVar_ev, List.set_cons_succ, List.set_cons_zero, Nat.reduceLT, eBin_ev, eLc_ev, iOf_ev, oWalk, wipeE, gTup_ev, gCons_ev, gNil_ev, eLst_ev, eTup_ev, eJoin_ev, iRange1_ev, sRet_ev, sIf_ev, tB_ev, tAnd_ev, tOr_ev, tNot_ev, eNot_ev, eAnd_ev, eIf_ev, sNext_ev, sExpr_ev, sPar_ev, sAug_ev, sAsg2_ev, sFor_ev, and_self, eThaw_ev, thaw_ev, isFlip, isF, Bool.not_true, Bool.not_false]
        simp only [stp, isF, tk, bne_self_eq_false, Bool.false_eq_true, if_false, if_true, Int.add_zero, show (false != true) = true from rfl]
    | false =>
      rw [List.map_cons, for_cons]
      cases b
      all_goals
        simp only [mD_ev, Res.mute_ok, sSeq_ev, sAsg_ev, eCallD_ev, eCall_ev, aCons_ev, aNil_ev, eVar_ev, List.map_cons, List.map_nil, List.length_cons, List.length_nil, List.cons_append, List.nil_append, Nat.reduceAdd, Nat.reduceSub, List.reduceReplicate, List.getElem?_cons_zero, List.getElem?_cons_succ, bok, if_true, eC_ev, sok, gVar_ev, List.set_cons_succ, List.set_cons_zero, Nat.reduceLT, eBin_ev, eLc_ev, iOf_ev, oWalk, wipeE, gTup_ev, gCons_ev, gNil_ev, eLst_ev, eTup_ev, eJoin_ev, iRange1_ev, sRet_ev, sIf_ev, tB_ev, tAnd_ev, tOr_ev, tNot_ev, eNot_ev, eAnd_ev, eIf_ev, sNext_ev, sExpr_ev, sPar_ev, sAug_ev, sAsg2_ev, sFor_ev, and_self, eThaw_ev, thaw_ev, isFlip, hd, Bool.false_eq_true, if_false, ticks_of hs hd, oAddI_int]
        simp only [stp, hd, bne_self_eq_false, Bool.false_eq_true, if_false, if_true, show (true != false) = true from rfl]
theorem open_pair {w h n c : Nat} (hs : Sz w h n) {R : List Deed} {μ : Store} : M_open_pair [.int w, .tup (R.map encD), .int c] μ = .ok (.tup [.int (op w R c).2.1, .int (op w R c).2.2]) μ := by
  obtain ⟨x', e⟩ := open_in (c := c) hs (items := R.map encD) (r := .tup (R.map encD)) (μ := μ) R (false, 0, 0) none
  have hL2 : (2 : Nat) ≤ LIM := by decide
  unfold M_open_pair B_open_pair
  simp only [mD_ev, Res.mute_ok, sSeq_ev, sAsg_ev, eCallD_ev, eCall_ev, aCons_ev, aNil_ev, eVar_ev, List.map_cons, List.map_nil, List.length_cons, List.length_nil, List.cons_append, List.nil_append, Nat.reduceAdd, Nat.reduceSub, List.reduceReplicate, List.getElem?_cons_zero, List.getElem?_cons_succ, bok, if_true, eC_ev, sok, gVar_ev, List.set_cons_succ, List.set_cons_zero, Nat.reduceLT, eBin_ev, eLc_ev, iOf_ev, oWalk, wipeE, gTup_ev, gCons_ev, gNil_ev, eLst_ev, eTup_ev, eJoin_ev, iRange1_ev, sRet_ev, sIf_ev, tB_ev, tAnd_ev, tOr_ev, tNot_ev, eNot_ev, eAnd_ev, eIf_ev, sNext_ev, sExpr_ev, sPar_ev, sAug_ev, sAsg2_ev, sFor_ev, and_self, eThaw_ev, thaw_ev, e, hL2]
  rfl
def mir (w c : Nat) : Nat := c / w * w + w - 1 - c % w
theorem mir_lt {w h n c : Nat} (hs : Sz w h n) (hc : c < n) : mir w c < n := by
  obtain ⟨w1, w4, h1, h4, _, _, e⟩ := hs
  obtain rfl | rfl | rfl | rfl : w = 1 ∨ w = 2 ∨ w = 3 ∨ w = 4 := by omega
  all_goals unfold mir; omega
theorem mir_mir {w h n c : Nat} (hs : Sz w h n) (hc : c < n) : mir w (mir w c) = c := by
  obtain ⟨w1, w4, h1, h4, _, _, e⟩ := hs
  obtain rfl | rfl | rfl | rfl : w = 1 ∨ w = 2 ∨ w = 3 ∨ w = 4 := by omega
  all_goals unfold mir; omega
theorem mirrored {w h n c : Nat} (hs : Sz w h n) {μ : Store} : M_mirrored [.int (c : Nat), .int (w : Nat)] μ = .ok (.int ((mir w c : Nat) : Int)) μ := by
  unfold M_mirrored B_mirrored
  simp only [mD_ev, Res.mute_ok, sSeq_ev, sAsg_ev, eCallD_ev, eCall_ev, aCons_ev, aNil_ev, eVar_ev, List.map_cons, List.map_nil, List.length_cons, List.length_nil, List.cons_append, List.nil_append, Nat.reduceAdd, Nat.reduceSub, List.reduceReplicate, List.getElem?_cons_zero, List.getElem?_cons_succ, bok, if_true, eC_ev, sok, gVar_ev, List.set_cons_succ, List.set_cons_zero, Nat.reduceLT, eBin_ev, eLc_ev, iOf_ev, oWalk, wipeE, gTup_ev, gCons_ev, gNil_ev, eLst_ev, eTup_ev, eJoin_ev, iRange1_ev, sRet_ev, sIf_ev, tB_ev, tAnd_ev, tOr_ev, tNot_ev, eNot_ev, eAnd_ev, eIf_ev, sNext_ev, sExpr_ev, sPar_ev, sAug_ev, sAsg2_ev, sFor_ev, and_self, eThaw_ev, thaw_ev, oMod_nat hs, oSub_int, oAdd_int]
  congr 2
  obtain ⟨w1, w4, h1, h4, _, _, e⟩ := hs
  obtain rfl | rfl | rfl | rfl : w = 1 ∨ w = 2 ∨ w = 3 ∨ w = 4 := by omega
  all_goals unfold mir; omega
def wt (ch : Nat) : Int := if ch = 48 then 16 else if ch = 49 then 8 else if ch = 50 then 4 else if ch = 51 then 2 else 1
def W (T : List Nat) (c : Nat) : Int := wt (T.getD c 48)
theorem int_ch {ch : Nat} (h : 48 ≤ ch ∧ ch ≤ 52) {μ : Store} : cInt [.str [ch]] μ = .ok (.int ((ch : Int) - 48)) μ := by
  have e : PySem.intText? ⟨[ch].toArray⟩ = some ((ch : Int) - 48) := by
    obtain rfl | rfl | rfl | rfl | rfl : ch = 48 ∨ ch = 49 ∨ ch = 50 ∨ ch = 51 ∨ ch = 52 := by omega
    all_goals decide +kernel
  simp only [cInt, e]; rfl
theorem at5 {ch : Nat} (h : 48 ≤ ch ∧ ch ≤ 52) {μ : Store} : oIx (.tup [.int 16, .int 8, .int 4, .int 2, .int 1]) (.int ((ch : Int) - 48)) μ = .ok (.int (wt ch)) μ := by
  obtain rfl | rfl | rfl | rfl | rfl : ch = 48 ∨ ch = 49 ∨ ch = 50 ∨ ch = 51 ∨ ch = 52 := by omega
  all_goals rfl
theorem at5l {ch : Nat} (h : 48 ≤ ch ∧ ch ≤ 52) {μ : Store} : oIx (.lst [.int 16, .int 8, .int 4, .int 2, .int 1]) (.int ((ch : Int) - 48)) μ = .ok (.int (wt ch)) μ := by
  obtain rfl | rfl | rfl | rfl | rfl : ch = 48 ∨ ch = 49 ∨ ch = 50 ∨ ch = 51 ∨ ch = 52 := by omega
  all_goals rfl
theorem sm_wt {ch : Nat} : Sm (wt ch) = true := by
  unfold wt Sm
  repeat' split
  all_goals decide
theorem ch_ok {n : Nat} {T : List Nat} (ok : OkT n T) {c : Nat} (hc : c < n) : 48 ≤ T.getD c 48 ∧ T.getD c 48 ≤ 52 := by
  have hl : c < T.length := by rw [ok.1]; exact hc
  rw [List.getD_eq_getElem?_getD, List.getElem?_eq_getElem hl]
  exact ok.2 _ (List.getElem_mem hl)
theorem atT {w h n : Nat} (hs : Sz w h n) {T : List Nat} (ok : OkT n T) {c : Nat} (hc : c < n) {μ : Store} : oIx (.str T) (.int (c : Nat)) μ = .ok (.str [T.getD c 48]) μ := by
  have hl : c < T.length := by rw [ok.1]; exact hc
  have hL : T.length ≤ LIM := by rw [ok.1]; have := hs.n9; show _ ≤ 1000000; omega
  have e : atI T (c : Nat) = some (T.getD c 48) := by
    rw [atI_in (by omega) (by omega), Int.toNat_natCast, List.getElem?_eq_getElem hl, List.getD_eq_getElem?_getD, List.getElem?_eq_getElem hl]; rfl
  simp only [oIx, hL, if_true, e]
theorem mul_wt {a : Int} {ch : Nat} {μ : Store} : oMul (.int a) (.int (wt ch)) μ = .ok (.int (a * wt ch)) μ := oMul_int (by rw [sm_wt]; simp)
def lt (w : Nat) (T : List Nat) (R : List Deed) (c : Nat) : Int := (op w R c).2.1 * W T c + (op w R c).2.2 * W T (mir w c)
theorem light_by {a b : Int} {c d : Nat} (hc : 48 ≤ c ∧ c ≤ 52) (hd : 48 ≤ d ∧ d ≤ 52) {μ : Store} : M_light_by [.tup [.int a, .int b], .int ((c : Int) - 48), .int ((d : Int) - 48)] μ = .ok (.int (a * wt c + b * wt d)) μ := by
  unfold M_light_by B_light_by
  simp only [mD_ev, Res.mute_ok, sSeq_ev, sAsg_ev, eCallD_ev, eCall_ev, aCons_ev, aNil_ev, eVar_ev, List.map_cons, List.map_nil, List.length_cons, List.length_nil, List.cons_append, List.nil_append, Nat.reduceAdd, Nat.reduceSub, List.reduceReplicate, List.getElem?_cons_zero, List.getElem?_cons_succ, bok, if_true, eC_ev, sok, gVar_ev, List.set_cons_succ, List.set_cons_zero, Nat.reduceLT, eBin_ev, eLc_ev, iOf_ev, oWalk, wipeE, gTup_ev, gCons_ev, gNil_ev, eLst_ev, eTup_ev, eJoin_ev, iRange1_ev, sRet_ev, sIf_ev, tB_ev, tAnd_ev, tOr_ev, tNot_ev, eNot_ev, eAnd_ev, eIf_ev, sNext_ev, sExpr_ev, sPar_ev, sAug_ev, sAsg2_ev, sFor_ev, and_self, eThaw_ev, thaw_ev, at5 hc, at5 hd, mul_wt, oAdd_int]
theorem light_of {w h n c : Nat} (hs : Sz w h n) (hc : c < n) {T : List Nat} (ok : OkT n T) {R : List Deed} {μ : Store} : M_light_of [.int (w : Nat), .str T, .tup (R.map encD), .int (c : Nat)] μ = .ok (.int (lt w T R c)) μ := by
  have hm := mir_lt hs hc
  unfold M_light_of B_light_of
  simp only [mD_ev, Res.mute_ok, sSeq_ev, sAsg_ev, eCallD_ev, eCall_ev, aCons_ev, aNil_ev, eVar_ev, List.map_cons, List.map_nil, List.length_cons, List.length_nil, List.cons_append, List.nil_append, Nat.reduceAdd, Nat.reduceSub, List.reduceReplicate, List.getElem?_cons_zero, List.getElem?_cons_succ, bok, if_true, eC_ev, sok, gVar_ev, List.set_cons_succ, List.set_cons_zero, Nat.reduceLT, eBin_ev, eLc_ev, iOf_ev, oWalk, wipeE, gTup_ev, gCons_ev, gNil_ev, eLst_ev, eTup_ev, eJoin_ev, iRange1_ev, sRet_ev, sIf_ev, tB_ev, tAnd_ev, tOr_ev, tNot_ev, eNot_ev, eAnd_ev, eIf_ev, sNext_ev, sExpr_ev, sPar_ev, sAug_ev, sAsg2_ev, sFor_ev, and_self, eThaw_ev, thaw_ev, open_pair hs, mirrored hs, atT hs ok hc, atT hs ok hm, int_ch (ch_ok ok hc), int_ch (ch_ok ok hm), light_by (ch_ok ok hc) (ch_ok ok hm)]
  rfl
theorem is_number {v a b : Int} {μ : Store} : M_is_number [.int v, .int a, .int b] μ = .ok (.bl (decide (a ≤ v) && decide (v ≤ b))) μ := by
  have e1 : ∀ (ρ : Fw.Env) μ, eIsi "int" (eVar 0) (some (.int v) :: ρ) μ = .ok (.bl true) μ := fun ρ μ => by rfl
  have e2 : ∀ (ρ : Fw.Env) μ, eIsi "bool" (eVar 0) (some (.int v) :: ρ) μ = .ok (.bl false) μ := fun ρ μ => by rfl
  unfold M_is_number B_is_number
  by_cases h : a ≤ v
  all_goals simp only [mD_ev, Res.mute_ok, sSeq_ev, sAsg_ev, eCallD_ev, eCall_ev, aCons_ev, aNil_ev, eVar_ev, List.map_cons, List.map_nil, List.length_cons, List.length_nil, List.cons_append, List.nil_append, Nat.reduceAdd, Nat.reduceSub, List.reduceReplicate, List.getElem?_cons_zero, List.getElem?_cons_succ, bok, if_true, eC_ev, sok, gVar_ev, List.set_cons_succ, List.set_cons_zero, Nat.reduceLT, eBin_ev, eLc_ev, iOf_ev, oWalk, wipeE, gTup_ev, gCons_ev, gNil_ev, eLst_ev, eTup_ev, eJoin_ev, iRange1_ev, sRet_ev, sIf_ev, tB_ev, tAnd_ev, tOr_ev, tNot_ev, eNot_ev, eAnd_ev, eIf_ev, sNext_ev, sExpr_ev, sPar_ev, sAug_ev, sAsg2_ev, sFor_ev, and_self, eThaw_ev, thaw_ev, e1, e2, Bool.not_false, eChain_ev, oLe_int, h, decide_true, decide_false, Bool.false_eq_true, if_false, Bool.true_and, Bool.false_and]
theorem asc_in {vs : D} {n : Nat} {items : List D} {μ : Store} : ∀ (m : List Nat) (l : Nat) (x : Option D), m.Pairwise (· < ·) → (∀ k ∈ m, l ≤ k ∧ k < n) → ∃ l' x', forL items none (gVar 3) (
  sSeq (sIf (tNot (tB (eCallD 3 M_is_number (aCons (eVar 3) (aCons (eVar 1) (aCons (eVar 2) (aNil))))))) (
  sRet (eC (.bl false))) (
  sNext)) (
  sAsg (gVar 1) (eBin oAdd (eVar 3) (eC (.int 1))))) (m.map fun k => .int (k : Nat)) [some vs, some (.int (l : Nat)), some (.int ((n : Int) - 1)), x] μ = .nx [some vs, some (.int l'), some (.int ((n : Int) - 1)), x'] μ
  | [], l, x, _, _ => ⟨l, x, by rw [List.map_nil, for_nil]⟩
  | k :: m, l, x, hp, hk => by
    obtain ⟨hp1, hp2⟩ := List.pairwise_cons.mp hp
    obtain ⟨l', x', e⟩ := asc_in (vs := vs) (n := n) (items := items) (μ := μ) m (k + 1) (some (.int (k : Nat))) hp2 (fun j hj => ⟨hp1 j hj, (hk j (by simp [hj])).2⟩)
    have h1 := hk k (by simp)
    refine ⟨l', x', ?_⟩
    rw [List.map_cons, for_cons]
    simp only [mD_ev, Res.mute_ok, sSeq_ev, sAsg_ev, eCallD_ev, eCall_ev, aCons_ev, aNil_ev, eVar_ev, List.map_cons, List.map_nil, List.length_cons, List.length_nil, List.cons_append, List.nil_append, Nat.reduceAdd, Nat.reduceSub, List.reduceReplicate, List.getElem?_cons_zero, List.getElem?_cons_succ, bok, if_true, eC_ev, sok, gVar_ev, List.set_cons_succ, List.set_cons_zero, Nat.reduceLT, eBin_ev, eLc_ev, iOf_ev, oWalk, wipeE, gTup_ev, gCons_ev, gNil_ev, eLst_ev, eTup_ev, eJoin_ev, iRange1_ev, sRet_ev, sIf_ev, tB_ev, tAnd_ev, tOr_ev, tNot_ev, eNot_ev, eAnd_ev, eIf_ev, sNext_ev, sExpr_ev, sPar_ev, sAug_ev, sAsg2_ev, sFor_ev, and_self, eThaw_ev, thaw_ev, is_number, show ((l : Int) ≤ (k : Nat)) from by omega, show (((k : Nat) : Int) ≤ (n : Int) - 1) from by omega, decide_true, Bool.and_self, Bool.not_true, Bool.false_eq_true, if_false, oAdd_int]
    exact e
theorem is_mask {m : List Nat} {n : Nat} (hm : m.Sublist (List.range n)) {μ : Store} : M_is_mask [.tup (m.map fun k => .int (k : Nat)), .int (n : Nat)] μ = .ok (.bl true) μ := by
  have e1 : ∀ (ρ : Fw.Env) μ, eIsi "tuple" (eVar 0) (some (.tup (m.map fun k => .int (k : Nat))) :: ρ) μ = .ok (.bl true) μ := fun ρ μ => by rfl
  obtain ⟨l', x', e⟩ := asc_in (vs := .tup (m.map fun k => .int (k : Nat))) (n := n) (items := m.map fun k => .int (k : Nat)) (μ := μ) m 0 none (List.pairwise_lt_range.sublist hm) (fun k hk => ⟨by omega, List.mem_range.mp (hm.subset hk)⟩)
  have e2 : M_ascends [.tup (m.map fun k => .int (k : Nat)), .int 0, .int ((n : Int) - 1)] μ = .ok (.bl true) μ := by
    unfold M_ascends B_ascends
    simp only [Int.ofNat_zero, Int.natCast_zero] at e
    simp only [mD_ev, Res.mute_ok, sSeq_ev, sAsg_ev, eCallD_ev, eCall_ev, aCons_ev, aNil_ev, eVar_ev, List.map_cons, List.map_nil, List.length_cons, List.length_nil, List.cons_append, List.nil_append, Nat.reduceAdd, Nat.reduceSub, List.reduceReplicate, List.getElem?_cons_zero, List.getElem?_cons_succ, bok, if_true, eC_ev, sok, gVar_ev, List.set_cons_succ, List.set_cons_zero, Nat.reduceLT, eBin_ev, eLc_ev, iOf_ev, oWalk, wipeE, gTup_ev, gCons_ev, gNil_ev, eLst_ev, eTup_ev, eJoin_ev, iRange1_ev, sRet_ev, sIf_ev, tB_ev, tAnd_ev, tOr_ev, tNot_ev, eNot_ev, eAnd_ev, eIf_ev, sNext_ev, sExpr_ev, sPar_ev, sAug_ev, sAsg2_ev, sFor_ev, and_self, eThaw_ev, thaw_ev, e]
  unfold M_is_mask B_is_mask
  simp only [mD_ev, Res.mute_ok, sSeq_ev, sAsg_ev, eCallD_ev, eCall_ev, aCons_ev, aNil_ev, eVar_ev, List.map_cons, List.map_nil, List.length_cons, List.length_nil, List.cons_append, List.nil_append, Nat.reduceAdd, Nat.reduceSub, List.reduceReplicate, List.getElem?_cons_zero, List.getElem?_cons_succ, bok, if_true, eC_ev, sok, gVar_ev, List.set_cons_succ, List.set_cons_zero, Nat.reduceLT, eBin_ev, eLc_ev, iOf_ev, oWalk, wipeE, gTup_ev, gCons_ev, gNil_ev, eLst_ev, eTup_ev, eJoin_ev, iRange1_ev, sRet_ev, sIf_ev, tB_ev, tAnd_ev, tOr_ev, tNot_ev, eNot_ev, eAnd_ev, eIf_ev, sNext_ev, sExpr_ev, sPar_ev, sAug_ev, sAsg2_ev, sFor_ev, and_self, eThaw_ev, thaw_ev, e1, oSub_int, e2]
theorem is_deed {d : Deed} {n : Nat} (hd : OkD n d) {μ : Store} : M_is_deed [encD d, .int (n : Nat)] μ = .ok (.bl true) μ := by
  unfold M_is_deed B_is_deed
  cases d with
  | flip => simp only [mD_ev, Res.mute_ok, sSeq_ev, sAsg_ev, eCallD_ev, eCall_ev, aCons_ev, aNil_ev, eVar_ev, List.map_cons, List.map_nil, List.length_cons, List.length_nil, List.cons_append, List.nil_append, Nat.reduceAdd, Nat.reduceSub, List.reduceReplicate, List.getElem?_cons_zero, List.getElem?_cons_succ, bok, if_true, eC_ev, sok, gVar_ev, List.set_cons_succ, List.set_cons_zero, Nat.reduceLT, eBin_ev, eLc_ev, iOf_ev, oWalk, wipeE, gTup_ev, gCons_ev, gNil_ev, eLst_ev, eTup_ev, eJoin_ev, iRange1_ev, sRet_ev, sIf_ev, tB_ev, tAnd_ev, tOr_ev, tNot_ev, eNot_ev, eAnd_ev, eIf_ev, sNext_ev, sExpr_ev, sPar_ev, sAug_ev, sAsg2_ev, sFor_ev, and_self, eThaw_ev, thaw_ev, isFlip, isF]
  | draw t s =>
    have e0 : ∀ μ, cLenO 0 M_Negativedd__lendd_ [encD (.draw t s)] μ = .ok (.int 3) μ := fun μ => by rfl
    have e1 : ∀ μ, oEq (.str [100, 114, 97, 119]) (.str [101, 120, 112, 111, 115, 101]) μ = .ok (.bl false) μ := fun μ => by rw [oEq_str]; rfl
    have e2 : ∀ μ, oEq (.str [100, 114, 97, 119]) (.str [100, 114, 97, 119]) μ = .ok (.bl true) μ := fun μ => by rw [oEq_str]; rfl
    obtain ⟨a1, a2, a3, a4⟩ := hd
    simp only [mD_ev, Res.mute_ok, sSeq_ev, sAsg_ev, eCallD_ev, eCall_ev, aCons_ev, aNil_ev, eVar_ev, List.map_cons, List.map_nil, List.length_cons, List.length_nil, List.cons_append, List.nil_append, Nat.reduceAdd, Nat.reduceSub, List.reduceReplicate, List.getElem?_cons_zero, List.getElem?_cons_succ, bok, if_true, eC_ev, sok, gVar_ev, List.set_cons_succ, List.set_cons_zero, Nat.reduceLT, eBin_ev, eLc_ev, iOf_ev, oWalk, wipeE, gTup_ev, gCons_ev, gNil_ev, eLst_ev, eTup_ev, eJoin_ev, iRange1_ev, sRet_ev, sIf_ev, tB_ev, tAnd_ev, tOr_ev, tNot_ev, eNot_ev, eAnd_ev, eIf_ev, sNext_ev, sExpr_ev, sPar_ev, sAug_ev, sAsg2_ev, sFor_ev, and_self, eThaw_ev, thaw_ev, isFlip, isF, e0, oNe_int, decide_true, Bool.not_true, Bool.false_eq_true, if_false, d1, d2, is_number, a1, a2, a3, a4, Bool.and_self, enc0, len_expo, len_draw, e1, e2]
  | expo t m =>
    have e0 : ∀ μ, cLenO 0 M_Negativedd__lendd_ [encD (.expo t m)] μ = .ok (.int 3) μ := fun μ => by rfl
    have e1 : ∀ μ, oEq (.str [101, 120, 112, 111, 115, 101]) (.str [101, 120, 112, 111, 115, 101]) μ = .ok (.bl true) μ := fun μ => by rw [oEq_str]; rfl
    obtain ⟨a1, a2, a3⟩ := hd
    simp only [mD_ev, Res.mute_ok, sSeq_ev, sAsg_ev, eCallD_ev, eCall_ev, aCons_ev, aNil_ev, eVar_ev, List.map_cons, List.map_nil, List.length_cons, List.length_nil, List.cons_append, List.nil_append, Nat.reduceAdd, Nat.reduceSub, List.reduceReplicate, List.getElem?_cons_zero, List.getElem?_cons_succ, bok, if_true, eC_ev, sok, gVar_ev, List.set_cons_succ, List.set_cons_zero, Nat.reduceLT, eBin_ev, eLc_ev, iOf_ev, oWalk, wipeE, gTup_ev, gCons_ev, gNil_ev, eLst_ev, eTup_ev, eJoin_ev, iRange1_ev, sRet_ev, sIf_ev, tB_ev, tAnd_ev, tOr_ev, tNot_ev, eNot_ev, eAnd_ev, eIf_ev, sNext_ev, sExpr_ev, sPar_ev, sAug_ev, sAsg2_ev, sFor_ev, and_self, eThaw_ev, thaw_ev, isFlip, isF, e0, oNe_int, decide_true, Bool.not_true, Bool.false_eq_true, if_false, x1, x2, is_number, a1, a2, Bool.and_self, enc0, len_expo, e1, is_mask a3]
theorem chk_in {n : Nat} {items : List D} {r : D} {μ : Store} : ∀ (R : List Deed) (i : Nat) (x y : Option D), i + R.length ≤ 8 → (∀ d ∈ R, OkD n d) → ∃ x' y', forL items none (gTup 2 (gCons (gVar 2) (gCons (gVar 3) (gNil)))) (
  sIf (tOr (tB (eBin oEq (eVar 2) (eC (.int 8)))) (tNot (tB (eCallD 2 M_is_deed (aCons (eVar 3) (aCons (eVar 1) (aNil))))))) (
  sNever) (
  sNext)) (((R.map encD).zipIdx i).map fun p => .tup [.int (p.2 : Nat), p.1]) [some r, some (.int (n : Nat)), x, y] μ = .nx [some r, some (.int (n : Nat)), x', y'] μ
  | [], i, x, y, _, _ => ⟨x, y, by rw [List.map_nil, List.zipIdx_nil, List.map_nil, for_nil]⟩
  | d :: R, i, x, y, hl, hd => by
    simp only [List.length_cons] at hl
    obtain ⟨x', y', e⟩ := chk_in (n := n) (items := items) (r := r) (μ := μ) R (i + 1) (some (.int (i : Nat))) (some (encD d)) (by omega) (fun d h => hd d (by simp [h]))
    refine ⟨x', y', ?_⟩
    rw [List.map_cons, List.zipIdx_cons, List.map_cons, for_cons]
    simp only [mD_ev, Res.mute_ok, sSeq_ev, sAsg_ev, eCallD_ev, eCall_ev, aCons_ev, aNil_ev, eVar_ev, List.map_cons, List.map_nil, List.length_cons, List.length_nil, List.cons_append, List.nil_append, Nat.reduceAdd, Nat.reduceSub, List.reduceReplicate, List.getElem?_cons_zero, List.getElem?_cons_succ, bok, if_true, eC_ev, sok, gVar_ev, List.set_cons_succ, List.set_cons_zero, Nat.reduceLT, eBin_ev, eLc_ev, iOf_ev, oWalk, wipeE, gTup_ev, gCons_ev, gNil_ev, eLst_ev, eTup_ev, eJoin_ev, iRange1_ev, sRet_ev, sIf_ev, tB_ev, tAnd_ev, tOr_ev, tNot_ev, eNot_ev, eAnd_ev, eIf_ev, sNext_ev, sExpr_ev, sPar_ev, sAug_ev, sAsg2_ev, sFor_ev, and_self, eThaw_ev, thaw_ev, oEq_int, show ¬ ((i : Int) = 8) from by omega, decide_false, Bool.false_eq_true, if_false, is_deed (hd d (by simp)), Bool.not_true]
    exact e
theorem check_recipe {R : List Deed} {n : Nat} (hl : R.length ≤ 8) (hd : ∀ d ∈ R, OkD n d) {μ : Store} : M_check_recipe [.tup (R.map encD), .int (n : Nat)] μ = .ok .non μ := by
  obtain ⟨x', y', e⟩ := chk_in (n := n) (items := enumD (R.map encD)) (r := .tup (R.map encD)) (μ := μ) R 0 none none (by omega) hd
  unfold M_check_recipe B_check_recipe
  simp only [mD_ev, Res.mute_ok, sSeq_ev, sAsg_ev, eCallD_ev, eCall_ev, aCons_ev, aNil_ev, eVar_ev, List.map_cons, List.map_nil, List.length_cons, List.length_nil, List.cons_append, List.nil_append, Nat.reduceAdd, Nat.reduceSub, List.reduceReplicate, List.getElem?_cons_zero, List.getElem?_cons_succ, bok, if_true, eC_ev, sok, gVar_ev, List.set_cons_succ, List.set_cons_zero, Nat.reduceLT, eBin_ev, eLc_ev, iOf_ev, oWalk, wipeE, gTup_ev, gCons_ev, gNil_ev, eLst_ev, eTup_ev, eJoin_ev, iRange1_ev, sRet_ev, sIf_ev, tB_ev, tAnd_ev, tOr_ev, tNot_ev, eNot_ev, eAnd_ev, eIf_ev, sNext_ev, sExpr_ev, sPar_ev, sAug_ev, sAsg2_ev, sFor_ev, and_self, eThaw_ev, thaw_ev, iEnumD_ev, oEnum]
  rw [show forL (enumD (R.map encD)) none _ _ (enumD (R.map encD)) _ μ = _ from e]
theorem wrong_side {w h n : Nat} (hs : Sz w h n) {μ : Store} : M_wrong_side [.int (w : Nat), .int (h : Nat)] μ = .ok .non μ := by
  have := hs.w1
  have := hs.w4
  have := hs.h1
  have := hs.h4
  have := hs.n9
  unfold M_wrong_side B_wrong_side
  simp only [mD_ev, Res.mute_ok, sSeq_ev, sAsg_ev, eCallD_ev, eCall_ev, aCons_ev, aNil_ev, eVar_ev, List.map_cons, List.map_nil, List.length_cons, List.length_nil, List.cons_append, List.nil_append, Nat.reduceAdd, Nat.reduceSub, List.reduceReplicate, List.getElem?_cons_zero, List.getElem?_cons_succ, bok, if_true, eC_ev, sok, gVar_ev, List.set_cons_succ, List.set_cons_zero, Nat.reduceLT, eBin_ev, eLc_ev, iOf_ev, oWalk, wipeE, gTup_ev, gCons_ev, gNil_ev, eLst_ev, eTup_ev, eJoin_ev, iRange1_ev, sRet_ev, sIf_ev, tB_ev, tAnd_ev, tOr_ev, tNot_ev, eNot_ev, eAnd_ev, eIf_ev, sNext_ev, sExpr_ev, sPar_ev, sAug_ev, sAsg2_ev, sFor_ev, and_self, eThaw_ev, thaw_ev, is_number, show (1 : Int) ≤ (w : Nat) from by omega, show ((w : Nat) : Int) ≤ 4 from by omega, show (1 : Int) ≤ (h : Nat) from by omega, show ((h : Nat) : Int) ≤ 4 from by omega, decide_true, Bool.and_self, Bool.not_true, Bool.false_eq_true, if_false, mulN hs, oGt_int, show ¬ (9 : Int) < (n : Nat) from by omega, decide_false]
theorem range_n {w h n : Nat} (hs : Sz w h n) {μ : Store} : rangeR (.int (n : Nat)) μ = .ok (rg n, none) μ := rangeR_nat (by have := hs.n9; omega)
theorem lc_range {n : Nat} {items : List D} {v : Nat} {fe : FE} {ρ : Fw.Env} {μ : Store} {f : Nat → D} (hn : n ≤ 1000000) (hv : v < ρ.length) (h : ∀ c < n, fe (ρ.set v (some (.int (c : Nat)))) μ = .ok (f c) μ) :
    lcL items none (gVar v) (fun _ μ => .ok true μ) fe ρ (rg n) μ [] = .ok (.lst ((List.range n).map f)) μ := by
  have := lc_pure (items := items) (g := gVar v) (ft := fun _ μ => .ok true μ) (fe := fe) (ρ := ρ) (μ := μ) (fun _ => true) (fun d => match d with | .int i => f i.toNat | _ => .non) (ds := rg n) (acc := [])
    (by
      intro d hd
      obtain ⟨c, hc, rfl⟩ := List.mem_map.mp hd
      refine ⟨_, by rw [gVar_ev, if_pos hv], rfl, fun _ => ?_⟩
      rw [h c (List.mem_range.mp hc)]; simp)
    (by rw [len_rg]; exact (Nat.zero_add n).symm ▸ hn)
  rw [this]
  have e : (rg n).filter (fun _ => true) = rg n := List.filter_eq_self.mpr (fun _ _ => rfl)
  rw [e]
  simp [rg, Function.comp_def]
def neg (w h : Nat) (T : List Nat) : D := .obj 0 ["columns", "lines", "figures"] [.int (w : Nat), .int (h : Nat), .str T]
theorem ins_neg {w h : Nat} {T : List Nat} {μ : Store} : insOf 0 μ (neg w h T) = some ((["columns", "lines", "figures"] : List Str), ([.int (w : Nat), .int (h : Nat), .str T] : List D)) := (rfl)
theorem fig {w h : Nat} {T : List Nat} : ((["columns", "lines", "figures"] : List Str).zip [D.int (w : Nat), D.int (h : Nat), D.str T]).lookup ("figures" : Str) = some (.str T) := by rfl
theorem col {w h : Nat} {T : List Nat} : ((["columns", "lines", "figures"] : List Str).zip [D.int (w : Nat), D.int (h : Nat), D.str T]).lookup ("columns" : Str) = some (.int (w : Nat)) := by rfl
theorem lenT {n : Nat} {T : List Nat} (ok : OkT n T) (h : n ≤ 9) {μ : Store} : cLen [.str T] μ = .ok (.int (n : Nat)) μ := by
  have hL : T.length ≤ LIM := by rw [ok.1]; show _ ≤ 1000000; omega
  rw [ok.1] at hL
  simp only [cLen, ok.1, hL, if_true]
theorem len_neg {w h n : Nat} (hs : Sz w h n) {T : List Nat} (ok : OkT n T) {μ : Store} : cLenO 0 M_Negativedd__lendd_ [neg w h T] μ = .ok (.int (n : Nat)) μ := by
  have := hs.n9
  have e : M_Negativedd__lendd_ [neg w h T] μ = .ok (.int (n : Nat)) μ := by
    unfold M_Negativedd__lendd_ B_Negativedd__lendd_
    simp only [mD_ev, Res.mute_ok, sSeq_ev, sAsg_ev, eCallD_ev, eCall_ev, aCons_ev, aNil_ev, eVar_ev, List.map_cons, List.map_nil, List.length_cons, List.length_nil, List.cons_append, List.nil_append, Nat.reduceAdd, Nat.reduceSub, List.reduceReplicate, List.getElem?_cons_zero, List.getElem?_cons_succ, bok, if_true, eC_ev, sok, gVar_ev, List.set_cons_succ, List.set_cons_zero, Nat.reduceLT, eBin_ev, eLc_ev, iOf_ev, oWalk, wipeE, gTup_ev, gCons_ev, gNil_ev, eLst_ev, eTup_ev, eJoin_ev, iRange1_ev, sRet_ev, sIf_ev, tB_ev, tAnd_ev, tOr_ev, tNot_ev, eNot_ev, eAnd_ev, eIf_ev, sNext_ev, sExpr_ev, sPar_ev, sAug_ev, sAsg2_ev, sFor_ev, and_self, eThaw_ev, thaw_ev, eFld_ev, ins_neg, fig, lenT ok hs.n9]
  have h2 : (0 : Int) ≤ (n : Nat) ∧ ((n : Nat) : Int) < 1000000 := by omega
  simp only [cLenO, ins_neg, e, Res.mute_ok, bok, h2, and_self, if_true]
theorem blsAll : ∀ {T : List Nat} {p : Nat → Bool}, (∀ c ∈ T, p c = true) → blsOf (T.map fun c => D.bl (p c)) = some (T.map p) ∧ (T.map p).all id = true
  | [], p, _ => ⟨rfl, rfl⟩
  | c :: T, p, h => by
    have := blsAll (T := T) (p := p) (fun c hc => h c (by simp [hc]))
    simp [blsOf, this.1, h c (by simp)]
    simpa using this.2
theorem lc_map {items : List D} {v : Nat} {fe : FE} {ρ : Fw.Env} {μ : Store} {ds : List D} {f : D → D} (hn : ds.length ≤ 1000000) (hv : v < ρ.length) (h : ∀ d ∈ ds, fe (ρ.set v (some d)) μ = .ok (f d) μ) :
    lcL items none (gVar v) (fun _ μ => .ok true μ) fe ρ ds μ [] = .ok (.lst (ds.map f)) μ := by
  have := lc_pure (items := items) (g := gVar v) (ft := fun _ μ => .ok true μ) (fe := fe) (ρ := ρ) (μ := μ) (fun _ => true) f (ds := ds) (acc := [])
    (fun d hd => ⟨_, by rw [gVar_ev, if_pos hv], rfl, fun _ => h d hd⟩)
    (by exact (Nat.zero_add _).symm ▸ hn)
  rw [this]
  have e : ds.filter (fun _ => true) = ds := List.filter_eq_self.mpr (fun _ _ => rfl)
  rw [e]; rfl
theorem wrong_part {w h n : Nat} (hs : Sz w h n) {T : List Nat} (ok : OkT n T) {μ : Store} : M_wrong_part [.int (w : Nat), .int (h : Nat), .str T] μ = .ok .non μ := by
  have e := lc_map (items := T.map fun c => D.str [c]) (v := 4) (fe := eBin (oIn false) (eVar 4) (eC (.str (lit "01234")))) (ρ := [some (.int (w : Nat)), some (.int (h : Nat)), some (.str T), some .non, none]) (μ := μ) (ds := T.map fun c => D.str [c]) (f := fun _ => .bl true)
    (by have := ok.1; have := hs.n9; simp; omega) (by simp) (fun d hd => by
      obtain ⟨c, hc, rfl⟩ := List.mem_map.mp hd
      have := ok.2 c hc
      have : c ∈ [48, 49, 50, 51, 52] := by simp; omega
      simp only [mD_ev, Res.mute_ok, sSeq_ev, sAsg_ev, eCallD_ev, eCall_ev, aCons_ev, aNil_ev, eVar_ev, List.map_cons, List.map_nil, List.length_cons, List.length_nil, List.cons_append, List.nil_append, Nat.reduceAdd, Nat.reduceSub, List.reduceReplicate, List.getElem?_cons_zero, List.getElem?_cons_succ, bok, if_true, eC_ev, sok, gVar_ev, List.set_cons_succ, List.set_cons_zero, Nat.reduceLT, eBin_ev, eLc_ev, iOf_ev, oWalk, wipeE, gTup_ev, gCons_ev, gNil_ev, eLst_ev, eTup_ev, eJoin_ev, iRange1_ev, sRet_ev, sIf_ev, tB_ev, tAnd_ev, tOr_ev, tNot_ev, eNot_ev, eAnd_ev, eIf_ev, sNext_ev, sExpr_ev, sPar_ev, sAug_ev, sAsg2_ev, sFor_ev, and_self, eThaw_ev, thaw_ev, l01234]
      simp only [oIn, this, decide_true, Bool.false_eq_true, if_false])
  have e3 : ∀ μ, cAll [.lst ((T.map fun c => D.str [c]).map fun _ => D.bl true)] μ = .ok (.bl true) μ := fun μ => by
    have := blsAll (T := T) (p := fun _ => true) (fun _ _ => rfl)
    simp only [List.map_map, Function.comp_def, cAll, lstOf, this]
  have e4 : ∀ μ, cLenO 0 M_Negativedd__lendd_ [.str T] μ = .ok (.int (n : Nat)) μ := fun μ => by
    rw [cLenO_ev rfl]; exact lenT ok hs.n9
  unfold M_wrong_part B_wrong_part
  simp only [mD_ev, Res.mute_ok, sSeq_ev, sAsg_ev, eCallD_ev, eCall_ev, aCons_ev, aNil_ev, eVar_ev, List.map_cons, List.map_nil, List.length_cons, List.length_nil, List.cons_append, List.nil_append, Nat.reduceAdd, Nat.reduceSub, List.reduceReplicate, List.getElem?_cons_zero, List.getElem?_cons_succ, bok, if_true, eC_ev, sok, gVar_ev, List.set_cons_succ, List.set_cons_zero, Nat.reduceLT, eBin_ev, eLc_ev, iOf_ev, oWalk, wipeE, gTup_ev, gCons_ev, gNil_ev, eLst_ev, eTup_ev, eJoin_ev, iRange1_ev, sRet_ev, sIf_ev, tB_ev, tAnd_ev, tOr_ev, tNot_ev, eNot_ev, eAnd_ev, eIf_ev, sNext_ev, sExpr_ev, sPar_ev, sAug_ev, sAsg2_ev, sFor_ev, and_self, eThaw_ev, thaw_ev, wrong_side hs, oNotN_ev, D.isNon, Bool.not_true, Bool.false_eq_true, if_false, e4, mulN hs, oNe_int, decide_true, e, e3]
theorem make {w h n : Nat} (hs : Sz w h n) {T : List Nat} (ok : OkT n T) {ρ : Fw.Env} {μ : Store} {fs : FA} (hμ : μ.all (lowC μ.length) = true) (hf : fs ρ μ = .ok [.int (w : Nat), .int (h : Nat), .str T] μ) :
    eMake 0 4 M_Negativedd__initdd_ fs ρ μ = .ok (neg w h T) μ := by
  have e : M_Negativedd__initdd_ [.loc μ.length, .int (w : Nat), .int (h : Nat), .str T] (μ ++ [.ins 0 [] []]) = .ok .non (μ ++ [.ins 0 ["columns", "lines", "figures"] [.int (w : Nat), .int (h : Nat), .str T]]) := by
    have p1 : ∀ e, putNs ("columns" : Str) [] = (["columns"] : List Str) ∧ putXs (α := D) ("columns" : Str) e [] [] = [e] := fun e => ⟨rfl, rfl⟩
    have p2 : ∀ a e, putNs ("lines" : Str) ["columns"] = (["columns", "lines"] : List Str) ∧ putXs (α := D) ("lines" : Str) e ["columns"] [a] = [a, e] := fun a e => ⟨rfl, rfl⟩
    have p3 : ∀ a b e, putNs ("figures" : Str) ["columns", "lines"] = (["columns", "lines", "figures"] : List Str) ∧ putXs (α := D) ("figures" : Str) e ["columns", "lines"] [a, b] = [a, b, e] := fun a b e => ⟨rfl, rfl⟩
    unfold M_Negativedd__initdd_ B_Negativedd__initdd_
    simp only [mD_ev, Res.mute_ok, sSeq_ev, sAsg_ev, eCallD_ev, eCall_ev, aCons_ev, aNil_ev, eVar_ev, List.map_cons, List.map_nil, List.length_cons, List.length_nil, List.cons_append, List.nil_append, Nat.reduceAdd, Nat.reduceSub, List.reduceReplicate, List.getElem?_cons_zero, List.getElem?_cons_succ, bok, if_true, eC_ev, sok, gVar_ev, List.set_cons_succ, List.set_cons_zero, Nat.reduceLT, eBin_ev, eLc_ev, iOf_ev, oWalk, wipeE, gTup_ev, gCons_ev, gNil_ev, eLst_ev, eTup_ev, eJoin_ev, iRange1_ev, sRet_ev, sIf_ev, tB_ev, tAnd_ev, tOr_ev, tNot_ev, eNot_ev, eAnd_ev, eIf_ev, sNext_ev, sExpr_ev, sPar_ev, sAug_ev, sAsg2_ev, sFor_ev, and_self, eThaw_ev, thaw_ev, wrong_part hs ok, oNotN_ev, D.isNon, Bool.not_true, Bool.false_eq_true, if_false, sFld_ev, getElem?_mid, set_mid, (p1 .non).1, (p1 _).2, (p2 .non .non).1, (p2 _ _).2, (p3 .non .non .non).1, (p3 _ _ _).2, true_and]
  rw [eMake_ev, hf]
  have t : (μ ++ [Cell.ins 0 ["columns", "lines", "figures"] [D.int (w : Nat), D.int (h : Nat), D.str T]]).take μ.length = μ := by simp
  simp only [mD_ev, Res.mute_ok, sSeq_ev, sAsg_ev, eCallD_ev, eCall_ev, aCons_ev, aNil_ev, eVar_ev, List.map_cons, List.map_nil, List.length_cons, List.length_nil, List.cons_append, List.nil_append, Nat.reduceAdd, Nat.reduceSub, List.reduceReplicate, List.getElem?_cons_zero, List.getElem?_cons_succ, bok, if_true, eC_ev, sok, gVar_ev, List.set_cons_succ, List.set_cons_zero, Nat.reduceLT, eBin_ev, eLc_ev, iOf_ev, oWalk, wipeE, gTup_ev, gCons_ev, gNil_ev, eLst_ev, eTup_ev, eJoin_ev, iRange1_ev, sRet_ev, sIf_ev, tB_ev, tAnd_ev, tOr_ev, tNot_ev, eNot_ev, eAnd_ev, eIf_ev, sNext_ev, sExpr_ev, sPar_ev, sAug_ev, sAsg2_ev, sFor_ev, and_self, eThaw_ev, thaw_ev, e, getElem?_mid, t, hμ, lows, low, Bool.and_self, decide_true, List.length_append]
  rfl
abbrev nI (L : List Nat) : List D := L.map fun k => .int (k : Nat)
structure OkS (S : List Nat) : Prop where
  ne : 1 ≤ S.length
  le : S.length ≤ 5
  asc : S.Pairwise (· < ·)
  rg : ∀ a ∈ S, 1 ≤ a ∧ a ≤ 9999
theorem intsOf_int : ∀ (L : List Int), intsOf (L.map D.int) = some L
  | [] => rfl
  | i :: L => by simp [intsOf, intsOf_int L]
theorem steps_of {is : List Int} (h : ∀ a ∈ is, 1 ≤ a ∧ a ≤ 9999) (hne : 1 ≤ is.length) (hl : is.length ≤ 5) : ∃ S, OkS S ∧ (sset is).map D.int = nI S := by
  have hm : ∀ a ∈ sset is, 1 ≤ a ∧ a ≤ 9999 := fun a ha => h a (mem_sset.mp ha)
  refine ⟨(sset is).map Int.toNat, ⟨?_, ?_, ?_, ?_⟩, ?_⟩
  · rw [List.length_map]
    cases is with
    | nil => simp at hne
    | cons a r =>
      have : a ∈ sset (a :: r) := mem_sset.mpr (List.mem_cons_self ..)
      exact List.length_pos_of_mem this
  · rw [List.length_map]
    exact Nat.le_trans sset_len hl
  · rw [List.pairwise_map]
    refine List.Pairwise.imp_of_mem (fun {a b} ha hb hab => ?_) (asc_sset (l := is))
    have := hm a ha
    have := hm b hb
    omega
  · intro a ha
    obtain ⟨b, hb, rfl⟩ := List.mem_map.mp ha
    have := hm b hb
    omega
  · rw [nI, List.map_map]
    refine List.map_congr_left fun a ha => ?_
    have := hm a ha
    show D.int a = D.int ((a.toNat : Nat) : Int)
    rw [Int.toNat_of_nonneg (by omega)]
theorem sortSetM_ev {fa : FE} {ρ : Fw.Env} {μ : Store} : eSortSetM fa ρ μ = (fa ρ μ).bind fun d μ1 => match lintsOf μ1 d with
  | some is => if is.length ≤ 1000 ∧ (sset is).length < 64 then .ok (.lst ((sset is).map .int)) μ1 else .stuck
  | none => .stuck := (rfl)
theorem check_number {v a b : Int} {μ : Store} (h : a ≤ v) (h2 : v ≤ b) : M_check_number [.int v, .int a, .int b] μ = .ok .non μ := by
  unfold M_check_number B_check_number
  simp only [mD_ev, Res.mute_ok, sSeq_ev, sAsg_ev, eCallD_ev, eCall_ev, aCons_ev, aNil_ev, eVar_ev, List.map_cons, List.map_nil, List.length_cons, List.length_nil, List.cons_append, List.nil_append, Nat.reduceAdd, Nat.reduceSub, List.reduceReplicate, List.getElem?_cons_zero, List.getElem?_cons_succ, bok, if_true, eC_ev, sok, gVar_ev, List.set_cons_succ, List.set_cons_zero, Nat.reduceLT, eBin_ev, eLc_ev, iOf_ev, oWalk, wipeE, gTup_ev, gCons_ev, gNil_ev, eLst_ev, eTup_ev, eJoin_ev, iRange1_ev, sRet_ev, sIf_ev, tB_ev, tAnd_ev, tOr_ev, tNot_ev, eNot_ev, eAnd_ev, eIf_ev, sNext_ev, sExpr_ev, sPar_ev, sAug_ev, sAsg2_ev, sFor_ev, and_self, eThaw_ev, thaw_ev, is_number, h, h2, decide_true, Bool.and_self, Bool.not_true, Bool.false_eq_true, if_false]
theorem check_steps {S : List Nat} (ok : OkS S) {μ : Store} : M_check_steps [.tup (nI S)] μ = .ok .non μ := by
  obtain ⟨l', x', e⟩ := asc_in (vs := .tup (nI S)) (n := 10000) (items := nI S) (μ := μ) S 1 none ok.asc (fun k hk => by have := ok.rg k hk; omega)
  have e2 : M_ascends [.tup (nI S), .int 1, .int 9999] μ = .ok (.bl true) μ := by
    rw [show ((1 : Nat) : Int) = 1 from rfl, show ((10000 : Nat) : Int) - 1 = 9999 from rfl] at e
    change forL (nI S) none _ _ (nI S) _ _ = _ at e
    unfold M_ascends B_ascends
    generalize hz : nI S = zz at *
    simp only [mD_ev, Res.mute_ok, sSeq_ev, sAsg_ev, eCallD_ev, eCall_ev, aCons_ev, aNil_ev, eVar_ev, List.map_cons, List.map_nil, List.length_cons, List.length_nil, List.cons_append, List.nil_append, Nat.reduceAdd, Nat.reduceSub, List.reduceReplicate, List.getElem?_cons_zero, List.getElem?_cons_succ, bok, if_true, eC_ev, sok, gVar_ev, List.set_cons_succ, List.set_cons_zero, Nat.reduceLT, eBin_ev, eLc_ev, iOf_ev, oWalk, wipeE, gTup_ev, gCons_ev, gNil_ev, eLst_ev, eTup_ev, eJoin_ev, iRange1_ev, sRet_ev, sIf_ev, tB_ev, tAnd_ev, tOr_ev, tNot_ev, eNot_ev, eAnd_ev, eIf_ev, sNext_ev, sExpr_ev, sPar_ev, sAug_ev, sAsg2_ev, sFor_ev, and_self, eThaw_ev, thaw_ev, e]
  have e3 : ∀ μ, cLenO 0 M_Negativedd__lendd_ [.tup (nI S)] μ = .ok (.int (S.length : Nat)) μ := fun μ => by
    rw [cLenO_ev rfl]
    simp [cLen, seqOf]
  have h1 : (1 : Int) ≤ (S.length : Nat) := by have := ok.ne; omega
  have h5 : ((S.length : Nat) : Int) ≤ 5 := by have := ok.le; omega
  have e4 : M_are_steps [.tup (nI S)] μ = .ok (.bl true) μ := by
    unfold M_are_steps B_are_steps
    generalize hz : nI S = zz at *
    simp only [mD_ev, Res.mute_ok, sSeq_ev, sAsg_ev, eCallD_ev, eCall_ev, aCons_ev, aNil_ev, eVar_ev, List.map_cons, List.map_nil, List.length_cons, List.length_nil, List.cons_append, List.nil_append, Nat.reduceAdd, Nat.reduceSub, List.reduceReplicate, List.getElem?_cons_zero, List.getElem?_cons_succ, bok, if_true, eC_ev, sok, gVar_ev, List.set_cons_succ, List.set_cons_zero, Nat.reduceLT, eBin_ev, eLc_ev, iOf_ev, oWalk, wipeE, gTup_ev, gCons_ev, gNil_ev, eLst_ev, eTup_ev, eJoin_ev, iRange1_ev, sRet_ev, sIf_ev, tB_ev, tAnd_ev, tOr_ev, tNot_ev, eNot_ev, eAnd_ev, eIf_ev, sNext_ev, sExpr_ev, sPar_ev, sAug_ev, sAsg2_ev, sFor_ev, and_self, eThaw_ev, thaw_ev, eChain_ev, e3, oLe_int, h1, h5, decide_true, e2]
  unfold M_check_steps B_check_steps
  generalize hz : nI S = zz at *
  simp only [mD_ev, Res.mute_ok, sSeq_ev, sAsg_ev, eCallD_ev, eCall_ev, aCons_ev, aNil_ev, eVar_ev, List.map_cons, List.map_nil, List.length_cons, List.length_nil, List.cons_append, List.nil_append, Nat.reduceAdd, Nat.reduceSub, List.reduceReplicate, List.getElem?_cons_zero, List.getElem?_cons_succ, bok, if_true, eC_ev, sok, gVar_ev, List.set_cons_succ, List.set_cons_zero, Nat.reduceLT, eBin_ev, eLc_ev, iOf_ev, oWalk, wipeE, gTup_ev, gCons_ev, gNil_ev, eLst_ev, eTup_ev, eJoin_ev, iRange1_ev, sRet_ev, sIf_ev, tB_ev, tAnd_ev, tOr_ev, tNot_ev, eNot_ev, eAnd_ev, eIf_ev, sNext_ev, sExpr_ev, sPar_ev, sAug_ev, sAsg2_ev, sFor_ev, and_self, eThaw_ev, thaw_ev, e4, Bool.not_true, Bool.false_eq_true, if_false]
def tn (S : List Nat) (L : Int) : Nat := (S.filter fun s : Nat => decide ((s : Int) ≤ L)).length
theorem tn_le {S : List Nat} {L : Int} : tn S L ≤ S.length := List.length_filter_le _ _
theorem tn_iff {L : Int} : ∀ {S : List Nat} {i : Nat}, S.Pairwise (· < ·) → i < S.length → (i + 1 ≤ tn S L ↔ (S.getD i 0 : Int) ≤ L)
  | [], i, _, h => by simp at h
  | x :: r, i, hp, hi => by
    obtain ⟨h1, h2⟩ := List.pairwise_cons.mp hp
    by_cases hx : (x : Int) ≤ L
    · have e : tn (x :: r) L = tn r L + 1 := by simp [tn, List.filter_cons, hx]
      rw [e]
      cases i with
      | zero => simp [hx]
      | succ i =>
        have := tn_iff (L := L) (S := r) (i := i) h2 (by simpa using hi)
        simp only [List.getD_cons_succ]
        omega
    · have e : tn (x :: r) L = 0 := by
        have : r.filter (fun s : Nat => decide ((s : Int) ≤ L)) = [] := List.filter_eq_nil_iff.mpr fun a ha => by
          have := h1 a ha
          simp only [decide_eq_true_eq]
          omega
        simp [tn, List.filter_cons, hx, this]
      rw [e]
      cases i with
      | zero => simp [hx]
      | succ i =>
        have hm : r.getD i 0 ∈ r := by
          have : i < r.length := by simpa using hi
          rw [List.getD_eq_getElem?_getD, List.getElem?_eq_getElem this]
          exact List.getElem_mem this
        have := h1 _ hm
        simp only [List.getD_cons_succ]
        omega
theorem str9 {k : Nat} (h : k < 10) {μ : Store} : cStr [.int (k : Nat)] μ = .ok (.str [48 + k]) μ := by
  have : ∀ k, k < 10 → ((k : Nat) : Int).natAbs.log2 < 1920 ∧ strI (k : Nat) = [48 + k] := by decide +kernel
  have := this k h
  simp only [cStr, this.1, if_true, this.2]
theorem int9 {k : Nat} (h : k < 10) {μ : Store} : cInt [.str [48 + k]] μ = .ok (.int (k : Nat)) μ := by
  have : ∀ k, k < 10 → PySem.intText? ⟨[48 + k].toArray⟩ = some ((k : Nat) : Int) := by decide +kernel
  have e := this k h
  simp only [cInt, e]
  rfl
theorem lc_filter {items : List D} {v : Nat} {ft : FT} {ρ : Fw.Env} {μ : Store} {S : List Nat} (p : Nat → Bool) (hn : S.length ≤ 1000000) (hv : v < ρ.length)
    (h : ∀ s ∈ S, ft (ρ.set v (some (.int (s : Nat)))) μ = .ok (p s) μ) : lcL items none (gVar v) ft (eVar v) ρ (nI S) μ [] = .ok (.lst (nI (S.filter p))) μ := by
  have := lc_pure (items := items) (g := gVar v) (ft := ft) (fe := eVar v) (ρ := ρ) (μ := μ) (fun d => match d with | .int i => p i.toNat | _ => false) (fun d => d) (ds := nI S) (acc := [])
    (by
      intro d hd
      obtain ⟨i, hi, rfl⟩ := List.mem_map.mp hd
      refine ⟨_, by rw [gVar_ev, if_pos hv], by rw [h i hi]; simp, fun _ => ?_⟩
      rw [eVar_ev, List.getElem?_set_self hv])
    (by simp; exact hn)
  rw [this, List.map_id', List.nil_append, nI, List.filter_map]
  congr 1
theorem r1_ev {m : Nat} (h : m ≤ 100) {fa fb : FE} {ρ : Fw.Env} {μ : Store} (ha : fa ρ μ = .ok (.int 1) μ) (hb : fb ρ μ = .ok (.int ((m : Int) + 1)) μ) : iRange2 fa fb ρ μ = .ok (nI ((List.range m).map (· + 1)), none) μ := by
  have h1 : (-1000000 : Int) ≤ 1 ∧ (1 : Int) ≤ 1000000 ∧ (-1000000 : Int) ≤ (m : Int) + 1 ∧ (m : Int) + 1 ≤ 1000000 := by omega
  have h2 : ((m : Int) + 1 - 1).toNat = m := by omega
  simp only [iRange2, ha, hb, bok, h1, and_self, if_true, h2]
  congr 2
  rw [nI, List.map_map]
  exact List.map_congr_left fun k _ => by show D.int _ = D.int _; congr 1; show (1 : Int) + (k : Nat) = ((k + 1 : Nat) : Int); omega
theorem check_num {v : Int} {a b : Int} (h : a ≤ v) (h2 : v ≤ b) {μ : Store} : M_check_number [.int v, .int a, .int b] μ = .ok .non μ := by
  unfold M_check_number B_check_number
  simp only [mD_ev, Res.mute_ok, sSeq_ev, sAsg_ev, eCallD_ev, eCall_ev, aCons_ev, aNil_ev, eVar_ev, List.map_cons, List.map_nil, List.length_cons, List.length_nil, List.cons_append, List.nil_append, Nat.reduceAdd, Nat.reduceSub, List.reduceReplicate, List.getElem?_cons_zero, List.getElem?_cons_succ, bok, if_true, eC_ev, sok, gVar_ev, List.set_cons_succ, List.set_cons_zero, Nat.reduceLT, eBin_ev, eLc_ev, iOf_ev, oWalk, wipeE, gTup_ev, gCons_ev, gNil_ev, eLst_ev, eTup_ev, eJoin_ev, iRange1_ev, sRet_ev, sIf_ev, tB_ev, tAnd_ev, tOr_ev, tNot_ev, eNot_ev, eAnd_ev, eIf_ev, sNext_ev, sExpr_ev, sPar_ev, sAug_ev, sAsg2_ev, sFor_ev, and_self, eThaw_ev, thaw_ev, is_number, h, h2, decide_true, Bool.and_self, Bool.not_true, Bool.false_eq_true, if_false]
theorem check_cell {c n : Nat} (h : c < n) {μ : Store} : M_check_cell [.int (c : Nat), .int (n : Nat)] μ = .ok .non μ := by
  unfold M_check_cell B_check_cell
  simp only [mD_ev, Res.mute_ok, sSeq_ev, sAsg_ev, eCallD_ev, eCall_ev, aCons_ev, aNil_ev, eVar_ev, List.map_cons, List.map_nil, List.length_cons, List.length_nil, List.cons_append, List.nil_append, Nat.reduceAdd, Nat.reduceSub, List.reduceReplicate, List.getElem?_cons_zero, List.getElem?_cons_succ, bok, if_true, eC_ev, sok, gVar_ev, List.set_cons_succ, List.set_cons_zero, Nat.reduceLT, eBin_ev, eLc_ev, iOf_ev, oWalk, wipeE, gTup_ev, gCons_ev, gNil_ev, eLst_ev, eTup_ev, eJoin_ev, iRange1_ev, sRet_ev, sIf_ev, tB_ev, tAnd_ev, tOr_ev, tNot_ev, eNot_ev, eAnd_ev, eIf_ev, sNext_ev, sExpr_ev, sPar_ev, sAug_ev, sAsg2_ev, sFor_ev, and_self, eThaw_ev, thaw_ev, oSub_int, is_number, show (0 : Int) ≤ (c : Nat) from by omega, show ((c : Nat) : Int) ≤ (n : Int) - 1 from by omega, decide_true, Bool.and_self, Bool.not_true, Bool.false_eq_true, if_false]
theorem neg_w {w h : Nat} {T : List Nat} {μ : Store} : M_Negative_width [neg w h T] μ = .ok (.int (w : Nat)) μ := by
  unfold M_Negative_width B_Negative_width
  simp only [mD_ev, Res.mute_ok, sSeq_ev, sAsg_ev, eCallD_ev, eCall_ev, aCons_ev, aNil_ev, eVar_ev, List.map_cons, List.map_nil, List.length_cons, List.length_nil, List.cons_append, List.nil_append, Nat.reduceAdd, Nat.reduceSub, List.reduceReplicate, List.getElem?_cons_zero, List.getElem?_cons_succ, bok, if_true, eC_ev, sok, gVar_ev, List.set_cons_succ, List.set_cons_zero, Nat.reduceLT, eBin_ev, eLc_ev, iOf_ev, oWalk, wipeE, gTup_ev, gCons_ev, gNil_ev, eLst_ev, eTup_ev, eJoin_ev, iRange1_ev, sRet_ev, sIf_ev, tB_ev, tAnd_ev, tOr_ev, tNot_ev, eNot_ev, eAnd_ev, eIf_ev, sNext_ev, sExpr_ev, sPar_ev, sAug_ev, sAsg2_ev, sFor_ev, and_self, eThaw_ev, thaw_ev, eFld_ev, ins_neg, col]
theorem neg_d {w h : Nat} {T : List Nat} {μ : Store} : M_Negative_densities [neg w h T] μ = .ok (.str T) μ := by
  unfold M_Negative_densities B_Negative_densities
  simp only [mD_ev, Res.mute_ok, sSeq_ev, sAsg_ev, eCallD_ev, eCall_ev, aCons_ev, aNil_ev, eVar_ev, List.map_cons, List.map_nil, List.length_cons, List.length_nil, List.cons_append, List.nil_append, Nat.reduceAdd, Nat.reduceSub, List.reduceReplicate, List.getElem?_cons_zero, List.getElem?_cons_succ, bok, if_true, eC_ev, sok, gVar_ev, List.set_cons_succ, List.set_cons_zero, Nat.reduceLT, eBin_ev, eLc_ev, iOf_ev, oWalk, wipeE, gTup_ev, gCons_ev, gNil_ev, eLst_ev, eTup_ev, eJoin_ev, iRange1_ev, sRet_ev, sIf_ev, tB_ev, tAnd_ev, tOr_ev, tNot_ev, eNot_ev, eAnd_ev, eIf_ev, sNext_ev, sExpr_ev, sPar_ev, sAug_ev, sAsg2_ev, sFor_ev, and_self, eThaw_ev, thaw_ev, eFld_ev, ins_neg, fig]
end Pg

set_option Elab.async false
set_option linter.all false
set_option maxRecDepth 100000
set_option autoImplicit false
namespace Pg
open PySem L2 Fw
/-! ### steps of a body -/
theorem seq_go {a b : FS} {ρ ρ1 : Fw.Env} {μ μ1 : Store} {Q : SR → Prop} (h : a ρ μ = .nx ρ1 μ1) (k : Q (b ρ1 μ1)) : Q (sSeq a b ρ μ) := by rw [sSeq_ev, h]; exact k
theorem if_T {c : FT} {a b : FS} {ρ : Fw.Env} {μ μ1 : Store} {Q : SR → Prop} (h : c ρ μ = .ok true μ1) (k : Q (a ρ μ1)) : Q (sIf c a b ρ μ) := by rw [sIf_ev, h]; exact k
theorem if_F {c : FT} {a b : FS} {ρ : Fw.Env} {μ μ1 : Store} {Q : SR → Prop} (h : c ρ μ = .ok false μ1) (k : Q (b ρ μ1)) : Q (sIf c a b ρ μ) := by rw [sIf_ev, h]; exact k
theorem for_go {fi : FI} {g : D → Fw.Env → Store → Res Fw.Env} {s : FS} {ρ : Fw.Env} {μ μ1 : Store} {it : List D} {src : Option Nat} {Q : SR → Prop} (h : fi ρ μ = .ok (it, src) μ1) (k : Q (forL it src g s it ρ μ1)) : Q (sFor fi g s ρ μ) := by rw [sFor_ev, h]; exact k
theorem seq_nx {a b : FS} {ρ ρ1 : Fw.Env} {μ μ1 : Store} (h : a ρ μ = .nx ρ1 μ1) : sSeq a b ρ μ = b ρ1 μ1 := by rw [sSeq_ev, h]
theorem for_step {items ds : List D} {g : D → Fw.Env → Store → Res Fw.Env} {body : FS} {d : D} {ρ ρ1 ρ2 : Fw.Env} {μ μ1 μ2 : Store} (hg : g d ρ μ = .ok ρ1 μ1) (hb : body ρ1 μ1 = .nx ρ2 μ2) : forL items none g body (d :: ds) ρ μ = forL items none g body ds ρ2 μ2 := by
  rw [for_cons, hg, rS_ok, hb]
theorem for_stop {items ds : List D} {g : D → Fw.Env → Store → Res Fw.Env} {body : FS} {d e : D} {ρ ρ1 : Fw.Env} {μ μ1 μ2 : Store} (hg : g d ρ μ = .ok ρ1 μ1) (hb : body ρ1 μ1 = .rt e μ2) : forL items none g body (d :: ds) ρ μ = .rt e μ2 := by
  rw [for_cons, hg, rS_ok, hb]
theorem mD_go {n : Nat} {s : FS} {ds : List D} {μ : Store} {Q : Res D → Prop} {ρ : Fw.Env} (he : ds.map some ++ List.replicate (n - ds.length) none = ρ) (h : ∃ r, s ρ μ = r ∧ Q (match r with | .rt d μ' => .ok d μ' | .nx _ μ' => .ok .non μ' | .er k ns es _ μ' => .err k ns es μ' | _ => .stuck)) : Q (mD n s ds μ) := by
  obtain ⟨r, e, q⟩ := h
  rw [mD_ev, he, e]
  exact q
/-! ### the drawn numbers -/
theorem taken {c : Cell} {r : Store} {m : Int} (hc : Row0 c) (h0 : 0 < m) (hm : m < 1073741824) : ∃ (k : Int) (c' : Cell), M_l_taken [.loc 0, .int m] (c :: r) = .ok (.int k) (c' :: r) ∧ Row0 c' ∧ 0 ≤ k ∧ k < m := by
  obtain ⟨ns, a, b, d, hn, rfl, ha⟩ := hc
  unfold M_l_taken B_l_taken
  by_cases h : 0 < d
  · refine ⟨d % m, .lst [.flst ns, .int a, .int b, .int (d / m)], ?_, ⟨ns, a, b, _, hn, rfl, ha⟩, Int.emod_nonneg _ (by omega), Int.emod_lt_of_pos _ h0⟩
    simp [oIx, seqOf, ixN, atI, h, oMod_int h0, oFdv_int h0 hm, List.replicate]
  · by_cases h2 : (ns.length : Int) < a + 1
    · refine ⟨(b * 48271 + 11) % 2147483647 / 7 % m, .lst [.flst ns, .int (a + 1), .int ((b * 48271 + 11) % 2147483647), .int d], ?_, ⟨ns, _, _, _, hn, rfl, by omega⟩, Int.emod_nonneg _ (by omega), Int.emod_lt_of_pos _ h0⟩
      simp [oIx, seqOf, ixN, atI, h, oMod_int, oFdv_int, List.replicate, cLenO, insOf, cLen, h2, oMul_int, Sm, h0]
    · have hi : ∃ x, ns[a.toNat]? = some x := by
        rw [List.getElem?_eq_getElem (by omega)]; exact ⟨_, rfl⟩
      obtain ⟨x, hx⟩ := hi
      refine ⟨x % m, .lst [.flst ns, .int (a + 1), .int ((b * 48271 + x + 11) % 2147483647), .int (if 1000000000000000000 ≤ x then x / m else d)], ?_, ⟨ns, _, _, _, hn, rfl, by omega⟩, Int.emod_nonneg _ (by omega), Int.emod_lt_of_pos _ h0⟩
      have e : atI (ns.map D.int) a = some (.int x) := by
        rw [atI_in (by omega) (by simp; omega)]; simp [hx]
      by_cases h4 : 1000000000000000000 ≤ x
      all_goals simp [oIx, seqOf, ixN, h, oMod_int, oFdv_int h0 hm, List.replicate, cLenO, insOf, cLen, h2, oMul_int, Sm, h0, oPow18, h4, e, show ∀ (a b c d : D) , atI [a, b, c, d] 0 = some a from fun _ _ _ _ => rfl, show ∀ (a b c d : D) , atI [a, b, c, d] 1 = some b from fun _ _ _ _ => rfl, show ∀ (a b c d : D) , atI [a, b, c, d] 2 = some c from fun _ _ _ _ => rfl, show ∀ (a b c d : D) , atI [a, b, c, d] 3 = some d from fun _ _ _ _ => rfl]
theorem takenN {c : Cell} {r : Store} {m : Nat} (hc : Row0 c) (h0 : 0 < m) (hm : m < 1000000000) : ∃ (k : Nat) (c' : Cell), M_l_taken [.loc 0, .int (m : Nat)] (c :: r) = .ok (.int (k : Nat)) (c' :: r) ∧ Row0 c' ∧ k < m := by
  obtain ⟨k, c', e, h, k0, k1⟩ := taken (r := r) (m := (m : Nat)) hc (by omega) (by omega)
  obtain ⟨j, rfl⟩ := Int.eq_ofNat_of_zero_le k0
  exact ⟨j, c', e, h, by omega⟩

theorem rowC {c : Cell} (hc : Row0 c) {k : Nat} : lowC k c = true := by
  obtain ⟨ns, a, b, d, _, rfl, _⟩ := hc
  rfl
theorem ix_fig {k : Nat} (h : k < 5) {μ : Store} : oIx (.str [48, 49, 50, 51, 52]) (.int (k : Nat)) μ = .ok (.str [48 + k]) μ :=
  match k, h with
  | 0, _ => (rfl) | 1, _ => (rfl) | 2, _ => (rfl) | 3, _ => (rfl) | 4, _ => (rfl)
/-- what may stand behind the row -/
abbrev Rest (r : Store) : Prop := r.all (lowC (r.length + 1)) = true
theorem rest_nil : Rest [] := rfl
theorem all_row {c : Cell} {r : Store} (hc : Row0 c) (hr : Rest r) : (c :: r).all (lowC (c :: r).length) = true := by
  rw [List.all_cons, rowC hc, Bool.true_and]
  exact hr
theorem make2 {w h n : Nat} (hs : Sz w h n) {T : List Nat} (ok : OkT n T) {ρ : Fw.Env} {μ μ' : Store} {fs : FA} (hμ : μ'.all (lowC μ'.length) = true) (hf : fs ρ μ = .ok [.int (w : Nat), .int (h : Nat), .str T] μ') :
    eMake 0 4 M_Negativedd__initdd_ fs ρ μ = .ok (neg w h T) μ' := by
  have := make hs ok (ρ := ρ) (μ := μ') (fs := fun _ m => .ok [.int (w : Nat), .int (h : Nat), .str T] m) hμ rfl
  rw [eMake_ev, bok] at this
  rw [eMake_ev, hf, bok]
  exact this
theorem negative {c : Cell} {r : Store} {m : Nat} (hm : 1 ≤ m ∧ m ≤ 3) (hr : Rest r) (hc : Row0 c) : ∃ (w h n : Nat) (T : List Nat) (c' : Cell), M_l_negative [.loc 0, .int (m : Nat)] (c :: r) = .ok (neg w h T) (c' :: r) ∧ Row0 c' ∧ Sz w h n ∧ OkT n T ∧ w ≤ 3 ∧ h ≤ m := by
  obtain ⟨a, c1, e1, h1, a1⟩ := takenN (r := r) (m := 3) hc (by omega) (by omega)
  obtain ⟨b, c2, e2, h2, b1⟩ := takenN (r := r) (m := m) h1 (by omega) (by omega)
  obtain ⟨w, hw⟩ : ∃ w : Nat, w = 1 + a := ⟨_, rfl⟩
  obtain ⟨h, hh⟩ : ∃ h : Nat, h = 1 + b := ⟨_, rfl⟩
  have hw' : (1 : Int) + (a : Nat) = (w : Nat) := by omega
  have hh' : (1 : Int) + (b : Nat) = (h : Nat) := by omega
  obtain ⟨n, hn⟩ : ∃ n, n = w * h := ⟨_, rfl⟩
  have hn9 : n ≤ 9 := by rw [hn]; exact Nat.mul_le_mul (show w ≤ 3 by omega) (show h ≤ 3 by omega)
  have hn1 : 1 ≤ n := by rw [hn]; exact Nat.mul_le_mul (show 1 ≤ w by omega) (show 1 ≤ h by omega)
  have hs : Sz w h n := ⟨by omega, by omega, by omega, by omega, hn1, hn9, hn.symm⟩
  obtain ⟨ys, μ', e3, ⟨c3, rfl, h3⟩, f⟩ := lc_all (items := rg n) (g := gVar 4) (ft := fun _ μ => .ok true μ) (fe := eBin oIx (eC (.str (lit "01234"))) (eCallD 2 M_l_taken (aCons (eVar 0) (aCons (eC (.int 5)) (aNil)))))
    (ρ := [some (.loc 0), some (.int (m : Nat)), some (.int (w : Nat)), some (.int (h : Nat)), none]) (fun μ => ∃ c, μ = c :: r ∧ Row0 c) (fun _ y => ∃ k, y = .str [k] ∧ (48 ≤ k ∧ k ≤ 52)) (ds := rg n) (acc := []) (μ := c2 :: r) ⟨c2, rfl, h2⟩
    (by
      rintro d - _ ⟨c, rfl, hc⟩
      obtain ⟨k, c', e, h, k1⟩ := takenN (r := r) (m := 5) hc (by omega) (by omega)
      refine ⟨_, _, rfl, _, rfl, .str [48 + k], c' :: r, ?_, ⟨c', rfl, h⟩, 48 + k, rfl, by omega, by omega⟩
      rw [show ((5 : Nat) : Int) = 5 from rfl] at e
      simp only [mD_ev, Res.mute_ok, sSeq_ev, sAsg_ev, eCallD_ev, eCall_ev, aCons_ev, aNil_ev, eVar_ev, List.map_cons, List.map_nil, List.length_cons, List.length_nil, List.cons_append, List.nil_append, Nat.reduceAdd, Nat.reduceSub, List.reduceReplicate, List.getElem?_cons_zero, List.getElem?_cons_succ, bok, if_true, eC_ev, sok, gVar_ev, List.set_cons_succ, List.set_cons_zero, Nat.reduceLT, eBin_ev, eLc_ev, iOf_ev, oWalk, wipeE, gTup_ev, gCons_ev, gNil_ev, eLst_ev, eTup_ev, eJoin_ev, iRange1_ev, sRet_ev, sIf_ev, tB_ev, tAnd_ev, tOr_ev, tNot_ev, eNot_ev, eAnd_ev, eIf_ev, sNext_ev, sExpr_ev, sPar_ev, sAug_ev, sAsg2_ev, sFor_ev, and_self, eThaw_ev, thaw_ev, e, l01234, ix_fig k1])
    (by rw [len_rg]; show 0 + n ≤ 1000000; omega)
  obtain ⟨T, rfl, hl, hT⟩ := f.map_of (Q := fun c => 48 ≤ c ∧ c ≤ 52) (f := fun c => D.str [c]) (fun _ _ ⟨k, e, m⟩ => ⟨k, e, m⟩)
  rw [len_rg] at hl
  have ok : OkT n T := ⟨hl, hT⟩
  refine ⟨w, h, n, T, c3, ?_, h3, hs, ok, by omega, by omega⟩
  have hTL : T.length ≤ LIM := by rw [hl]; show _ ≤ 1000000; omega
  have mn := fun μ => mulN hs (μ := μ)
  have rn := fun μ => range_n hs (μ := μ)
  rw [List.nil_append] at e3
  have jo := fun μ => oJoin_one hTL (μ := μ)
  have q3 : (aCons (eVar 2) (aCons (eVar 3) (aCons (eJoin (eC (.str (lit ""))) (eLc [4] (iRange1 (eBin oMul (eVar 2) (eVar 3))) (gVar 4) (fun _ μ => .ok true μ) (eBin oIx (eC (.str (lit "01234"))) (eCallD 2 M_l_taken (aCons (eVar 0) (aCons (eC (.int 5)) (aNil))))))) (aNil))))
      [some (.loc 0), some (.int (m : Nat)), some (.int (w : Nat)), some (.int (h : Nat)), none] (c2 :: r) = .ok [.int (w : Nat), .int (h : Nat), .str T] (c3 :: r) := by
    generalize (T.map fun c => D.str [c]) = cc at *
    simp only [mD_ev, Res.mute_ok, sSeq_ev, sAsg_ev, eCallD_ev, eCall_ev, aCons_ev, aNil_ev, eVar_ev, List.map_cons, List.map_nil, List.length_cons, List.length_nil, List.cons_append, List.nil_append, Nat.reduceAdd, Nat.reduceSub, List.reduceReplicate, List.getElem?_cons_zero, List.getElem?_cons_succ, bok, if_true, eC_ev, sok, gVar_ev, List.set_cons_succ, List.set_cons_zero, Nat.reduceLT, eBin_ev, eLc_ev, iOf_ev, oWalk, wipeE, gTup_ev, gCons_ev, gNil_ev, eLst_ev, eTup_ev, eJoin_ev, iRange1_ev, sRet_ev, sIf_ev, tB_ev, tAnd_ev, tOr_ev, tNot_ev, eNot_ev, eAnd_ev, eIf_ev, sNext_ev, sExpr_ev, sPar_ev, sAug_ev, sAsg2_ev, sFor_ev, and_self, eThaw_ev, thaw_ev, mn, rn, e3, lE, jo]
  have q2 := make2 hs ok (all_row h3 hr) q3
  rw [show ((3 : Nat) : Int) = 3 from rfl] at e1
  unfold M_l_negative B_l_negative
  simp only [mD_ev, Res.mute_ok, sSeq_ev, sAsg_ev, eCallD_ev, eCall_ev, aCons_ev, aNil_ev, eVar_ev, List.map_cons, List.map_nil, List.length_cons, List.length_nil, List.cons_append, List.nil_append, Nat.reduceAdd, Nat.reduceSub, List.reduceReplicate, List.getElem?_cons_zero, List.getElem?_cons_succ, bok, if_true, eC_ev, sok, gVar_ev, List.set_cons_succ, List.set_cons_zero, Nat.reduceLT, eBin_ev, eLc_ev, iOf_ev, oWalk, wipeE, gTup_ev, gCons_ev, gNil_ev, eLst_ev, eTup_ev, eJoin_ev, iRange1_ev, sRet_ev, sIf_ev, tB_ev, tAnd_ev, tOr_ev, tNot_ev, eNot_ev, eAnd_ev, eIf_ev, sNext_ev, sExpr_ev, sPar_ev, sAug_ev, sAsg2_ev, sFor_ev, and_self, eThaw_ev, thaw_ev, e1, oAdd_int, hw', e2, hh', q2]
end Pg

set_option Elab.async false
set_option linter.all false
set_option maxRecDepth 100000
set_option autoImplicit false
namespace Pg
open PySem L2 Fw
/-! ### a list at the last place -/
theorem gl1 {c x : Cell} {r : Store} : (c :: (r ++ [x]))[r.length + 1]? = some x := by simp
theorem sl1 {c x y : Cell} {r : Store} : (c :: (r ++ [x])).set (r.length + 1) y = c :: (r ++ [y]) := by simp
theorem app1 {c : Cell} {r : Store} {ds : List D} {d : D} (h : ds.length < 1000000) : oApp (.loc (r.length + 1)) d (c :: (r ++ [.lst ds])) = .ok .non (c :: (r ++ [.lst (ds ++ [d])])) := by
  have : ds.length < LIM := h
  simp only [oApp, gl1, this, if_true, sl1]
theorem isl1 {c : Cell} {r : Store} {ds : List D} : isL (c :: (r ++ [.lst ds])) (.loc (r.length + 1)) = true := by simp only [isL, gl1]
/-! ### steps -/
theorem ix3 {a b d : Int} {k : Nat} (h : k < 3) {μ : Store} : oIx (.lst [.int a, .int b, .int d]) (.int (k : Nat)) μ = .ok (.int (if k = 0 then a else if k = 1 then b else d)) μ :=
  match k, h with
  | 0, _ => (rfl) | 1, _ => (rfl) | 2, _ => (rfl)
theorem ix2 {a b : Int} {k : Nat} (h : k < 2) {μ : Store} : oIx (.lst [.int a, .int b]) (.int (k : Nat)) μ = .ok (.int (if k = 0 then a else b)) μ :=
  match k, h with
  | 0, _ => (rfl) | 1, _ => (rfl)
theorem steps_in {r : Store} {items : List D} : ∀ (ts : List D) (s : Nat) (S : List Nat) (c : Cell) (x : Option D), Row0 c → S.length + ts.length ≤ 5 → S.Pairwise (· < ·) → (∀ a ∈ S, 1 ≤ a ∧ a ≤ s) → s ≤ 200 * S.length →
    ∃ (S' : List Nat) (s' : Nat) (c' : Cell) (x' : Option D), forL items none (gVar 3) (
  sSeq (sAsg (gVar 2) (eBin oAdd (eBin oAdd (eVar 2) (eC (.int 1))) (eCallD 2 M_l_taken (aCons (eVar 0) (aCons (eBin oIx (eLst (aCons (eC (.int 8)) (aCons (eC (.int 60)) (aCons (eC (.int 200)) (aNil))))) (eCallD 2 M_l_taken (aCons (eVar 0) (aCons (eC (.int 3)) (aNil))))) (aNil)))))) (
  sExpr (eLm oApp (eVar 1) (eVar 2)))) ts [some (.loc 0), some (.loc (r.length + 1)), some (.int (s : Nat)), x] (c :: (r ++ [.lst (nI S)])) = .nx [some (.loc 0), some (.loc (r.length + 1)), some (.int (s' : Nat)), x'] (c' :: (r ++ [.lst (nI S')])) ∧
      Row0 c' ∧ S'.length = S.length + ts.length ∧ S'.Pairwise (· < ·) ∧ ∀ a ∈ S', 1 ≤ a ∧ a ≤ 1000
  | [], s, S, c, x, hc, hl, hp, ha, hs => ⟨S, s, c, x, by rw [for_nil], hc, rfl, hp, fun a m => ⟨(ha a m).1, by have := (ha a m).2; simp at hl; omega⟩⟩
  | t :: ts, s, S, c, x, hc, hl, hp, ha, hs => by
    simp only [List.length_cons] at hl
    obtain ⟨k, c1, e1, h1, k1⟩ := takenN (r := r ++ [.lst (nI S)]) (m := 3) hc (by omega) (by omega)
    rw [show ((3 : Nat) : Int) = 3 from rfl] at e1
    obtain ⟨m, hm, m1, m2⟩ : ∃ m : Nat, (if k = 0 then (8 : Int) else if k = 1 then 60 else 200) = (m : Nat) ∧ 1 ≤ m ∧ m ≤ 200 := by
      refine ⟨if k = 0 then 8 else if k = 1 then 60 else 200, ?_, ?_, ?_⟩
      all_goals split
      any_goals split
      all_goals first | rfl | decide
    obtain ⟨j, c2, e2, h2, j1⟩ := takenN (r := r ++ [.lst (nI S)]) (m := m) h1 (by omega) (by omega)
    obtain ⟨u, hu⟩ : ∃ u : Nat, u = s + 1 + j := ⟨_, rfl⟩
    have hu' : ((s : Nat) : Int) + 1 + (j : Nat) = (u : Nat) := by omega
    obtain ⟨S', s', c', x', e, g1, g2, g3, g4⟩ := steps_in (r := r) (items := items) ts u (S ++ [u]) c2 (some t) h2 (by simp; omega)
      (by
        rw [List.pairwise_append]
        refine ⟨hp, by simp, fun a hm b hb => ?_⟩
        have := (ha a hm).2
        have hb : b = u := by simpa using hb
        omega)
      (by
        intro a hm
        rcases List.mem_append.mp hm with hm | hm
        · have := ha a hm
          omega
        · have hb : a = u := by simpa using hm
          omega)
      (by simp; omega)
    refine ⟨S', s', c', x', ?_, g1, by rw [g2]; simp; omega, g3, g4⟩
    have ap : ∀ d, oApp (.loc (r.length + 1)) d (c2 :: (r ++ [.lst (nI S)])) = .ok .non (c2 :: (r ++ [.lst (nI S ++ [d])])) := fun d => app1 (by simp; omega)
    have hL3 : (3 : Nat) ≤ LIM := by decide
    have en : nI (S ++ [u]) = nI S ++ [.int (u : Nat)] := by simp [nI]
    have il : isL (c2 :: (r ++ [.lst (nI S)])) (.loc (r.length + 1)) = true := isl1
    have ix := fun μ => ix3 (a := 8) (b := 60) (d := 200) k1 (μ := μ)
    rw [hm] at ix
    rw [en] at e
    generalize nI S = zz at *
    refine (for_step (by simp only [mD_ev, Res.mute_ok, sSeq_ev, sAsg_ev, eCallD_ev, eCall_ev, aCons_ev, aNil_ev, eVar_ev, List.map_cons, List.map_nil, List.length_cons, List.length_nil, List.cons_append, List.nil_append, Nat.reduceAdd, Nat.reduceSub, List.reduceReplicate, List.getElem?_cons_zero, List.getElem?_cons_succ, bok, if_true, eC_ev, sok, gVar_ev, List.set_cons_succ, List.set_cons_zero, Nat.reduceLT, eBin_ev, eLc_ev, iOf_ev, oWalk, wipeE, gTup_ev, gCons_ev, gNil_ev, eLst_ev, eTup_ev, eJoin_ev, iRange1_ev, sRet_ev, sIf_ev, tB_ev, tAnd_ev, tOr_ev, tNot_ev, eNot_ev, eAnd_ev, eIf_ev, sNext_ev, sExpr_ev, sPar_ev, sAug_ev, sAsg2_ev, sFor_ev, and_self, eThaw_ev, thaw_ev]; rfl) (by simp only [mD_ev, Res.mute_ok, sSeq_ev, sAsg_ev, eCallD_ev, eCall_ev, aCons_ev, aNil_ev, eVar_ev, List.map_cons, List.map_nil, List.length_cons, List.length_nil, List.cons_append, List.nil_append, Nat.reduceAdd, Nat.reduceSub, List.reduceReplicate, List.getElem?_cons_zero, List.getElem?_cons_succ, bok, if_true, eC_ev, sok, gVar_ev, List.set_cons_succ, List.set_cons_zero, Nat.reduceLT, eBin_ev, eLc_ev, iOf_ev, oWalk, wipeE, gTup_ev, gCons_ev, gNil_ev, eLst_ev, eTup_ev, eJoin_ev, iRange1_ev, sRet_ev, sIf_ev, tB_ev, tAnd_ev, tOr_ev, tNot_ev, eNot_ev, eAnd_ev, eIf_ev, sNext_ev, sExpr_ev, sPar_ev, sAug_ev, sAsg2_ev, sFor_ev, and_self, eThaw_ev, thaw_ev, hL3, e1, ix, e2, oAdd_int, hu', eLm_ev, il, ap]; rfl)).trans ?_
    exact e
theorem fin_tup {n : Nat} {ds : List D} {μ : Store} (h1 : lows n ds = true) (h2 : (μ.take n).all (lowC n) = true) : fin n (.ok (.tup ds) μ) = .ok (.tup ds) (μ.take n) := by
  simp only [fin, low, h1, h2, Bool.and_self, if_true]
theorem low_nI {k : Nat} : ∀ {S : List Nat}, lows k (nI S) = true
  | [] => rfl
  | a :: S => by simp [nI, lows, low]; exact low_nI (S := S)
theorem take1 {c x : Cell} {r : Store} : (c :: (r ++ [x])).take (c :: r).length = c :: r := by simp
theorem steps {c : Cell} {r : Store} (hr : Rest r) (hc : Row0 c) : ∃ (S : List Nat) (c' : Cell), M_l_steps [.loc 0] (c :: r) = .ok (.tup (nI S)) (c' :: r) ∧ Row0 c' ∧ OkS S ∧ ∀ a ∈ S, a ≤ 1000 := by
  obtain ⟨k, c1, e1, h1, k1⟩ := takenN (r := r ++ [.lst []]) (m := 5) hc (by omega) (by omega)
  rw [show ((5 : Nat) : Int) = 5 from rfl] at e1
  obtain ⟨n, hn⟩ : ∃ n : Nat, n = 1 + k := ⟨_, rfl⟩
  have hn' : (1 : Int) + (k : Nat) = (n : Nat) := by omega
  obtain ⟨S, s', c2, x', e, g1, g2, g3, g4⟩ := steps_in (r := r) (items := rg n) (rg n) 0 [] c1 none h1 (by rw [len_rg]; simp; omega) .nil (by simp) (by simp)
  rw [len_rg, List.length_nil, Nat.zero_add] at g2
  refine ⟨S, c2, ?_, g1, ⟨by omega, by omega, g3, fun a m => ⟨(g4 a m).1, by have := (g4 a m).2; omega⟩⟩, fun a m => (g4 a m).2⟩
  have hr2 : ∀ μ, rangeR (.int (n : Nat)) μ = .ok (rg n, none) μ := fun μ => rangeR_nat (by omega)
  have ct : ∀ c, cTuple [.loc (r.length + 1)] (c :: (r ++ [.lst (nI S)])) = .ok (.tup (nI S)) (c :: (r ++ [.lst (nI S)])) := fun c => by simp only [cTuple, seqOf, gl1]
  have e0 : mD 4 B_l_steps [.loc 0] (c :: r) = .ok (.tup (nI S)) (c2 :: (r ++ [.lst (nI S)])) := by
    have hL0 : (0 : Nat) ≤ LIM := by decide
    have e' := e
    rw [show (nI [] : List D) = [] from rfl, show ((0 : Nat) : Int) = 0 from rfl] at e'
    unfold B_l_steps
    generalize nI S = zz at *
    simp only [mD_ev, Res.mute_ok, sSeq_ev, sAsg_ev, eCallD_ev, eCall_ev, aCons_ev, aNil_ev, eVar_ev, List.map_cons, List.map_nil, List.length_cons, List.length_nil, List.cons_append, List.nil_append, Nat.reduceAdd, Nat.reduceSub, List.reduceReplicate, List.getElem?_cons_zero, List.getElem?_cons_succ, bok, if_true, eC_ev, sok, gVar_ev, List.set_cons_succ, List.set_cons_zero, Nat.reduceLT, eBin_ev, eLc_ev, iOf_ev, oWalk, wipeE, gTup_ev, gCons_ev, gNil_ev, eLst_ev, eTup_ev, eJoin_ev, iRange1_ev, sRet_ev, sIf_ev, tB_ev, tAnd_ev, tOr_ev, tNot_ev, eNot_ev, eAnd_ev, eIf_ev, sNext_ev, sExpr_ev, sPar_ev, sAug_ev, sAsg2_ev, sFor_ev, and_self, eThaw_ev, thaw_ev, hL0, e1, oAdd_int, hn', hr2, e', ct]
  unfold M_l_steps
  rw [mDf_ev, e0, show (c :: r).length = (c2 :: r).length from rfl, fin_tup low_nI (by rw [take1]; exact all_row g1 hr), take1]
end Pg

set_option Elab.async false
set_option linter.all false
set_option maxRecDepth 100000
set_option autoImplicit false
namespace Pg
open PySem L2 Fw
/-! ### rows of numbers -/
def rowOf (n : Nat) (f : Nat → Int) : List D := (List.range n).map fun c => .int (f c)
theorem len_row {n : Nat} {f : Nat → Int} : (rowOf n f).length = n := by simp [rowOf]
theorem set_row {n k : Nat} {f : Nat → Int} {x : Int} : (rowOf n f).set k (.int x) = rowOf n (fun c => if c = k then x else f c) := by
  apply List.ext_getElem?
  intro i
  rw [List.getElem?_set]
  simp only [rowOf, List.length_map, List.length_range, List.getElem?_map, List.getElem?_range]
  by_cases hk : k = i
  · subst hk
    by_cases hn : k < n <;> simp [hn]
  · rw [if_neg hk]
    by_cases hn : i < n
    · simp [hn, show ¬ i = k from fun e => hk e.symm]
    · simp [hn]
theorem at_row {n k : Nat} {f : Nat → Int} (h : k < n) : atI (rowOf n f) (k : Nat) = some (.int (f k)) := by
  rw [atI_in (by omega) (by rw [len_row]; omega), Int.toNat_natCast]
  simp [rowOf, h]
theorem row_congr {n : Nat} {f g : Nat → Int} (h : ∀ c < n, f c = g c) : rowOf n f = rowOf n g := by
  unfold rowOf
  exact List.map_congr_left fun c hc => by rw [h c (List.mem_range.mp hc)]
def add (w : Nat) (T : List Nat) (b : Bool) (d : Deed) (c : Nat) : Int := tk w c d * W T (if b = true then mir w c else c)
def val (w : Nat) (T : List Nat) (c : Nat) (q : Bool × Int × Int) : Int := q.2.1 * W T c + q.2.2 * W T (mir w c)
theorem val_stp {w c : Nat} {T : List Nat} {q : Bool × Int × Int} {d : Deed} : val w T c (stp w c q d) = val w T c q + add w T (q.1 != isF d) d c := by
  unfold stp add val
  cases hb : (q.1 != isF d)
  · simp only [Bool.false_eq_true, if_false, Int.add_mul]; omega
  · simp only [if_true, Int.add_mul]; omega
theorem b_stp {w c : Nat} {q : Bool × Int × Int} {d : Deed} : (stp w c q d).1 = (q.1 != isF d) := by
  unfold stp
  cases hb : (q.1 != isF d) <;> simp
theorem rep0 {n : Nat} : (List.replicate n [D.int 0]).flatten = rowOf n fun _ => 0 := by
  simp [rowOf, List.map_const']

theorem ix_row {n k : Nat} {f : Nat → Int} (h : k < n) {μ : Store} : oIx (.lst (rowOf n f)) (.int (k : Nat)) μ = .ok (.int (f k)) μ := by
  simp only [oIx, seqOf, at_row h]
theorem ix_place {n k : Nat} {f : Nat → Int} {μ r : Store} (h : k < n) : oIx (.loc μ.length) (.int (k : Nat)) (μ ++ .lst (rowOf n f) :: r) = .ok (.int (f k)) (μ ++ .lst (rowOf n f) :: r) := by
  simp only [oIx, seqOf, getElem?_mid, at_row h]
theorem low_row {k n : Nat} {f : Nat → Int} : lows k (rowOf n f) = true := by
  have : ∀ L : List Nat, lows k (L.map fun c => D.int (f c)) = true := fun L => by
    induction L with
    | nil => rfl
    | cons a L ih => simp [lows, low, ih]
  exact this _
/-! ### deeds -/
theorem nI_is (m : List Nat) : (m.map fun k => D.int (k : Nat)) = nI m := rfl
theorem covers {c : Cell} {r : Store} {w h n : Nat} {T : List Nat} {x2 x3 : Option D} (hs : Sz w h n) (hc : Row0 c) : ∃ (m : List Nat) (c' : Cell), lcL (rg n) none (gVar 4) (tB (eBin oEq (eCallD 2 M_l_taken (aCons (eVar 0) (aCons (eC (.int 3)) (aNil)))) (eC (.int 0)))) (eVar 4)
    [some (.loc 0), some (neg w h T), x2, x3, none] (rg n) (c :: r) [] = .ok (.lst (nI m)) (c' :: r) ∧ Row0 c' ∧ m.Sublist (List.range n) := by
  obtain ⟨ys, zs, μ', e, ⟨c', rfl, h'⟩, sb, f⟩ := lc_st (items := rg n) (g := gVar 4) (ft := (tB (eBin oEq (eCallD 2 M_l_taken (aCons (eVar 0) (aCons (eC (.int 3)) (aNil)))) (eC (.int 0))))) (fe := eVar 4)
    (ρ := [some (.loc 0), some (neg w h T), x2, x3, none]) (fun μ => ∃ c, μ = c :: r ∧ Row0 c) (fun d y => d = y) (ds := rg n) (acc := []) (μ := c :: r) ⟨c, rfl, hc⟩
    (by
      rintro d - _ ⟨c, rfl, hc⟩
      obtain ⟨j, c', e, h, _, _⟩ := taken (r := r) (m := 3) hc (by omega) (by omega)
      by_cases hj : j = 0
      · exact ⟨_, _, rfl, true, c' :: r, by subst hj; simp only [mD_ev, Res.mute_ok, sSeq_ev, sAsg_ev, eCallD_ev, eCall_ev, aCons_ev, aNil_ev, eVar_ev, List.map_cons, List.map_nil, List.length_cons, List.length_nil, List.cons_append, List.nil_append, Nat.reduceAdd, Nat.reduceSub, List.reduceReplicate, List.getElem?_cons_zero, List.getElem?_cons_succ, bok, if_true, eC_ev, sok, gVar_ev, List.set_cons_succ, List.set_cons_zero, Nat.reduceLT, eBin_ev, eLc_ev, iOf_ev, oWalk, wipeE, gTup_ev, gCons_ev, gNil_ev, eLst_ev, eTup_ev, eJoin_ev, iRange1_ev, sRet_ev, sIf_ev, tB_ev, tAnd_ev, tOr_ev, tNot_ev, eNot_ev, eAnd_ev, eIf_ev, sNext_ev, sExpr_ev, sPar_ev, sAug_ev, sAsg2_ev, sFor_ev, and_self, eThaw_ev, thaw_ev, e, oEq_int, decide_true], fun _ => ⟨c', rfl, h⟩, fun _ => ⟨d, c' :: r, by simp only [mD_ev, Res.mute_ok, sSeq_ev, sAsg_ev, eCallD_ev, eCall_ev, aCons_ev, aNil_ev, eVar_ev, List.map_cons, List.map_nil, List.length_cons, List.length_nil, List.cons_append, List.nil_append, Nat.reduceAdd, Nat.reduceSub, List.reduceReplicate, List.getElem?_cons_zero, List.getElem?_cons_succ, bok, if_true, eC_ev, sok, gVar_ev, List.set_cons_succ, List.set_cons_zero, Nat.reduceLT, eBin_ev, eLc_ev, iOf_ev, oWalk, wipeE, gTup_ev, gCons_ev, gNil_ev, eLst_ev, eTup_ev, eJoin_ev, iRange1_ev, sRet_ev, sIf_ev, tB_ev, tAnd_ev, tOr_ev, tNot_ev, eNot_ev, eAnd_ev, eIf_ev, sNext_ev, sExpr_ev, sPar_ev, sAug_ev, sAsg2_ev, sFor_ev, and_self, eThaw_ev, thaw_ev], ⟨c', rfl, h⟩, rfl⟩⟩
      · exact ⟨_, _, rfl, false, c' :: r, by simp only [mD_ev, Res.mute_ok, sSeq_ev, sAsg_ev, eCallD_ev, eCall_ev, aCons_ev, aNil_ev, eVar_ev, List.map_cons, List.map_nil, List.length_cons, List.length_nil, List.cons_append, List.nil_append, Nat.reduceAdd, Nat.reduceSub, List.reduceReplicate, List.getElem?_cons_zero, List.getElem?_cons_succ, bok, if_true, eC_ev, sok, gVar_ev, List.set_cons_succ, List.set_cons_zero, Nat.reduceLT, eBin_ev, eLc_ev, iOf_ev, oWalk, wipeE, gTup_ev, gCons_ev, gNil_ev, eLst_ev, eTup_ev, eJoin_ev, iRange1_ev, sRet_ev, sIf_ev, tB_ev, tAnd_ev, tOr_ev, tNot_ev, eNot_ev, eAnd_ev, eIf_ev, sNext_ev, sExpr_ev, sPar_ev, sAug_ev, sAsg2_ev, sFor_ev, and_self, eThaw_ev, thaw_ev, e, oEq_int, hj, decide_false], fun _ => ⟨c', rfl, h⟩, fun hh => nomatch hh⟩)
    (by rw [len_rg]; have := hs.n9; show 0 + n ≤ 1000000; omega)
  have : ys = zs := by
    clear e sb
    induction f with
    | nil => rfl
    | cons h _ ih => rw [h, ih]
  subst this
  obtain ⟨m, hm, rfl⟩ := List.sublist_map_iff.mp sb
  exact ⟨m, c', e, h', hm⟩
/-- deeds as these laws draw them -/
def OkE (n : Nat) (d : Deed) : Prop := OkD n d ∧ match d with
  | .draw t s => t ≤ 20 ∧ s ≤ 9
  | _ => True
theorem deed {c : Cell} {r : Store} {w h n : Nat} {T : List Nat} (hs : Sz w h n) (ok : OkT n T) (hc : Row0 c) : ∃ (d : Deed) (c' : Cell), M_l_deed [.loc 0, neg w h T] (c :: r) = .ok (encD d) (c' :: r) ∧ Row0 c' ∧ OkE n d := by
  obtain ⟨k, c1, e1, h1, k1⟩ := takenN (r := r) (m := 5) hc (by omega) (by omega)
  rw [show ((5 : Nat) : Int) = 5 from rfl] at e1
  have hL3 : (3 : Nat) ≤ LIM := by decide
  have hL2 : (2 : Nat) ≤ LIM := by decide
  have hL1 : (1 : Nat) ≤ LIM := by decide
  have ln := fun μ => len_neg hs ok (μ := μ)
  have rn := fun μ => range_n hs (μ := μ)
  unfold M_l_deed B_l_deed
  by_cases g0 : k < 3
  · obtain ⟨m, c2, e2, h2, sb⟩ := covers (r := r) (T := T) (x2 := some (.int (k : Nat))) (x3 := none) hs h1
    obtain ⟨j, c3, e3, h3, j1⟩ := takenN (r := r) (m := 2) h2 (by omega) (by omega)
    rw [show ((2 : Nat) : Int) = 2 from rfl] at e3
    obtain ⟨q, hq, q1, q2⟩ : ∃ q : Nat, (if j = 0 then (6 : Int) else 99) = (q : Nat) ∧ 1 ≤ q ∧ q ≤ 99 := by
      refine ⟨if j = 0 then 6 else 99, ?_, ?_, ?_⟩
      all_goals split
      all_goals first | rfl | decide
    obtain ⟨t, c4, e4, h4, t1⟩ := takenN (r := r) (m := q) h3 (by omega) (by omega)
    have ix := fun μ => ix2 (a := 6) (b := 99) j1 (μ := μ)
    rw [hq] at ix
    refine ⟨.expo (1 + (t : Nat)) m, c4, ?_, h4, ⟨by omega, by omega, sb⟩, trivial⟩
    have ct : ∀ μ, cTuple [.lst (nI m)] μ = .ok (.tup (nI m)) μ := fun μ => rfl
    have g0' : ((k : Nat) : Int) < 3 := by omega
    rw [encD, nI_is]
    generalize nI m = mm at *
    simp only [mD_ev, Res.mute_ok, sSeq_ev, sAsg_ev, eCallD_ev, eCall_ev, aCons_ev, aNil_ev, eVar_ev, List.map_cons, List.map_nil, List.length_cons, List.length_nil, List.cons_append, List.nil_append, Nat.reduceAdd, Nat.reduceSub, List.reduceReplicate, List.getElem?_cons_zero, List.getElem?_cons_succ, bok, if_true, eC_ev, sok, gVar_ev, List.set_cons_succ, List.set_cons_zero, Nat.reduceLT, eBin_ev, eLc_ev, iOf_ev, oWalk, wipeE, gTup_ev, gCons_ev, gNil_ev, eLst_ev, eTup_ev, eJoin_ev, iRange1_ev, sRet_ev, sIf_ev, tB_ev, tAnd_ev, tOr_ev, tNot_ev, eNot_ev, eAnd_ev, eIf_ev, sNext_ev, sExpr_ev, sPar_ev, sAug_ev, sAsg2_ev, sFor_ev, and_self, eThaw_ev, thaw_ev, e1, oLt_int, g0', decide_true, ln, rn, e2, ct, hL2, e3, ix, e4, oAdd_int, hL3, len_expo]
  · have g0' : ¬ ((k : Nat) : Int) < 3 := by omega
    by_cases g1 : k = 3
    · obtain ⟨t, c2, e2, h2, t1⟩ := takenN (r := r) (m := 20) h1 (by omega) (by omega)
      obtain ⟨u, c3, e3, h3, u1⟩ := takenN (r := r) (m := 9) h2 (by omega) (by omega)
      rw [show ((20 : Nat) : Int) = 20 from rfl] at e2
      rw [show ((9 : Nat) : Int) = 9 from rfl] at e3
      refine ⟨.draw (1 + (t : Nat)) (1 + (u : Nat)), c3, ?_, h3, ⟨by omega, by omega, by omega, by omega⟩, by omega, by omega⟩
      subst g1
      rw [show ((3 : Nat) : Int) = 3 from rfl] at e1
      simp only [mD_ev, Res.mute_ok, sSeq_ev, sAsg_ev, eCallD_ev, eCall_ev, aCons_ev, aNil_ev, eVar_ev, List.map_cons, List.map_nil, List.length_cons, List.length_nil, List.cons_append, List.nil_append, Nat.reduceAdd, Nat.reduceSub, List.reduceReplicate, List.getElem?_cons_zero, List.getElem?_cons_succ, bok, if_true, eC_ev, sok, gVar_ev, List.set_cons_succ, List.set_cons_zero, Nat.reduceLT, eBin_ev, eLc_ev, iOf_ev, oWalk, wipeE, gTup_ev, gCons_ev, gNil_ev, eLst_ev, eTup_ev, eJoin_ev, iRange1_ev, sRet_ev, sIf_ev, tB_ev, tAnd_ev, tOr_ev, tNot_ev, eNot_ev, eAnd_ev, eIf_ev, sNext_ev, sExpr_ev, sPar_ev, sAug_ev, sAsg2_ev, sFor_ev, and_self, eThaw_ev, thaw_ev, e1, oLt_int, show ¬ (3 : Int) < 3 by decide, decide_false, Bool.false_eq_true, if_false, oEq_int, decide_true, e2, e3, oAdd_int, hL3, len_draw, encD]
    · have g1' : ¬ ((k : Nat) : Int) = 3 := by omega
      refine ⟨.flip, c1, ?_, h1, trivial, trivial⟩
      simp only [mD_ev, Res.mute_ok, sSeq_ev, sAsg_ev, eCallD_ev, eCall_ev, aCons_ev, aNil_ev, eVar_ev, List.map_cons, List.map_nil, List.length_cons, List.length_nil, List.cons_append, List.nil_append, Nat.reduceAdd, Nat.reduceSub, List.reduceReplicate, List.getElem?_cons_zero, List.getElem?_cons_succ, bok, if_true, eC_ev, sok, gVar_ev, List.set_cons_succ, List.set_cons_zero, Nat.reduceLT, eBin_ev, eLc_ev, iOf_ev, oWalk, wipeE, gTup_ev, gCons_ev, gNil_ev, eLst_ev, eTup_ev, eJoin_ev, iRange1_ev, sRet_ev, sIf_ev, tB_ev, tAnd_ev, tOr_ev, tNot_ev, eNot_ev, eAnd_ev, eIf_ev, sNext_ev, sExpr_ev, sPar_ev, sAug_ev, sAsg2_ev, sFor_ev, and_self, eThaw_ev, thaw_ev, e1, oLt_int, g0', decide_false, Bool.false_eq_true, if_false, oEq_int, g1', hL1, len_flip, encD]
theorem recipe {c : Cell} {r : Store} {w h n m : Nat} {T : List Nat} (hm : m ≤ 100) (hs : Sz w h n) (ok : OkT n T) (hc : Row0 c) : ∃ (R : List Deed) (c' : Cell), M_l_recipe [.loc 0, neg w h T, .int (m : Nat)] (c :: r) = .ok (.tup (R.map encD)) (c' :: r) ∧ Row0 c' ∧ R.length ≤ m ∧ ∀ d ∈ R, OkE n d := by
  obtain ⟨j, c1, e1, h1, j1⟩ := takenN (r := r) (m := m + 1) hc (by omega) (by omega)
  obtain ⟨ys, μ', e, ⟨c', rfl, h'⟩, f⟩ := lc_all (items := rg j) (g := gVar 3) (ft := fun _ μ => .ok true μ) (fe := eCallD 2 M_l_deed (aCons (eVar 0) (aCons (eVar 1) (aNil))))
    (ρ := [some (.loc 0), some (neg w h T), some (.int (m : Nat)), none]) (fun μ => ∃ c, μ = c :: r ∧ Row0 c) (fun _ y => ∃ d, y = encD d ∧ OkE n d) (ds := rg j) (acc := []) (μ := c1 :: r) ⟨c1, rfl, h1⟩
    (by
      rintro d - _ ⟨c, rfl, hc⟩
      obtain ⟨x, c', e, h, m⟩ := deed (r := r) (T := T) hs ok hc
      exact ⟨_, _, rfl, _, rfl, encD x, c' :: r, by simp only [mD_ev, Res.mute_ok, sSeq_ev, sAsg_ev, eCallD_ev, eCall_ev, aCons_ev, aNil_ev, eVar_ev, List.map_cons, List.map_nil, List.length_cons, List.length_nil, List.cons_append, List.nil_append, Nat.reduceAdd, Nat.reduceSub, List.reduceReplicate, List.getElem?_cons_zero, List.getElem?_cons_succ, bok, if_true, eC_ev, sok, gVar_ev, List.set_cons_succ, List.set_cons_zero, Nat.reduceLT, eBin_ev, eLc_ev, iOf_ev, oWalk, wipeE, gTup_ev, gCons_ev, gNil_ev, eLst_ev, eTup_ev, eJoin_ev, iRange1_ev, sRet_ev, sIf_ev, tB_ev, tAnd_ev, tOr_ev, tNot_ev, eNot_ev, eAnd_ev, eIf_ev, sNext_ev, sExpr_ev, sPar_ev, sAug_ev, sAsg2_ev, sFor_ev, and_self, eThaw_ev, thaw_ev, e], ⟨c', rfl, h⟩, x, rfl, m⟩)
    (by rw [len_rg]; show 0 + j ≤ 1000000; omega)
  obtain ⟨R, rfl, hl, hR⟩ := f.map_of (Q := OkE n) (f := encD) (fun _ _ ⟨k, e, m⟩ => ⟨k, e, m⟩)
  rw [len_rg] at hl
  refine ⟨R, c', ?_, h', by omega, hR⟩
  have e5 : ∀ μ, rangeR (.int (j : Nat)) μ = .ok (rg j, none) μ := fun μ => rangeR_nat (by omega)
  have e6 : ((m + 1 : Nat) : Int) = (m : Nat) + 1 := by omega
  rw [e6] at e1
  rw [List.nil_append] at e
  have ct : ∀ μ, cTuple [.lst (R.map encD)] μ = .ok (.tup (R.map encD)) μ := fun μ => rfl
  unfold M_l_recipe B_l_recipe
  generalize R.map encD = rr at *
  simp only [mD_ev, Res.mute_ok, sSeq_ev, sAsg_ev, eCallD_ev, eCall_ev, aCons_ev, aNil_ev, eVar_ev, List.map_cons, List.map_nil, List.length_cons, List.length_nil, List.cons_append, List.nil_append, Nat.reduceAdd, Nat.reduceSub, List.reduceReplicate, List.getElem?_cons_zero, List.getElem?_cons_succ, bok, if_true, eC_ev, sok, gVar_ev, List.set_cons_succ, List.set_cons_zero, Nat.reduceLT, eBin_ev, eLc_ev, iOf_ev, oWalk, wipeE, gTup_ev, gCons_ev, gNil_ev, eLst_ev, eTup_ev, eJoin_ev, iRange1_ev, sRet_ev, sIf_ev, tB_ev, tAnd_ev, tOr_ev, tNot_ev, eNot_ev, eAnd_ev, eIf_ev, sNext_ev, sExpr_ev, sPar_ev, sAug_ev, sAsg2_ev, sFor_ev, and_self, eThaw_ev, thaw_ev, oAdd_int, e1, e5, e, ct]
/-! ### lights -/
theorem l_open {w h n : Nat} {T : List Nat} (hs : Sz w h n) (ok : OkT n T) {d : Deed} {μ : Store} : M_l_open [neg w h T, encD d] μ = .ok (.lst (rowOf n fun c => tk w c d)) μ := by
  have ln := fun μ => len_neg hs ok (μ := μ)
  have rn := fun μ => range_n hs (μ := μ)
  have nw := fun μ => neg_w (w := w) (h := h) (T := T) (μ := μ)
  have hn9 := hs.n9
  have hL1 : (1 : Nat) ≤ LIM := by decide
  cases d with
  | flip =>
    have i0 : ∀ μ, oIx (encD .flip) (.int 0) μ = .ok (.str [102, 108, 105, 112]) μ := fun μ => rfl
    have q : ∀ μ, oEq (.str [102, 108, 105, 112]) (.str [102, 108, 105, 112]) μ = .ok (.bl true) μ := fun μ => by rw [oEq_str]; rfl
    have m0 : ∀ μ, oMul (.lst [.int 0]) (.int (n : Nat)) μ = .ok (.lst (rowOf n fun c => tk w c .flip)) μ := fun μ => by
      have c1 : ((n : Nat) : Int) ≤ 1000 ∧ (-1000 : Int) ≤ (n : Nat) ∧ ([D.int 0] : List D).length ≤ 1000 := ⟨by omega, by omega, by simp⟩
      simp only [oMul, lstOf, c1, and_self, if_true, Int.toNat_natCast, rep0]
      rfl
    unfold M_l_open B_l_open
    generalize (rowOf n fun c => tk w c .flip) = zz at *
    generalize encD .flip = dd at *
    simp only [mD_ev, Res.mute_ok, sSeq_ev, sAsg_ev, eCallD_ev, eCall_ev, aCons_ev, aNil_ev, eVar_ev, List.map_cons, List.map_nil, List.length_cons, List.length_nil, List.cons_append, List.nil_append, Nat.reduceAdd, Nat.reduceSub, List.reduceReplicate, List.getElem?_cons_zero, List.getElem?_cons_succ, bok, if_true, eC_ev, sok, gVar_ev, List.set_cons_succ, List.set_cons_zero, Nat.reduceLT, eBin_ev, eLc_ev, iOf_ev, oWalk, wipeE, gTup_ev, gCons_ev, gNil_ev, eLst_ev, eTup_ev, eJoin_ev, iRange1_ev, sRet_ev, sIf_ev, tB_ev, tAnd_ev, tOr_ev, tNot_ev, eNot_ev, eAnd_ev, eIf_ev, sNext_ev, sExpr_ev, sPar_ev, sAug_ev, sAsg2_ev, sFor_ev, and_self, eThaw_ev, thaw_ev, i0, len_flip, q, ln, hL1, m0]
  | expo t m =>
    have i0 : ∀ μ, oIx (encD (.expo t m)) (.int 0) μ = .ok (.str [101, 120, 112, 111, 115, 101]) μ := fun μ => rfl
    have q1 : ∀ μ, oEq (.str [101, 120, 112, 111, 115, 101]) (.str [102, 108, 105, 112]) μ = .ok (.bl false) μ := fun μ => by rw [oEq_str]; rfl
    have q2 : ∀ μ, oEq (.str [101, 120, 112, 111, 115, 101]) (.str [101, 120, 112, 111, 115, 101]) μ = .ok (.bl true) μ := fun μ => by rw [oEq_str]; rfl
    have e := lc_range (n := n) (items := rg n) (v := 2) (fe := eBin oMul (eBin oIx (eVar 1) (eC (.int 1))) (eCall cInt (aCons (eBin (oIn true) (eVar 2) (eBin oIx (eVar 1) (eC (.int 2)))) (aNil)))) (ρ := [some (neg w h T), some (encD (.expo t m)), none]) (μ := μ) (f := fun c => .int (tk w c (.expo t m))) (by omega) (by simp)
      (fun c hc => by
        have a1 := fun μ => x1 (t := t) (m := m) (μ := μ)
        have a2 := fun μ => x2 (t := t) (m := m) (μ := μ)
        have a3 := fun μ => oIn_nat (c := c) (m := m) (neg := true) (μ := μ)
        generalize (m.map fun k => D.int (k : Nat)) = mm at *
        by_cases hm : c ∈ m
        · have o : ∀ μ, oMul (.int t) (.int 0) μ = .ok (.int (tk w c (.expo t m))) μ := fun μ => by rw [oMul_int (by simp [Sm])]; simp [tk, hm]
          generalize encD (.expo t m) = dd at *
          simp only [mD_ev, Res.mute_ok, sSeq_ev, sAsg_ev, eCallD_ev, eCall_ev, aCons_ev, aNil_ev, eVar_ev, List.map_cons, List.map_nil, List.length_cons, List.length_nil, List.cons_append, List.nil_append, Nat.reduceAdd, Nat.reduceSub, List.reduceReplicate, List.getElem?_cons_zero, List.getElem?_cons_succ, bok, if_true, eC_ev, sok, gVar_ev, List.set_cons_succ, List.set_cons_zero, Nat.reduceLT, eBin_ev, eLc_ev, iOf_ev, oWalk, wipeE, gTup_ev, gCons_ev, gNil_ev, eLst_ev, eTup_ev, eJoin_ev, iRange1_ev, sRet_ev, sIf_ev, tB_ev, tAnd_ev, tOr_ev, tNot_ev, eNot_ev, eAnd_ev, eIf_ev, sNext_ev, sExpr_ev, sPar_ev, sAug_ev, sAsg2_ev, sFor_ev, and_self, eThaw_ev, thaw_ev, a1, a2, a3, hm, decide_true, Bool.not_true, cInt_bl, Bool.false_eq_true, if_false, o]
        · have o : ∀ μ, oMul (.int t) (.int 1) μ = .ok (.int (tk w c (.expo t m))) μ := fun μ => by rw [oMul_int (by simp [Sm])]; simp [tk, hm]
          generalize encD (.expo t m) = dd at *
          simp only [mD_ev, Res.mute_ok, sSeq_ev, sAsg_ev, eCallD_ev, eCall_ev, aCons_ev, aNil_ev, eVar_ev, List.map_cons, List.map_nil, List.length_cons, List.length_nil, List.cons_append, List.nil_append, Nat.reduceAdd, Nat.reduceSub, List.reduceReplicate, List.getElem?_cons_zero, List.getElem?_cons_succ, bok, if_true, eC_ev, sok, gVar_ev, List.set_cons_succ, List.set_cons_zero, Nat.reduceLT, eBin_ev, eLc_ev, iOf_ev, oWalk, wipeE, gTup_ev, gCons_ev, gNil_ev, eLst_ev, eTup_ev, eJoin_ev, iRange1_ev, sRet_ev, sIf_ev, tB_ev, tAnd_ev, tOr_ev, tNot_ev, eNot_ev, eAnd_ev, eIf_ev, sNext_ev, sExpr_ev, sPar_ev, sAug_ev, sAsg2_ev, sFor_ev, and_self, eThaw_ev, thaw_ev, a1, a2, a3, hm, decide_false, Bool.not_false, cInt_bl, o])
    unfold M_l_open B_l_open
    rw [show (rowOf n fun c => tk w c (.expo t m)) = (List.range n).map fun c => .int (tk w c (.expo t m)) from rfl]
    generalize ((List.range n).map fun c => D.int (tk w c (.expo t m))) = zz at *
    generalize encD (.expo t m) = dd at *
    simp only [mD_ev, Res.mute_ok, sSeq_ev, sAsg_ev, eCallD_ev, eCall_ev, aCons_ev, aNil_ev, eVar_ev, List.map_cons, List.map_nil, List.length_cons, List.length_nil, List.cons_append, List.nil_append, Nat.reduceAdd, Nat.reduceSub, List.reduceReplicate, List.getElem?_cons_zero, List.getElem?_cons_succ, bok, if_true, eC_ev, sok, gVar_ev, List.set_cons_succ, List.set_cons_zero, Nat.reduceLT, eBin_ev, eLc_ev, iOf_ev, oWalk, wipeE, gTup_ev, gCons_ev, gNil_ev, eLst_ev, eTup_ev, eJoin_ev, iRange1_ev, sRet_ev, sIf_ev, tB_ev, tAnd_ev, tOr_ev, tNot_ev, eNot_ev, eAnd_ev, eIf_ev, sNext_ev, sExpr_ev, sPar_ev, sAug_ev, sAsg2_ev, sFor_ev, and_self, eThaw_ev, thaw_ev, i0, len_flip, len_expo, q1, q2, Bool.false_eq_true, if_false, ln, rn, e]
  | draw t s =>
    have i0 : ∀ μ, oIx (encD (.draw t s)) (.int 0) μ = .ok (.str [100, 114, 97, 119]) μ := fun μ => rfl
    have q1 : ∀ μ, oEq (.str [100, 114, 97, 119]) (.str [102, 108, 105, 112]) μ = .ok (.bl false) μ := fun μ => by rw [oEq_str]; rfl
    have q2 : ∀ μ, oEq (.str [100, 114, 97, 119]) (.str [101, 120, 112, 111, 115, 101]) μ = .ok (.bl false) μ := fun μ => by rw [oEq_str]; rfl
    have e := lc_range (n := n) (items := rg n) (v := 2) (fe := eCall cMax2 (aCons (eC (.int 0)) (aCons (eBin oSub (eBin oIx (eVar 1) (eC (.int 1))) (eBin oMul (eBin oIx (eVar 1) (eC (.int 2))) (eBin oMod (eCall cInt (aCons (eVar 2) (aNil))) (eProp 0 M_Negative_width (eVar 0))))) (aNil)))) (ρ := [some (neg w h T), some (encD (.draw t s)), none]) (μ := μ) (f := fun c => .int (tk w c (.draw t s))) (by omega) (by simp)
      (fun c hc => by
        have a1 := fun μ => d1 (t := t) (s := s) (μ := μ)
        have a2 := fun μ => d2 (t := t) (s := s) (μ := μ)
        have md := fun μ => oMod_nat (c := c) hs (μ := μ)
        have ml := fun μ => oMul_sm (a := s) (mod_lt' (c := c) hs) (μ := μ)
        have mx : ∀ μ, cMax2 [.int 0, .int (t - s * ((c % w : Nat) : Int))] μ = .ok (.int (tk w c (.draw t s))) μ := fun μ => by rw [cMax2_ev]; rfl
        have i2 := fun μ => ins_neg (w := w) (h := h) (T := T) (μ := μ)
        generalize encD (.draw t s) = dd at *
        generalize neg w h T = nn at *
        simp only [mD_ev, Res.mute_ok, sSeq_ev, sAsg_ev, eCallD_ev, eCall_ev, aCons_ev, aNil_ev, eVar_ev, List.map_cons, List.map_nil, List.length_cons, List.length_nil, List.cons_append, List.nil_append, Nat.reduceAdd, Nat.reduceSub, List.reduceReplicate, List.getElem?_cons_zero, List.getElem?_cons_succ, bok, if_true, eC_ev, sok, gVar_ev, List.set_cons_succ, List.set_cons_zero, Nat.reduceLT, eBin_ev, eLc_ev, iOf_ev, oWalk, wipeE, gTup_ev, gCons_ev, gNil_ev, eLst_ev, eTup_ev, eJoin_ev, iRange1_ev, sRet_ev, sIf_ev, tB_ev, tAnd_ev, tOr_ev, tNot_ev, eNot_ev, eAnd_ev, eIf_ev, sNext_ev, sExpr_ev, sPar_ev, sAug_ev, sAsg2_ev, sFor_ev, and_self, eThaw_ev, thaw_ev, a1, a2, cInt_int, eProp_ev, i2, nw, md, ml, oSub_int, mx])
    unfold M_l_open B_l_open
    rw [show (rowOf n fun c => tk w c (.draw t s)) = (List.range n).map fun c => .int (tk w c (.draw t s)) from rfl]
    generalize ((List.range n).map fun c => D.int (tk w c (.draw t s))) = zz at *
    generalize encD (.draw t s) = dd at *
    simp only [mD_ev, Res.mute_ok, sSeq_ev, sAsg_ev, eCallD_ev, eCall_ev, aCons_ev, aNil_ev, eVar_ev, List.map_cons, List.map_nil, List.length_cons, List.length_nil, List.cons_append, List.nil_append, Nat.reduceAdd, Nat.reduceSub, List.reduceReplicate, List.getElem?_cons_zero, List.getElem?_cons_succ, bok, if_true, eC_ev, sok, gVar_ev, List.set_cons_succ, List.set_cons_zero, Nat.reduceLT, eBin_ev, eLc_ev, iOf_ev, oWalk, wipeE, gTup_ev, gCons_ev, gNil_ev, eLst_ev, eTup_ev, eJoin_ev, iRange1_ev, sRet_ev, sIf_ev, tB_ev, tAnd_ev, tOr_ev, tNot_ev, eNot_ev, eAnd_ev, eIf_ev, sNext_ev, sExpr_ev, sPar_ev, sAug_ev, sAsg2_ev, sFor_ev, and_self, eThaw_ev, thaw_ev, i0, len_flip, len_expo, q1, q2, Bool.false_eq_true, if_false, ln, rn, e]
end Pg

set_option Elab.async false
set_option linter.all false
set_option maxRecDepth 100000
set_option autoImplicit false
namespace Pg
open PySem L2 Fw
/-! ### lights by own rows -/
theorem there {w h n c : Nat} (hs : Sz w h n) : ((c : Nat) : Int) + (w : Nat) - 1 - 2 * ((c % w : Nat) : Int) = ((mir w c : Nat) : Int) := by
  have h1 := Nat.div_add_mod c w
  have h2 := Nat.mod_lt c (show w > 0 from hs.w1)
  rw [Nat.mul_comm] at h1
  unfold mir
  generalize c / w * w = q at *
  generalize c % w = m at *
  omega
theorem cells_in {w h n : Nat} {T : List Nat} (hs : Sz w h n) (ok : OkT n T) {items : List D} {r : D} {b : Bool} {d : Deed} {μ : Store} : ∀ (L : List Nat) (f : Nat → Int) (x7 x8 x9 : Option D), L.Nodup → (∀ c ∈ L, c < n) → ∃ y7 y8 y9, forL items none (gVar 7) (
  sSeq (sAsg (gVar 8) (eBin oMod (eCall cInt (aCons (eVar 7) (aNil))) (eVar 4))) (
  sSeq (sAsg (gVar 9) (eIf (tB (eVar 3)) (eBin oSub (eBin oSub (eBin oAdd (eVar 7) (eVar 4)) (eC (.int 1))) (eBin oMul (eC (.int 2)) (eVar 8))) (eVar 7))) (
  sAsg (gIx (eVar 2) (eVar 7)) (eBin oAdd (eBin oIx (eVar 2) (eVar 7)) (eBin oMul (eBin oIx (eVar 6) (eVar 7)) (eBin oIx (eLst (aCons (eC (.int 16)) (aCons (eC (.int 8)) (aCons (eC (.int 4)) (aCons (eC (.int 2)) (aCons (eC (.int 1)) (aNil))))))) (eCall cInt (aCons (eBin oIx (eProp 0 M_Negative_densities (eVar 0)) (eVar 9)) (aNil))))))))) (L.map fun c => .int (c : Nat))
   [some (neg w h T), some r, some (.loc μ.length), some (.bl b), some (.int (w : Nat)), some (encD d), some (.lst (rowOf n fun c => tk w c d)), x7, x8, x9] (μ ++ [.lst (rowOf n f)]) =
   .nx [some (neg w h T), some r, some (.loc μ.length), some (.bl b), some (.int (w : Nat)), some (encD d), some (.lst (rowOf n fun c => tk w c d)), y7, y8, y9] (μ ++ [.lst (rowOf n fun c => if c ∈ L then f c + add w T b d c else f c)])
  | [], f, x7, x8, x9, _, _ => ⟨x7, x8, x9, by rw [List.map_nil, for_nil]; simp⟩
  | k :: L, f, x7, x8, x9, hn, hk => by
    obtain ⟨hn1, hn2⟩ := List.nodup_cons.mp hn
    have hkk := hk k (by simp)
    have hm := mir_lt hs hkk
    obtain ⟨y7, y8, y9, e⟩ := cells_in hs ok (items := items) (r := r) (b := b) (d := d) (μ := μ) L (fun c => if c = k then f k + add w T b d k else f c) (some (.int k)) (some (.int ((k % w : Nat) : Int))) (some (.int ((if b = true then mir w k else k : Nat) : Int))) hn2 (fun c h => hk c (by simp [h]))
    refine ⟨y7, y8, y9, ?_⟩
    have ee : (rowOf n fun c => if c ∈ L then (if c = k then f k + add w T b d k else f c) + add w T b d c else (if c = k then f k + add w T b d k else f c)) = rowOf n fun c => if c ∈ k :: L then f c + add w T b d c else f c := by
      apply row_congr
      intro c _
      by_cases h1 : c = k
      · subst h1; simp [hn1]
      · simp [h1]
    rw [ee] at e
    have i1 : ixN (rowOf n f).length (k : Nat) = some k := by rw [len_row, ixN_in (by omega) (by omega), Int.toNat_natCast]
    have md := fun μ => oMod_nat (c := k) hs (μ := μ)
    have ml : ∀ μ, oMul (.int 2) (.int ((k % w : Nat) : Int)) μ = .ok (.int (2 * ((k % w : Nat) : Int))) μ := fun μ => oMul_sm (mod_lt' (c := k) hs)
    have th := there (c := k) hs
    have it := fun μ => ix_row (f := fun c => tk w c d) hkk (μ := μ)
    have hL5 : (5 : Nat) ≤ LIM := by decide
    have st : ∀ x : Int, (rowOf n f).set k (.int x) = rowOf n (fun c => if c = k then x else f c) := fun x => set_row
    have nd := fun μ => neg_d (w := w) (h := h) (T := T) (μ := μ)
    have i2 := fun μ => ins_neg (w := w) (h := h) (T := T) (μ := μ)
    have gm : (μ ++ [Cell.lst (rowOf n f)])[μ.length]? = some (.lst (rowOf n f)) := getElem?_mid
    have sm : ∀ y, (μ ++ [Cell.lst (rowOf n f)]).set μ.length y = μ ++ [y] := fun y => set_mid
    have ip := ix_place (f := f) (μ := μ) (r := []) hkk
    cases b with
    | false =>
      have aT := fun μ => atT hs ok hkk (μ := μ)
      have ic := fun μ => int_ch (ch_ok ok hkk) (μ := μ)
      have i5 := fun μ => at5l (ch_ok ok hkk) (μ := μ)
      have mw := fun (a : Int) μ => mul_wt (a := a) (ch := T.getD k 48) (μ := μ)
      simp only [Bool.false_eq_true, if_false] at e
      have ea : f k + tk w k d * wt (T.getD k 48) = f k + add w T false d k := by simp [add, W]
      rw [List.map_cons]
      refine (for_step (by simp only [mD_ev, Res.mute_ok, sSeq_ev, sAsg_ev, eCallD_ev, eCall_ev, aCons_ev, aNil_ev, eVar_ev, List.map_cons, List.map_nil, List.length_cons, List.length_nil, List.cons_append, List.nil_append, Nat.reduceAdd, Nat.reduceSub, List.reduceReplicate, List.getElem?_cons_zero, List.getElem?_cons_succ, bok, if_true, eC_ev, sok, gVar_ev, List.set_cons_succ, List.set_cons_zero, Nat.reduceLT, eBin_ev, eLc_ev, iOf_ev, oWalk, wipeE, gTup_ev, gCons_ev, gNil_ev, eLst_ev, eTup_ev, eJoin_ev, iRange1_ev, sRet_ev, sIf_ev, tB_ev, tAnd_ev, tOr_ev, tNot_ev, eNot_ev, eAnd_ev, eIf_ev, sNext_ev, sExpr_ev, sPar_ev, sAug_ev, sAsg2_ev, sFor_ev, and_self, eThaw_ev, thaw_ev]; rfl) (ρ2 := [some (neg w h T), some r, some (.loc μ.length), some (.bl false), some (.int (w : Nat)), some (encD d), some (.lst (rowOf n fun c => tk w c d)), some (.int (k : Nat)), some (.int ((k % w : Nat) : Int)), some (.int (k : Nat))]) (μ2 := μ ++ [.lst (rowOf n (fun c => if c = k then f k + add w T false d k else f c))]) ?_).trans e
      generalize (rowOf n fun c => tk w c d) = tt at *
      generalize encD d = dd at *
      generalize neg w h T = nn at *
      rw [← st, ← ea]
      generalize rowOf n f = rr at *
      simp only [mD_ev, Res.mute_ok, sSeq_ev, sAsg_ev, eCallD_ev, eCall_ev, aCons_ev, aNil_ev, eVar_ev, List.map_cons, List.map_nil, List.length_cons, List.length_nil, List.cons_append, List.nil_append, Nat.reduceAdd, Nat.reduceSub, List.reduceReplicate, List.getElem?_cons_zero, List.getElem?_cons_succ, bok, if_true, eC_ev, sok, gVar_ev, List.set_cons_succ, List.set_cons_zero, Nat.reduceLT, eBin_ev, eLc_ev, iOf_ev, oWalk, wipeE, gTup_ev, gCons_ev, gNil_ev, eLst_ev, eTup_ev, eJoin_ev, iRange1_ev, sRet_ev, sIf_ev, tB_ev, tAnd_ev, tOr_ev, tNot_ev, eNot_ev, eAnd_ev, eIf_ev, sNext_ev, sExpr_ev, sPar_ev, sAug_ev, sAsg2_ev, sFor_ev, and_self, eThaw_ev, thaw_ev, cInt_int, md, Bool.false_eq_true, if_false, eProp_ev, i2, nd, aT, ic, hL5, i5, it, mw, ip, oAdd_int, gIx_ev, gm, i1, sm]
    | true =>
      have aT := fun μ => atT hs ok hm (μ := μ)
      have ic := fun μ => int_ch (ch_ok ok hm) (μ := μ)
      have i5 := fun μ => at5l (ch_ok ok hm) (μ := μ)
      have mw := fun (a : Int) μ => mul_wt (a := a) (ch := T.getD (mir w k) 48) (μ := μ)
      simp only [if_true] at e
      have ea : f k + tk w k d * wt (T.getD (mir w k) 48) = f k + add w T true d k := by simp [add, W]
      rw [List.map_cons]
      refine (for_step (by simp only [mD_ev, Res.mute_ok, sSeq_ev, sAsg_ev, eCallD_ev, eCall_ev, aCons_ev, aNil_ev, eVar_ev, List.map_cons, List.map_nil, List.length_cons, List.length_nil, List.cons_append, List.nil_append, Nat.reduceAdd, Nat.reduceSub, List.reduceReplicate, List.getElem?_cons_zero, List.getElem?_cons_succ, bok, if_true, eC_ev, sok, gVar_ev, List.set_cons_succ, List.set_cons_zero, Nat.reduceLT, eBin_ev, eLc_ev, iOf_ev, oWalk, wipeE, gTup_ev, gCons_ev, gNil_ev, eLst_ev, eTup_ev, eJoin_ev, iRange1_ev, sRet_ev, sIf_ev, tB_ev, tAnd_ev, tOr_ev, tNot_ev, eNot_ev, eAnd_ev, eIf_ev, sNext_ev, sExpr_ev, sPar_ev, sAug_ev, sAsg2_ev, sFor_ev, and_self, eThaw_ev, thaw_ev]; rfl) (ρ2 := [some (neg w h T), some r, some (.loc μ.length), some (.bl true), some (.int (w : Nat)), some (encD d), some (.lst (rowOf n fun c => tk w c d)), some (.int (k : Nat)), some (.int ((k % w : Nat) : Int)), some (.int (mir w k : Nat))]) (μ2 := μ ++ [.lst (rowOf n (fun c => if c = k then f k + add w T true d k else f c))]) ?_).trans e
      generalize (rowOf n fun c => tk w c d) = tt at *
      generalize encD d = dd at *
      generalize neg w h T = nn at *
      rw [← st, ← ea]
      generalize rowOf n f = rr at *
      simp only [mD_ev, Res.mute_ok, sSeq_ev, sAsg_ev, eCallD_ev, eCall_ev, aCons_ev, aNil_ev, eVar_ev, List.map_cons, List.map_nil, List.length_cons, List.length_nil, List.cons_append, List.nil_append, Nat.reduceAdd, Nat.reduceSub, List.reduceReplicate, List.getElem?_cons_zero, List.getElem?_cons_succ, bok, if_true, eC_ev, sok, gVar_ev, List.set_cons_succ, List.set_cons_zero, Nat.reduceLT, eBin_ev, eLc_ev, iOf_ev, oWalk, wipeE, gTup_ev, gCons_ev, gNil_ev, eLst_ev, eTup_ev, eJoin_ev, iRange1_ev, sRet_ev, sIf_ev, tB_ev, tAnd_ev, tOr_ev, tNot_ev, eNot_ev, eAnd_ev, eIf_ev, sNext_ev, sExpr_ev, sPar_ev, sAug_ev, sAsg2_ev, sFor_ev, and_self, eThaw_ev, thaw_ev, cInt_int, md, oAdd_int, oSub_int, ml, th, eProp_ev, i2, nd, aT, ic, hL5, i5, it, mw, ip, oAdd_int, gIx_ev, gm, i1, sm]
def over (b : Bool) (R : List Deed) : Bool := R.foldl (fun b d => b != isF d) b
theorem deeds_in {w h n : Nat} {T : List Nat} (hs : Sz w h n) (ok : OkT n T) {items : List D} {r : D} {μ : Store} : ∀ (R : List Deed) (b : Bool) (Q : Nat → Bool × Int × Int) (x5 x6 x7 x8 x9 : Option D), (∀ c, (Q c).1 = b) → ∃ y5 y6 y7 y8 y9, forL items none (gVar 5) (
  sSeq (sAsg (gVar 3) (eBin oNe (eVar 3) (eBin oEq (eBin oIx (eVar 5) (eC (.int 0))) (eC (.str (lit "flip")))))) (
  sSeq (sAsg (gVar 6) (eCallD 2 M_l_open (aCons (eVar 0) (aCons (eVar 5) (aNil))))) (
  sFor (iRange1 (eCall (cLenO 0 M_Negativedd__lendd_) (aCons (eVar 0) (aNil)))) (gVar 7) (
  sSeq (sAsg (gVar 8) (eBin oMod (eCall cInt (aCons (eVar 7) (aNil))) (eVar 4))) (
  sSeq (sAsg (gVar 9) (eIf (tB (eVar 3)) (eBin oSub (eBin oSub (eBin oAdd (eVar 7) (eVar 4)) (eC (.int 1))) (eBin oMul (eC (.int 2)) (eVar 8))) (eVar 7))) (
  sAsg (gIx (eVar 2) (eVar 7)) (eBin oAdd (eBin oIx (eVar 2) (eVar 7)) (eBin oMul (eBin oIx (eVar 6) (eVar 7)) (eBin oIx (eLst (aCons (eC (.int 16)) (aCons (eC (.int 8)) (aCons (eC (.int 4)) (aCons (eC (.int 2)) (aCons (eC (.int 1)) (aNil))))))) (eCall cInt (aCons (eBin oIx (eProp 0 M_Negative_densities (eVar 0)) (eVar 9)) (aNil)))))))))))) (R.map encD)
   [some (neg w h T), some r, some (.loc μ.length), some (.bl b), some (.int (w : Nat)), x5, x6, x7, x8, x9] (μ ++ [.lst (rowOf n fun c => val w T c (Q c))]) =
   .nx [some (neg w h T), some r, some (.loc μ.length), some (.bl (over b R)), some (.int (w : Nat)), y5, y6, y7, y8, y9] (μ ++ [.lst (rowOf n fun c => val w T c (R.foldl (stp w c) (Q c)))])
  | [], b, Q, x5, x6, x7, x8, x9, _ => ⟨x5, x6, x7, x8, x9, by rw [List.map_nil, for_nil]; rfl⟩
  | d :: R, b, Q, x5, x6, x7, x8, x9, hb => by
    obtain ⟨z7, z8, z9, e1⟩ := cells_in hs ok (items := rg n) (r := r) (b := (b != isF d)) (d := d) (μ := μ) (List.range n) (fun c => val w T c (Q c)) x7 x8 x9 List.nodup_range (fun c hc => List.mem_range.mp hc)
    obtain ⟨y5, y6, y7, y8, y9, e⟩ := deeds_in hs ok (items := items) (r := r) (μ := μ) R (b != isF d) (fun c => stp w c (Q c) d) (some (encD d)) (some (.lst (rowOf n fun c => tk w c d))) z7 z8 z9 (fun c => by rw [b_stp, hb])
    refine ⟨y5, y6, y7, y8, y9, ?_⟩
    have er : (rowOf n fun c => if c ∈ List.range n then val w T c (Q c) + add w T (b != isF d) d c else val w T c (Q c)) = rowOf n fun c => val w T c (stp w c (Q c) d) := by
      apply row_congr
      intro c hc
      rw [if_pos (List.mem_range.mpr hc), val_stp, hb]
    rw [er] at e1
    have i0 := fun μ => enc0 (d := d) (μ := μ)
    have fl := fun μ => isFlip0 (d := d) (μ := μ)
    have lo := fun μ => l_open hs ok (d := d) (μ := μ)
    have ln := fun μ => len_neg hs ok (μ := μ)
    have rn := fun μ => range_n hs (μ := μ)
    rw [List.map_cons]
    refine (for_step (by simp only [mD_ev, Res.mute_ok, sSeq_ev, sAsg_ev, eCallD_ev, eCall_ev, aCons_ev, aNil_ev, eVar_ev, List.map_cons, List.map_nil, List.length_cons, List.length_nil, List.cons_append, List.nil_append, Nat.reduceAdd, Nat.reduceSub, List.reduceReplicate, List.getElem?_cons_zero, List.getElem?_cons_succ, bok, if_true, eC_ev, sok, gVar_ev, List.set_cons_succ, List.set_cons_zero, Nat.reduceLT, eBin_ev, eLc_ev, iOf_ev, oWalk, wipeE, gTup_ev, gCons_ev, gNil_ev, eLst_ev, eTup_ev, eJoin_ev, iRange1_ev, sRet_ev, sIf_ev, tB_ev, tAnd_ev, tOr_ev, tNot_ev, eNot_ev, eAnd_ev, eIf_ev, sNext_ev, sExpr_ev, sPar_ev, sAug_ev, sAsg2_ev, sFor_ev, and_self, eThaw_ev, thaw_ev]; rfl) (ρ2 := [some (neg w h T), some r, some (.loc μ.length), some (.bl (b != isF d)), some (.int (w : Nat)), some (encD d), some (.lst (rowOf n fun c => tk w c d)), z7, z8, z9]) (μ2 := μ ++ [.lst (rowOf n fun c => val w T c (stp w c (Q c) d))]) ?_).trans e
    change forL (rg n) none _ _ (rg n) _ _ = _ at e1
    generalize (rowOf n fun c => tk w c d) = tt at *
    generalize encD d = dd at *
    generalize neg w h T = nn at *
    generalize (rowOf n fun c => val w T c (Q c)) = r1 at *
    simp only [mD_ev, Res.mute_ok, sSeq_ev, sAsg_ev, eCallD_ev, eCall_ev, aCons_ev, aNil_ev, eVar_ev, List.map_cons, List.map_nil, List.length_cons, List.length_nil, List.cons_append, List.nil_append, Nat.reduceAdd, Nat.reduceSub, List.reduceReplicate, List.getElem?_cons_zero, List.getElem?_cons_succ, bok, if_true, eC_ev, sok, gVar_ev, List.set_cons_succ, List.set_cons_zero, Nat.reduceLT, eBin_ev, eLc_ev, iOf_ev, oWalk, wipeE, gTup_ev, gCons_ev, gNil_ev, eLst_ev, eTup_ev, eJoin_ev, iRange1_ev, sRet_ev, sIf_ev, tB_ev, tAnd_ev, tOr_ev, tNot_ev, eNot_ev, eAnd_ev, eIf_ev, sNext_ev, sExpr_ev, sPar_ev, sAug_ev, sAsg2_ev, sFor_ev, and_self, eThaw_ev, thaw_ev, i0, len_flip, fl, oNe_bl, lo, ln, rn]
    exact e1
theorem l_lights {w h n : Nat} {T : List Nat} (hs : Sz w h n) (ok : OkT n T) {R : List Deed} {μ : Store} (hμ : μ.all (lowC μ.length) = true) :
    M_l_lights [neg w h T, .tup (R.map encD)] μ = .ok (.tup [.lst (rowOf n fun c => lt w T R c), .bl (over false R)]) μ := by
  obtain ⟨y5, y6, y7, y8, y9, e⟩ := deeds_in hs ok (items := R.map encD) (r := .tup (R.map encD)) (μ := μ) R false (fun _ => (false, 0, 0)) none none none none none (fun _ => rfl)
  have e0 : (rowOf n fun c => val w T c ((false, 0, 0) : Bool × Int × Int)) = rowOf n fun _ => 0 := row_congr fun c _ => by simp [val]
  rw [e0] at e
  have e1 : (rowOf n fun c => val w T c (R.foldl (stp w c) (false, 0, 0))) = rowOf n fun c => lt w T R c := rfl
  rw [e1] at e
  have hn9 := hs.n9
  have hL1 : (1 : Nat) ≤ LIM := by decide
  have hL2 : (2 : Nat) ≤ LIM := by decide
  have ln := fun μ => len_neg hs ok (μ := μ)
  have nw := fun μ => neg_w (w := w) (h := h) (T := T) (μ := μ)
  have i2 := fun μ => ins_neg (w := w) (h := h) (T := T) (μ := μ)
  have m0 : ∀ μ, oMul (.lst [.int 0]) (.int (n : Nat)) μ = .ok (.lst (rowOf n fun c => 0)) μ := fun μ => by
    have c1 : ((n : Nat) : Int) ≤ 1000 ∧ (-1000 : Int) ≤ (n : Nat) ∧ ([D.int 0] : List D).length ≤ 1000 := ⟨by omega, by omega, by simp⟩
    simp only [oMul, lstOf, c1, and_self, if_true, Int.toNat_natCast, rep0]
  have q : mD 10 B_l_lights [neg w h T, .tup (R.map encD)] μ = .ok (.tup [.loc μ.length, .bl (over false R)]) (μ ++ [.lst (rowOf n fun c => lt w T R c)]) := by
    unfold B_l_lights
    have wk : ∀ μ, oWalk (.tup (R.map encD)) μ = .ok (R.map encD, none) μ := fun μ => rfl
    generalize (rowOf n fun c => lt w T R c) = r1 at *
    generalize (rowOf n fun _ => (0 : Int)) = r0 at *
    generalize R.map encD = rr at *
    generalize neg w h T = nn at *
    simp only [mD_ev, Res.mute_ok, sSeq_ev, sAsg_ev, eCallD_ev, eCall_ev, aCons_ev, aNil_ev, eVar_ev, List.map_cons, List.map_nil, List.length_cons, List.length_nil, List.cons_append, List.nil_append, Nat.reduceAdd, Nat.reduceSub, List.reduceReplicate, List.getElem?_cons_zero, List.getElem?_cons_succ, bok, if_true, eC_ev, sok, gVar_ev, List.set_cons_succ, List.set_cons_zero, Nat.reduceLT, eBin_ev, eLc_ev, iOf_ev, oWalk, wipeE, gTup_ev, gCons_ev, gNil_ev, eLst_ev, eTup_ev, eJoin_ev, iRange1_ev, sRet_ev, sIf_ev, tB_ev, tAnd_ev, tOr_ev, tNot_ev, eNot_ev, eAnd_ev, eIf_ev, sNext_ev, sExpr_ev, sPar_ev, sAug_ev, sAsg2_ev, sFor_ev, and_self, eThaw_ev, thaw_ev, sPar3_ev, hL1, ln, m0, eProp_ev, i2, nw, true_and, wk, e, hL2]
  unfold M_l_lights
  rw [mDf_ev, q]
  have tk : (μ ++ [Cell.lst (rowOf n fun c => lt w T R c)]).take μ.length = μ := by simp
  have gm : (μ ++ [Cell.lst (rowOf n fun c => lt w T R c)])[μ.length]? = some (.lst (rowOf n fun c => lt w T R c)) := getElem?_mid
  simp only [fin, low, lows, Nat.lt_irrefl, decide_false, Bool.false_and, Bool.false_eq_true, if_false, tk, hμ, if_true, frzs, frz, gm, low_row]
end Pg

set_option Elab.async false
set_option linter.all false
set_option maxRecDepth 100000
set_option autoImplicit false
namespace Pg
open PySem L2 Fw
/-! ### recipes again and again -/
theorem tk_pos {n w c : Nat} {d : Deed} (hd : OkD n d) : 0 ≤ tk w c d := by
  cases d with
  | flip => simp [tk]
  | draw t s => simp only [tk]; split <;> omega
  | expo t m => have := hd.1; simp only [tk]; split <;> omega
theorem wt_pos {ch : Nat} : 0 ≤ wt ch := by unfold wt; repeat' split
                                            all_goals decide
theorem add_pos {n w c : Nat} {T : List Nat} {b : Bool} {d : Deed} (hd : OkD n d) : 0 ≤ add w T b d c := Int.mul_nonneg (tk_pos hd) wt_pos
theorem val_mono {n w c : Nat} {T : List Nat} : ∀ {R : List Deed} {q : Bool × Int × Int}, (∀ d ∈ R, OkD n d) → val w T c q ≤ val w T c (R.foldl (stp w c) q)
  | [], q, _ => Int.le_refl _
  | d :: R, q, h => by
    have h1 := val_mono (n := n) (w := w) (c := c) (T := T) (R := R) (q := stp w c q d) fun d' m => h d' (by simp [m])
    rw [val_stp] at h1
    have h2 := add_pos (w := w) (c := c) (T := T) (b := q.1 != isF d) (h d (by simp))
    rw [List.foldl_cons]
    omega
theorem lt_pos {n w c : Nat} {T : List Nat} {R : List Deed} (hd : ∀ d ∈ R, OkD n d) : 0 ≤ lt w T R c := by
  have := val_mono (w := w) (c := c) (T := T) (q := (false, 0, 0)) hd
  have e : val w T c ((false, 0, 0) : Bool × Int × Int) = 0 := by simp [val]
  rw [e] at this
  exact this
theorem lt_two {n w c : Nat} {T : List Nat} {R S : List Deed} (hd : ∀ d ∈ S, OkD n d) : lt w T R c ≤ lt w T (R ++ S) c := by
  have := val_mono (w := w) (c := c) (T := T) (q := R.foldl (stp w c) (false, 0, 0)) hd
  rw [← List.foldl_append] at this
  exact this
theorem tk_le {n w c : Nat} {d : Deed} (hd : OkD n d) : tk w c d ≤ 99 := by
  cases d with
  | flip => simp [tk]
  | draw t s =>
    obtain ⟨h1, h2, h3, h4⟩ := hd
    have : 0 ≤ s * ((c % w : Nat) : Int) := Int.mul_nonneg (by omega) (by omega)
    simp only [tk]
    split <;> omega
  | expo t m => have := hd.2.1; simp only [tk]; split <;> omega
theorem wt_le {ch : Nat} : wt ch ≤ 16 := by unfold wt; repeat' split
                                            all_goals decide
theorem add_le {n w c : Nat} {T : List Nat} {b : Bool} {d : Deed} (hd : OkD n d) : add w T b d c ≤ 1584 := by
  have h1 := tk_pos (w := w) (c := c) hd
  have h2 := tk_le (w := w) (c := c) hd
  have h3 := wt_pos (ch := T.getD (if b = true then mir w c else c) 48)
  have h4 := wt_le (ch := T.getD (if b = true then mir w c else c) 48)
  have h5 := Int.mul_le_mul h2 h4 h3 (by decide)
  exact h5
theorem val_le {n w c : Nat} {T : List Nat} : ∀ {R : List Deed} {q : Bool × Int × Int}, (∀ d ∈ R, OkD n d) → val w T c (R.foldl (stp w c) q) ≤ val w T c q + 1584 * R.length
  | [], q, _ => by simp
  | d :: R, q, h => by
    have h1 := val_le (n := n) (w := w) (c := c) (T := T) (R := R) (q := stp w c q d) fun d' m => h d' (by simp [m])
    rw [val_stp] at h1
    have h2 := add_le (w := w) (c := c) (T := T) (b := q.1 != isF d) (h d (by simp))
    rw [List.foldl_cons, List.length_cons]
    omega
theorem lt_le {n w c : Nat} {T : List Nat} {R : List Deed} (hd : ∀ d ∈ R, OkD n d) : lt w T R c ≤ 1584 * R.length := by
  have := val_le (w := w) (c := c) (T := T) (q := (false, 0, 0)) hd
  have e : val w T c ((false, 0, 0) : Bool × Int × Int) = 0 := by simp [val]
  rw [e] at this
  show val w T c (R.foldl (stp w c) (false, 0, 0)) ≤ _
  omega
theorem two_lt {n w c : Nat} {T : List Nat} {R : List Deed} (hl : R.length ≤ 100) (hd : ∀ d ∈ R, OkD n d) : lt w T (R ++ R) c < 4611686018427387904 := by
  have := lt_le (w := w) (c := c) (T := T) (R := R ++ R) (fun d m => (List.mem_append.mp m).elim (hd d) (hd d))
  rw [List.length_append] at this
  omega
theorem enc_app {R S : List Deed} (h : R.length + S.length ≤ 1000) {μ : Store} : oAdd (.tup (R.map encD)) (.tup (S.map encD)) μ = .ok (.tup ((R ++ S).map encD)) μ := by
  have : (R.map encD).length + (S.map encD).length ≤ LIM := by simp; show _ ≤ 1000000; omega
  simp only [oAdd, this, if_true, List.map_append]
abbrev fst (w : Nat) (T : List Nat) (R : List Deed) (c : Nat) : Int := lt w T R c
def snd (w : Nat) (T : List Nat) (R : List Deed) (c : Nat) : Int := lt w T (R ++ R) c - lt w T R c
theorem light_turns {w h n c : Nat} {T : List Nat} {R : List Deed} (hs : Sz w h n) (ok : OkT n T) (hc : c < n) (hl : R.length ≤ 100) {μ : Store} :
    M_light_turns [neg w h T, .tup (R.map encD), .int (c : Nat)] μ = .ok (.tup [.int (lt w T R c), .int (snd w T R c)]) μ := by
  have l1 := fun μ => light_of hs hc ok (R := R) (μ := μ)
  have l2 := fun μ => light_of hs hc ok (R := R ++ R) (μ := μ)
  have ea := fun μ => enc_app (R := R) (S := R) (by omega) (μ := μ)
  have nw := fun μ => neg_w (w := w) (h := h) (T := T) (μ := μ)
  have nd := fun μ => neg_d (w := w) (h := h) (T := T) (μ := μ)
  have i2 := fun μ => ins_neg (w := w) (h := h) (T := T) (μ := μ)
  have hL2 : (2 : Nat) ≤ LIM := by decide
  unfold M_light_turns B_light_turns
  generalize (R ++ R).map encD = r2 at *
  generalize R.map encD = rr at *
  generalize neg w h T = nn at *
  simp only [mD_ev, Res.mute_ok, sSeq_ev, sAsg_ev, eCallD_ev, eCall_ev, aCons_ev, aNil_ev, eVar_ev, List.map_cons, List.map_nil, List.length_cons, List.length_nil, List.cons_append, List.nil_append, Nat.reduceAdd, Nat.reduceSub, List.reduceReplicate, List.getElem?_cons_zero, List.getElem?_cons_succ, bok, if_true, eC_ev, sok, gVar_ev, List.set_cons_succ, List.set_cons_zero, Nat.reduceLT, eBin_ev, eLc_ev, iOf_ev, oWalk, wipeE, gTup_ev, gCons_ev, gNil_ev, eLst_ev, eTup_ev, eJoin_ev, iRange1_ev, sRet_ev, sIf_ev, tB_ev, tAnd_ev, tOr_ev, tNot_ev, eNot_ev, eAnd_ev, eIf_ev, sNext_ev, sExpr_ev, sPar_ev, sAug_ev, sAsg2_ev, sFor_ev, and_self, eThaw_ev, thaw_ev, eProp_ev, i2, nw, nd, l1, ea, l2, oSub_int, hL2]
  rfl
/-- the light behind k times, f at odd ones, s at even ones -/
def lk (f s : Int) (k : Int) : Int := (k + 1) / 2 * f + k / 2 * s
theorem light_by_times {f s k : Int} (h0 : 0 ≤ k) (h1 : k ≤ 1000000000000001) {μ : Store} : M_light_by_times [.tup [.int f, .int s], .int k] μ = .ok (.int (lk f s k)) μ := by
  have d1 : ∀ μ, oFdv (.int (k + 1)) (.int 2) μ = .ok (.int ((k + 1) / 2)) μ := fun μ => oFdv_int (by omega) (by omega)
  have d2 : ∀ μ, oFdv (.int k) (.int 2) μ = .ok (.int (k / 2)) μ := fun μ => oFdv_int (by omega) (by omega)
  have m1 : ∀ μ, oMul (.int ((k + 1) / 2)) (.int f) μ = .ok (.int ((k + 1) / 2 * f)) μ := fun μ => oMul_int (by have : Sm ((k + 1) / 2) = true := by simp [Sm]; omega
                                                                                                                simp [this])
  have m2 : ∀ μ, oMul (.int (k / 2)) (.int s) μ = .ok (.int (k / 2 * s)) μ := fun μ => oMul_int (by have : Sm (k / 2) = true := by simp [Sm]; omega
                                                                                                    simp [this])
  unfold M_light_by_times B_light_by_times
  simp only [mD_ev, Res.mute_ok, sSeq_ev, sAsg_ev, eCallD_ev, eCall_ev, aCons_ev, aNil_ev, eVar_ev, List.map_cons, List.map_nil, List.length_cons, List.length_nil, List.cons_append, List.nil_append, Nat.reduceAdd, Nat.reduceSub, List.reduceReplicate, List.getElem?_cons_zero, List.getElem?_cons_succ, bok, if_true, eC_ev, sok, gVar_ev, List.set_cons_succ, List.set_cons_zero, Nat.reduceLT, eBin_ev, eLc_ev, iOf_ev, oWalk, wipeE, gTup_ev, gCons_ev, gNil_ev, eLst_ev, eTup_ev, eJoin_ev, iRange1_ev, sRet_ev, sIf_ev, tB_ev, tAnd_ev, tOr_ev, tNot_ev, eNot_ev, eAnd_ev, eIf_ev, sNext_ev, sExpr_ev, sPar_ev, sAug_ev, sAsg2_ev, sFor_ev, and_self, eThaw_ev, thaw_ev, oAdd_int, d1, d2, m1, m2]
  rfl
/-- the context: a negative, a recipe -/
structure Cn (w h n : Nat) (T : List Nat) (R : List Deed) : Prop where
  hs : Sz w h n
  ok : OkT n T
  hl : R.length ≤ 8
  hd : ∀ d ∈ R, OkD n d
theorem light_after {w h n c : Nat} {T : List Nat} {R : List Deed} (X : Cn w h n T R) (hc : c < n) {k : Int} (h0 : 0 ≤ k) (h1 : k ≤ 1000000000000000) {μ : Store} :
    M_light_after [neg w h T, .tup (R.map encD), .int (c : Nat), .int k] μ = .ok (.int (lk (lt w T R c) (snd w T R c) k)) μ := by
  have ln := fun μ => len_neg X.hs X.ok (μ := μ)
  have cr := fun μ => check_recipe X.hl X.hd (μ := μ)
  have cc := fun μ => check_cell hc (μ := μ)
  have cn := fun μ => check_num h0 h1 (μ := μ)
  have lt2 := fun μ => light_turns X.hs X.ok hc (R := R) (by have := X.hl; omega) (μ := μ)
  have lb := fun μ => light_by_times (f := lt w T R c) (s := snd w T R c) h0 (by omega) (μ := μ)
  unfold M_light_after B_light_after
  generalize R.map encD = rr at *
  generalize neg w h T = nn at *
  simp only [mD_ev, Res.mute_ok, sSeq_ev, sAsg_ev, eCallD_ev, eCall_ev, aCons_ev, aNil_ev, eVar_ev, List.map_cons, List.map_nil, List.length_cons, List.length_nil, List.cons_append, List.nil_append, Nat.reduceAdd, Nat.reduceSub, List.reduceReplicate, List.getElem?_cons_zero, List.getElem?_cons_succ, bok, if_true, eC_ev, sok, gVar_ev, List.set_cons_succ, List.set_cons_zero, Nat.reduceLT, eBin_ev, eLc_ev, iOf_ev, oWalk, wipeE, gTup_ev, gCons_ev, gNil_ev, eLst_ev, eTup_ev, eJoin_ev, iRange1_ev, sRet_ev, sIf_ev, tB_ev, tAnd_ev, tOr_ev, tNot_ev, eNot_ev, eAnd_ev, eIf_ev, sNext_ev, sExpr_ev, sPar_ev, sAug_ev, sAsg2_ev, sFor_ev, and_self, eThaw_ev, thaw_ev, ln, cr, cc, cn, lt2, lb]
/-- the least number of times, by the division -/
def tu (f s L : Int) : D := if f + s = 0 then .non else .int (2 * ((L - 1) / (f + s)) + (if (L - 1) % (f + s) < f then 1 else 2))
theorem times_to {f s L : Int} (hf : 0 ≤ f) (hs : 0 ≤ s) (hb : f + s < 4611686018427387904) {μ : Store} : M_times_to [.tup [.int f, .int s], .int L] μ = .ok (tu f s L) μ := by
  unfold M_times_to B_times_to tu
  by_cases h : f + s = 0
  · simp only [mD_ev, Res.mute_ok, sSeq_ev, sAsg_ev, eCallD_ev, eCall_ev, aCons_ev, aNil_ev, eVar_ev, List.map_cons, List.map_nil, List.length_cons, List.length_nil, List.cons_append, List.nil_append, Nat.reduceAdd, Nat.reduceSub, List.reduceReplicate, List.getElem?_cons_zero, List.getElem?_cons_succ, bok, if_true, eC_ev, sok, gVar_ev, List.set_cons_succ, List.set_cons_zero, Nat.reduceLT, eBin_ev, eLc_ev, iOf_ev, oWalk, wipeE, gTup_ev, gCons_ev, gNil_ev, eLst_ev, eTup_ev, eJoin_ev, iRange1_ev, sRet_ev, sIf_ev, tB_ev, tAnd_ev, tOr_ev, tNot_ev, eNot_ev, eAnd_ev, eIf_ev, sNext_ev, sExpr_ev, sPar_ev, sAug_ev, sAsg2_ev, sFor_ev, and_self, eThaw_ev, thaw_ev, oAdd_int, oEq_int, h, decide_true]
  · have dm : ∀ μ, cDivmod [.int (L - 1), .int (f + s)] μ = .ok (.tup [.int ((L - 1) / (f + s)), .int ((L - 1) % (f + s))]) μ := fun μ => cDivmod_ev (by omega) hb
    have m1 : ∀ x μ, oMul (.int 2) (.int x) μ = .ok (.int (2 * x)) μ := fun x μ => oMul_int (by simp [Sm])
    by_cases g : (L - 1) % (f + s) < f
    · simp only [mD_ev, Res.mute_ok, sSeq_ev, sAsg_ev, eCallD_ev, eCall_ev, aCons_ev, aNil_ev, eVar_ev, List.map_cons, List.map_nil, List.length_cons, List.length_nil, List.cons_append, List.nil_append, Nat.reduceAdd, Nat.reduceSub, List.reduceReplicate, List.getElem?_cons_zero, List.getElem?_cons_succ, bok, if_true, eC_ev, sok, gVar_ev, List.set_cons_succ, List.set_cons_zero, Nat.reduceLT, eBin_ev, eLc_ev, iOf_ev, oWalk, wipeE, gTup_ev, gCons_ev, gNil_ev, eLst_ev, eTup_ev, eJoin_ev, iRange1_ev, sRet_ev, sIf_ev, tB_ev, tAnd_ev, tOr_ev, tNot_ev, eNot_ev, eAnd_ev, eIf_ev, sNext_ev, sExpr_ev, sPar_ev, sAug_ev, sAsg2_ev, sFor_ev, and_self, eThaw_ev, thaw_ev, oAdd_int, oEq_int, h, decide_false, Bool.false_eq_true, if_false, oSub_int, dm, m1, oLt_int, g, decide_true]
    · simp only [mD_ev, Res.mute_ok, sSeq_ev, sAsg_ev, eCallD_ev, eCall_ev, aCons_ev, aNil_ev, eVar_ev, List.map_cons, List.map_nil, List.length_cons, List.length_nil, List.cons_append, List.nil_append, Nat.reduceAdd, Nat.reduceSub, List.reduceReplicate, List.getElem?_cons_zero, List.getElem?_cons_succ, bok, if_true, eC_ev, sok, gVar_ev, List.set_cons_succ, List.set_cons_zero, Nat.reduceLT, eBin_ev, eLc_ev, iOf_ev, oWalk, wipeE, gTup_ev, gCons_ev, gNil_ev, eLst_ev, eTup_ev, eJoin_ev, iRange1_ev, sRet_ev, sIf_ev, tB_ev, tAnd_ev, tOr_ev, tNot_ev, eNot_ev, eAnd_ev, eIf_ev, sNext_ev, sExpr_ev, sPar_ev, sAug_ev, sAsg2_ev, sFor_ev, and_self, eThaw_ev, thaw_ev, oAdd_int, oEq_int, h, decide_false, Bool.false_eq_true, if_false, oSub_int, dm, m1, oLt_int, g]
theorem len_tupS {S : List Nat} {μ : Store} : cLenO 0 M_Negativedd__lendd_ [.tup (nI S)] μ = .ok (.int (S.length : Nat)) μ := by
  rw [cLenO_ev rfl]; simp [cLen, seqOf]
theorem ix_steps {S : List Nat} {k : Nat} (h : k < S.length) {μ : Store} : oIx (.tup (nI S)) (.int (k : Nat)) μ = .ok (.int (S.getD k 0 : Nat)) μ := by
  have e : atI (nI S) (k : Nat) = some (.int (S.getD k 0 : Nat)) := by
    rw [atI_in (by omega) (by simp; omega), Int.toNat_natCast, List.getElem?_map, List.getElem?_eq_getElem h, List.getD_eq_getElem?_getD, List.getElem?_eq_getElem h]
    rfl
  simp only [oIx, seqOf, e]
theorem times_until {w h n c t : Nat} {T S : List Nat} {R : List Deed} (X : Cn w h n T R) (okS : OkS S) (hc : c < n) (ht : t ≤ S.length) (hb : lt w T (R ++ R) c < 4611686018427387904) {μ : Store} :
    M_times_until [neg w h T, .tup (nI S), .tup (R.map encD), .int (c : Nat), .int (t : Nat)] μ = .ok (if t = 0 then .int 0 else tu (lt w T R c) (snd w T R c) (S.getD (t - 1) 0 : Nat)) μ := by
  have cs := fun μ => check_steps okS (μ := μ)
  have ln := fun μ => len_neg X.hs X.ok (μ := μ)
  have cr := fun μ => check_recipe X.hl X.hd (μ := μ)
  have cc := fun μ => check_cell hc (μ := μ)
  have cn := fun μ => check_num (v := (t : Nat)) (a := 0) (b := (S.length : Nat)) (by omega) (by omega) (μ := μ)
  have ls := fun μ => len_tupS (S := S) (μ := μ)
  have lt2 := fun μ => light_turns X.hs X.ok hc (R := R) (by have := X.hl; omega) (μ := μ)
  have p1 := lt_pos (w := w) (c := c) (T := T) X.hd
  have p2 := lt_two (w := w) (c := c) (T := T) (R := R) X.hd
  have tt := fun L μ => times_to (f := lt w T R c) (s := snd w T R c) (L := L) p1 (by unfold snd; omega) (by unfold snd; omega) (μ := μ)
  unfold M_times_until B_times_until
  by_cases g : t = 0
  · subst g
    rw [show ((0 : Nat) : Int) = 0 from rfl] at cn ⊢
    generalize R.map encD = rr at *
    generalize neg w h T = nn at *
    generalize nI S = zz at *
    simp only [mD_ev, Res.mute_ok, sSeq_ev, sAsg_ev, eCallD_ev, eCall_ev, aCons_ev, aNil_ev, eVar_ev, List.map_cons, List.map_nil, List.length_cons, List.length_nil, List.cons_append, List.nil_append, Nat.reduceAdd, Nat.reduceSub, List.reduceReplicate, List.getElem?_cons_zero, List.getElem?_cons_succ, bok, if_true, eC_ev, sok, gVar_ev, List.set_cons_succ, List.set_cons_zero, Nat.reduceLT, eBin_ev, eLc_ev, iOf_ev, oWalk, wipeE, gTup_ev, gCons_ev, gNil_ev, eLst_ev, eTup_ev, eJoin_ev, iRange1_ev, sRet_ev, sIf_ev, tB_ev, tAnd_ev, tOr_ev, tNot_ev, eNot_ev, eAnd_ev, eIf_ev, sNext_ev, sExpr_ev, sPar_ev, sAug_ev, sAsg2_ev, sFor_ev, and_self, eThaw_ev, thaw_ev, cs, ln, cr, cc, ls, cn, oEq_int, decide_true]
  · have g' : ¬ ((t : Nat) : Int) = 0 := by omega
    have ix := fun μ => ix_steps (S := S) (k := t - 1) (by omega) (μ := μ)
    rw [show ((t - 1 : Nat) : Int) = (t : Nat) - 1 by omega] at ix
    generalize R.map encD = rr at *
    generalize neg w h T = nn at *
    generalize nI S = zz at *
    simp only [mD_ev, Res.mute_ok, sSeq_ev, sAsg_ev, eCallD_ev, eCall_ev, aCons_ev, aNil_ev, eVar_ev, List.map_cons, List.map_nil, List.length_cons, List.length_nil, List.cons_append, List.nil_append, Nat.reduceAdd, Nat.reduceSub, List.reduceReplicate, List.getElem?_cons_zero, List.getElem?_cons_succ, bok, if_true, eC_ev, sok, gVar_ev, List.set_cons_succ, List.set_cons_zero, Nat.reduceLT, eBin_ev, eLc_ev, iOf_ev, oWalk, wipeE, gTup_ev, gCons_ev, gNil_ev, eLst_ev, eTup_ev, eJoin_ev, iRange1_ev, sRet_ev, sIf_ev, tB_ev, tAnd_ev, tOr_ev, tNot_ev, eNot_ev, eAnd_ev, eIf_ev, sNext_ev, sExpr_ev, sPar_ev, sAug_ev, sAsg2_ev, sFor_ev, and_self, eThaw_ev, thaw_ev, cs, ln, cr, cc, ls, cn, oEq_int, g', decide_false, Bool.false_eq_true, if_false, lt2, oSub_int, ix, tt, g]
end Pg

set_option Elab.async false
set_option linter.all false
set_option maxRecDepth 100000
set_option autoImplicit false
namespace Pg
open PySem L2 Fw
theorem lk_zero {f s : Int} : lk f s 0 = 0 := by simp [lk]
theorem lk_succ {f s k : Int} (h : 0 ≤ k) : lk f s (k + 1) = lk f s k + (if k % 2 = 1 then s else f) := by
  unfold lk
  by_cases hk : k % 2 = 1
  · rw [if_pos hk, show (k + 1 + 1) / 2 = (k + 1) / 2 by omega, show (k + 1) / 2 = k / 2 + 1 by omega]
    simp only [Int.add_mul, Int.one_mul]
    omega
  · rw [if_neg hk, show (k + 1) / 2 = k / 2 by omega, show (k + 1 + 1) / 2 = k / 2 + 1 by omega]
    simp only [Int.add_mul, Int.one_mul]
    omega
theorem lk_mono {f s : Int} (hf : 0 ≤ f) (hs : 0 ≤ s) {a : Int} (ha : 0 ≤ a) : ∀ m : Nat, lk f s a ≤ lk f s (a + m)
  | 0 => by simp
  | m + 1 => by
    have h := lk_mono hf hs ha m
    have h2 := lk_succ (f := f) (s := s) (k := a + m) (by omega)
    rw [show a + ((m + 1 : Nat) : Int) = a + m + 1 by omega, h2]
    split <;> omega
theorem lk_le {f s : Int} (hf : 0 ≤ f) (hs : 0 ≤ s) {a b : Int} (ha : 0 ≤ a) (h : a ≤ b) : lk f s a ≤ lk f s b := by
  have := lk_mono hf hs ha (b - a).toNat
  rwa [show a + ((b - a).toNat : Int) = b by omega] at this
theorem lk_even {f s q : Int} : lk f s (2 * q) = q * (f + s) := by
  unfold lk
  rw [show (2 * q + 1) / 2 = q by omega, show 2 * q / 2 = q by omega, Int.mul_add]
theorem lk_odd {f s q : Int} : lk f s (2 * q + 1) = q * (f + s) + f := by
  unfold lk
  rw [show (2 * q + 1 + 1) / 2 = q + 1 by omega, show (2 * q + 1) / 2 = q by omega, Int.mul_add, Int.add_mul, Int.one_mul]
  omega
/-- the number of times that the division tells -/
def un (f s L : Int) : Int := 2 * ((L - 1) / (f + s)) + (if (L - 1) % (f + s) < f then 1 else 2)
theorem un_ok {f s L : Int} (hf : 0 ≤ f) (hs : 0 ≤ s) (hp : 0 < f + s) (hL : 1 ≤ L) : 1 ≤ un f s L ∧ un f s L ≤ 2 * L ∧ L ≤ lk f s (un f s L) ∧ lk f s (un f s L - 1) < L := by
  have h1 := Int.mul_ediv_add_emod (L - 1) (f + s)
  have h2 := Int.emod_nonneg (L - 1) (show f + s ≠ 0 by omega)
  have h3 := Int.emod_lt_of_pos (L - 1) hp
  have h4 : 0 ≤ (L - 1) / (f + s) := Int.ediv_nonneg (by omega) (by omega)
  have h5 : (L - 1) / (f + s) ≤ L - 1 := Int.ediv_le_self _ (by omega)
  rw [Int.mul_comm] at h1
  unfold un
  generalize (L - 1) / (f + s) = q at *
  generalize (L - 1) % (f + s) = m at *
  have hz : 0 ≤ q * (f + s) := Int.mul_nonneg h4 (by omega)
  by_cases g : m < f
  · rw [if_pos g]
    refine ⟨by omega, by omega, ?_, ?_⟩
    · rw [lk_odd]; omega
    · rw [show 2 * q + 1 - 1 = 2 * q by omega, lk_even]; omega
  · rw [if_neg g]
    refine ⟨by omega, ?_, ?_, ?_⟩
    · by_cases hq : q = L - 1
      · subst hq
        have : (L - 1) * (f + s) + m = L - 1 := h1
        have h6 : (L - 1) * 1 ≤ (L - 1) * (f + s) := Int.mul_le_mul_of_nonneg_left (by omega) (by omega)
        omega
      · omega
    · rw [show 2 * q + 2 = 2 * (q + 1) by omega, lk_even, Int.add_mul, Int.one_mul]; omega
    · rw [show 2 * q + 2 - 1 = 2 * q + 1 by omega, lk_odd]; omega
theorem un_least {f s L : Int} (hf : 0 ≤ f) (hs : 0 ≤ s) (hp : 0 < f + s) (hL : 1 ≤ L) {j : Int} (h0 : 0 ≤ j) (h1 : L ≤ lk f s j) (h2 : ∀ i, 0 ≤ i → i < j → lk f s i < L) : j = un f s L := by
  obtain ⟨a, b, c, d⟩ := un_ok hf hs hp hL
  rcases Int.lt_trichotomy j (un f s L) with h | h | h
  · have := lk_le hf hs h0 (show j ≤ un f s L - 1 by omega)
    omega
  · exact h
  · have := h2 _ (by omega) h
    omega
theorem lk_none {f s : Int} (hf : 0 ≤ f) (hs : 0 ≤ s) (hp : f + s = 0) {k : Int} : lk f s k = 0 := by
  have h1 : f = 0 := by omega
  have h2 : s = 0 := by omega
  subst h1 h2
  simp [lk]
end Pg

set_option Elab.async false
set_option linter.all false
set_option maxRecDepth 100000
set_option autoImplicit false
namespace K34
open PySem L2 Fw Pg
/-- when the tone is there -/
def there (t : Nat) (L f s : Int) (k : Nat) : Bool := decide (t = 0) || decide (L ≤ lk f s k)
def tms (t : Nat) (L f s : Int) (k : Nat) : D := match (List.range k).find? (there t L f s) with
  | some j => .int (j : Nat)
  | none => .non
theorem tms_zero {t : Nat} {L f s : Int} : tms t L f s 0 = .non := rfl
theorem tms_succ {t : Nat} {L f s : Int} {k : Nat} : tms t L f s (k + 1) = if ((tms t L f s k).isNon && there t L f s k) = true then .int (k : Nat) else tms t L f s k := by
  unfold tms
  rw [List.range_succ, List.find?_append]
  cases (List.range k).find? (there t L f s) with
  | some j => simp [D.isNon]
  | none =>
    simp only [Option.none_or, D.isNon, Bool.true_and, List.find?_cons, List.find?_nil]
    cases there t L f s k <;> simp
theorem count_in {n c t : Nat} {N dS dR : D} {F1 F2 : Nat → Int} {f s L : Int} {p0 p2 p9 p14 p15 p16 : Option D} {items : List D} {μ : Store} (hc : c < n) (h1 : F1 c = f) (h2 : F2 c = f + s)
    (la : ∀ (k : Int) (μ : Store), 0 ≤ k → k ≤ 1000000000000000 → M_light_after [N, dR, .int (c : Nat), .int k] μ = .ok (.int (lk f s k)) μ) (hS : 0 < t → ∀ μ, oIx dS (.int ((t : Nat) - 1)) μ = .ok (.int L) μ) :
    ∀ (m k : Nat) (x : Option D), k + m = 30 → ∃ y, forL items none (gVar 13) (   sSeq (sIf (tB (eBin oNe (eCallD 4 M_light_after (aCons (eVar 3) (aCons (eVar 5) (aCons (eVar 6) (aCons (eVar 13) (aNil)))))) (eVar 11))) (   sRet (eC (.bl false))) (   sNext)) (   sSeq (sIf (tAnd (tB (eBin oIsN (eVar 12) (eC .non))) (tOr (tB (eBin oEq (eVar 7) (eC (.int 0)))) (tB (eBin oGe (eVar 11) (eBin oIx (eVar 4) (eBin oSub (eVar 7) (eC (.int 1)))))))) (   sAsg (gVar 12) (eVar 13)) (   sNext)) (   sSeq (sAsg (gVar 11) (eBin oAdd (eVar 11) (eBin oIx (eVar 8) (eVar 6)))) (   sIf (tB (eBin oEq (eBin oMod (eCall cInt (aCons (eVar 13) (aNil))) (eC (.int 2))) (eC (.int 1)))) (   sAsg (gVar 11) (eBin oSub (eBin oAdd (eVar 11) (eBin oIx (eVar 10) (eVar 6))) (eBin oMul (eC (.int 2)) (eBin oIx (eVar 8) (eVar 6))))) (   sNext))))) ((List.range' k m).map fun i => .int (i : Nat)) [p0, some (.loc 0), p2, some N, some dS, some dR, some (.int (c : Nat)), some (.int (t : Nat)), some (.lst (rowOf n F1)), p9, some (.lst (rowOf n F2)), some (.int (lk f s k)), some (tms t L f s k), x, p14, p15, p16] μ =
      .nx [p0, some (.loc 0), p2, some N, some dS, some dR, some (.int (c : Nat)), some (.int (t : Nat)), some (.lst (rowOf n F1)), p9, some (.lst (rowOf n F2)), some (.int (lk f s 30)), some (tms t L f s 30), y, p14, p15, p16] μ
  | 0, k, x, hk => ⟨x, by obtain rfl : k = 30 := by omega
                          rw [List.range'_zero, List.map_nil, for_nil]; rfl⟩
  | m + 1, k, x, hk => by
    obtain ⟨y, e⟩ := count_in hc h1 h2 la hS (items := items) (p0 := p0) (p2 := p2) (p9 := p9) (p14 := p14) (p15 := p15) (p16 := p16) (μ := μ) m (k + 1) (some (.int (k : Nat))) (by omega)
    refine ⟨y, ?_⟩
    have la' := fun μ => la (k : Nat) μ (by omega) (by omega)
    have ix1 := fun μ => ix_row (f := F1) hc (μ := μ)
    have ix2 := fun μ => ix_row (f := F2) hc (μ := μ)
    rw [h1] at ix1
    rw [h2] at ix2
    have m2 : ∀ x μ, oMul (.int 2) (.int x) μ = .ok (.int (2 * x)) μ := fun x μ => oMul_int (by simp [Sm])
    have md : ∀ μ, oMod (.int (k : Nat)) (.int 2) μ = .ok (.int ((k : Nat) % 2)) μ := fun μ => oMod_int (by decide)
    have ls := lk_succ (f := f) (s := s) (k := (k : Nat)) (by omega)
    have hts := tms_succ (t := t) (L := L) (f := f) (s := s) (k := k)
    rw [List.range'_succ, List.map_cons]
    refine (for_step (by simp only [mD_ev, Res.mute_ok, sSeq_ev, sAsg_ev, eCallD_ev, eCall_ev, aCons_ev, aNil_ev, eVar_ev, List.map_cons, List.map_nil, List.length_cons, List.length_nil, List.cons_append, List.nil_append, Nat.reduceAdd, Nat.reduceSub, List.reduceReplicate, List.getElem?_cons_zero, List.getElem?_cons_succ, bok, if_true, eC_ev, sok, gVar_ev, List.set_cons_succ, List.set_cons_zero, Nat.reduceLT, eBin_ev, eLc_ev, iOf_ev, oWalk, wipeE, gTup_ev, gCons_ev, gNil_ev, eLst_ev, eTup_ev, eJoin_ev, iRange1_ev, sRet_ev, sIf_ev, tB_ev, tAnd_ev, tOr_ev, tNot_ev, eNot_ev, eAnd_ev, eIf_ev, sNext_ev, sExpr_ev, sPar_ev, sAug_ev, sAsg2_ev, sFor_ev, and_self, eThaw_ev, thaw_ev]; rfl) (ρ2 := [p0, some (.loc 0), p2, some N, some dS, some dR, some (.int (c : Nat)), some (.int (t : Nat)), some (.lst (rowOf n F1)), p9, some (.lst (rowOf n F2)), some (.int (lk f s ((k : Nat) + 1))), some (tms t L f s (k + 1)), some (.int (k : Nat)), p14, p15, p16]) (μ2 := μ) ?_).trans (by rw [show (((k + 1 : Nat) : Nat) : Int) = (k : Nat) + 1 by omega] at e; exact e)
    have q0 : (sIf (tB (eBin oNe (eCallD 4 M_light_after (aCons (eVar 3) (aCons (eVar 5) (aCons (eVar 6) (aCons (eVar 13) (aNil)))))) (eVar 11))) (   sRet (eC (.bl false))) (   sNext)) [p0, some (.loc 0), p2, some N, some dS, some dR, some (.int (c : Nat)), some (.int (t : Nat)), some (.lst (rowOf n F1)), p9, some (.lst (rowOf n F2)), some (.int (lk f s k)), some (tms t L f s k), some (.int (k : Nat)), p14, p15, p16] μ = .nx [p0, some (.loc 0), p2, some N, some dS, some dR, some (.int (c : Nat)), some (.int (t : Nat)), some (.lst (rowOf n F1)), p9, some (.lst (rowOf n F2)), some (.int (lk f s k)), some (tms t L f s k), some (.int (k : Nat)), p14, p15, p16] μ := by
      generalize rowOf n F1 = r1 at *
      generalize rowOf n F2 = r2 at *
      generalize tms t L f s k = tt at *
      simp only [mD_ev, Res.mute_ok, sSeq_ev, sAsg_ev, eCallD_ev, eCall_ev, aCons_ev, aNil_ev, eVar_ev, List.map_cons, List.map_nil, List.length_cons, List.length_nil, List.cons_append, List.nil_append, Nat.reduceAdd, Nat.reduceSub, List.reduceReplicate, List.getElem?_cons_zero, List.getElem?_cons_succ, bok, if_true, eC_ev, sok, gVar_ev, List.set_cons_succ, List.set_cons_zero, Nat.reduceLT, eBin_ev, eLc_ev, iOf_ev, oWalk, wipeE, gTup_ev, gCons_ev, gNil_ev, eLst_ev, eTup_ev, eJoin_ev, iRange1_ev, sRet_ev, sIf_ev, tB_ev, tAnd_ev, tOr_ev, tNot_ev, eNot_ev, eAnd_ev, eIf_ev, sNext_ev, sExpr_ev, sPar_ev, sAug_ev, sAsg2_ev, sFor_ev, and_self, eThaw_ev, thaw_ev, la', oNe_int, decide_true, Bool.not_true, Bool.false_eq_true, if_false]
    have q1 : (sIf (tAnd (tB (eBin oIsN (eVar 12) (eC .non))) (tOr (tB (eBin oEq (eVar 7) (eC (.int 0)))) (tB (eBin oGe (eVar 11) (eBin oIx (eVar 4) (eBin oSub (eVar 7) (eC (.int 1)))))))) (   sAsg (gVar 12) (eVar 13)) (   sNext)) [p0, some (.loc 0), p2, some N, some dS, some dR, some (.int (c : Nat)), some (.int (t : Nat)), some (.lst (rowOf n F1)), p9, some (.lst (rowOf n F2)), some (.int (lk f s k)), some (tms t L f s k), some (.int (k : Nat)), p14, p15, p16] μ = .nx [p0, some (.loc 0), p2, some N, some dS, some dR, some (.int (c : Nat)), some (.int (t : Nat)), some (.lst (rowOf n F1)), p9, some (.lst (rowOf n F2)), some (.int (lk f s k)), some (tms t L f s (k + 1)), some (.int (k : Nat)), p14, p15, p16] μ := by
      rw [hts]
      generalize rowOf n F1 = r1 at *
      generalize rowOf n F2 = r2 at *
      generalize tms t L f s k = tt at *
      cases hi : tt.isNon with
      | false => simp only [mD_ev, Res.mute_ok, sSeq_ev, sAsg_ev, eCallD_ev, eCall_ev, aCons_ev, aNil_ev, eVar_ev, List.map_cons, List.map_nil, List.length_cons, List.length_nil, List.cons_append, List.nil_append, Nat.reduceAdd, Nat.reduceSub, List.reduceReplicate, List.getElem?_cons_zero, List.getElem?_cons_succ, bok, if_true, eC_ev, sok, gVar_ev, List.set_cons_succ, List.set_cons_zero, Nat.reduceLT, eBin_ev, eLc_ev, iOf_ev, oWalk, wipeE, gTup_ev, gCons_ev, gNil_ev, eLst_ev, eTup_ev, eJoin_ev, iRange1_ev, sRet_ev, sIf_ev, tB_ev, tAnd_ev, tOr_ev, tNot_ev, eNot_ev, eAnd_ev, eIf_ev, sNext_ev, sExpr_ev, sPar_ev, sAug_ev, sAsg2_ev, sFor_ev, and_self, eThaw_ev, thaw_ev, oIsN_ev, hi, Bool.false_eq_true, if_false, Bool.false_and]
      | true =>
        unfold there
        by_cases ht : t = 0
        · subst ht
          simp only [mD_ev, Res.mute_ok, sSeq_ev, sAsg_ev, eCallD_ev, eCall_ev, aCons_ev, aNil_ev, eVar_ev, List.map_cons, List.map_nil, List.length_cons, List.length_nil, List.cons_append, List.nil_append, Nat.reduceAdd, Nat.reduceSub, List.reduceReplicate, List.getElem?_cons_zero, List.getElem?_cons_succ, bok, if_true, eC_ev, sok, gVar_ev, List.set_cons_succ, List.set_cons_zero, Nat.reduceLT, eBin_ev, eLc_ev, iOf_ev, oWalk, wipeE, gTup_ev, gCons_ev, gNil_ev, eLst_ev, eTup_ev, eJoin_ev, iRange1_ev, sRet_ev, sIf_ev, tB_ev, tAnd_ev, tOr_ev, tNot_ev, eNot_ev, eAnd_ev, eIf_ev, sNext_ev, sExpr_ev, sPar_ev, sAug_ev, sAsg2_ev, sFor_ev, and_self, eThaw_ev, thaw_ev, oIsN_ev, hi, oEq_int, show ((0 : Nat) : Int) = 0 from rfl, decide_true, Bool.true_or, Bool.true_and]
        · have ht' : ¬ ((t : Nat) : Int) = 0 := by omega
          have hS' := hS (by omega)
          by_cases hL : L ≤ lk f s k
          · simp only [mD_ev, Res.mute_ok, sSeq_ev, sAsg_ev, eCallD_ev, eCall_ev, aCons_ev, aNil_ev, eVar_ev, List.map_cons, List.map_nil, List.length_cons, List.length_nil, List.cons_append, List.nil_append, Nat.reduceAdd, Nat.reduceSub, List.reduceReplicate, List.getElem?_cons_zero, List.getElem?_cons_succ, bok, if_true, eC_ev, sok, gVar_ev, List.set_cons_succ, List.set_cons_zero, Nat.reduceLT, eBin_ev, eLc_ev, iOf_ev, oWalk, wipeE, gTup_ev, gCons_ev, gNil_ev, eLst_ev, eTup_ev, eJoin_ev, iRange1_ev, sRet_ev, sIf_ev, tB_ev, tAnd_ev, tOr_ev, tNot_ev, eNot_ev, eAnd_ev, eIf_ev, sNext_ev, sExpr_ev, sPar_ev, sAug_ev, sAsg2_ev, sFor_ev, and_self, eThaw_ev, thaw_ev, oIsN_ev, hi, oEq_int, ht', ht, decide_false, Bool.false_eq_true, if_false, oSub_int, hS', oGe_int, hL, decide_true, Bool.false_or, Bool.true_and]
          · simp only [mD_ev, Res.mute_ok, sSeq_ev, sAsg_ev, eCallD_ev, eCall_ev, aCons_ev, aNil_ev, eVar_ev, List.map_cons, List.map_nil, List.length_cons, List.length_nil, List.cons_append, List.nil_append, Nat.reduceAdd, Nat.reduceSub, List.reduceReplicate, List.getElem?_cons_zero, List.getElem?_cons_succ, bok, if_true, eC_ev, sok, gVar_ev, List.set_cons_succ, List.set_cons_zero, Nat.reduceLT, eBin_ev, eLc_ev, iOf_ev, oWalk, wipeE, gTup_ev, gCons_ev, gNil_ev, eLst_ev, eTup_ev, eJoin_ev, iRange1_ev, sRet_ev, sIf_ev, tB_ev, tAnd_ev, tOr_ev, tNot_ev, eNot_ev, eAnd_ev, eIf_ev, sNext_ev, sExpr_ev, sPar_ev, sAug_ev, sAsg2_ev, sFor_ev, and_self, eThaw_ev, thaw_ev, oIsN_ev, hi, oEq_int, ht', ht, decide_false, Bool.false_eq_true, if_false, oSub_int, hS', oGe_int, hL, Bool.false_or, Bool.and_false]
    have q2 : (sAsg (gVar 11) (eBin oAdd (eVar 11) (eBin oIx (eVar 8) (eVar 6)))) [p0, some (.loc 0), p2, some N, some dS, some dR, some (.int (c : Nat)), some (.int (t : Nat)), some (.lst (rowOf n F1)), p9, some (.lst (rowOf n F2)), some (.int (lk f s k)), some (tms t L f s (k + 1)), some (.int (k : Nat)), p14, p15, p16] μ = .nx [p0, some (.loc 0), p2, some N, some dS, some dR, some (.int (c : Nat)), some (.int (t : Nat)), some (.lst (rowOf n F1)), p9, some (.lst (rowOf n F2)), some (.int (lk f s k + f)), some (tms t L f s (k + 1)), some (.int (k : Nat)), p14, p15, p16] μ := by
      generalize rowOf n F1 = r1 at *
      generalize rowOf n F2 = r2 at *
      generalize tms t L f s (k + 1) = tt at *
      simp only [mD_ev, Res.mute_ok, sSeq_ev, sAsg_ev, eCallD_ev, eCall_ev, aCons_ev, aNil_ev, eVar_ev, List.map_cons, List.map_nil, List.length_cons, List.length_nil, List.cons_append, List.nil_append, Nat.reduceAdd, Nat.reduceSub, List.reduceReplicate, List.getElem?_cons_zero, List.getElem?_cons_succ, bok, if_true, eC_ev, sok, gVar_ev, List.set_cons_succ, List.set_cons_zero, Nat.reduceLT, eBin_ev, eLc_ev, iOf_ev, oWalk, wipeE, gTup_ev, gCons_ev, gNil_ev, eLst_ev, eTup_ev, eJoin_ev, iRange1_ev, sRet_ev, sIf_ev, tB_ev, tAnd_ev, tOr_ev, tNot_ev, eNot_ev, eAnd_ev, eIf_ev, sNext_ev, sExpr_ev, sPar_ev, sAug_ev, sAsg2_ev, sFor_ev, and_self, eThaw_ev, thaw_ev, ix1, oAdd_int]
    have q3 : (sIf (tB (eBin oEq (eBin oMod (eCall cInt (aCons (eVar 13) (aNil))) (eC (.int 2))) (eC (.int 1)))) (   sAsg (gVar 11) (eBin oSub (eBin oAdd (eVar 11) (eBin oIx (eVar 10) (eVar 6))) (eBin oMul (eC (.int 2)) (eBin oIx (eVar 8) (eVar 6))))) (   sNext)) [p0, some (.loc 0), p2, some N, some dS, some dR, some (.int (c : Nat)), some (.int (t : Nat)), some (.lst (rowOf n F1)), p9, some (.lst (rowOf n F2)), some (.int (lk f s k + f)), some (tms t L f s (k + 1)), some (.int (k : Nat)), p14, p15, p16] μ = .nx [p0, some (.loc 0), p2, some N, some dS, some dR, some (.int (c : Nat)), some (.int (t : Nat)), some (.lst (rowOf n F1)), p9, some (.lst (rowOf n F2)), some (.int (lk f s ((k : Nat) + 1))), some (tms t L f s (k + 1)), some (.int (k : Nat)), p14, p15, p16] μ := by
      rw [ls]
      generalize rowOf n F1 = r1 at *
      generalize rowOf n F2 = r2 at *
      generalize tms t L f s (k + 1) = tt at *
      by_cases hp : ((k : Nat) : Int) % 2 = 1
      · have he : lk f s (k : Nat) + f + (f + s) - 2 * f = lk f s (k : Nat) + s := by omega
        simp only [mD_ev, Res.mute_ok, sSeq_ev, sAsg_ev, eCallD_ev, eCall_ev, aCons_ev, aNil_ev, eVar_ev, List.map_cons, List.map_nil, List.length_cons, List.length_nil, List.cons_append, List.nil_append, Nat.reduceAdd, Nat.reduceSub, List.reduceReplicate, List.getElem?_cons_zero, List.getElem?_cons_succ, bok, if_true, eC_ev, sok, gVar_ev, List.set_cons_succ, List.set_cons_zero, Nat.reduceLT, eBin_ev, eLc_ev, iOf_ev, oWalk, wipeE, gTup_ev, gCons_ev, gNil_ev, eLst_ev, eTup_ev, eJoin_ev, iRange1_ev, sRet_ev, sIf_ev, tB_ev, tAnd_ev, tOr_ev, tNot_ev, eNot_ev, eAnd_ev, eIf_ev, sNext_ev, sExpr_ev, sPar_ev, sAug_ev, sAsg2_ev, sFor_ev, and_self, eThaw_ev, thaw_ev, cInt_int, md, oEq_int, hp, decide_true, ix1, ix2, oAdd_int, m2, oSub_int, he]
      · simp only [mD_ev, Res.mute_ok, sSeq_ev, sAsg_ev, eCallD_ev, eCall_ev, aCons_ev, aNil_ev, eVar_ev, List.map_cons, List.map_nil, List.length_cons, List.length_nil, List.cons_append, List.nil_append, Nat.reduceAdd, Nat.reduceSub, List.reduceReplicate, List.getElem?_cons_zero, List.getElem?_cons_succ, bok, if_true, eC_ev, sok, gVar_ev, List.set_cons_succ, List.set_cons_zero, Nat.reduceLT, eBin_ev, eLc_ev, iOf_ev, oWalk, wipeE, gTup_ev, gCons_ev, gNil_ev, eLst_ev, eTup_ev, eJoin_ev, iRange1_ev, sRet_ev, sIf_ev, tB_ev, tAnd_ev, tOr_ev, tNot_ev, eNot_ev, eAnd_ev, eIf_ev, sNext_ev, sExpr_ev, sPar_ev, sAug_ev, sAsg2_ev, sFor_ev, and_self, eThaw_ev, thaw_ev, cInt_int, md, oEq_int, hp, decide_false, Bool.false_eq_true, if_false]
    rw [sSeq_ev, q0]
    show (sSeq _ _) _ _ = _
    rw [sSeq_ev, q1]
    show (sSeq _ _) _ _ = _
    rw [sSeq_ev, q2]
    exact q3
end K34

set_option Elab.async false
set_option linter.all false
set_option maxRecDepth 100000
set_option autoImplicit false
namespace K34
open PySem L2 Fw Pg

theorem turn {c : Cell} {p0 x2 : Option D} (hc : Row0 c) (x3 x4 x5 x6 x7 x8 x9 x10 x11 x12 x13 x14 x15 x16 : Option D) : ∃ (y3 y4 y5 y6 y7 y8 y9 y10 y11 y12 y13 y14 y15 y16 : Option D) (c' : Cell), Row0 c' ∧ (   sSeq (sPar 3 4 (eCallD 2 M_l_negative (aCons (eVar 1) (aCons (eC (.int 3)) (aNil)))) (eCallD 1 M_l_steps (aCons (eVar 1) (aNil)))) (   sSeq (sPar 5 6 (eCallD 3 M_l_recipe (aCons (eVar 1) (aCons (eVar 3) (aCons (eC (.int 5)) (aNil))))) (eCallD 2 M_l_taken (aCons (eVar 1) (aCons (eCall (cLenO 0 M_Negativedd__lendd_) (aCons (eVar 3) (aNil))) (aNil))))) (   sSeq (sAsg (gVar 7) (eCallD 2 M_l_taken (aCons (eVar 1) (aCons (eBin oAdd (eCall (cLenO 0 M_Negativedd__lendd_) (aCons (eVar 4) (aNil))) (eC (.int 1))) (aNil))))) (   sSeq (sAsg (gTup 2 (gCons (gVar 8) (gCons (gVar 9) (gNil)))) (eCallD 2 M_l_lights (aCons (eVar 3) (aCons (eVar 5) (aNil))))) (   sSeq (sAsg (gVar 10) (eBin oIx (eCallD 2 M_l_lights (aCons (eVar 3) (aCons (eBin oAdd (eVar 5) (eVar 5)) (aNil)))) (eC (.int 0)))) (   sSeq (sAsg (gTup 2 (gCons (gVar 11) (gCons (gVar 12) (gNil)))) (eTup (aCons (eC (.int 0)) (aCons (eC .non) (aNil))))) (   sSeq (sFor (iRange1 (eC (.int 30))) (gVar 13) (   sSeq (sIf (tB (eBin oNe (eCallD 4 M_light_after (aCons (eVar 3) (aCons (eVar 5) (aCons (eVar 6) (aCons (eVar 13) (aNil)))))) (eVar 11))) (   sRet (eC (.bl false))) (   sNext)) (   sSeq (sIf (tAnd (tB (eBin oIsN (eVar 12) (eC .non))) (tOr (tB (eBin oEq (eVar 7) (eC (.int 0)))) (tB (eBin oGe (eVar 11) (eBin oIx (eVar 4) (eBin oSub (eVar 7) (eC (.int 1)))))))) (   sAsg (gVar 12) (eVar 13)) (   sNext)) (   sSeq (sAsg (gVar 11) (eBin oAdd (eVar 11) (eBin oIx (eVar 8) (eVar 6)))) (   sIf (tB (eBin oEq (eBin oMod (eCall cInt (aCons (eVar 13) (aNil))) (eC (.int 2))) (eC (.int 1)))) (   sAsg (gVar 11) (eBin oSub (eBin oAdd (eVar 11) (eBin oIx (eVar 10) (eVar 6))) (eBin oMul (eC (.int 2)) (eBin oIx (eVar 8) (eVar 6))))) (   sNext)))))) (   sSeq (sAsg (gVar 14) (eCallD 5 M_times_until (aCons (eVar 3) (aCons (eVar 4) (aCons (eVar 5) (aCons (eVar 6) (aCons (eVar 7) (aNil)))))))) (   sSeq (sIf (tAnd (tB (eBin oNotN (eVar 12) (eC .non))) (tB (eBin oNe (eVar 14) (eVar 12)))) (   sRet (eC (.bl false))) (   sNext)) (   sSeq (sIf (tB (eBin oNe (eBin oIsN (eVar 14) (eC .non)) (eAnd (eBin oGt (eVar 7) (eC (.int 0))) (eBin oEq (eBin oIx (eVar 10) (eVar 6)) (eC (.int 0)))))) (   sRet (eC (.bl false))) (   sNext)) (   sSeq (sIf (tAnd (tB (eBin oNotN (eVar 14) (eC .non))) (tB (eBin oGt (eVar 14) (eC (.int 0))))) (   sSeq (sAsg (gVar 15) (eBin oIx (eVar 4) (eBin oSub (eVar 7) (eC (.int 1))))) (   sSeq (sIf (tB (eBin oLt (eCallD 4 M_light_after (aCons (eVar 3) (aCons (eVar 5) (aCons (eVar 6) (aCons (eVar 14) (aNil)))))) (eVar 15))) (   sRet (eC (.bl false))) (   sNext)) (   sIf (tB (eBin oGe (eCallD 4 M_light_after (aCons (eVar 3) (aCons (eVar 5) (aCons (eVar 6) (aCons (eBin oSub (eVar 14) (eC (.int 1))) (aNil)))))) (eVar 15))) (   sRet (eC (.bl false))) (   sNext)))) (   sNext)) (   sSeq (sAsg (gVar 16) (eBin oAdd (eBin oPow (eC (.int 10)) (eC (.int 14))) (eCallD 2 M_l_taken (aCons (eVar 1) (aCons (eC (.int 999)) (aNil)))))) (   sSeq (sIf (tB (eBin oNe (eCallD 4 M_light_after (aCons (eVar 3) (aCons (eVar 5) (aCons (eVar 6) (aCons (eBin oMul (eC (.int 2)) (eVar 16)) (aNil)))))) (eBin oMul (eVar 16) (eBin oIx (eVar 10) (eVar 6))))) (   sRet (eC (.bl false))) (   sNext)) (   sIf (tB (eBin oNe (eCallD 4 M_light_after (aCons (eVar 3) (aCons (eVar 5) (aCons (eVar 6) (aCons (eBin oAdd (eBin oMul (eC (.int 2)) (eVar 16)) (eC (.int 1))) (aNil)))))) (eBin oAdd (eBin oMul (eVar 16) (eBin oIx (eVar 10) (eVar 6))) (eBin oIx (eVar 8) (eVar 6))))) (   sRet (eC (.bl false))) (   sNext))))))))))))))) [p0, some (.loc 0), x2, x3, x4, x5, x6, x7, x8, x9, x10, x11, x12, x13, x14, x15, x16] [c] =
    .nx [p0, some (.loc 0), x2, y3, y4, y5, y6, y7, y8, y9, y10, y11, y12, y13, y14, y15, y16] [c'] := by
    obtain ⟨w, h, n, T, c1, e1, h1, hs, ok, _, _⟩ := negative (r := []) (m := 3) (by omega) rest_nil hc
    obtain ⟨S, c2, e2, h2, okS, S1⟩ := steps (r := []) rest_nil h1
    obtain ⟨R, c3, e3, h3, hl, hd⟩ := recipe (r := []) (m := 5) (by omega) hs ok h2
    obtain ⟨q, c4, e4, h4, hq⟩ := takenN (r := []) (m := n) h3 hs.n1 (by have := hs.n9; omega)
    obtain ⟨t, c5, e5, h5, ht⟩ := takenN (r := []) (m := S.length + 1) h4 (by omega) (by have := okS.le; omega)
    obtain ⟨v, c6, e6, h6, hv⟩ := takenN (r := []) (m := 999) h5 (by omega) (by omega)
    rw [show ((3 : Nat) : Int) = 3 from rfl] at e1
    rw [show ((5 : Nat) : Int) = 5 from rfl] at e3
    rw [show ((S.length + 1 : Nat) : Int) = (S.length : Nat) + 1 by omega] at e5
    rw [show ((999 : Nat) : Int) = 999 from rfl] at e6
    have X : Cn w h n T R := ⟨hs, ok, by omega, fun d m => (hd d m).1⟩
    have ln := fun μ => len_neg hs ok (μ := μ)
    have ls := fun μ => len_tupS (S := S) (μ := μ)
    have l1 := l_lights hs ok (R := R) (μ := [c5]) (all_row h5 rest_nil)
    have l2 := l_lights hs ok (R := R ++ R) (μ := [c5]) (all_row h5 rest_nil)
    have ea := fun μ => enc_app (R := R) (S := R) (by omega) (μ := μ)
    have la := fun (k : Int) μ (h0 : 0 ≤ k) (h1 : k ≤ 1000000000000000) => light_after X hq h0 h1 (μ := μ)
    have tu' := fun μ => times_until X okS hq (show t ≤ S.length by omega) (two_lt (by omega) X.hd) (μ := μ)
    have p1 := lt_pos (w := w) (c := q) (T := T) X.hd
    have p2 := lt_two (w := w) (c := q) (T := T) (R := R) X.hd
    have p3 := two_lt (w := w) (c := q) (T := T) (R := R) (by omega) X.hd
    have ix1 := fun μ => ix_row (f := fun c => lt w T R c) hq (μ := μ)
    have ix2 := fun μ => ix_row (f := fun c => lt w T (R ++ R) c) hq (μ := μ)
    have hx : 0 < t → ∀ μ, oIx (.tup (nI S)) (.int ((t : Nat) - 1)) μ = .ok (.int (S.getD (t - 1) 0 : Nat)) μ := fun h0 μ => by
      have := ix_steps (S := S) (k := t - 1) (by omega) (μ := μ)
      rwa [show ((t - 1 : Nat) : Int) = (t : Nat) - 1 by omega] at this
    have hL1 : 0 < t → 1 ≤ ((S.getD (t - 1) 0 : Nat) : Int) ∧ ((S.getD (t - 1) 0 : Nat) : Int) ≤ 9999 := fun h0 => by
      have hm : S.getD (t - 1) 0 ∈ S := by
        rw [List.getD_eq_getElem?_getD, List.getElem?_eq_getElem (show t - 1 < S.length by omega)]
        exact List.getElem_mem _
      have := okS.rg _ hm
      omega
    have hL2 : (2 : Nat) ≤ LIM := by decide
    obtain ⟨f, hf⟩ : ∃ f, f = lt w T R q := ⟨_, rfl⟩
    obtain ⟨s, hsn⟩ : ∃ s, s = snd w T R q := ⟨_, rfl⟩
    have hb : lt w T (R ++ R) q = f + s := by rw [hf, hsn]; unfold snd; omega
    have hs0 : 0 ≤ s := by unfold snd at hsn; omega
    obtain ⟨L, hL⟩ : ∃ L : Int, L = (S.getD (t - 1) 0 : Nat) := ⟨_, rfl⟩
    obtain ⟨y13, ec⟩ := count_in (N := neg w h T) (dS := .tup (nI S)) (dR := .tup (R.map encD)) (F1 := fun c => lt w T R c) (F2 := fun c => lt w T (R ++ R) c) (p0 := p0) (p2 := x2) (p9 := some (.bl (over false R))) (p14 := x14) (p15 := x15) (p16 := x16) (items := rg 30) (μ := [c5]) hq rfl (by show lt w T (R ++ R) q = _; rw [hb, hf, hsn])
      la hx 30 0 x13 rfl
    rw [← hf, ← hsn, ← hL] at ec tu'
    rw [← hf, ← hsn] at la
    rw [← hL] at hx hL1
    rw [← hf] at p1 p2 ix1
    rw [hb] at ix2 p3
    have hle : ∀ k : Int, 0 ≤ k → k ≤ 1000000000000000 → ∀ μ, M_light_after [neg w h T, .tup (R.map encD), .int (q : Nat), .int k] μ = .ok (.int (lk f s k)) μ := fun k h0 h1 μ => la k μ h0 h1
    have r30 : ∀ μ, rangeR (.int 30) μ = .ok (rg 30, none) μ := fun μ => rangeR_nat (n := 30) (by omega)
    have q0 : (sPar 3 4 (eCallD 2 M_l_negative (aCons (eVar 1) (aCons (eC (.int 3)) (aNil)))) (eCallD 1 M_l_steps (aCons (eVar 1) (aNil)))) [p0, some (.loc 0), x2, x3, x4, x5, x6, x7, x8, x9, x10, x11, x12, x13, x14, x15, x16] [c] = .nx [p0, some (.loc 0), x2, some (neg w h T), some (.tup (nI S)), x5, x6, x7, x8, x9, x10, x11, x12, x13, x14, x15, x16] [c2] := by
      generalize hN : neg w h T = N at *
      generalize hdS : nI S = zS at *
      simp only [mD_ev, Res.mute_ok, sSeq_ev, sAsg_ev, eCallD_ev, eCall_ev, aCons_ev, aNil_ev, eVar_ev, List.map_cons, List.map_nil, List.length_cons, List.length_nil, List.cons_append, List.nil_append, Nat.reduceAdd, Nat.reduceSub, List.reduceReplicate, List.getElem?_cons_zero, List.getElem?_cons_succ, bok, if_true, eC_ev, sok, gVar_ev, List.set_cons_succ, List.set_cons_zero, Nat.reduceLT, eBin_ev, eLc_ev, iOf_ev, oWalk, wipeE, gTup_ev, gCons_ev, gNil_ev, eLst_ev, eTup_ev, eJoin_ev, iRange1_ev, sRet_ev, sIf_ev, tB_ev, tAnd_ev, tOr_ev, tNot_ev, eNot_ev, eAnd_ev, eIf_ev, sNext_ev, sExpr_ev, sPar_ev, sAug_ev, sAsg2_ev, sFor_ev, and_self, eThaw_ev, thaw_ev, e1, e2]
    have q1 : (sPar 5 6 (eCallD 3 M_l_recipe (aCons (eVar 1) (aCons (eVar 3) (aCons (eC (.int 5)) (aNil))))) (eCallD 2 M_l_taken (aCons (eVar 1) (aCons (eCall (cLenO 0 M_Negativedd__lendd_) (aCons (eVar 3) (aNil))) (aNil))))) [p0, some (.loc 0), x2, some (neg w h T), some (.tup (nI S)), x5, x6, x7, x8, x9, x10, x11, x12, x13, x14, x15, x16] [c2] = .nx [p0, some (.loc 0), x2, some (neg w h T), some (.tup (nI S)), some (.tup (R.map encD)), some (.int (q : Nat)), x7, x8, x9, x10, x11, x12, x13, x14, x15, x16] [c4] := by
      generalize hN : neg w h T = N at *
      generalize hdS : nI S = zS at *
      generalize hdR : R.map encD = zR at *
      simp only [mD_ev, Res.mute_ok, sSeq_ev, sAsg_ev, eCallD_ev, eCall_ev, aCons_ev, aNil_ev, eVar_ev, List.map_cons, List.map_nil, List.length_cons, List.length_nil, List.cons_append, List.nil_append, Nat.reduceAdd, Nat.reduceSub, List.reduceReplicate, List.getElem?_cons_zero, List.getElem?_cons_succ, bok, if_true, eC_ev, sok, gVar_ev, List.set_cons_succ, List.set_cons_zero, Nat.reduceLT, eBin_ev, eLc_ev, iOf_ev, oWalk, wipeE, gTup_ev, gCons_ev, gNil_ev, eLst_ev, eTup_ev, eJoin_ev, iRange1_ev, sRet_ev, sIf_ev, tB_ev, tAnd_ev, tOr_ev, tNot_ev, eNot_ev, eAnd_ev, eIf_ev, sNext_ev, sExpr_ev, sPar_ev, sAug_ev, sAsg2_ev, sFor_ev, and_self, eThaw_ev, thaw_ev, e3, ln, e4]
    have q2 : (sAsg (gVar 7) (eCallD 2 M_l_taken (aCons (eVar 1) (aCons (eBin oAdd (eCall (cLenO 0 M_Negativedd__lendd_) (aCons (eVar 4) (aNil))) (eC (.int 1))) (aNil))))) [p0, some (.loc 0), x2, some (neg w h T), some (.tup (nI S)), some (.tup (R.map encD)), some (.int (q : Nat)), x7, x8, x9, x10, x11, x12, x13, x14, x15, x16] [c4] = .nx [p0, some (.loc 0), x2, some (neg w h T), some (.tup (nI S)), some (.tup (R.map encD)), some (.int (q : Nat)), some (.int (t : Nat)), x8, x9, x10, x11, x12, x13, x14, x15, x16] [c5] := by
      generalize hN : neg w h T = N at *
      generalize hdS : nI S = zS at *
      generalize hdR : R.map encD = zR at *
      simp only [mD_ev, Res.mute_ok, sSeq_ev, sAsg_ev, eCallD_ev, eCall_ev, aCons_ev, aNil_ev, eVar_ev, List.map_cons, List.map_nil, List.length_cons, List.length_nil, List.cons_append, List.nil_append, Nat.reduceAdd, Nat.reduceSub, List.reduceReplicate, List.getElem?_cons_zero, List.getElem?_cons_succ, bok, if_true, eC_ev, sok, gVar_ev, List.set_cons_succ, List.set_cons_zero, Nat.reduceLT, eBin_ev, eLc_ev, iOf_ev, oWalk, wipeE, gTup_ev, gCons_ev, gNil_ev, eLst_ev, eTup_ev, eJoin_ev, iRange1_ev, sRet_ev, sIf_ev, tB_ev, tAnd_ev, tOr_ev, tNot_ev, eNot_ev, eAnd_ev, eIf_ev, sNext_ev, sExpr_ev, sPar_ev, sAug_ev, sAsg2_ev, sFor_ev, and_self, eThaw_ev, thaw_ev, ls, oAdd_int, e5]
    have q3 : (sAsg (gTup 2 (gCons (gVar 8) (gCons (gVar 9) (gNil)))) (eCallD 2 M_l_lights (aCons (eVar 3) (aCons (eVar 5) (aNil))))) [p0, some (.loc 0), x2, some (neg w h T), some (.tup (nI S)), some (.tup (R.map encD)), some (.int (q : Nat)), some (.int (t : Nat)), x8, x9, x10, x11, x12, x13, x14, x15, x16] [c5] = .nx [p0, some (.loc 0), x2, some (neg w h T), some (.tup (nI S)), some (.tup (R.map encD)), some (.int (q : Nat)), some (.int (t : Nat)), some (.lst (rowOf n (fun c => lt w T R c))), some (.bl (over false R)), x10, x11, x12, x13, x14, x15, x16] [c5] := by
      generalize hN : neg w h T = N at *
      generalize hdS : nI S = zS at *
      generalize hdR : R.map encD = zR at *
      generalize hr1 : rowOf n (fun c => lt w T R c) = r1 at *
      simp only [mD_ev, Res.mute_ok, sSeq_ev, sAsg_ev, eCallD_ev, eCall_ev, aCons_ev, aNil_ev, eVar_ev, List.map_cons, List.map_nil, List.length_cons, List.length_nil, List.cons_append, List.nil_append, Nat.reduceAdd, Nat.reduceSub, List.reduceReplicate, List.getElem?_cons_zero, List.getElem?_cons_succ, bok, if_true, eC_ev, sok, gVar_ev, List.set_cons_succ, List.set_cons_zero, Nat.reduceLT, eBin_ev, eLc_ev, iOf_ev, oWalk, wipeE, gTup_ev, gCons_ev, gNil_ev, eLst_ev, eTup_ev, eJoin_ev, iRange1_ev, sRet_ev, sIf_ev, tB_ev, tAnd_ev, tOr_ev, tNot_ev, eNot_ev, eAnd_ev, eIf_ev, sNext_ev, sExpr_ev, sPar_ev, sAug_ev, sAsg2_ev, sFor_ev, and_self, eThaw_ev, thaw_ev, l1]
    have q4 : (sAsg (gVar 10) (eBin oIx (eCallD 2 M_l_lights (aCons (eVar 3) (aCons (eBin oAdd (eVar 5) (eVar 5)) (aNil)))) (eC (.int 0)))) [p0, some (.loc 0), x2, some (neg w h T), some (.tup (nI S)), some (.tup (R.map encD)), some (.int (q : Nat)), some (.int (t : Nat)), some (.lst (rowOf n (fun c => lt w T R c))), some (.bl (over false R)), x10, x11, x12, x13, x14, x15, x16] [c5] = .nx [p0, some (.loc 0), x2, some (neg w h T), some (.tup (nI S)), some (.tup (R.map encD)), some (.int (q : Nat)), some (.int (t : Nat)), some (.lst (rowOf n (fun c => lt w T R c))), some (.bl (over false R)), some (.lst (rowOf n (fun c => lt w T (R ++ R) c))), x11, x12, x13, x14, x15, x16] [c5] := by
      have i0 : ∀ a b μ, oIx (.tup [a, b]) (.int 0) μ = .ok a μ := fun a b μ => rfl
      generalize hdR2 : (R ++ R).map encD = zR2 at *
      generalize hN : neg w h T = N at *
      generalize hdS : nI S = zS at *
      generalize hdR : R.map encD = zR at *
      generalize hr1 : rowOf n (fun c => lt w T R c) = r1 at *
      generalize hr2 : rowOf n (fun c => lt w T (R ++ R) c) = r2 at *
      simp only [mD_ev, Res.mute_ok, sSeq_ev, sAsg_ev, eCallD_ev, eCall_ev, aCons_ev, aNil_ev, eVar_ev, List.map_cons, List.map_nil, List.length_cons, List.length_nil, List.cons_append, List.nil_append, Nat.reduceAdd, Nat.reduceSub, List.reduceReplicate, List.getElem?_cons_zero, List.getElem?_cons_succ, bok, if_true, eC_ev, sok, gVar_ev, List.set_cons_succ, List.set_cons_zero, Nat.reduceLT, eBin_ev, eLc_ev, iOf_ev, oWalk, wipeE, gTup_ev, gCons_ev, gNil_ev, eLst_ev, eTup_ev, eJoin_ev, iRange1_ev, sRet_ev, sIf_ev, tB_ev, tAnd_ev, tOr_ev, tNot_ev, eNot_ev, eAnd_ev, eIf_ev, sNext_ev, sExpr_ev, sPar_ev, sAug_ev, sAsg2_ev, sFor_ev, and_self, eThaw_ev, thaw_ev, ea, l2, i0]
    have q5 : (sAsg (gTup 2 (gCons (gVar 11) (gCons (gVar 12) (gNil)))) (eTup (aCons (eC (.int 0)) (aCons (eC .non) (aNil))))) [p0, some (.loc 0), x2, some (neg w h T), some (.tup (nI S)), some (.tup (R.map encD)), some (.int (q : Nat)), some (.int (t : Nat)), some (.lst (rowOf n (fun c => lt w T R c))), some (.bl (over false R)), some (.lst (rowOf n (fun c => lt w T (R ++ R) c))), x11, x12, x13, x14, x15, x16] [c5] = .nx [p0, some (.loc 0), x2, some (neg w h T), some (.tup (nI S)), some (.tup (R.map encD)), some (.int (q : Nat)), some (.int (t : Nat)), some (.lst (rowOf n (fun c => lt w T R c))), some (.bl (over false R)), some (.lst (rowOf n (fun c => lt w T (R ++ R) c))), some (.int 0), some .non, x13, x14, x15, x16] [c5] := by
      generalize hN : neg w h T = N at *
      generalize hdS : nI S = zS at *
      generalize hdR : R.map encD = zR at *
      generalize hr1 : rowOf n (fun c => lt w T R c) = r1 at *
      generalize hr2 : rowOf n (fun c => lt w T (R ++ R) c) = r2 at *
      simp only [mD_ev, Res.mute_ok, sSeq_ev, sAsg_ev, eCallD_ev, eCall_ev, aCons_ev, aNil_ev, eVar_ev, List.map_cons, List.map_nil, List.length_cons, List.length_nil, List.cons_append, List.nil_append, Nat.reduceAdd, Nat.reduceSub, List.reduceReplicate, List.getElem?_cons_zero, List.getElem?_cons_succ, bok, if_true, eC_ev, sok, gVar_ev, List.set_cons_succ, List.set_cons_zero, Nat.reduceLT, eBin_ev, eLc_ev, iOf_ev, oWalk, wipeE, gTup_ev, gCons_ev, gNil_ev, eLst_ev, eTup_ev, eJoin_ev, iRange1_ev, sRet_ev, sIf_ev, tB_ev, tAnd_ev, tOr_ev, tNot_ev, eNot_ev, eAnd_ev, eIf_ev, sNext_ev, sExpr_ev, sPar_ev, sAug_ev, sAsg2_ev, sFor_ev, and_self, eThaw_ev, thaw_ev, hL2]
    have q6 : (sFor (iRange1 (eC (.int 30))) (gVar 13) (   sSeq (sIf (tB (eBin oNe (eCallD 4 M_light_after (aCons (eVar 3) (aCons (eVar 5) (aCons (eVar 6) (aCons (eVar 13) (aNil)))))) (eVar 11))) (   sRet (eC (.bl false))) (   sNext)) (   sSeq (sIf (tAnd (tB (eBin oIsN (eVar 12) (eC .non))) (tOr (tB (eBin oEq (eVar 7) (eC (.int 0)))) (tB (eBin oGe (eVar 11) (eBin oIx (eVar 4) (eBin oSub (eVar 7) (eC (.int 1)))))))) (   sAsg (gVar 12) (eVar 13)) (   sNext)) (   sSeq (sAsg (gVar 11) (eBin oAdd (eVar 11) (eBin oIx (eVar 8) (eVar 6)))) (   sIf (tB (eBin oEq (eBin oMod (eCall cInt (aCons (eVar 13) (aNil))) (eC (.int 2))) (eC (.int 1)))) (   sAsg (gVar 11) (eBin oSub (eBin oAdd (eVar 11) (eBin oIx (eVar 10) (eVar 6))) (eBin oMul (eC (.int 2)) (eBin oIx (eVar 8) (eVar 6))))) (   sNext)))))) [p0, some (.loc 0), x2, some (neg w h T), some (.tup (nI S)), some (.tup (R.map encD)), some (.int (q : Nat)), some (.int (t : Nat)), some (.lst (rowOf n (fun c => lt w T R c))), some (.bl (over false R)), some (.lst (rowOf n (fun c => lt w T (R ++ R) c))), some (.int 0), some .non, x13, x14, x15, x16] [c5] = .nx [p0, some (.loc 0), x2, some (neg w h T), some (.tup (nI S)), some (.tup (R.map encD)), some (.int (q : Nat)), some (.int (t : Nat)), some (.lst (rowOf n (fun c => lt w T R c))), some (.bl (over false R)), some (.lst (rowOf n (fun c => lt w T (R ++ R) c))), some (.int (lk f s 30)), some (tms t L f s 30), y13, x14, x15, x16] [c5] := by
      rw [show ((0 : Nat) : Int) = 0 from rfl, lk_zero, tms_zero, show (List.range' 0 30).map (fun i => D.int (i : Nat)) = rg 30 by rw [rg, List.range_eq_range']] at ec
      rw [sFor_ev, show (iRange1 (eC (.int 30))) [p0, some (.loc 0), x2, some (neg w h T), some (.tup (nI S)), some (.tup (R.map encD)), some (.int (q : Nat)), some (.int (t : Nat)), some (.lst (rowOf n (fun c => lt w T R c))), some (.bl (over false R)), some (.lst (rowOf n (fun c => lt w T (R ++ R) c))), some (.int 0), some .non, x13, x14, x15, x16] [c5] = .ok (rg 30, none) [c5] by (generalize rowOf n (fun c => lt w T R c) = r1 at *); (generalize rowOf n (fun c => lt w T (R ++ R) c) = r2 at *); simp only [mD_ev, Res.mute_ok, sSeq_ev, sAsg_ev, eCallD_ev, eCall_ev, aCons_ev, aNil_ev, eVar_ev, List.map_cons, List.map_nil, List.length_cons, List.length_nil, List.cons_append, List.nil_append, Nat.reduceAdd, Nat.reduceSub, List.reduceReplicate, List.getElem?_cons_zero, List.getElem?_cons_succ, bok, if_true, eC_ev, sok, gVar_ev, List.set_cons_succ, List.set_cons_zero, Nat.reduceLT, eBin_ev, eLc_ev, iOf_ev, oWalk, wipeE, gTup_ev, gCons_ev, gNil_ev, eLst_ev, eTup_ev, eJoin_ev, iRange1_ev, sRet_ev, sIf_ev, tB_ev, tAnd_ev, tOr_ev, tNot_ev, eNot_ev, eAnd_ev, eIf_ev, sNext_ev, sExpr_ev, sPar_ev, sAug_ev, sAsg2_ev, sFor_ev, and_self, eThaw_ev, thaw_ev, r30], rS_ok]
      exact ec
    have q7 : (sAsg (gVar 14) (eCallD 5 M_times_until (aCons (eVar 3) (aCons (eVar 4) (aCons (eVar 5) (aCons (eVar 6) (aCons (eVar 7) (aNil)))))))) [p0, some (.loc 0), x2, some (neg w h T), some (.tup (nI S)), some (.tup (R.map encD)), some (.int (q : Nat)), some (.int (t : Nat)), some (.lst (rowOf n (fun c => lt w T R c))), some (.bl (over false R)), some (.lst (rowOf n (fun c => lt w T (R ++ R) c))), some (.int (lk f s 30)), some (tms t L f s 30), y13, x14, x15, x16] [c5] = .nx [p0, some (.loc 0), x2, some (neg w h T), some (.tup (nI S)), some (.tup (R.map encD)), some (.int (q : Nat)), some (.int (t : Nat)), some (.lst (rowOf n (fun c => lt w T R c))), some (.bl (over false R)), some (.lst (rowOf n (fun c => lt w T (R ++ R) c))), some (.int (lk f s 30)), some (tms t L f s 30), y13, some (if t = 0 then .int 0 else tu f s L), x15, x16] [c5] := by
      generalize (if t = 0 then D.int 0 else tu f s L) = hh at *
      generalize tms t L f s 30 = tt at *
      generalize hN : neg w h T = N at *
      generalize hdS : nI S = zS at *
      generalize hdR : R.map encD = zR at *
      generalize hr1 : rowOf n (fun c => lt w T R c) = r1 at *
      generalize hr2 : rowOf n (fun c => lt w T (R ++ R) c) = r2 at *
      simp only [mD_ev, Res.mute_ok, sSeq_ev, sAsg_ev, eCallD_ev, eCall_ev, aCons_ev, aNil_ev, eVar_ev, List.map_cons, List.map_nil, List.length_cons, List.length_nil, List.cons_append, List.nil_append, Nat.reduceAdd, Nat.reduceSub, List.reduceReplicate, List.getElem?_cons_zero, List.getElem?_cons_succ, bok, if_true, eC_ev, sok, gVar_ev, List.set_cons_succ, List.set_cons_zero, Nat.reduceLT, eBin_ev, eLc_ev, iOf_ev, oWalk, wipeE, gTup_ev, gCons_ev, gNil_ev, eLst_ev, eTup_ev, eJoin_ev, iRange1_ev, sRet_ev, sIf_ev, tB_ev, tAnd_ev, tOr_ev, tNot_ev, eNot_ev, eAnd_ev, eIf_ev, sNext_ev, sExpr_ev, sPar_ev, sAug_ev, sAsg2_ev, sFor_ev, and_self, eThaw_ev, thaw_ev, tu']
    have hz : ∀ j, tms t L f s 30 = .int j → (if t = 0 then D.int 0 else tu f s L) = .int j := fun j hj => by
      unfold tms at hj
      cases hfi : (List.range 30).find? (there t L f s) with
      | none => rw [hfi] at hj; cases hj
      | some i =>
        rw [hfi] at hj
        cases hj
        obtain ⟨hp, as, bs, hab, hno⟩ := List.find?_eq_some_iff_append.mp hfi
        have hi : as.length = i ∧ as = List.range i := by
          have h1 : (List.range 30)[as.length]? = some i := by rw [hab]; simp
          have h2 := (List.getElem?_eq_some_iff.mp h1)
          obtain ⟨h3, h4⟩ := h2
          rw [List.getElem_range] at h4
          refine ⟨h4, ?_⟩
          have h5 : (List.range 30).take as.length = as := by rw [hab]; simp
          rw [List.length_range] at h3
          rw [← h5, List.take_range, h4]
          congr 1
          omega
        by_cases h0 : t = 0
        · rw [if_pos h0]
          have : i = 0 := by
            apply Classical.byContradiction
            intro hne
            have := hno 0 (by rw [hi.2]; exact List.mem_range.mpr (by omega))
            simp [there, h0] at this
          rw [this]
          rfl
        · rw [if_neg h0]
          have hp' : L ≤ lk f s i := by simpa [there, h0] using hp
          have hno' : ∀ j : Int, 0 ≤ j → j < (i : Nat) → lk f s j < L := fun j j0 j1 => by
            have := hno j.toNat (by rw [hi.2]; exact List.mem_range.mpr (by omega))
            rw [there, decide_eq_false h0, Bool.false_or] at this
            have e : ((j.toNat : Nat) : Int) = j := by omega
            rw [e] at this
            have : ¬ L ≤ lk f s j := by simpa using this
            omega
          have hb1 := hL1 (by omega)
          by_cases hfs : f + s = 0
          · have := lk_none p1 hs0 hfs (k := (i : Nat))
            omega
          · rw [tu, if_neg hfs]
            have := un_least p1 hs0 (by omega) hb1.1 (j := (i : Nat)) (by omega) hp' hno'
            rw [this]
            rfl
    have q8 : (sIf (tAnd (tB (eBin oNotN (eVar 12) (eC .non))) (tB (eBin oNe (eVar 14) (eVar 12)))) (   sRet (eC (.bl false))) (   sNext)) [p0, some (.loc 0), x2, some (neg w h T), some (.tup (nI S)), some (.tup (R.map encD)), some (.int (q : Nat)), some (.int (t : Nat)), some (.lst (rowOf n (fun c => lt w T R c))), some (.bl (over false R)), some (.lst (rowOf n (fun c => lt w T (R ++ R) c))), some (.int (lk f s 30)), some (tms t L f s 30), y13, some (if t = 0 then .int 0 else tu f s L), x15, x16] [c5] = .nx [p0, some (.loc 0), x2, some (neg w h T), some (.tup (nI S)), some (.tup (R.map encD)), some (.int (q : Nat)), some (.int (t : Nat)), some (.lst (rowOf n (fun c => lt w T R c))), some (.bl (over false R)), some (.lst (rowOf n (fun c => lt w T (R ++ R) c))), some (.int (lk f s 30)), some (tms t L f s 30), y13, some (if t = 0 then .int 0 else tu f s L), x15, x16] [c5] := by
      have hn2 : ∀ μ, oNotN (tms t L f s 30) .non μ = .ok (.bl (!(tms t L f s 30).isNon)) μ := fun μ => oNotN_ev
      have ht : tms t L f s 30 = .non ∨ ∃ j, tms t L f s 30 = .int j := by
        unfold tms
        cases (List.range 30).find? (there t L f s) with
        | none => exact .inl rfl
        | some i => exact .inr ⟨_, rfl⟩
      rcases ht with ht | ⟨j, ht⟩
      · rw [ht]
        generalize (if t = 0 then D.int 0 else tu f s L) = hh at *
        generalize hN : neg w h T = N at *; generalize hdS : nI S = zS at *; generalize hdR : R.map encD = zR at *; generalize hr1 : rowOf n (fun c => lt w T R c) = r1 at *; generalize hr2 : rowOf n (fun c => lt w T (R ++ R) c) = r2 at *
        simp only [mD_ev, Res.mute_ok, sSeq_ev, sAsg_ev, eCallD_ev, eCall_ev, aCons_ev, aNil_ev, eVar_ev, List.map_cons, List.map_nil, List.length_cons, List.length_nil, List.cons_append, List.nil_append, Nat.reduceAdd, Nat.reduceSub, List.reduceReplicate, List.getElem?_cons_zero, List.getElem?_cons_succ, bok, if_true, eC_ev, sok, gVar_ev, List.set_cons_succ, List.set_cons_zero, Nat.reduceLT, eBin_ev, eLc_ev, iOf_ev, oWalk, wipeE, gTup_ev, gCons_ev, gNil_ev, eLst_ev, eTup_ev, eJoin_ev, iRange1_ev, sRet_ev, sIf_ev, tB_ev, tAnd_ev, tOr_ev, tNot_ev, eNot_ev, eAnd_ev, eIf_ev, sNext_ev, sExpr_ev, sPar_ev, sAug_ev, sAsg2_ev, sFor_ev, and_self, eThaw_ev, thaw_ev, oNotN_ev, D.isNon, Bool.not_true, Bool.false_eq_true, if_false]
      · have hj := hz j ht
        rw [ht, hj]
        generalize hN : neg w h T = N at *; generalize hdS : nI S = zS at *; generalize hdR : R.map encD = zR at *; generalize hr1 : rowOf n (fun c => lt w T R c) = r1 at *; generalize hr2 : rowOf n (fun c => lt w T (R ++ R) c) = r2 at *
        simp only [mD_ev, Res.mute_ok, sSeq_ev, sAsg_ev, eCallD_ev, eCall_ev, aCons_ev, aNil_ev, eVar_ev, List.map_cons, List.map_nil, List.length_cons, List.length_nil, List.cons_append, List.nil_append, Nat.reduceAdd, Nat.reduceSub, List.reduceReplicate, List.getElem?_cons_zero, List.getElem?_cons_succ, bok, if_true, eC_ev, sok, gVar_ev, List.set_cons_succ, List.set_cons_zero, Nat.reduceLT, eBin_ev, eLc_ev, iOf_ev, oWalk, wipeE, gTup_ev, gCons_ev, gNil_ev, eLst_ev, eTup_ev, eJoin_ev, iRange1_ev, sRet_ev, sIf_ev, tB_ev, tAnd_ev, tOr_ev, tNot_ev, eNot_ev, eAnd_ev, eIf_ev, sNext_ev, sExpr_ev, sPar_ev, sAug_ev, sAsg2_ev, sFor_ev, and_self, eThaw_ev, thaw_ev, oNotN_ev, D.isNon, Bool.not_false, oNe_int, decide_true, Bool.not_true, Bool.false_eq_true, if_false]
    have q9 : (sIf (tB (eBin oNe (eBin oIsN (eVar 14) (eC .non)) (eAnd (eBin oGt (eVar 7) (eC (.int 0))) (eBin oEq (eBin oIx (eVar 10) (eVar 6)) (eC (.int 0)))))) (   sRet (eC (.bl false))) (   sNext)) [p0, some (.loc 0), x2, some (neg w h T), some (.tup (nI S)), some (.tup (R.map encD)), some (.int (q : Nat)), some (.int (t : Nat)), some (.lst (rowOf n (fun c => lt w T R c))), some (.bl (over false R)), some (.lst (rowOf n (fun c => lt w T (R ++ R) c))), some (.int (lk f s 30)), some (tms t L f s 30), y13, some (if t = 0 then .int 0 else tu f s L), x15, x16] [c5] = .nx [p0, some (.loc 0), x2, some (neg w h T), some (.tup (nI S)), some (.tup (R.map encD)), some (.int (q : Nat)), some (.int (t : Nat)), some (.lst (rowOf n (fun c => lt w T R c))), some (.bl (over false R)), some (.lst (rowOf n (fun c => lt w T (R ++ R) c))), some (.int (lk f s 30)), some (tms t L f s 30), y13, some (if t = 0 then .int 0 else tu f s L), x15, x16] [c5] := by
      generalize htt : tms t L f s 30 = tt at *
      by_cases h0 : t = 0
      · subst h0
        rw [if_pos rfl, show ((0 : Nat) : Int) = 0 from rfl]
        generalize hN : neg w h T = N at *; generalize hdS : nI S = zS at *; generalize hdR : R.map encD = zR at *; generalize hr1 : rowOf n (fun c => lt w T R c) = r1 at *; generalize hr2 : rowOf n (fun c => lt w T (R ++ R) c) = r2 at *
        simp only [mD_ev, Res.mute_ok, sSeq_ev, sAsg_ev, eCallD_ev, eCall_ev, aCons_ev, aNil_ev, eVar_ev, List.map_cons, List.map_nil, List.length_cons, List.length_nil, List.cons_append, List.nil_append, Nat.reduceAdd, Nat.reduceSub, List.reduceReplicate, List.getElem?_cons_zero, List.getElem?_cons_succ, bok, if_true, eC_ev, sok, gVar_ev, List.set_cons_succ, List.set_cons_zero, Nat.reduceLT, eBin_ev, eLc_ev, iOf_ev, oWalk, wipeE, gTup_ev, gCons_ev, gNil_ev, eLst_ev, eTup_ev, eJoin_ev, iRange1_ev, sRet_ev, sIf_ev, tB_ev, tAnd_ev, tOr_ev, tNot_ev, eNot_ev, eAnd_ev, eIf_ev, sNext_ev, sExpr_ev, sPar_ev, sAug_ev, sAsg2_ev, sFor_ev, and_self, eThaw_ev, thaw_ev, oIsN_ev, D.isNon, oGt_int, Int.lt_irrefl, decide_false, Bool.false_eq_true, if_false, oNe_bl, bne_self_eq_false]
      · have h0' : (0 : Int) < (t : Nat) := by omega
        rw [if_neg h0, tu]
        by_cases hfs : f + s = 0
        · rw [if_pos hfs]
          generalize hN : neg w h T = N at *; generalize hdS : nI S = zS at *; generalize hdR : R.map encD = zR at *; generalize hr1 : rowOf n (fun c => lt w T R c) = r1 at *; generalize hr2 : rowOf n (fun c => lt w T (R ++ R) c) = r2 at *
          simp only [mD_ev, Res.mute_ok, sSeq_ev, sAsg_ev, eCallD_ev, eCall_ev, aCons_ev, aNil_ev, eVar_ev, List.map_cons, List.map_nil, List.length_cons, List.length_nil, List.cons_append, List.nil_append, Nat.reduceAdd, Nat.reduceSub, List.reduceReplicate, List.getElem?_cons_zero, List.getElem?_cons_succ, bok, if_true, eC_ev, sok, gVar_ev, List.set_cons_succ, List.set_cons_zero, Nat.reduceLT, eBin_ev, eLc_ev, iOf_ev, oWalk, wipeE, gTup_ev, gCons_ev, gNil_ev, eLst_ev, eTup_ev, eJoin_ev, iRange1_ev, sRet_ev, sIf_ev, tB_ev, tAnd_ev, tOr_ev, tNot_ev, eNot_ev, eAnd_ev, eIf_ev, sNext_ev, sExpr_ev, sPar_ev, sAug_ev, sAsg2_ev, sFor_ev, and_self, eThaw_ev, thaw_ev, oIsN_ev, D.isNon, oGt_int, h0', decide_true, ix2, oEq_int, hfs, oNe_bl, bne_self_eq_false, Bool.false_eq_true, if_false]
        · rw [if_neg hfs]
          generalize hN : neg w h T = N at *; generalize hdS : nI S = zS at *; generalize hdR : R.map encD = zR at *; generalize hr1 : rowOf n (fun c => lt w T R c) = r1 at *; generalize hr2 : rowOf n (fun c => lt w T (R ++ R) c) = r2 at *
          simp only [mD_ev, Res.mute_ok, sSeq_ev, sAsg_ev, eCallD_ev, eCall_ev, aCons_ev, aNil_ev, eVar_ev, List.map_cons, List.map_nil, List.length_cons, List.length_nil, List.cons_append, List.nil_append, Nat.reduceAdd, Nat.reduceSub, List.reduceReplicate, List.getElem?_cons_zero, List.getElem?_cons_succ, bok, if_true, eC_ev, sok, gVar_ev, List.set_cons_succ, List.set_cons_zero, Nat.reduceLT, eBin_ev, eLc_ev, iOf_ev, oWalk, wipeE, gTup_ev, gCons_ev, gNil_ev, eLst_ev, eTup_ev, eJoin_ev, iRange1_ev, sRet_ev, sIf_ev, tB_ev, tAnd_ev, tOr_ev, tNot_ev, eNot_ev, eAnd_ev, eIf_ev, sNext_ev, sExpr_ev, sPar_ev, sAug_ev, sAsg2_ev, sFor_ev, and_self, eThaw_ev, thaw_ev, oIsN_ev, D.isNon, oGt_int, h0', decide_true, ix2, oEq_int, hfs, decide_false, oNe_bl, bne_self_eq_false, Bool.false_eq_true, if_false]
    obtain ⟨y15, q10⟩ : ∃ y15, (sIf (tAnd (tB (eBin oNotN (eVar 14) (eC .non))) (tB (eBin oGt (eVar 14) (eC (.int 0))))) (   sSeq (sAsg (gVar 15) (eBin oIx (eVar 4) (eBin oSub (eVar 7) (eC (.int 1))))) (   sSeq (sIf (tB (eBin oLt (eCallD 4 M_light_after (aCons (eVar 3) (aCons (eVar 5) (aCons (eVar 6) (aCons (eVar 14) (aNil)))))) (eVar 15))) (   sRet (eC (.bl false))) (   sNext)) (   sIf (tB (eBin oGe (eCallD 4 M_light_after (aCons (eVar 3) (aCons (eVar 5) (aCons (eVar 6) (aCons (eBin oSub (eVar 14) (eC (.int 1))) (aNil)))))) (eVar 15))) (   sRet (eC (.bl false))) (   sNext)))) (   sNext)) [p0, some (.loc 0), x2, some (neg w h T), some (.tup (nI S)), some (.tup (R.map encD)), some (.int (q : Nat)), some (.int (t : Nat)), some (.lst (rowOf n (fun c => lt w T R c))), some (.bl (over false R)), some (.lst (rowOf n (fun c => lt w T (R ++ R) c))), some (.int (lk f s 30)), some (tms t L f s 30), y13, some (if t = 0 then .int 0 else tu f s L), x15, x16] [c5] = .nx [p0, some (.loc 0), x2, some (neg w h T), some (.tup (nI S)), some (.tup (R.map encD)), some (.int (q : Nat)), some (.int (t : Nat)), some (.lst (rowOf n (fun c => lt w T R c))), some (.bl (over false R)), some (.lst (rowOf n (fun c => lt w T (R ++ R) c))), some (.int (lk f s 30)), some (tms t L f s 30), y13, some (if t = 0 then .int 0 else tu f s L), y15, x16] [c5] := by
      generalize htt : tms t L f s 30 = tt at *
      by_cases h0 : t = 0
      · refine ⟨x15, ?_⟩
        rw [if_pos h0]
        generalize hN : neg w h T = N at *; generalize hdS : nI S = zS at *; generalize hdR : R.map encD = zR at *; generalize hr1 : rowOf n (fun c => lt w T R c) = r1 at *; generalize hr2 : rowOf n (fun c => lt w T (R ++ R) c) = r2 at *
        simp only [mD_ev, Res.mute_ok, sSeq_ev, sAsg_ev, eCallD_ev, eCall_ev, aCons_ev, aNil_ev, eVar_ev, List.map_cons, List.map_nil, List.length_cons, List.length_nil, List.cons_append, List.nil_append, Nat.reduceAdd, Nat.reduceSub, List.reduceReplicate, List.getElem?_cons_zero, List.getElem?_cons_succ, bok, if_true, eC_ev, sok, gVar_ev, List.set_cons_succ, List.set_cons_zero, Nat.reduceLT, eBin_ev, eLc_ev, iOf_ev, oWalk, wipeE, gTup_ev, gCons_ev, gNil_ev, eLst_ev, eTup_ev, eJoin_ev, iRange1_ev, sRet_ev, sIf_ev, tB_ev, tAnd_ev, tOr_ev, tNot_ev, eNot_ev, eAnd_ev, eIf_ev, sNext_ev, sExpr_ev, sPar_ev, sAug_ev, sAsg2_ev, sFor_ev, and_self, eThaw_ev, thaw_ev, oNotN_ev, D.isNon, Bool.not_false, oGt_int, Int.lt_irrefl, decide_false, Bool.false_eq_true, if_false]
      · rw [if_neg h0, tu]
        by_cases hfs : f + s = 0
        · refine ⟨x15, ?_⟩
          rw [if_pos hfs]
          generalize hN : neg w h T = N at *; generalize hdS : nI S = zS at *; generalize hdR : R.map encD = zR at *; generalize hr1 : rowOf n (fun c => lt w T R c) = r1 at *; generalize hr2 : rowOf n (fun c => lt w T (R ++ R) c) = r2 at *
          simp only [mD_ev, Res.mute_ok, sSeq_ev, sAsg_ev, eCallD_ev, eCall_ev, aCons_ev, aNil_ev, eVar_ev, List.map_cons, List.map_nil, List.length_cons, List.length_nil, List.cons_append, List.nil_append, Nat.reduceAdd, Nat.reduceSub, List.reduceReplicate, List.getElem?_cons_zero, List.getElem?_cons_succ, bok, if_true, eC_ev, sok, gVar_ev, List.set_cons_succ, List.set_cons_zero, Nat.reduceLT, eBin_ev, eLc_ev, iOf_ev, oWalk, wipeE, gTup_ev, gCons_ev, gNil_ev, eLst_ev, eTup_ev, eJoin_ev, iRange1_ev, sRet_ev, sIf_ev, tB_ev, tAnd_ev, tOr_ev, tNot_ev, eNot_ev, eAnd_ev, eIf_ev, sNext_ev, sExpr_ev, sPar_ev, sAug_ev, sAsg2_ev, sFor_ev, and_self, eThaw_ev, thaw_ev, oNotN_ev, D.isNon, Bool.not_true, Bool.false_eq_true, if_false]
        · rw [if_neg hfs]
          have hb1 := hL1 (by omega)
          obtain ⟨u1, u2, u3, u4⟩ := un_ok p1 hs0 (show 0 < f + s by omega) hb1.1
          rw [show 2 * ((L - 1) / (f + s)) + (if (L - 1) % (f + s) < f then 1 else 2) = un f s L from rfl]
          generalize un f s L = u at *
          have hx' := hx (by omega)
          have a1 := hle u (by omega) (by omega)
          have a2 := hle (u - 1) (by omega) (by omega)
          have u0 : (0 : Int) < u := by omega
          have v1 : ¬ lk f s u < L := by omega
          have v2 : ¬ L ≤ lk f s (u - 1) := by omega
          refine ⟨some (.int L), ?_⟩
          generalize hN : neg w h T = N at *; generalize hdS : nI S = zS at *; generalize hdR : R.map encD = zR at *; generalize hr1 : rowOf n (fun c => lt w T R c) = r1 at *; generalize hr2 : rowOf n (fun c => lt w T (R ++ R) c) = r2 at *
          simp only [mD_ev, Res.mute_ok, sSeq_ev, sAsg_ev, eCallD_ev, eCall_ev, aCons_ev, aNil_ev, eVar_ev, List.map_cons, List.map_nil, List.length_cons, List.length_nil, List.cons_append, List.nil_append, Nat.reduceAdd, Nat.reduceSub, List.reduceReplicate, List.getElem?_cons_zero, List.getElem?_cons_succ, bok, if_true, eC_ev, sok, gVar_ev, List.set_cons_succ, List.set_cons_zero, Nat.reduceLT, eBin_ev, eLc_ev, iOf_ev, oWalk, wipeE, gTup_ev, gCons_ev, gNil_ev, eLst_ev, eTup_ev, eJoin_ev, iRange1_ev, sRet_ev, sIf_ev, tB_ev, tAnd_ev, tOr_ev, tNot_ev, eNot_ev, eAnd_ev, eIf_ev, sNext_ev, sExpr_ev, sPar_ev, sAug_ev, sAsg2_ev, sFor_ev, and_self, eThaw_ev, thaw_ev, oNotN_ev, D.isNon, Bool.not_false, oGt_int, u0, decide_true, oSub_int, hx', a1, oLt_int, v1, decide_false, Bool.false_eq_true, if_false, a2, oGe_int, v2]
    have p14 : ∀ μ, oPow (.int 10) (.int 14) μ = .ok (.int 100000000000000) μ := fun μ => by rfl
    have m2 : ∀ x μ, oMul (.int 2) (.int x) μ = .ok (.int (2 * x)) μ := fun x μ => oMul_int (by simp [Sm])
    have mf : ∀ x μ, oMul (.int (100000000000000 + (v : Nat))) (.int x) μ = .ok (.int ((100000000000000 + (v : Nat)) * x)) μ := fun x μ => oMul_int (by
      have : Sm (100000000000000 + (v : Nat)) = true := by simp [Sm]; omega
      simp [this])
    have b1 := hle (2 * (100000000000000 + (v : Nat))) (by omega) (by omega)
    have b2 := hle (2 * (100000000000000 + (v : Nat)) + 1) (by omega) (by omega)
    rw [lk_even] at b1
    rw [lk_odd] at b2
    generalize htt : tms t L f s 30 = tt at *
    generalize hhh : (if t = 0 then D.int 0 else tu f s L) = hh at *
    have q11 : (sAsg (gVar 16) (eBin oAdd (eBin oPow (eC (.int 10)) (eC (.int 14))) (eCallD 2 M_l_taken (aCons (eVar 1) (aCons (eC (.int 999)) (aNil)))))) [p0, some (.loc 0), x2, some (neg w h T), some (.tup (nI S)), some (.tup (R.map encD)), some (.int (q : Nat)), some (.int (t : Nat)), some (.lst (rowOf n (fun c => lt w T R c))), some (.bl (over false R)), some (.lst (rowOf n (fun c => lt w T (R ++ R) c))), some (.int (lk f s 30)), some tt, y13, some hh, y15, x16] [c5] = .nx [p0, some (.loc 0), x2, some (neg w h T), some (.tup (nI S)), some (.tup (R.map encD)), some (.int (q : Nat)), some (.int (t : Nat)), some (.lst (rowOf n (fun c => lt w T R c))), some (.bl (over false R)), some (.lst (rowOf n (fun c => lt w T (R ++ R) c))), some (.int (lk f s 30)), some tt, y13, some hh, y15, some (.int (100000000000000 + (v : Nat)))] [c6] := by
      generalize hN : neg w h T = N at *
      generalize hdS : nI S = zS at *
      generalize hdR : R.map encD = zR at *
      generalize hr1 : rowOf n (fun c => lt w T R c) = r1 at *
      generalize hr2 : rowOf n (fun c => lt w T (R ++ R) c) = r2 at *
      simp only [mD_ev, Res.mute_ok, sSeq_ev, sAsg_ev, eCallD_ev, eCall_ev, aCons_ev, aNil_ev, eVar_ev, List.map_cons, List.map_nil, List.length_cons, List.length_nil, List.cons_append, List.nil_append, Nat.reduceAdd, Nat.reduceSub, List.reduceReplicate, List.getElem?_cons_zero, List.getElem?_cons_succ, bok, if_true, eC_ev, sok, gVar_ev, List.set_cons_succ, List.set_cons_zero, Nat.reduceLT, eBin_ev, eLc_ev, iOf_ev, oWalk, wipeE, gTup_ev, gCons_ev, gNil_ev, eLst_ev, eTup_ev, eJoin_ev, iRange1_ev, sRet_ev, sIf_ev, tB_ev, tAnd_ev, tOr_ev, tNot_ev, eNot_ev, eAnd_ev, eIf_ev, sNext_ev, sExpr_ev, sPar_ev, sAug_ev, sAsg2_ev, sFor_ev, and_self, eThaw_ev, thaw_ev, p14, e6, oAdd_int]
    have q12 : (sIf (tB (eBin oNe (eCallD 4 M_light_after (aCons (eVar 3) (aCons (eVar 5) (aCons (eVar 6) (aCons (eBin oMul (eC (.int 2)) (eVar 16)) (aNil)))))) (eBin oMul (eVar 16) (eBin oIx (eVar 10) (eVar 6))))) (   sRet (eC (.bl false))) (   sNext)) [p0, some (.loc 0), x2, some (neg w h T), some (.tup (nI S)), some (.tup (R.map encD)), some (.int (q : Nat)), some (.int (t : Nat)), some (.lst (rowOf n (fun c => lt w T R c))), some (.bl (over false R)), some (.lst (rowOf n (fun c => lt w T (R ++ R) c))), some (.int (lk f s 30)), some tt, y13, some hh, y15, some (.int (100000000000000 + (v : Nat)))] [c6] = .nx [p0, some (.loc 0), x2, some (neg w h T), some (.tup (nI S)), some (.tup (R.map encD)), some (.int (q : Nat)), some (.int (t : Nat)), some (.lst (rowOf n (fun c => lt w T R c))), some (.bl (over false R)), some (.lst (rowOf n (fun c => lt w T (R ++ R) c))), some (.int (lk f s 30)), some tt, y13, some hh, y15, some (.int (100000000000000 + (v : Nat)))] [c6] := by
      generalize hN : neg w h T = N at *
      generalize hdS : nI S = zS at *
      generalize hdR : R.map encD = zR at *
      generalize hr1 : rowOf n (fun c => lt w T R c) = r1 at *
      generalize hr2 : rowOf n (fun c => lt w T (R ++ R) c) = r2 at *
      simp only [mD_ev, Res.mute_ok, sSeq_ev, sAsg_ev, eCallD_ev, eCall_ev, aCons_ev, aNil_ev, eVar_ev, List.map_cons, List.map_nil, List.length_cons, List.length_nil, List.cons_append, List.nil_append, Nat.reduceAdd, Nat.reduceSub, List.reduceReplicate, List.getElem?_cons_zero, List.getElem?_cons_succ, bok, if_true, eC_ev, sok, gVar_ev, List.set_cons_succ, List.set_cons_zero, Nat.reduceLT, eBin_ev, eLc_ev, iOf_ev, oWalk, wipeE, gTup_ev, gCons_ev, gNil_ev, eLst_ev, eTup_ev, eJoin_ev, iRange1_ev, sRet_ev, sIf_ev, tB_ev, tAnd_ev, tOr_ev, tNot_ev, eNot_ev, eAnd_ev, eIf_ev, sNext_ev, sExpr_ev, sPar_ev, sAug_ev, sAsg2_ev, sFor_ev, and_self, eThaw_ev, thaw_ev, m2, b1, ix2, mf, oNe_int, decide_true, Bool.not_true, Bool.false_eq_true, if_false]
    have q13 : (sIf (tB (eBin oNe (eCallD 4 M_light_after (aCons (eVar 3) (aCons (eVar 5) (aCons (eVar 6) (aCons (eBin oAdd (eBin oMul (eC (.int 2)) (eVar 16)) (eC (.int 1))) (aNil)))))) (eBin oAdd (eBin oMul (eVar 16) (eBin oIx (eVar 10) (eVar 6))) (eBin oIx (eVar 8) (eVar 6))))) (   sRet (eC (.bl false))) (   sNext)) [p0, some (.loc 0), x2, some (neg w h T), some (.tup (nI S)), some (.tup (R.map encD)), some (.int (q : Nat)), some (.int (t : Nat)), some (.lst (rowOf n (fun c => lt w T R c))), some (.bl (over false R)), some (.lst (rowOf n (fun c => lt w T (R ++ R) c))), some (.int (lk f s 30)), some tt, y13, some hh, y15, some (.int (100000000000000 + (v : Nat)))] [c6] = .nx [p0, some (.loc 0), x2, some (neg w h T), some (.tup (nI S)), some (.tup (R.map encD)), some (.int (q : Nat)), some (.int (t : Nat)), some (.lst (rowOf n (fun c => lt w T R c))), some (.bl (over false R)), some (.lst (rowOf n (fun c => lt w T (R ++ R) c))), some (.int (lk f s 30)), some tt, y13, some hh, y15, some (.int (100000000000000 + (v : Nat)))] [c6] := by
      generalize hN : neg w h T = N at *
      generalize hdS : nI S = zS at *
      generalize hdR : R.map encD = zR at *
      generalize hr1 : rowOf n (fun c => lt w T R c) = r1 at *
      generalize hr2 : rowOf n (fun c => lt w T (R ++ R) c) = r2 at *
      simp only [mD_ev, Res.mute_ok, sSeq_ev, sAsg_ev, eCallD_ev, eCall_ev, aCons_ev, aNil_ev, eVar_ev, List.map_cons, List.map_nil, List.length_cons, List.length_nil, List.cons_append, List.nil_append, Nat.reduceAdd, Nat.reduceSub, List.reduceReplicate, List.getElem?_cons_zero, List.getElem?_cons_succ, bok, if_true, eC_ev, sok, gVar_ev, List.set_cons_succ, List.set_cons_zero, Nat.reduceLT, eBin_ev, eLc_ev, iOf_ev, oWalk, wipeE, gTup_ev, gCons_ev, gNil_ev, eLst_ev, eTup_ev, eJoin_ev, iRange1_ev, sRet_ev, sIf_ev, tB_ev, tAnd_ev, tOr_ev, tNot_ev, eNot_ev, eAnd_ev, eIf_ev, sNext_ev, sExpr_ev, sPar_ev, sAug_ev, sAsg2_ev, sFor_ev, and_self, eThaw_ev, thaw_ev, m2, oAdd_int, b2, ix2, ix1, mf, oNe_int, decide_true, Bool.not_true, Bool.false_eq_true, if_false]
    refine ⟨some (neg w h T), some (.tup (nI S)), some (.tup (R.map encD)), some (.int (q : Nat)), some (.int (t : Nat)), some (.lst (rowOf n (fun c => lt w T R c))), some (.bl (over false R)), some (.lst (rowOf n (fun c => lt w T (R ++ R) c))), some (.int (lk f s 30)), some tt, y13, some hh, y15, some (.int (100000000000000 + (v : Nat))), c6, h6, ?_⟩
    refine (seq_nx q0).trans ?_
    refine (seq_nx q1).trans ?_
    refine (seq_nx q2).trans ?_
    refine (seq_nx q3).trans ?_
    refine (seq_nx q4).trans ?_
    refine (seq_nx q5).trans ?_
    refine (seq_nx q6).trans ?_
    refine (seq_nx q7).trans ?_
    refine (seq_nx q8).trans ?_
    refine (seq_nx q9).trans ?_
    refine (seq_nx q10).trans ?_
    refine (seq_nx q11).trans ?_
    refine (seq_nx q12).trans ?_
    exact q13
end K34

set_option Elab.async false
set_option linter.all false
set_option maxRecDepth 100000
set_option autoImplicit false
namespace K34
open PySem L2 Fw Pg

theorem turns {p0 : Option D} {items : List D} (ts : List D) : ∀ (c : Cell) (x2 x3 x4 x5 x6 x7 x8 x9 x10 x11 x12 x13 x14 x15 x16 : Option D), Row0 c → ∃ (ρ : Fw.Env) (c' : Cell), forL items none (gVar 2) (   sSeq (sPar 3 4 (eCallD 2 M_l_negative (aCons (eVar 1) (aCons (eC (.int 3)) (aNil)))) (eCallD 1 M_l_steps (aCons (eVar 1) (aNil)))) (   sSeq (sPar 5 6 (eCallD 3 M_l_recipe (aCons (eVar 1) (aCons (eVar 3) (aCons (eC (.int 5)) (aNil))))) (eCallD 2 M_l_taken (aCons (eVar 1) (aCons (eCall (cLenO 0 M_Negativedd__lendd_) (aCons (eVar 3) (aNil))) (aNil))))) (   sSeq (sAsg (gVar 7) (eCallD 2 M_l_taken (aCons (eVar 1) (aCons (eBin oAdd (eCall (cLenO 0 M_Negativedd__lendd_) (aCons (eVar 4) (aNil))) (eC (.int 1))) (aNil))))) (   sSeq (sAsg (gTup 2 (gCons (gVar 8) (gCons (gVar 9) (gNil)))) (eCallD 2 M_l_lights (aCons (eVar 3) (aCons (eVar 5) (aNil))))) (   sSeq (sAsg (gVar 10) (eBin oIx (eCallD 2 M_l_lights (aCons (eVar 3) (aCons (eBin oAdd (eVar 5) (eVar 5)) (aNil)))) (eC (.int 0)))) (   sSeq (sAsg (gTup 2 (gCons (gVar 11) (gCons (gVar 12) (gNil)))) (eTup (aCons (eC (.int 0)) (aCons (eC .non) (aNil))))) (   sSeq (sFor (iRange1 (eC (.int 30))) (gVar 13) (   sSeq (sIf (tB (eBin oNe (eCallD 4 M_light_after (aCons (eVar 3) (aCons (eVar 5) (aCons (eVar 6) (aCons (eVar 13) (aNil)))))) (eVar 11))) (   sRet (eC (.bl false))) (   sNext)) (   sSeq (sIf (tAnd (tB (eBin oIsN (eVar 12) (eC .non))) (tOr (tB (eBin oEq (eVar 7) (eC (.int 0)))) (tB (eBin oGe (eVar 11) (eBin oIx (eVar 4) (eBin oSub (eVar 7) (eC (.int 1)))))))) (   sAsg (gVar 12) (eVar 13)) (   sNext)) (   sSeq (sAsg (gVar 11) (eBin oAdd (eVar 11) (eBin oIx (eVar 8) (eVar 6)))) (   sIf (tB (eBin oEq (eBin oMod (eCall cInt (aCons (eVar 13) (aNil))) (eC (.int 2))) (eC (.int 1)))) (   sAsg (gVar 11) (eBin oSub (eBin oAdd (eVar 11) (eBin oIx (eVar 10) (eVar 6))) (eBin oMul (eC (.int 2)) (eBin oIx (eVar 8) (eVar 6))))) (   sNext)))))) (   sSeq (sAsg (gVar 14) (eCallD 5 M_times_until (aCons (eVar 3) (aCons (eVar 4) (aCons (eVar 5) (aCons (eVar 6) (aCons (eVar 7) (aNil)))))))) (   sSeq (sIf (tAnd (tB (eBin oNotN (eVar 12) (eC .non))) (tB (eBin oNe (eVar 14) (eVar 12)))) (   sRet (eC (.bl false))) (   sNext)) (   sSeq (sIf (tB (eBin oNe (eBin oIsN (eVar 14) (eC .non)) (eAnd (eBin oGt (eVar 7) (eC (.int 0))) (eBin oEq (eBin oIx (eVar 10) (eVar 6)) (eC (.int 0)))))) (   sRet (eC (.bl false))) (   sNext)) (   sSeq (sIf (tAnd (tB (eBin oNotN (eVar 14) (eC .non))) (tB (eBin oGt (eVar 14) (eC (.int 0))))) (   sSeq (sAsg (gVar 15) (eBin oIx (eVar 4) (eBin oSub (eVar 7) (eC (.int 1))))) (   sSeq (sIf (tB (eBin oLt (eCallD 4 M_light_after (aCons (eVar 3) (aCons (eVar 5) (aCons (eVar 6) (aCons (eVar 14) (aNil)))))) (eVar 15))) (   sRet (eC (.bl false))) (   sNext)) (   sIf (tB (eBin oGe (eCallD 4 M_light_after (aCons (eVar 3) (aCons (eVar 5) (aCons (eVar 6) (aCons (eBin oSub (eVar 14) (eC (.int 1))) (aNil)))))) (eVar 15))) (   sRet (eC (.bl false))) (   sNext)))) (   sNext)) (   sSeq (sAsg (gVar 16) (eBin oAdd (eBin oPow (eC (.int 10)) (eC (.int 14))) (eCallD 2 M_l_taken (aCons (eVar 1) (aCons (eC (.int 999)) (aNil)))))) (   sSeq (sIf (tB (eBin oNe (eCallD 4 M_light_after (aCons (eVar 3) (aCons (eVar 5) (aCons (eVar 6) (aCons (eBin oMul (eC (.int 2)) (eVar 16)) (aNil)))))) (eBin oMul (eVar 16) (eBin oIx (eVar 10) (eVar 6))))) (   sRet (eC (.bl false))) (   sNext)) (   sIf (tB (eBin oNe (eCallD 4 M_light_after (aCons (eVar 3) (aCons (eVar 5) (aCons (eVar 6) (aCons (eBin oAdd (eBin oMul (eC (.int 2)) (eVar 16)) (eC (.int 1))) (aNil)))))) (eBin oAdd (eBin oMul (eVar 16) (eBin oIx (eVar 10) (eVar 6))) (eBin oIx (eVar 8) (eVar 6))))) (   sRet (eC (.bl false))) (   sNext))))))))))))))) ts [p0, some (.loc 0), x2, x3, x4, x5, x6, x7, x8, x9, x10, x11, x12, x13, x14, x15, x16] [c] = .nx ρ [c'] := by
  induction ts with
  | nil => exact fun c x2 x3 x4 x5 x6 x7 x8 x9 x10 x11 x12 x13 x14 x15 x16 h => ⟨_, c, by rw [for_nil]⟩
  | cons t ts ih =>
    intro c x2 x3 x4 x5 x6 x7 x8 x9 x10 x11 x12 x13 x14 x15 x16 hc
    obtain ⟨y3, y4, y5, y6, y7, y8, y9, y10, y11, y12, y13, y14, y15, y16, c1, h1, e1⟩ := turn (p0 := p0) (x2 := some t) hc x3 x4 x5 x6 x7 x8 x9 x10 x11 x12 x13 x14 x15 x16
    obtain ⟨ρ, c', e⟩ := ih c1 (some t) y3 y4 y5 y6 y7 y8 y9 y10 y11 y12 y13 y14 y15 y16 h1
    exact ⟨ρ, c', (for_step (by simp only [mD_ev, Res.mute_ok, sSeq_ev, sAsg_ev, eCallD_ev, eCall_ev, aCons_ev, aNil_ev, eVar_ev, List.map_cons, List.map_nil, List.length_cons, List.length_nil, List.cons_append, List.nil_append, Nat.reduceAdd, Nat.reduceSub, List.reduceReplicate, List.getElem?_cons_zero, List.getElem?_cons_succ, bok, if_true, eC_ev, sok, gVar_ev, List.set_cons_succ, List.set_cons_zero, Nat.reduceLT, eBin_ev, eLc_ev, iOf_ev, oWalk, wipeE, gTup_ev, gCons_ev, gNil_ev, eLst_ev, eTup_ev, eJoin_ev, iRange1_ev, sRet_ev, sIf_ev, tB_ev, tAnd_ev, tOr_ev, tNot_ev, eNot_ev, eAnd_ev, eIf_ev, sNext_ev, sExpr_ev, sPar_ev, sAug_ev, sAsg2_ev, sFor_ev, and_self, eThaw_ev, thaw_ev] <;> rfl) e1).trans e⟩
theorem law_true {ns : List Int} (hn : ns.length ≤ 63) : ∃ μ, M_law [.flst ns] [] = .ok (.bl true) μ := by
  obtain ⟨ρ, c', e⟩ := turns (p0 := some (.flst ns)) (items := rg 4) (rg 4) (.lst [.flst ns, .int 0, .int 0, .int 0]) none none none none none none none none none none none none none none none ⟨ns, 0, 0, 0, hn, rfl, Int.le_refl 0⟩
  have hL4 : (4 : Nat) ≤ LIM := by decide
  have rr : ∀ μ, rangeR (.int 4) μ = .ok (rg 4, none) μ := fun μ => rangeR_nat (n := 4) (by omega)
  have q0 : (sAsg (gVar 1) (eThaw (eLst (aCons (eVar 0) (aCons (eC (.int 0)) (aCons (eC (.int 0)) (aCons (eC (.int 0)) (aNil)))))))) [some (.flst ns), none, none, none, none, none, none, none, none, none, none, none, none, none, none, none, none] [] = .nx [some (.flst ns), some (.loc 0), none, none, none, none, none, none, none, none, none, none, none, none, none, none, none] [.lst [.flst ns, .int 0, .int 0, .int 0]] := by
    simp only [mD_ev, Res.mute_ok, sSeq_ev, sAsg_ev, eCallD_ev, eCall_ev, aCons_ev, aNil_ev, eVar_ev, List.map_cons, List.map_nil, List.length_cons, List.length_nil, List.cons_append, List.nil_append, Nat.reduceAdd, Nat.reduceSub, List.reduceReplicate, List.getElem?_cons_zero, List.getElem?_cons_succ, bok, if_true, eC_ev, sok, gVar_ev, List.set_cons_succ, List.set_cons_zero, Nat.reduceLT, eBin_ev, eLc_ev, iOf_ev, oWalk, wipeE, gTup_ev, gCons_ev, gNil_ev, eLst_ev, eTup_ev, eJoin_ev, iRange1_ev, sRet_ev, sIf_ev, tB_ev, tAnd_ev, tOr_ev, tNot_ev, eNot_ev, eAnd_ev, eIf_ev, sNext_ev, sExpr_ev, sPar_ev, sAug_ev, sAsg2_ev, sFor_ev, and_self, eThaw_ev, thaw_ev, hL4]
  have q1 : (sFor (iRange1 (eC (.int 4))) (gVar 2) (   sSeq (sPar 3 4 (eCallD 2 M_l_negative (aCons (eVar 1) (aCons (eC (.int 3)) (aNil)))) (eCallD 1 M_l_steps (aCons (eVar 1) (aNil)))) (   sSeq (sPar 5 6 (eCallD 3 M_l_recipe (aCons (eVar 1) (aCons (eVar 3) (aCons (eC (.int 5)) (aNil))))) (eCallD 2 M_l_taken (aCons (eVar 1) (aCons (eCall (cLenO 0 M_Negativedd__lendd_) (aCons (eVar 3) (aNil))) (aNil))))) (   sSeq (sAsg (gVar 7) (eCallD 2 M_l_taken (aCons (eVar 1) (aCons (eBin oAdd (eCall (cLenO 0 M_Negativedd__lendd_) (aCons (eVar 4) (aNil))) (eC (.int 1))) (aNil))))) (   sSeq (sAsg (gTup 2 (gCons (gVar 8) (gCons (gVar 9) (gNil)))) (eCallD 2 M_l_lights (aCons (eVar 3) (aCons (eVar 5) (aNil))))) (   sSeq (sAsg (gVar 10) (eBin oIx (eCallD 2 M_l_lights (aCons (eVar 3) (aCons (eBin oAdd (eVar 5) (eVar 5)) (aNil)))) (eC (.int 0)))) (   sSeq (sAsg (gTup 2 (gCons (gVar 11) (gCons (gVar 12) (gNil)))) (eTup (aCons (eC (.int 0)) (aCons (eC .non) (aNil))))) (   sSeq (sFor (iRange1 (eC (.int 30))) (gVar 13) (   sSeq (sIf (tB (eBin oNe (eCallD 4 M_light_after (aCons (eVar 3) (aCons (eVar 5) (aCons (eVar 6) (aCons (eVar 13) (aNil)))))) (eVar 11))) (   sRet (eC (.bl false))) (   sNext)) (   sSeq (sIf (tAnd (tB (eBin oIsN (eVar 12) (eC .non))) (tOr (tB (eBin oEq (eVar 7) (eC (.int 0)))) (tB (eBin oGe (eVar 11) (eBin oIx (eVar 4) (eBin oSub (eVar 7) (eC (.int 1)))))))) (   sAsg (gVar 12) (eVar 13)) (   sNext)) (   sSeq (sAsg (gVar 11) (eBin oAdd (eVar 11) (eBin oIx (eVar 8) (eVar 6)))) (   sIf (tB (eBin oEq (eBin oMod (eCall cInt (aCons (eVar 13) (aNil))) (eC (.int 2))) (eC (.int 1)))) (   sAsg (gVar 11) (eBin oSub (eBin oAdd (eVar 11) (eBin oIx (eVar 10) (eVar 6))) (eBin oMul (eC (.int 2)) (eBin oIx (eVar 8) (eVar 6))))) (   sNext)))))) (   sSeq (sAsg (gVar 14) (eCallD 5 M_times_until (aCons (eVar 3) (aCons (eVar 4) (aCons (eVar 5) (aCons (eVar 6) (aCons (eVar 7) (aNil)))))))) (   sSeq (sIf (tAnd (tB (eBin oNotN (eVar 12) (eC .non))) (tB (eBin oNe (eVar 14) (eVar 12)))) (   sRet (eC (.bl false))) (   sNext)) (   sSeq (sIf (tB (eBin oNe (eBin oIsN (eVar 14) (eC .non)) (eAnd (eBin oGt (eVar 7) (eC (.int 0))) (eBin oEq (eBin oIx (eVar 10) (eVar 6)) (eC (.int 0)))))) (   sRet (eC (.bl false))) (   sNext)) (   sSeq (sIf (tAnd (tB (eBin oNotN (eVar 14) (eC .non))) (tB (eBin oGt (eVar 14) (eC (.int 0))))) (   sSeq (sAsg (gVar 15) (eBin oIx (eVar 4) (eBin oSub (eVar 7) (eC (.int 1))))) (   sSeq (sIf (tB (eBin oLt (eCallD 4 M_light_after (aCons (eVar 3) (aCons (eVar 5) (aCons (eVar 6) (aCons (eVar 14) (aNil)))))) (eVar 15))) (   sRet (eC (.bl false))) (   sNext)) (   sIf (tB (eBin oGe (eCallD 4 M_light_after (aCons (eVar 3) (aCons (eVar 5) (aCons (eVar 6) (aCons (eBin oSub (eVar 14) (eC (.int 1))) (aNil)))))) (eVar 15))) (   sRet (eC (.bl false))) (   sNext)))) (   sNext)) (   sSeq (sAsg (gVar 16) (eBin oAdd (eBin oPow (eC (.int 10)) (eC (.int 14))) (eCallD 2 M_l_taken (aCons (eVar 1) (aCons (eC (.int 999)) (aNil)))))) (   sSeq (sIf (tB (eBin oNe (eCallD 4 M_light_after (aCons (eVar 3) (aCons (eVar 5) (aCons (eVar 6) (aCons (eBin oMul (eC (.int 2)) (eVar 16)) (aNil)))))) (eBin oMul (eVar 16) (eBin oIx (eVar 10) (eVar 6))))) (   sRet (eC (.bl false))) (   sNext)) (   sIf (tB (eBin oNe (eCallD 4 M_light_after (aCons (eVar 3) (aCons (eVar 5) (aCons (eVar 6) (aCons (eBin oAdd (eBin oMul (eC (.int 2)) (eVar 16)) (eC (.int 1))) (aNil)))))) (eBin oAdd (eBin oMul (eVar 16) (eBin oIx (eVar 10) (eVar 6))) (eBin oIx (eVar 8) (eVar 6))))) (   sRet (eC (.bl false))) (   sNext)))))))))))))))) [some (.flst ns), some (.loc 0), none, none, none, none, none, none, none, none, none, none, none, none, none, none, none] [.lst [.flst ns, .int 0, .int 0, .int 0]] = .nx ρ [c'] := by
    rw [sFor_ev, show (iRange1 (eC (.int 4))) [some (.flst ns), some (.loc 0), none, none, none, none, none, none, none, none, none, none, none, none, none, none, none] [.lst [.flst ns, .int 0, .int 0, .int 0]] = .ok (rg 4, none) [.lst [.flst ns, .int 0, .int 0, .int 0]] by simp only [mD_ev, Res.mute_ok, sSeq_ev, sAsg_ev, eCallD_ev, eCall_ev, aCons_ev, aNil_ev, eVar_ev, List.map_cons, List.map_nil, List.length_cons, List.length_nil, List.cons_append, List.nil_append, Nat.reduceAdd, Nat.reduceSub, List.reduceReplicate, List.getElem?_cons_zero, List.getElem?_cons_succ, bok, if_true, eC_ev, sok, gVar_ev, List.set_cons_succ, List.set_cons_zero, Nat.reduceLT, eBin_ev, eLc_ev, iOf_ev, oWalk, wipeE, gTup_ev, gCons_ev, gNil_ev, eLst_ev, eTup_ev, eJoin_ev, iRange1_ev, sRet_ev, sIf_ev, tB_ev, tAnd_ev, tOr_ev, tNot_ev, eNot_ev, eAnd_ev, eIf_ev, sNext_ev, sExpr_ev, sPar_ev, sAug_ev, sAsg2_ev, sFor_ev, and_self, eThaw_ev, thaw_ev, rr], rS_ok]
    exact e
  have q : mD 17 B_law [.flst ns] [] = .ok (.bl true) [c'] := by
    unfold B_law
    rw [mD_ev]
    show (match (sSeq _ (sSeq _ _)) [some (.flst ns), none, none, none, none, none, none, none, none, none, none, none, none, none, none, none, none] [] with | .rt d μ' => Res.ok d μ' | .nx _ μ' => Res.ok D.non μ' | .er k ns es _ μ' => Res.err k ns es μ' | _ => Res.stuck) = _
    rw [seq_nx q0, seq_nx q1, sRet_ev, eC_ev, rS_ok]
  refine ⟨[], ?_⟩
  unfold M_law
  rw [mDf_ev, q]
  rfl
end K34

set_option Elab.async false
set_option linter.all false
set_option maxRecDepth 100000
set_option autoImplicit false
namespace K34
open PySem L2 Fw Pg

def top (i : Nat) : Stmt := PySem.Challenge.pw_maskedprints_k34_recipes_again_and_again.main.body.getD i (.Pass ⟨0, 0, 0, 0⟩)
abbrev s_Negativedd__lendd_ : Stmt := inClass (top 40) 4
abbrev s_Negative_densities : Stmt := inClass (top 40) 3
abbrev s_Negative_width : Stmt := inClass (top 40) 1
abbrev s_l_open : Stmt := top 47
abbrev s_l_lights : Stmt := top 48
abbrev s_is_number : Stmt := top 17
abbrev s_wrong_side : Stmt := top 19
abbrev s_wrong_part : Stmt := top 41
abbrev s_Negativedd__initdd_ : Stmt := inClass (top 40) 0
abbrev s_l_taken : Stmt := top 43
abbrev s_l_negative : Stmt := top 44
abbrev s_l_deed : Stmt := top 46
abbrev s_l_recipe : Stmt := top 50
abbrev s_l_steps : Stmt := top 45
abbrev s_check_cell : Stmt := top 22
abbrev s_check_number : Stmt := top 23
abbrev s_ascends : Stmt := top 18
abbrev s_is_mask : Stmt := top 24
abbrev s_is_deed : Stmt := top 25
abbrev s_check_recipe : Stmt := top 26
abbrev s_light_by_times : Stmt := top 37
abbrev s_light_by : Stmt := top 30
abbrev s_mirrored : Stmt := top 27
abbrev s_ticks_of : Stmt := top 28
abbrev s_open_pair : Stmt := top 29
abbrev s_light_of : Stmt := top 31
abbrev s_light_turns : Stmt := top 36
abbrev s_light_after : Stmt := top 34
abbrev s_are_steps : Stmt := top 20
abbrev s_check_steps : Stmt := top 21
abbrev s_times_to : Stmt := top 38
abbrev s_times_until : Stmt := top 35
abbrev s_law : Stmt := top 51
structure Tx (P : Program) (W : World) (K : PySem.W.Frag) (cls : Nat → Option Addr) (mg : Str → Option Value) (C_Negative : Addr) (C_InvalidNumber : Addr) (C_InvalidSteps : Addr) (C_UnknownCell : Addr) : Prop where
  n_all : mg "all" = none
  n_bool : mg "bool" = none
  n_divmod : mg "divmod" = none
  n_enumerate : mg "enumerate" = none
  n_int : mg "int" = none
  n_isinstance : mg "isinstance" = none
  n_len : mg "len" = none
  n_max : mg "max" = none
  n_range : mg "range" = none
  n_tuple : mg "tuple" = none
  c_DENSITIES : Gv K cls mg "DENSITIES" (.str (lit "01234"))
  c_FLIP : Gv K cls mg "FLIP" (.tup [.str (lit "flip")])
  c_GREATEST_STEP : Gv K cls mg "GREATEST_STEP" (.int 9999)
  c_MOST_CELLS : Gv K cls mg "MOST_CELLS" (.int 9)
  c_MOST_DEEDS : Gv K cls mg "MOST_DEEDS" (.int 8)
  c_MOST_SIDE : Gv K cls mg "MOST_SIDE" (.int 4)
  c_MOST_STEPS : Gv K cls mg "MOST_STEPS" (.int 5)
  c_MOST_TICKS : Gv K cls mg "MOST_TICKS" (.int 99)
  c_MOST_TIMES : Gv K cls mg "MOST_TIMES" (.int 1000000000000000)
  c_UNITS : Gv K cls mg "UNITS" (.tup [.int 16, .int 8, .int 4, .int 2, .int 1])
  k_Negative : Kl1 K cls 0 C_Negative
  m_Negative : mg "Negative" = some (.ref C_Negative)
  f_Negative_columns : NoAttr K C_Negative "columns"
  f_Negative_figures : NoAttr K C_Negative "figures"
  f_Negative_lines : NoAttr K C_Negative "lines"
  e_InvalidNumber : Ek0 K cls mg "InvalidNumber" 106 C_InvalidNumber
  e_InvalidSteps : Ek0 K cls mg "InvalidSteps" 104 C_InvalidSteps
  e_UnknownCell : Ek0 K cls mg "UnknownCell" 105 C_UnknownCell
section
variable {P : Program} {W : World} {K : PySem.W.Frag} {cls : Nat → Option Addr} {mg : Str → Option Value} {base : Heap} {C_Negative : Addr} {C_InvalidNumber : Addr} {C_InvalidSteps : Addr} {C_UnknownCell : Addr} {f : Addr} {fd : FuncData}
theorem sc_Negativedd__lendd_ : FnScope ["self"] ["self"] (defScope s_Negativedd__lendd_) := ⟨rfl, rfl, rfl, by decide +kernel, rfl, by decide +kernel, by decide +kernel⟩
theorem dm_Negativedd__lendd_ (F : Fun K "__len__" "Negative.__len__" s_Negativedd__lendd_ f fd) (b : Binds K fd ["self"] []) (T : Tx P W K cls mg C_Negative C_InvalidNumber C_InvalidSteps C_UnknownCell) : Dm P W K cls mg base 1 f 1 M_Negativedd__lendd_ :=
  dm_mk (N := ["self"]) (ps := ["self"]) (g := B_Negativedd__lendd_) F b sc_Negativedd__lendd_ (fun cdv A outer s H E hr tk => (
  sss_one (ss_ret (se_callB cv_len rfl T.n_len (by decide +kernel) (sa_cons (se_fld T.k_Negative T.f_Negative_figures (se_var 0)) (sa_nil))))))
theorem sc_Negative_densities : FnScope ["self"] ["self"] (defScope s_Negative_densities) := ⟨rfl, rfl, rfl, by decide +kernel, rfl, by decide +kernel, by decide +kernel⟩
theorem dm_Negative_densities (F : Fun K "densities" "Negative.densities" s_Negative_densities f fd) (b : Binds K fd ["self"] []) (T : Tx P W K cls mg C_Negative C_InvalidNumber C_InvalidSteps C_UnknownCell) : Dm P W K cls mg base 1 f 1 M_Negative_densities :=
  dm_mk (N := ["self"]) (ps := ["self"]) (g := B_Negative_densities) F b sc_Negative_densities (fun cdv A outer s H E hr tk => (
  sss_one (ss_ret (se_fld T.k_Negative T.f_Negative_figures (se_var 0)))))
theorem sc_Negative_width : FnScope ["self"] ["self"] (defScope s_Negative_width) := ⟨rfl, rfl, rfl, by decide +kernel, rfl, by decide +kernel, by decide +kernel⟩
theorem dm_Negative_width (F : Fun K "width" "Negative.width" s_Negative_width f fd) (b : Binds K fd ["self"] []) (T : Tx P W K cls mg C_Negative C_InvalidNumber C_InvalidSteps C_UnknownCell) : Dm P W K cls mg base 1 f 1 M_Negative_width :=
  dm_mk (N := ["self"]) (ps := ["self"]) (g := B_Negative_width) F b sc_Negative_width (fun cdv A outer s H E hr tk => (
  sss_one (ss_ret (se_fld T.k_Negative T.f_Negative_columns (se_var 0)))))
theorem sc_l_open : FnScope ["_law_negative_here", "_law_deed_here", "_law_cell"] ["_law_negative_here", "_law_deed_here"] (defScope s_l_open) := ⟨rfl, rfl, rfl, by decide +kernel, rfl, by decide +kernel, by decide +kernel⟩
theorem df_l_open (F : Fun K "_law_open" "_law_open" s_l_open f fd) (b : Binds K fd ["_law_negative_here", "_law_deed_here"] []) (hm : mg "_law_open" = some (.ref f)) (T : Tx P W K cls mg C_Negative C_InvalidNumber C_InvalidSteps C_UnknownCell) {f_Negativedd__lendd_ : Addr} (g_Negativedd__lendd_ : Dm P W K cls mg base 1 f_Negativedd__lendd_ 1 M_Negativedd__lendd_) (len_at : PySem.W.findIn K (.ref C_Negative) "__len__" = some (some (.ref f_Negativedd__lendd_))) (len_fn : PySem.W.isFn K (.ref f_Negativedd__lendd_) = true) {f_Negative_width : Addr} (g_Negative_width : Dm P W K cls mg base 1 f_Negative_width 1 M_Negative_width) {p_Negative_width : Addr} (pp_Negative_width : PropOf K C_Negative "width" p_Negative_width f_Negative_width) : Df P W K cls mg base 3 "_law_open" 2 M_l_open :=
  (df_mk (N := ["_law_negative_here", "_law_deed_here", "_law_cell"]) (ps := ["_law_negative_here", "_law_deed_here"]) (g := B_l_open) F b hm sc_l_open (fun cdv A outer s H E hr tk => (
  sss_cons (ss_if (st_cmp (ov_eq hr.units) (se_ix (se_var 1) (se_int)) (se_str)) (
  sss_one (ss_ret (se_bin ov_mul (se_lst (sa_cons (se_int) (sa_nil))) (se_callB (cv_lenO T.k_Negative len_at len_fn g_Negativedd__lendd_ (hr.mono (by decide))) (by exact rfl) T.n_len (by decide +kernel) (sa_cons (se_var 0) (sa_nil)))))) (
  sss_nil)) (
  sss_cons (ss_if (st_cmp (ov_eq hr.units) (se_ix (se_var 1) (se_int)) (se_str)) (
  sss_one (ss_ret (se_lc (own := [("_law_cell", 2)]) rfl sc_l_open.nd (si_range1 rfl T.n_range (se_callB (cv_lenO T.k_Negative len_at len_fn g_Negativedd__lendd_ (hr.mono (by decide))) (by exact rfl) T.n_len (by decide +kernel) (sa_cons (se_var 0) (sa_nil)))) (blkOk_by (N := ["_law_negative_here", "_law_deed_here", "_law_cell"]) (sc := defScope s_l_open) (own := [("_law_cell", 2)]) (by decide +kernel)) (fun _ _ _ _ _ => sg_var 2 sc_l_open.nd) (fun _ _ _ _ _ => sts_nil) (fun _ _ _ _ _ => se_bin ov_mul (se_ix (se_var 1) (se_int)) (se_callTy cv_int (by exact rfl) T.n_int (by decide +kernel) (sa_cons (se_cmp ov_notIn (se_var 2) (se_ix (se_var 1) (se_int))) (sa_nil))))))) (
  sss_nil)) (
  sss_one (ss_ret (se_lc (own := [("_law_cell", 2)]) rfl sc_l_open.nd (si_range1 rfl T.n_range (se_callB (cv_lenO T.k_Negative len_at len_fn g_Negativedd__lendd_ (hr.mono (by decide))) (by exact rfl) T.n_len (by decide +kernel) (sa_cons (se_var 0) (sa_nil)))) (blkOk_by (N := ["_law_negative_here", "_law_deed_here", "_law_cell"]) (sc := defScope s_l_open) (own := [("_law_cell", 2)]) (by decide +kernel)) (fun _ _ _ _ _ => sg_var 2 sc_l_open.nd) (fun _ _ _ _ _ => sts_nil) (fun _ _ _ _ _ => se_callB (cv_max2 rfl) (by exact rfl) T.n_max (by decide +kernel) (sa_cons (se_int) (sa_cons (se_bin ov_sub (se_ix (se_var 1) (se_int)) (se_bin ov_mul (se_ix (se_var 1) (se_int)) (se_bin ov_mod (se_callTy cv_int (by exact rfl) T.n_int (by decide +kernel) (sa_cons (se_var 2) (sa_nil))) (se_prop T.k_Negative pp_Negative_width g_Negative_width (hr.mono (by decide)) (se_var 0))))) (sa_nil)))))))))))
theorem sc_l_lights : FnScope ["_law_negative_here", "_law_recipe_here", "_law_found", "_law_is_over", "_law_width", "_law_deed_here", "_law_ticks", "_law_cell", "_law_across", "_law_there"] ["_law_negative_here", "_law_recipe_here"] (defScope s_l_lights) := ⟨rfl, rfl, rfl, by decide +kernel, rfl, by decide +kernel, by decide +kernel⟩
theorem df_l_lights (F : Fun K "_law_lights" "_law_lights" s_l_lights f fd) (b : Binds K fd ["_law_negative_here", "_law_recipe_here"] []) (hm : mg "_law_lights" = some (.ref f)) (T : Tx P W K cls mg C_Negative C_InvalidNumber C_InvalidSteps C_UnknownCell) (G_l_open : Df P W K cls mg base 3 "_law_open" 2 M_l_open) {f_Negativedd__lendd_ : Addr} (g_Negativedd__lendd_ : Dm P W K cls mg base 1 f_Negativedd__lendd_ 1 M_Negativedd__lendd_) (len_at : PySem.W.findIn K (.ref C_Negative) "__len__" = some (some (.ref f_Negativedd__lendd_))) (len_fn : PySem.W.isFn K (.ref f_Negativedd__lendd_) = true) {f_Negative_densities : Addr} (g_Negative_densities : Dm P W K cls mg base 1 f_Negative_densities 1 M_Negative_densities) {p_Negative_densities : Addr} (pp_Negative_densities : PropOf K C_Negative "densities" p_Negative_densities f_Negative_densities) {f_Negative_width : Addr} (g_Negative_width : Dm P W K cls mg base 1 f_Negative_width 1 M_Negative_width) {p_Negative_width : Addr} (pp_Negative_width : PropOf K C_Negative "width" p_Negative_width f_Negative_width) : Df P W K cls mg base 4 "_law_lights" 2 M_l_lights :=
  Df.fin (df_mk (N := ["_law_negative_here", "_law_recipe_here", "_law_found", "_law_is_over", "_law_width", "_law_deed_here", "_law_ticks", "_law_cell", "_law_across", "_law_there"]) (ps := ["_law_negative_here", "_law_recipe_here"]) (g := B_l_lights) F b hm sc_l_lights (fun cdv A outer s H E hr tk => (
  sss_cons (ss_par3 2 3 4 rfl sc_l_lights.nd (se_repT (se_lst (sa_cons (se_int) (sa_nil))) (se_callB (cv_lenO T.k_Negative len_at len_fn g_Negativedd__lendd_ (hr.mono (by decide))) (by exact rfl) T.n_len (by decide +kernel) (sa_cons (se_var 0) (sa_nil)))) (se_bl) (se_prop T.k_Negative pp_Negative_width g_Negative_width (hr.mono (by decide)) (se_var 0))) (
  sss_cons (ss_for (passes_of rfl) rfl (si_of (se_var 1)) (sg_var 5 sc_l_lights.nd) (
  sss_cons (ss_set 3 sc_l_lights.nd (se_cmp (ov_ne hr.units) (se_var 3) (se_cmp (ov_eq hr.units) (se_ix (se_var 5) (se_int)) (se_str)))) (
  sss_cons (ss_set 6 sc_l_lights.nd (se_call tk G_l_open (hr.mono (by decide)) rfl (sa_cons (se_var 0) (sa_cons (se_var 5) (sa_nil))))) (
  sss_one (ss_for (passes_of rfl) rfl (si_range1 rfl T.n_range (se_callB (cv_lenO T.k_Negative len_at len_fn g_Negativedd__lendd_ (hr.mono (by decide))) (by exact rfl) T.n_len (by decide +kernel) (sa_cons (se_var 0) (sa_nil)))) (sg_var 7 sc_l_lights.nd) (
  sss_cons (ss_set 8 sc_l_lights.nd (se_bin ov_mod (se_callTy cv_int (by exact rfl) T.n_int (by decide +kernel) (sa_cons (se_var 7) (sa_nil))) (se_var 4))) (
  sss_cons (ss_set 9 sc_l_lights.nd (se_if (st_val (se_var 3)) (se_bin ov_sub (se_bin ov_sub (se_bin ov_add (se_var 7) (se_var 4)) (se_int)) (se_bin ov_mul (se_int) (se_var 8))) (se_var 7))) (
  sss_one (ss_asg (se_bin ov_add (se_ix (se_var 2) (se_var 7)) (se_bin ov_mul (se_ix (se_var 6) (se_var 7)) (se_ix (se_lst (sa_cons (se_int) (sa_cons (se_int) (sa_cons (se_int) (sa_cons (se_int) (sa_cons (se_int) (sa_nil))))))) (se_callTy cv_int (by exact rfl) T.n_int (by decide +kernel) (sa_cons (se_ix (se_prop T.k_Negative pp_Negative_densities g_Negative_densities (hr.mono (by decide)) (se_var 0)) (se_var 9)) (sa_nil)))))) (sg_ix (W := W0) (se_var 2) (se_var 7))))))))))) (
  sss_one (ss_ret (se_tup (sa_cons (se_var 2) (sa_cons (se_var 3) (sa_nil))))))))))
theorem sc_is_number : FnScope ["value", "least", "most"] ["value", "least", "most"] (defScope s_is_number) := ⟨rfl, rfl, rfl, by decide +kernel, rfl, by decide +kernel, by decide +kernel⟩
theorem df_is_number (F : Fun K "is_number" "is_number" s_is_number f fd) (b : Binds K fd ["value", "least", "most"] []) (hm : mg "is_number" = some (.ref f)) (T : Tx P W K cls mg C_Negative C_InvalidNumber C_InvalidSteps C_UnknownCell) : Df P W K cls mg base 1 "is_number" 3 M_is_number :=
  (df_mk (N := ["value", "least", "most"]) (ps := ["value", "least", "most"]) (g := B_is_number) F b hm sc_is_number (fun cdv A outer s H E hr tk => (
  sss_one (ss_ret (se_and (se_isi (T := "int") (se_var 0) rfl T.n_isinstance (by decide +kernel) rfl T.n_int (by decide +kernel)) (se_and (se_not (se_isi (T := "bool") (se_var 0) rfl T.n_isinstance (by decide +kernel) rfl T.n_bool (by decide +kernel))) (se_one (se_chain ov_le ov_le (se_var 1) (se_var 0) (se_var 2)))))))))
theorem sc_wrong_side : FnScope ["width", "height"] ["width", "height"] (defScope s_wrong_side) := ⟨rfl, rfl, rfl, by decide +kernel, rfl, by decide +kernel, by decide +kernel⟩
theorem df_wrong_side (F : Fun K "wrong_side" "wrong_side" s_wrong_side f fd) (b : Binds K fd ["width", "height"] []) (hm : mg "wrong_side" = some (.ref f)) (T : Tx P W K cls mg C_Negative C_InvalidNumber C_InvalidSteps C_UnknownCell) (G_is_number : Df P W K cls mg base 1 "is_number" 3 M_is_number) : Df P W K cls mg base 2 "wrong_side" 2 M_wrong_side :=
  (df_mk (N := ["width", "height"]) (ps := ["width", "height"]) (g := B_wrong_side) F b hm sc_wrong_side (fun cdv A outer s H E hr tk => (
  sss_cons (ss_if (st_not (st_val (se_call tk G_is_number (hr.mono (by decide)) rfl (sa_cons (se_var 0) (sa_cons (se_int) (sa_cons (se_globG (by exact rfl) T.c_MOST_SIDE) (sa_nil))))))) (
  sss_one (ss_ret (se_str))) (
  sss_nil)) (
  sss_cons (ss_if (SW.st (sw_or (st_not (st_val (se_call tk G_is_number (hr.mono (by decide)) rfl (sa_cons (se_var 1) (sa_cons (se_int) (sa_cons (se_globG (by exact rfl) T.c_MOST_SIDE) (sa_nil))))))) (sw_or1 (st_cmp ov_gt (se_bin ov_mul (se_var 0) (se_var 1)) (se_globG (by exact rfl) T.c_MOST_CELLS))))) (
  sss_one (ss_ret (se_str))) (
  sss_nil)) (
  sss_one (ss_ret (se_non)))))))
theorem sc_wrong_part : FnScope ["width", "height", "densities", "side", "figure"] ["width", "height", "densities"] (defScope s_wrong_part) := ⟨rfl, rfl, rfl, by decide +kernel, rfl, by decide +kernel, by decide +kernel⟩
theorem df_wrong_part (F : Fun K "wrong_part" "wrong_part" s_wrong_part f fd) (b : Binds K fd ["width", "height", "densities"] []) (hm : mg "wrong_part" = some (.ref f)) (T : Tx P W K cls mg C_Negative C_InvalidNumber C_InvalidSteps C_UnknownCell) (G_wrong_side : Df P W K cls mg base 2 "wrong_side" 2 M_wrong_side) {f_Negativedd__lendd_ : Addr} (g_Negativedd__lendd_ : Dm P W K cls mg base 1 f_Negativedd__lendd_ 1 M_Negativedd__lendd_) (len_at : PySem.W.findIn K (.ref C_Negative) "__len__" = some (some (.ref f_Negativedd__lendd_))) (len_fn : PySem.W.isFn K (.ref f_Negativedd__lendd_) = true) : Df P W K cls mg base 3 "wrong_part" 3 M_wrong_part :=
  (df_mk (N := ["width", "height", "densities", "side", "figure"]) (ps := ["width", "height", "densities"]) (g := B_wrong_part) F b hm sc_wrong_part (fun cdv A outer s H E hr tk => (
  sss_cons (ss_set 3 sc_wrong_part.nd (se_call tk G_wrong_side (hr.mono (by decide)) rfl (sa_cons (se_var 0) (sa_cons (se_var 1) (sa_nil))))) (
  sss_cons (ss_if (st_cmp ov_notN (se_var 3) (se_non)) (
  sss_one (ss_ret (se_var 3))) (
  sss_nil)) (
  sss_cons (ss_if (SW.st (sw_or (st_cmp (ov_ne hr.units) (se_callB (cv_lenO T.k_Negative len_at len_fn g_Negativedd__lendd_ (hr.mono (by decide))) (by exact rfl) T.n_len (by decide +kernel) (sa_cons (se_var 2) (sa_nil))) (se_bin ov_mul (se_var 0) (se_var 1))) (sw_or1 (st_not (st_val (se_callB (cv_all rfl) (by exact rfl) T.n_all (by decide +kernel) (sa_cons (se_lc (own := [("figure", 4)]) rfl sc_wrong_part.nd (si_of (se_var 2)) (blkOk_by (N := ["width", "height", "densities", "side", "figure"]) (sc := defScope s_wrong_part) (own := [("figure", 4)]) (by decide +kernel)) (fun _ _ _ _ _ => sg_var 4 sc_wrong_part.nd) (fun _ _ _ _ _ => sts_nil) (fun _ _ _ _ _ => se_cmp ov_in (se_var 4) (se_globG (by exact rfl) T.c_DENSITIES))) (sa_nil)))))))) (
  sss_one (ss_ret (se_str))) (
  sss_nil)) (
  sss_one (ss_ret (se_non))))))))
theorem sc_Negativedd__initdd_ : FnScope ["self", "width", "height", "densities", "part"] ["self", "width", "height", "densities"] (defScope s_Negativedd__initdd_) := ⟨rfl, rfl, rfl, by decide +kernel, rfl, by decide +kernel, by decide +kernel⟩
theorem dm_Negativedd__initdd_ (F : Fun K "__init__" "Negative.__init__" s_Negativedd__initdd_ f fd) (b : Binds K fd ["self", "width", "height", "densities"] []) (T : Tx P W K cls mg C_Negative C_InvalidNumber C_InvalidSteps C_UnknownCell) (G_wrong_part : Df P W K cls mg base 3 "wrong_part" 3 M_wrong_part) : Dm P W K cls mg base 4 f 4 M_Negativedd__initdd_ :=
  dm_mk (N := ["self", "width", "height", "densities", "part"]) (ps := ["self", "width", "height", "densities"]) (g := B_Negativedd__initdd_) F b sc_Negativedd__initdd_ (fun cdv A outer s H E hr tk => (
  sss_cons (ss_set 4 sc_Negativedd__initdd_.nd (se_call tk G_wrong_part (hr.mono (by decide)) rfl (sa_cons (se_var 1) (sa_cons (se_var 2) (sa_cons (se_var 3) (sa_nil)))))) (
  sss_cons (ss_if (st_cmp ov_notN (se_var 4) (se_non)) (
  sss_one (ss_never)) (
  sss_nil)) (
  sss_cons (ss_fld T.k_Negative T.f_Negative_columns (se_var 0) (se_var 1)) (
  sss_cons (ss_fld T.k_Negative T.f_Negative_lines (se_var 0) (se_var 2)) (
  sss_one (ss_fld T.k_Negative T.f_Negative_figures (se_var 0) (se_var 3))))))))
theorem sc_l_taken : FnScope ["_law_row", "_law_many", "_law_found", "_law_cell"] ["_law_row", "_law_many"] (defScope s_l_taken) := ⟨rfl, rfl, rfl, by decide +kernel, rfl, by decide +kernel, by decide +kernel⟩
theorem df_l_taken (F : Fun K "_law_taken" "_law_taken" s_l_taken f fd) (b : Binds K fd ["_law_row", "_law_many"] []) (hm : mg "_law_taken" = some (.ref f)) (T : Tx P W K cls mg C_Negative C_InvalidNumber C_InvalidSteps C_UnknownCell) {f_Negativedd__lendd_ : Addr} (g_Negativedd__lendd_ : Dm P W K cls mg base 1 f_Negativedd__lendd_ 1 M_Negativedd__lendd_) (len_at : PySem.W.findIn K (.ref C_Negative) "__len__" = some (some (.ref f_Negativedd__lendd_))) (len_fn : PySem.W.isFn K (.ref f_Negativedd__lendd_) = true) : Df P W K cls mg base 3 "_law_taken" 2 M_l_taken :=
  (df_mk (N := ["_law_row", "_law_many", "_law_found", "_law_cell"]) (ps := ["_law_row", "_law_many"]) (g := B_l_taken) F b hm sc_l_taken (fun cdv A outer s H E hr tk => (
  sss_cons (ss_if (st_cmp ov_gt (se_ix (se_var 0) (se_int)) (se_int)) (
  sss_cons (ss_set 2 sc_l_taken.nd (se_bin ov_mod (se_callTy cv_int (by exact rfl) T.n_int (by decide +kernel) (sa_cons (se_ix (se_var 0) (se_int)) (sa_nil))) (se_var 1))) (
  sss_cons (ss_asg (se_bin ov_fdv (se_ix (se_var 0) (se_int)) (se_var 1)) (sg_ix (W := W0) (se_var 0) (se_int))) (
  sss_one (ss_ret (se_var 2))))) (
  sss_nil)) (
  sss_cons (ss_asg (se_bin ov_add (se_ix (se_var 0) (se_int)) (se_int)) (sg_ix (W := W0) (se_var 0) (se_int))) (
  sss_cons (ss_if (st_cmp ov_gt (se_ix (se_var 0) (se_int)) (se_callB (cv_lenO T.k_Negative len_at len_fn g_Negativedd__lendd_ (hr.mono (by decide))) (by exact rfl) T.n_len (by decide +kernel) (sa_cons (se_ix (se_var 0) (se_int)) (sa_nil)))) (
  sss_cons (ss_asg (se_bin ov_mod (se_callTy cv_int (by exact rfl) T.n_int (by decide +kernel) (sa_cons (se_bin ov_add (se_bin ov_mul (se_ix (se_var 0) (se_int)) (se_int)) (se_int)) (sa_nil))) (se_int)) (sg_ix (W := W0) (se_var 0) (se_int))) (
  sss_one (ss_ret (se_bin ov_mod (se_callTy cv_int (by exact rfl) T.n_int (by decide +kernel) (sa_cons (se_bin ov_fdv (se_ix (se_var 0) (se_int)) (se_int)) (sa_nil))) (se_var 1))))) (
  sss_nil)) (
  sss_cons (ss_set 3 sc_l_taken.nd (se_ix (se_ix (se_var 0) (se_int)) (se_bin ov_sub (se_ix (se_var 0) (se_int)) (se_int)))) (
  sss_cons (ss_asg (se_bin ov_mod (se_callTy cv_int (by exact rfl) T.n_int (by decide +kernel) (sa_cons (se_bin ov_add (se_bin ov_add (se_bin ov_mul (se_ix (se_var 0) (se_int)) (se_int)) (se_var 3)) (se_int)) (sa_nil))) (se_int)) (sg_ix (W := W0) (se_var 0) (se_int))) (
  sss_cons (ss_if (st_cmp ov_ge (se_var 3) (se_bin ov_pow (se_int) (se_int))) (
  sss_one (ss_asg (se_bin ov_fdv (se_var 3) (se_var 1)) (sg_ix (W := W0) (se_var 0) (se_int)))) (
  sss_nil)) (
  sss_one (ss_ret (se_bin ov_mod (se_callTy cv_int (by exact rfl) T.n_int (by decide +kernel) (sa_cons (se_var 3) (sa_nil))) (se_var 1))))))))))))
theorem sc_l_negative : FnScope ["_law_row", "_law_most", "_law_width", "_law_height", "_law_cell"] ["_law_row", "_law_most"] (defScope s_l_negative) := ⟨rfl, rfl, rfl, by decide +kernel, rfl, by decide +kernel, by decide +kernel⟩
theorem df_l_negative (F : Fun K "_law_negative" "_law_negative" s_l_negative f fd) (b : Binds K fd ["_law_row", "_law_most"] []) (hm : mg "_law_negative" = some (.ref f)) (T : Tx P W K cls mg C_Negative C_InvalidNumber C_InvalidSteps C_UnknownCell) (G_l_taken : Df P W K cls mg base 3 "_law_taken" 2 M_l_taken) {f_Negativedd__initdd_ : Addr} (g_Negativedd__initdd_ : Dm P W K cls mg base 4 f_Negativedd__initdd_ 4 M_Negativedd__initdd_) (mk_Negative : Mk K C_Negative f_Negativedd__initdd_) : Df P W K cls mg base 6 "_law_negative" 2 M_l_negative :=
  (df_mk (N := ["_law_row", "_law_most", "_law_width", "_law_height", "_law_cell"]) (ps := ["_law_row", "_law_most"]) (g := B_l_negative) F b hm sc_l_negative (fun cdv A outer s H E hr tk => (
  sss_cons (ss_par 2 3 rfl sc_l_negative.nd (se_bin ov_add (se_int) (se_call tk G_l_taken (hr.mono (by decide)) rfl (sa_cons (se_var 0) (sa_cons (se_int) (sa_nil))))) (se_bin ov_add (se_int) (se_call tk G_l_taken (hr.mono (by decide)) rfl (sa_cons (se_var 0) (sa_cons (se_var 1) (sa_nil)))))) (
  sss_one (ss_ret (se_make tk (fun _ _ _ _ _ h => h) T.k_Negative mk_Negative g_Negativedd__initdd_ (hr.mono (by decide)) rfl T.m_Negative (sa_cons (se_var 2) (sa_cons (se_var 3) (sa_cons (se_join (se_str) (se_lc (own := [("_law_cell", 4)]) rfl sc_l_negative.nd (si_range1 rfl T.n_range (se_bin ov_mul (se_var 2) (se_var 3))) (blkOk_by (N := ["_law_row", "_law_most", "_law_width", "_law_height", "_law_cell"]) (sc := defScope s_l_negative) (own := [("_law_cell", 4)]) (by decide +kernel)) (fun _ _ _ _ _ => sg_var 4 sc_l_negative.nd) (fun _ _ _ _ _ => sts_nil) (fun _ _ _ _ _ => se_ix (se_str) (se_call takes0 G_l_taken (hr.mono (by decide)) rfl (sa_cons (se_var 0) (sa_cons (se_int) (sa_nil))))))) (sa_nil))))))))))
theorem sc_l_deed : FnScope ["_law_row", "_law_negative_here", "_law_pick", "_law_covered", "_law_cell"] ["_law_row", "_law_negative_here"] (defScope s_l_deed) := ⟨rfl, rfl, rfl, by decide +kernel, rfl, by decide +kernel, by decide +kernel⟩
theorem df_l_deed (F : Fun K "_law_deed" "_law_deed" s_l_deed f fd) (b : Binds K fd ["_law_row", "_law_negative_here"] []) (hm : mg "_law_deed" = some (.ref f)) (T : Tx P W K cls mg C_Negative C_InvalidNumber C_InvalidSteps C_UnknownCell) (G_l_taken : Df P W K cls mg base 3 "_law_taken" 2 M_l_taken) {f_Negativedd__lendd_ : Addr} (g_Negativedd__lendd_ : Dm P W K cls mg base 1 f_Negativedd__lendd_ 1 M_Negativedd__lendd_) (len_at : PySem.W.findIn K (.ref C_Negative) "__len__" = some (some (.ref f_Negativedd__lendd_))) (len_fn : PySem.W.isFn K (.ref f_Negativedd__lendd_) = true) : Df P W K cls mg base 4 "_law_deed" 2 M_l_deed :=
  (df_mk (N := ["_law_row", "_law_negative_here", "_law_pick", "_law_covered", "_law_cell"]) (ps := ["_law_row", "_law_negative_here"]) (g := B_l_deed) F b hm sc_l_deed (fun cdv A outer s H E hr tk => (
  sss_cons (ss_set 2 sc_l_deed.nd (se_call tk G_l_taken (hr.mono (by decide)) rfl (sa_cons (se_var 0) (sa_cons (se_int) (sa_nil))))) (
  sss_cons (ss_if (st_cmp ov_lt (se_var 2) (se_int)) (
  sss_cons (ss_set 3 sc_l_deed.nd (se_callTy cv_tuple (by exact rfl) T.n_tuple (by decide +kernel) (sa_cons (se_lc (own := [("_law_cell", 4)]) rfl sc_l_deed.nd (si_range1 rfl T.n_range (se_callB (cv_lenO T.k_Negative len_at len_fn g_Negativedd__lendd_ (hr.mono (by decide))) (by exact rfl) T.n_len (by decide +kernel) (sa_cons (se_var 1) (sa_nil)))) (blkOk_by (N := ["_law_row", "_law_negative_here", "_law_pick", "_law_covered", "_law_cell"]) (sc := defScope s_l_deed) (own := [("_law_cell", 4)]) (by decide +kernel)) (fun _ _ _ _ _ => sg_var 4 sc_l_deed.nd) (fun _ _ _ _ _ => sts_one (st_cmp (ov_eq hr.units) (se_call takes0 G_l_taken (hr.mono (by decide)) rfl (sa_cons (se_var 0) (sa_cons (se_int) (sa_nil)))) (se_int))) (fun _ _ _ _ _ => se_var 4)) (sa_nil)))) (
  sss_one (ss_ret (se_tup (sa_cons (se_str) (sa_cons (se_bin ov_add (se_int) (se_call tk G_l_taken (hr.mono (by decide)) rfl (sa_cons (se_var 0) (sa_cons (se_ix (se_lst (sa_cons (se_int) (sa_cons (se_int) (sa_nil)))) (se_call tk G_l_taken (hr.mono (by decide)) rfl (sa_cons (se_var 0) (sa_cons (se_int) (sa_nil))))) (sa_nil))))) (sa_cons (se_var 3) (sa_nil)))))))) (
  sss_nil)) (
  sss_cons (ss_if (st_cmp (ov_eq hr.units) (se_var 2) (se_int)) (
  sss_one (ss_ret (se_tup (sa_cons (se_str) (sa_cons (se_bin ov_add (se_int) (se_call tk G_l_taken (hr.mono (by decide)) rfl (sa_cons (se_var 0) (sa_cons (se_int) (sa_nil))))) (sa_cons (se_bin ov_add (se_int) (se_call tk G_l_taken (hr.mono (by decide)) rfl (sa_cons (se_var 0) (sa_cons (se_int) (sa_nil))))) (sa_nil))))))) (
  sss_nil)) (
  sss_one (ss_ret (se_tup (sa_cons (se_str) (sa_nil))))))))))
theorem sc_l_recipe : FnScope ["_law_row", "_law_negative_here", "_law_most", "_law_k"] ["_law_row", "_law_negative_here", "_law_most"] (defScope s_l_recipe) := ⟨rfl, rfl, rfl, by decide +kernel, rfl, by decide +kernel, by decide +kernel⟩
theorem df_l_recipe (F : Fun K "_law_recipe" "_law_recipe" s_l_recipe f fd) (b : Binds K fd ["_law_row", "_law_negative_here", "_law_most"] []) (hm : mg "_law_recipe" = some (.ref f)) (T : Tx P W K cls mg C_Negative C_InvalidNumber C_InvalidSteps C_UnknownCell) (G_l_deed : Df P W K cls mg base 4 "_law_deed" 2 M_l_deed) (G_l_taken : Df P W K cls mg base 3 "_law_taken" 2 M_l_taken) : Df P W K cls mg base 5 "_law_recipe" 3 M_l_recipe :=
  (df_mk (N := ["_law_row", "_law_negative_here", "_law_most", "_law_k"]) (ps := ["_law_row", "_law_negative_here", "_law_most"]) (g := B_l_recipe) F b hm sc_l_recipe (fun cdv A outer s H E hr tk => (
  sss_one (ss_ret (se_callTy cv_tuple (by exact rfl) T.n_tuple (by decide +kernel) (sa_cons (se_lc (own := [("_law_k", 3)]) rfl sc_l_recipe.nd (si_range1 rfl T.n_range (se_call tk G_l_taken (hr.mono (by decide)) rfl (sa_cons (se_var 0) (sa_cons (se_bin ov_add (se_var 2) (se_int)) (sa_nil))))) (blkOk_by (N := ["_law_row", "_law_negative_here", "_law_most", "_law_k"]) (sc := defScope s_l_recipe) (own := [("_law_k", 3)]) (by decide +kernel)) (fun _ _ _ _ _ => sg_var 3 sc_l_recipe.nd) (fun _ _ _ _ _ => sts_nil) (fun _ _ _ _ _ => se_call takes0 G_l_deed (hr.mono (by decide)) rfl (sa_cons (se_var 0) (sa_cons (se_var 1) (sa_nil))))) (sa_nil)))))))
theorem sc_l_steps : FnScope ["_law_row", "_law_found", "_law_step", "_law_k"] ["_law_row"] (defScope s_l_steps) := ⟨rfl, rfl, rfl, by decide +kernel, rfl, by decide +kernel, by decide +kernel⟩
theorem df_l_steps (F : Fun K "_law_steps" "_law_steps" s_l_steps f fd) (b : Binds K fd ["_law_row"] []) (hm : mg "_law_steps" = some (.ref f)) (T : Tx P W K cls mg C_Negative C_InvalidNumber C_InvalidSteps C_UnknownCell) (G_l_taken : Df P W K cls mg base 3 "_law_taken" 2 M_l_taken) : Df P W K cls mg base 4 "_law_steps" 1 M_l_steps :=
  Df.fin (df_mk (N := ["_law_row", "_law_found", "_law_step", "_law_k"]) (ps := ["_law_row"]) (g := B_l_steps) F b hm sc_l_steps (fun cdv A outer s H E hr tk => (
  sss_cons (ss_par 1 2 rfl sc_l_steps.nd (se_lstT (sa_nil)) (se_int)) (
  sss_cons (ss_for (passes_of rfl) rfl (si_range1 rfl T.n_range (se_bin ov_add (se_int) (se_call tk G_l_taken (hr.mono (by decide)) rfl (sa_cons (se_var 0) (sa_cons (se_int) (sa_nil)))))) (sg_var 3 sc_l_steps.nd) (
  sss_cons (ss_set 2 sc_l_steps.nd (se_bin ov_add (se_bin ov_add (se_var 2) (se_int)) (se_call tk G_l_taken (hr.mono (by decide)) rfl (sa_cons (se_var 0) (sa_cons (se_ix (se_lst (sa_cons (se_int) (sa_cons (se_int) (sa_cons (se_int) (sa_nil))))) (se_call tk G_l_taken (hr.mono (by decide)) rfl (sa_cons (se_var 0) (sa_cons (se_int) (sa_nil))))) (sa_nil)))))) (
  sss_one (ss_expr (se_lm (se_var 1) (se_var 2) (fun p1 p2 => pe_bm PySem.F.plainAttrs_list PySem.F.slot_list_append PySem.F.type_list_append mt_append p1 p2) (fun S r1 r2 q => app_val S r1 r2 q)))))) (
  sss_one (ss_ret (se_callTy cv_tuple (by exact rfl) T.n_tuple (by decide +kernel) (sa_cons (se_var 1) (sa_nil)))))))))
theorem sc_check_cell : FnScope ["cell", "cells"] ["cell", "cells"] (defScope s_check_cell) := ⟨rfl, rfl, rfl, by decide +kernel, rfl, by decide +kernel, by decide +kernel⟩
theorem df_check_cell (F : Fun K "check_cell" "check_cell" s_check_cell f fd) (b : Binds K fd ["cell", "cells"] []) (hm : mg "check_cell" = some (.ref f)) (T : Tx P W K cls mg C_Negative C_InvalidNumber C_InvalidSteps C_UnknownCell) (G_is_number : Df P W K cls mg base 1 "is_number" 3 M_is_number) : Df P W K cls mg base 2 "check_cell" 2 M_check_cell :=
  (df_mk (N := ["cell", "cells"]) (ps := ["cell", "cells"]) (g := B_check_cell) F b hm sc_check_cell (fun cdv A outer s H E hr tk => (
  sss_one (ss_if (st_not (st_val (se_call tk G_is_number (hr.mono (by decide)) rfl (sa_cons (se_var 0) (sa_cons (se_int) (sa_cons (se_bin ov_sub (se_var 1) (se_int)) (sa_nil))))))) (
  sss_one (ss_raise rfl tk T.e_UnknownCell rfl)) (
  sss_nil)))))
theorem sc_check_number : FnScope ["value", "least", "most"] ["value", "least", "most"] (defScope s_check_number) := ⟨rfl, rfl, rfl, by decide +kernel, rfl, by decide +kernel, by decide +kernel⟩
theorem df_check_number (F : Fun K "check_number" "check_number" s_check_number f fd) (b : Binds K fd ["value", "least", "most"] []) (hm : mg "check_number" = some (.ref f)) (T : Tx P W K cls mg C_Negative C_InvalidNumber C_InvalidSteps C_UnknownCell) (G_is_number : Df P W K cls mg base 1 "is_number" 3 M_is_number) : Df P W K cls mg base 2 "check_number" 3 M_check_number :=
  (df_mk (N := ["value", "least", "most"]) (ps := ["value", "least", "most"]) (g := B_check_number) F b hm sc_check_number (fun cdv A outer s H E hr tk => (
  sss_one (ss_if (st_not (st_val (se_call tk G_is_number (hr.mono (by decide)) rfl (sa_cons (se_var 0) (sa_cons (se_var 1) (sa_cons (se_var 2) (sa_nil))))))) (
  sss_one (ss_raise rfl tk T.e_InvalidNumber rfl)) (
  sss_nil)))))
theorem sc_ascends : FnScope ["values", "least", "most", "value"] ["values", "least", "most"] (defScope s_ascends) := ⟨rfl, rfl, rfl, by decide +kernel, rfl, by decide +kernel, by decide +kernel⟩
theorem df_ascends (F : Fun K "ascends" "ascends" s_ascends f fd) (b : Binds K fd ["values", "least", "most"] []) (hm : mg "ascends" = some (.ref f)) (T : Tx P W K cls mg C_Negative C_InvalidNumber C_InvalidSteps C_UnknownCell) (G_is_number : Df P W K cls mg base 1 "is_number" 3 M_is_number) : Df P W K cls mg base 2 "ascends" 3 M_ascends :=
  (df_mk (N := ["values", "least", "most", "value"]) (ps := ["values", "least", "most"]) (g := B_ascends) F b hm sc_ascends (fun cdv A outer s H E hr tk => (
  sss_cons (ss_for (passes_of rfl) rfl (si_of (se_var 0)) (sg_var 3 sc_ascends.nd) (
  sss_cons (ss_if (st_not (st_val (se_call tk G_is_number (hr.mono (by decide)) rfl (sa_cons (se_var 3) (sa_cons (se_var 1) (sa_cons (se_var 2) (sa_nil))))))) (
  sss_one (ss_ret (se_bl))) (
  sss_nil)) (
  sss_one (ss_set 1 sc_ascends.nd (se_bin ov_add (se_var 3) (se_int)))))) (
  sss_one (ss_ret (se_bl))))))
theorem sc_is_mask : FnScope ["covered", "cells"] ["covered", "cells"] (defScope s_is_mask) := ⟨rfl, rfl, rfl, by decide +kernel, rfl, by decide +kernel, by decide +kernel⟩
theorem df_is_mask (F : Fun K "is_mask" "is_mask" s_is_mask f fd) (b : Binds K fd ["covered", "cells"] []) (hm : mg "is_mask" = some (.ref f)) (T : Tx P W K cls mg C_Negative C_InvalidNumber C_InvalidSteps C_UnknownCell) (G_ascends : Df P W K cls mg base 2 "ascends" 3 M_ascends) : Df P W K cls mg base 3 "is_mask" 2 M_is_mask :=
  (df_mk (N := ["covered", "cells"]) (ps := ["covered", "cells"]) (g := B_is_mask) F b hm sc_is_mask (fun cdv A outer s H E hr tk => (
  sss_one (ss_ret (se_and (se_isi (T := "tuple") (se_var 0) rfl T.n_isinstance (by decide +kernel) rfl T.n_tuple (by decide +kernel)) (se_one (se_call tk G_ascends (hr.mono (by decide)) rfl (sa_cons (se_var 0) (sa_cons (se_int) (sa_cons (se_bin ov_sub (se_var 1) (se_int)) (sa_nil)))))))))))
theorem sc_is_deed : FnScope ["deed", "cells"] ["deed", "cells"] (defScope s_is_deed) := ⟨rfl, rfl, rfl, by decide +kernel, rfl, by decide +kernel, by decide +kernel⟩
theorem df_is_deed (F : Fun K "is_deed" "is_deed" s_is_deed f fd) (b : Binds K fd ["deed", "cells"] []) (hm : mg "is_deed" = some (.ref f)) (T : Tx P W K cls mg C_Negative C_InvalidNumber C_InvalidSteps C_UnknownCell) (G_is_mask : Df P W K cls mg base 3 "is_mask" 2 M_is_mask) (G_is_number : Df P W K cls mg base 1 "is_number" 3 M_is_number) {f_Negativedd__lendd_ : Addr} (g_Negativedd__lendd_ : Dm P W K cls mg base 1 f_Negativedd__lendd_ 1 M_Negativedd__lendd_) (len_at : PySem.W.findIn K (.ref C_Negative) "__len__" = some (some (.ref f_Negativedd__lendd_))) (len_fn : PySem.W.isFn K (.ref f_Negativedd__lendd_) = true) : Df P W K cls mg base 4 "is_deed" 2 M_is_deed :=
  (df_mk (N := ["deed", "cells"]) (ps := ["deed", "cells"]) (g := B_is_deed) F b hm sc_is_deed (fun cdv A outer s H E hr tk => (
  sss_cons (ss_if (st_cmp (ov_eq hr.units) (se_var 0) (se_globG (by exact rfl) T.c_FLIP)) (
  sss_one (ss_ret (se_bl))) (
  sss_nil)) (
  sss_cons (ss_if (SW.st (sw_or (st_cmp (ov_ne hr.units) (se_callB (cv_lenO T.k_Negative len_at len_fn g_Negativedd__lendd_ (hr.mono (by decide))) (by exact rfl) T.n_len (by decide +kernel) (sa_cons (se_var 0) (sa_nil))) (se_int)) (sw_or1 (st_not (st_val (se_call tk G_is_number (hr.mono (by decide)) rfl (sa_cons (se_ix (se_var 0) (se_int)) (sa_cons (se_int) (sa_cons (se_globG (by exact rfl) T.c_MOST_TICKS) (sa_nil)))))))))) (
  sss_one (ss_ret (se_bl))) (
  sss_nil)) (
  sss_cons (ss_if (st_cmp (ov_eq hr.units) (se_ix (se_var 0) (se_int)) (se_str)) (
  sss_one (ss_ret (se_call tk G_is_mask (hr.mono (by decide)) rfl (sa_cons (se_ix (se_var 0) (se_int)) (sa_cons (se_var 1) (sa_nil)))))) (
  sss_nil)) (
  sss_one (ss_ret (se_and (se_cmp (ov_eq hr.units) (se_ix (se_var 0) (se_int)) (se_str)) (se_one (se_call tk G_is_number (hr.mono (by decide)) rfl (sa_cons (se_ix (se_var 0) (se_int)) (sa_cons (se_int) (sa_cons (se_globG (by exact rfl) T.c_MOST_TICKS) (sa_nil))))))))))))))
theorem sc_check_recipe : FnScope ["recipe", "cells", "index", "deed"] ["recipe", "cells"] (defScope s_check_recipe) := ⟨rfl, rfl, rfl, by decide +kernel, rfl, by decide +kernel, by decide +kernel⟩
theorem df_check_recipe (F : Fun K "check_recipe" "check_recipe" s_check_recipe f fd) (b : Binds K fd ["recipe", "cells"] []) (hm : mg "check_recipe" = some (.ref f)) (T : Tx P W K cls mg C_Negative C_InvalidNumber C_InvalidSteps C_UnknownCell) (G_is_deed : Df P W K cls mg base 4 "is_deed" 2 M_is_deed) : Df P W K cls mg base 5 "check_recipe" 2 M_check_recipe :=
  (df_mk (N := ["recipe", "cells", "index", "deed"]) (ps := ["recipe", "cells"]) (g := B_check_recipe) F b hm sc_check_recipe (fun cdv A outer s H E hr tk => (
  sss_one (ss_for (passes_of rfl) rfl (si_enum rfl T.n_enumerate (se_var 0)) (sg_tup rfl (sgs_cons (sg_var 2 sc_check_recipe.nd) (sgs_cons (sg_var 3 sc_check_recipe.nd) (sgs_nil)))) (
  sss_one (ss_if (SW.st (sw_or (st_cmp (ov_eq hr.units) (se_var 2) (se_globG (by exact rfl) T.c_MOST_DEEDS)) (sw_or1 (st_not (st_val (se_call tk G_is_deed (hr.mono (by decide)) rfl (sa_cons (se_var 3) (sa_cons (se_var 1) (sa_nil))))))))) (
  sss_one (ss_never)) (
  sss_nil)))))))
theorem sc_light_by_times : FnScope ["turns", "count", "first", "second"] ["turns", "count"] (defScope s_light_by_times) := ⟨rfl, rfl, rfl, by decide +kernel, rfl, by decide +kernel, by decide +kernel⟩
theorem df_light_by_times (F : Fun K "light_by_times" "light_by_times" s_light_by_times f fd) (b : Binds K fd ["turns", "count"] []) (hm : mg "light_by_times" = some (.ref f)) (T : Tx P W K cls mg C_Negative C_InvalidNumber C_InvalidSteps C_UnknownCell) : Df P W K cls mg base 1 "light_by_times" 2 M_light_by_times :=
  (df_mk (N := ["turns", "count", "first", "second"]) (ps := ["turns", "count"]) (g := B_light_by_times) F b hm sc_light_by_times (fun cdv A outer s H E hr tk => (
  sss_cons (ss_asg (se_var 0) (sg_tup rfl (sgs_cons (sg_var 2 sc_light_by_times.nd) (sgs_cons (sg_var 3 sc_light_by_times.nd) (sgs_nil))))) (
  sss_one (ss_ret (se_bin ov_add (se_bin ov_mul (se_bin ov_fdv (se_bin ov_add (se_var 1) (se_int)) (se_int)) (se_var 2)) (se_bin ov_mul (se_bin ov_fdv (se_var 1) (se_int)) (se_var 3))))))))
theorem sc_light_by : FnScope ["ticks", "density", "turned", "straight", "over"] ["ticks", "density", "turned"] (defScope s_light_by) := ⟨rfl, rfl, rfl, by decide +kernel, rfl, by decide +kernel, by decide +kernel⟩
theorem df_light_by (F : Fun K "light_by" "light_by" s_light_by f fd) (b : Binds K fd ["ticks", "density", "turned"] []) (hm : mg "light_by" = some (.ref f)) (T : Tx P W K cls mg C_Negative C_InvalidNumber C_InvalidSteps C_UnknownCell) : Df P W K cls mg base 1 "light_by" 3 M_light_by :=
  (df_mk (N := ["ticks", "density", "turned", "straight", "over"]) (ps := ["ticks", "density", "turned"]) (g := B_light_by) F b hm sc_light_by (fun cdv A outer s H E hr tk => (
  sss_cons (ss_asg (se_var 0) (sg_tup rfl (sgs_cons (sg_var 3 sc_light_by.nd) (sgs_cons (sg_var 4 sc_light_by.nd) (sgs_nil))))) (
  sss_one (ss_ret (se_bin ov_add (se_bin ov_mul (se_var 3) (se_ix (se_globG (by exact rfl) T.c_UNITS) (se_var 1))) (se_bin ov_mul (se_var 4) (se_ix (se_globG (by exact rfl) T.c_UNITS) (se_var 2)))))))))
theorem sc_mirrored : FnScope ["cell", "width", "column"] ["cell", "width"] (defScope s_mirrored) := ⟨rfl, rfl, rfl, by decide +kernel, rfl, by decide +kernel, by decide +kernel⟩
theorem df_mirrored (F : Fun K "mirrored" "mirrored" s_mirrored f fd) (b : Binds K fd ["cell", "width"] []) (hm : mg "mirrored" = some (.ref f)) (T : Tx P W K cls mg C_Negative C_InvalidNumber C_InvalidSteps C_UnknownCell) : Df P W K cls mg base 1 "mirrored" 2 M_mirrored :=
  (df_mk (N := ["cell", "width", "column"]) (ps := ["cell", "width"]) (g := B_mirrored) F b hm sc_mirrored (fun cdv A outer s H E hr tk => (
  sss_cons (ss_set 2 sc_mirrored.nd (se_bin ov_mod (se_var 0) (se_var 1))) (
  sss_one (ss_ret (se_bin ov_sub (se_bin ov_sub (se_bin ov_add (se_bin ov_sub (se_var 0) (se_var 2)) (se_var 1)) (se_int)) (se_var 2)))))))
theorem sc_ticks_of : FnScope ["deed", "width", "cell"] ["deed", "width", "cell"] (defScope s_ticks_of) := ⟨rfl, rfl, rfl, by decide +kernel, rfl, by decide +kernel, by decide +kernel⟩
theorem df_ticks_of (F : Fun K "ticks_of" "ticks_of" s_ticks_of f fd) (b : Binds K fd ["deed", "width", "cell"] []) (hm : mg "ticks_of" = some (.ref f)) (T : Tx P W K cls mg C_Negative C_InvalidNumber C_InvalidSteps C_UnknownCell) : Df P W K cls mg base 1 "ticks_of" 3 M_ticks_of :=
  (df_mk (N := ["deed", "width", "cell"]) (ps := ["deed", "width", "cell"]) (g := B_ticks_of) F b hm sc_ticks_of (fun cdv A outer s H E hr tk => (
  sss_cons (ss_if (st_cmp (ov_eq hr.units) (se_ix (se_var 0) (se_int)) (se_str)) (
  sss_one (ss_ret (se_if (st_cmp ov_in (se_var 2) (se_ix (se_var 0) (se_int))) (se_int) (se_ix (se_var 0) (se_int))))) (
  sss_nil)) (
  sss_one (ss_ret (se_callB (cv_max2 rfl) (by exact rfl) T.n_max (by decide +kernel) (sa_cons (se_int) (sa_cons (se_bin ov_sub (se_ix (se_var 0) (se_int)) (se_bin ov_mul (se_ix (se_var 0) (se_int)) (se_bin ov_mod (se_var 2) (se_var 1)))) (sa_nil)))))))))
theorem sc_open_pair : FnScope ["width", "recipe", "cell", "straight", "over", "is_over", "deed"] ["width", "recipe", "cell"] (defScope s_open_pair) := ⟨rfl, rfl, rfl, by decide +kernel, rfl, by decide +kernel, by decide +kernel⟩
theorem df_open_pair (F : Fun K "open_pair" "open_pair" s_open_pair f fd) (b : Binds K fd ["width", "recipe", "cell"] []) (hm : mg "open_pair" = some (.ref f)) (T : Tx P W K cls mg C_Negative C_InvalidNumber C_InvalidSteps C_UnknownCell) (G_ticks_of : Df P W K cls mg base 1 "ticks_of" 3 M_ticks_of) : Df P W K cls mg base 2 "open_pair" 3 M_open_pair :=
  (df_mk (N := ["width", "recipe", "cell", "straight", "over", "is_over", "deed"]) (ps := ["width", "recipe", "cell"]) (g := B_open_pair) F b hm sc_open_pair (fun cdv A outer s H E hr tk => (
  sss_cons (ss_asg2 (se_int) (sg_var 3 sc_open_pair.nd) (sg_var 4 sc_open_pair.nd)) (
  sss_cons (ss_set 5 sc_open_pair.nd (se_bl)) (
  sss_cons (ss_for (passes_of rfl) rfl (si_of (se_var 1)) (sg_var 6 sc_open_pair.nd) (
  sss_one (ss_if (st_cmp (ov_eq hr.units) (se_var 6) (se_globG (by exact rfl) T.c_FLIP)) (
  sss_one (ss_set 5 sc_open_pair.nd (se_not (se_var 5)))) (
  sss_one (ss_if (st_val (se_var 5)) (
  sss_one (ss_augAdd 4 sc_open_pair.nd (se_call tk G_ticks_of (hr.mono (by decide)) rfl (sa_cons (se_var 6) (sa_cons (se_var 0) (sa_cons (se_var 2) (sa_nil))))))) (
  sss_one (ss_augAdd 3 sc_open_pair.nd (se_call tk G_ticks_of (hr.mono (by decide)) rfl (sa_cons (se_var 6) (sa_cons (se_var 0) (sa_cons (se_var 2) (sa_nil)))))))))))) (
  sss_one (ss_ret (se_tup (sa_cons (se_var 3) (sa_cons (se_var 4) (sa_nil)))))))))))
theorem sc_light_of : FnScope ["width", "densities", "recipe", "cell", "turned"] ["width", "densities", "recipe", "cell"] (defScope s_light_of) := ⟨rfl, rfl, rfl, by decide +kernel, rfl, by decide +kernel, by decide +kernel⟩
theorem df_light_of (F : Fun K "light_of" "light_of" s_light_of f fd) (b : Binds K fd ["width", "densities", "recipe", "cell"] []) (hm : mg "light_of" = some (.ref f)) (T : Tx P W K cls mg C_Negative C_InvalidNumber C_InvalidSteps C_UnknownCell) (G_light_by : Df P W K cls mg base 1 "light_by" 3 M_light_by) (G_mirrored : Df P W K cls mg base 1 "mirrored" 2 M_mirrored) (G_open_pair : Df P W K cls mg base 2 "open_pair" 3 M_open_pair) : Df P W K cls mg base 3 "light_of" 4 M_light_of :=
  (df_mk (N := ["width", "densities", "recipe", "cell", "turned"]) (ps := ["width", "densities", "recipe", "cell"]) (g := B_light_of) F b hm sc_light_of (fun cdv A outer s H E hr tk => (
  sss_cons (ss_set 4 sc_light_of.nd (se_call tk G_mirrored (hr.mono (by decide)) rfl (sa_cons (se_var 3) (sa_cons (se_var 0) (sa_nil))))) (
  sss_one (ss_ret (se_call tk G_light_by (hr.mono (by decide)) rfl (sa_cons (se_call tk G_open_pair (hr.mono (by decide)) rfl (sa_cons (se_var 0) (sa_cons (se_var 2) (sa_cons (se_var 3) (sa_nil))))) (sa_cons (se_callTy cv_int (by exact rfl) T.n_int (by decide +kernel) (sa_cons (se_ix (se_var 1) (se_var 3)) (sa_nil))) (sa_cons (se_callTy cv_int (by exact rfl) T.n_int (by decide +kernel) (sa_cons (se_ix (se_var 1) (se_var 4)) (sa_nil))) (sa_nil))))))))))
theorem sc_light_turns : FnScope ["negative", "recipe", "cell", "first", "both"] ["negative", "recipe", "cell"] (defScope s_light_turns) := ⟨rfl, rfl, rfl, by decide +kernel, rfl, by decide +kernel, by decide +kernel⟩
theorem df_light_turns (F : Fun K "light_turns" "light_turns" s_light_turns f fd) (b : Binds K fd ["negative", "recipe", "cell"] []) (hm : mg "light_turns" = some (.ref f)) (T : Tx P W K cls mg C_Negative C_InvalidNumber C_InvalidSteps C_UnknownCell) (G_light_of : Df P W K cls mg base 3 "light_of" 4 M_light_of) {f_Negative_densities : Addr} (g_Negative_densities : Dm P W K cls mg base 1 f_Negative_densities 1 M_Negative_densities) {p_Negative_densities : Addr} (pp_Negative_densities : PropOf K C_Negative "densities" p_Negative_densities f_Negative_densities) {f_Negative_width : Addr} (g_Negative_width : Dm P W K cls mg base 1 f_Negative_width 1 M_Negative_width) {p_Negative_width : Addr} (pp_Negative_width : PropOf K C_Negative "width" p_Negative_width f_Negative_width) : Df P W K cls mg base 4 "light_turns" 3 M_light_turns :=
  (df_mk (N := ["negative", "recipe", "cell", "first", "both"]) (ps := ["negative", "recipe", "cell"]) (g := B_light_turns) F b hm sc_light_turns (fun cdv A outer s H E hr tk => (
  sss_cons (ss_set 3 sc_light_turns.nd (se_call tk G_light_of (hr.mono (by decide)) rfl (sa_cons (se_prop T.k_Negative pp_Negative_width g_Negative_width (hr.mono (by decide)) (se_var 0)) (sa_cons (se_prop T.k_Negative pp_Negative_densities g_Negative_densities (hr.mono (by decide)) (se_var 0)) (sa_cons (se_var 1) (sa_cons (se_var 2) (sa_nil))))))) (
  sss_cons (ss_set 4 sc_light_turns.nd (se_call tk G_light_of (hr.mono (by decide)) rfl (sa_cons (se_prop T.k_Negative pp_Negative_width g_Negative_width (hr.mono (by decide)) (se_var 0)) (sa_cons (se_prop T.k_Negative pp_Negative_densities g_Negative_densities (hr.mono (by decide)) (se_var 0)) (sa_cons (se_bin ov_add (se_var 1) (se_var 1)) (sa_cons (se_var 2) (sa_nil))))))) (
  sss_one (ss_ret (se_tup (sa_cons (se_var 3) (sa_cons (se_bin ov_sub (se_var 4) (se_var 3)) (sa_nil))))))))))
theorem sc_light_after : FnScope ["negative", "recipe", "cell", "count"] ["negative", "recipe", "cell", "count"] (defScope s_light_after) := ⟨rfl, rfl, rfl, by decide +kernel, rfl, by decide +kernel, by decide +kernel⟩
theorem df_light_after (F : Fun K "light_after" "light_after" s_light_after f fd) (b : Binds K fd ["negative", "recipe", "cell", "count"] []) (hm : mg "light_after" = some (.ref f)) (T : Tx P W K cls mg C_Negative C_InvalidNumber C_InvalidSteps C_UnknownCell) (G_check_cell : Df P W K cls mg base 2 "check_cell" 2 M_check_cell) (G_check_number : Df P W K cls mg base 2 "check_number" 3 M_check_number) (G_check_recipe : Df P W K cls mg base 5 "check_recipe" 2 M_check_recipe) (G_light_by_times : Df P W K cls mg base 1 "light_by_times" 2 M_light_by_times) (G_light_turns : Df P W K cls mg base 4 "light_turns" 3 M_light_turns) {f_Negativedd__lendd_ : Addr} (g_Negativedd__lendd_ : Dm P W K cls mg base 1 f_Negativedd__lendd_ 1 M_Negativedd__lendd_) (len_at : PySem.W.findIn K (.ref C_Negative) "__len__" = some (some (.ref f_Negativedd__lendd_))) (len_fn : PySem.W.isFn K (.ref f_Negativedd__lendd_) = true) : Df P W K cls mg base 6 "light_after" 4 M_light_after :=
  (df_mk (N := ["negative", "recipe", "cell", "count"]) (ps := ["negative", "recipe", "cell", "count"]) (g := B_light_after) F b hm sc_light_after (fun cdv A outer s H E hr tk => (
  sss_cons (ss_expr (se_call tk G_check_recipe (hr.mono (by decide)) rfl (sa_cons (se_var 1) (sa_cons (se_callB (cv_lenO T.k_Negative len_at len_fn g_Negativedd__lendd_ (hr.mono (by decide))) (by exact rfl) T.n_len (by decide +kernel) (sa_cons (se_var 0) (sa_nil))) (sa_nil))))) (
  sss_cons (ss_expr (se_call tk G_check_cell (hr.mono (by decide)) rfl (sa_cons (se_var 2) (sa_cons (se_callB (cv_lenO T.k_Negative len_at len_fn g_Negativedd__lendd_ (hr.mono (by decide))) (by exact rfl) T.n_len (by decide +kernel) (sa_cons (se_var 0) (sa_nil))) (sa_nil))))) (
  sss_cons (ss_expr (se_call tk G_check_number (hr.mono (by decide)) rfl (sa_cons (se_var 3) (sa_cons (se_int) (sa_cons (se_globG (by exact rfl) T.c_MOST_TIMES) (sa_nil)))))) (
  sss_one (ss_ret (se_call tk G_light_by_times (hr.mono (by decide)) rfl (sa_cons (se_call tk G_light_turns (hr.mono (by decide)) rfl (sa_cons (se_var 0) (sa_cons (se_var 1) (sa_cons (se_var 2) (sa_nil))))) (sa_cons (se_var 3) (sa_nil)))))))))))
theorem sc_are_steps : FnScope ["steps"] ["steps"] (defScope s_are_steps) := ⟨rfl, rfl, rfl, by decide +kernel, rfl, by decide +kernel, by decide +kernel⟩
theorem df_are_steps (F : Fun K "are_steps" "are_steps" s_are_steps f fd) (b : Binds K fd ["steps"] []) (hm : mg "are_steps" = some (.ref f)) (T : Tx P W K cls mg C_Negative C_InvalidNumber C_InvalidSteps C_UnknownCell) (G_ascends : Df P W K cls mg base 2 "ascends" 3 M_ascends) {f_Negativedd__lendd_ : Addr} (g_Negativedd__lendd_ : Dm P W K cls mg base 1 f_Negativedd__lendd_ 1 M_Negativedd__lendd_) (len_at : PySem.W.findIn K (.ref C_Negative) "__len__" = some (some (.ref f_Negativedd__lendd_))) (len_fn : PySem.W.isFn K (.ref f_Negativedd__lendd_) = true) : Df P W K cls mg base 3 "are_steps" 1 M_are_steps :=
  (df_mk (N := ["steps"]) (ps := ["steps"]) (g := B_are_steps) F b hm sc_are_steps (fun cdv A outer s H E hr tk => (
  sss_one (ss_ret (se_and (se_chain ov_le ov_le (se_int) (se_callB (cv_lenO T.k_Negative len_at len_fn g_Negativedd__lendd_ (hr.mono (by decide))) (by exact rfl) T.n_len (by decide +kernel) (sa_cons (se_var 0) (sa_nil))) (se_globG (by exact rfl) T.c_MOST_STEPS)) (se_one (se_call tk G_ascends (hr.mono (by decide)) rfl (sa_cons (se_var 0) (sa_cons (se_int) (sa_cons (se_globG (by exact rfl) T.c_GREATEST_STEP) (sa_nil)))))))))))
theorem sc_check_steps : FnScope ["steps"] ["steps"] (defScope s_check_steps) := ⟨rfl, rfl, rfl, by decide +kernel, rfl, by decide +kernel, by decide +kernel⟩
theorem df_check_steps (F : Fun K "check_steps" "check_steps" s_check_steps f fd) (b : Binds K fd ["steps"] []) (hm : mg "check_steps" = some (.ref f)) (T : Tx P W K cls mg C_Negative C_InvalidNumber C_InvalidSteps C_UnknownCell) (G_are_steps : Df P W K cls mg base 3 "are_steps" 1 M_are_steps) : Df P W K cls mg base 4 "check_steps" 1 M_check_steps :=
  (df_mk (N := ["steps"]) (ps := ["steps"]) (g := B_check_steps) F b hm sc_check_steps (fun cdv A outer s H E hr tk => (
  sss_one (ss_if (st_not (st_val (se_call tk G_are_steps (hr.mono (by decide)) rfl (sa_cons (se_var 0) (sa_nil))))) (
  sss_one (ss_raise rfl tk T.e_InvalidSteps rfl)) (
  sss_nil)))))
theorem sc_times_to : FnScope ["turns", "light", "first", "second", "pairs", "rest"] ["turns", "light"] (defScope s_times_to) := ⟨rfl, rfl, rfl, by decide +kernel, rfl, by decide +kernel, by decide +kernel⟩
theorem df_times_to (F : Fun K "times_to" "times_to" s_times_to f fd) (b : Binds K fd ["turns", "light"] []) (hm : mg "times_to" = some (.ref f)) (T : Tx P W K cls mg C_Negative C_InvalidNumber C_InvalidSteps C_UnknownCell) : Df P W K cls mg base 1 "times_to" 2 M_times_to :=
  (df_mk (N := ["turns", "light", "first", "second", "pairs", "rest"]) (ps := ["turns", "light"]) (g := B_times_to) F b hm sc_times_to (fun cdv A outer s H E hr tk => (
  sss_cons (ss_asg (se_var 0) (sg_tup rfl (sgs_cons (sg_var 2 sc_times_to.nd) (sgs_cons (sg_var 3 sc_times_to.nd) (sgs_nil))))) (
  sss_cons (ss_if (st_cmp (ov_eq hr.units) (se_bin ov_add (se_var 2) (se_var 3)) (se_int)) (
  sss_one (ss_ret (se_non))) (
  sss_nil)) (
  sss_cons (ss_asg (se_callB cv_divmod rfl T.n_divmod (by decide +kernel) (sa_cons (se_bin ov_sub (se_var 1) (se_int)) (sa_cons (se_bin ov_add (se_var 2) (se_var 3)) (sa_nil)))) (sg_tup rfl (sgs_cons (sg_var 4 sc_times_to.nd) (sgs_cons (sg_var 5 sc_times_to.nd) (sgs_nil))))) (
  sss_one (ss_ret (se_bin ov_add (se_bin ov_mul (se_int) (se_var 4)) (se_if (st_cmp ov_lt (se_var 5) (se_var 2)) (se_int) (se_int))))))))))
theorem sc_times_until : FnScope ["negative", "steps", "recipe", "cell", "tone"] ["negative", "steps", "recipe", "cell", "tone"] (defScope s_times_until) := ⟨rfl, rfl, rfl, by decide +kernel, rfl, by decide +kernel, by decide +kernel⟩
theorem df_times_until (F : Fun K "times_until" "times_until" s_times_until f fd) (b : Binds K fd ["negative", "steps", "recipe", "cell", "tone"] []) (hm : mg "times_until" = some (.ref f)) (T : Tx P W K cls mg C_Negative C_InvalidNumber C_InvalidSteps C_UnknownCell) (G_check_cell : Df P W K cls mg base 2 "check_cell" 2 M_check_cell) (G_check_number : Df P W K cls mg base 2 "check_number" 3 M_check_number) (G_check_recipe : Df P W K cls mg base 5 "check_recipe" 2 M_check_recipe) (G_check_steps : Df P W K cls mg base 4 "check_steps" 1 M_check_steps) (G_light_turns : Df P W K cls mg base 4 "light_turns" 3 M_light_turns) (G_times_to : Df P W K cls mg base 1 "times_to" 2 M_times_to) {f_Negativedd__lendd_ : Addr} (g_Negativedd__lendd_ : Dm P W K cls mg base 1 f_Negativedd__lendd_ 1 M_Negativedd__lendd_) (len_at : PySem.W.findIn K (.ref C_Negative) "__len__" = some (some (.ref f_Negativedd__lendd_))) (len_fn : PySem.W.isFn K (.ref f_Negativedd__lendd_) = true) : Df P W K cls mg base 6 "times_until" 5 M_times_until :=
  (df_mk (N := ["negative", "steps", "recipe", "cell", "tone"]) (ps := ["negative", "steps", "recipe", "cell", "tone"]) (g := B_times_until) F b hm sc_times_until (fun cdv A outer s H E hr tk => (
  sss_cons (ss_expr (se_call tk G_check_steps (hr.mono (by decide)) rfl (sa_cons (se_var 1) (sa_nil)))) (
  sss_cons (ss_expr (se_call tk G_check_recipe (hr.mono (by decide)) rfl (sa_cons (se_var 2) (sa_cons (se_callB (cv_lenO T.k_Negative len_at len_fn g_Negativedd__lendd_ (hr.mono (by decide))) (by exact rfl) T.n_len (by decide +kernel) (sa_cons (se_var 0) (sa_nil))) (sa_nil))))) (
  sss_cons (ss_expr (se_call tk G_check_cell (hr.mono (by decide)) rfl (sa_cons (se_var 3) (sa_cons (se_callB (cv_lenO T.k_Negative len_at len_fn g_Negativedd__lendd_ (hr.mono (by decide))) (by exact rfl) T.n_len (by decide +kernel) (sa_cons (se_var 0) (sa_nil))) (sa_nil))))) (
  sss_cons (ss_expr (se_call tk G_check_number (hr.mono (by decide)) rfl (sa_cons (se_var 4) (sa_cons (se_int) (sa_cons (se_callB (cv_lenO T.k_Negative len_at len_fn g_Negativedd__lendd_ (hr.mono (by decide))) (by exact rfl) T.n_len (by decide +kernel) (sa_cons (se_var 1) (sa_nil))) (sa_nil)))))) (
  sss_cons (ss_if (st_cmp (ov_eq hr.units) (se_var 4) (se_int)) (
  sss_one (ss_ret (se_int))) (
  sss_nil)) (
  sss_one (ss_ret (se_call tk G_times_to (hr.mono (by decide)) rfl (sa_cons (se_call tk G_light_turns (hr.mono (by decide)) rfl (sa_cons (se_var 0) (sa_cons (se_var 2) (sa_cons (se_var 3) (sa_nil))))) (sa_cons (se_ix (se_var 1) (se_bin ov_sub (se_var 4) (se_int))) (sa_nil)))))))))))))
theorem sc_law : FnScope ["_law_script", "_law_row", "_law_turn", "_law_negative_here", "_law_steps_here", "_law_recipe_here", "_law_cell", "_law_tone", "_law_first", "_law_is_over", "_law_both", "_law_light", "_law_times", "_law_count", "_law_heard", "_law_due", "_law_far"] ["_law_script"] (defScope s_law) := ⟨rfl, rfl, rfl, by decide +kernel, rfl, by decide +kernel, by decide +kernel⟩
theorem fn_law (F : Fun K "law" "law" s_law f fd) (T : Tx P W K cls mg C_Negative C_InvalidNumber C_InvalidSteps C_UnknownCell) (G_l_lights : Df P W K cls mg base 4 "_law_lights" 2 M_l_lights) (G_l_negative : Df P W K cls mg base 6 "_law_negative" 2 M_l_negative) (G_l_recipe : Df P W K cls mg base 5 "_law_recipe" 3 M_l_recipe) (G_l_steps : Df P W K cls mg base 4 "_law_steps" 1 M_l_steps) (G_l_taken : Df P W K cls mg base 3 "_law_taken" 2 M_l_taken) (G_light_after : Df P W K cls mg base 6 "light_after" 4 M_light_after) (G_times_until : Df P W K cls mg base 6 "times_until" 5 M_times_until) {f_Negativedd__lendd_ : Addr} (g_Negativedd__lendd_ : Dm P W K cls mg base 1 f_Negativedd__lendd_ 1 M_Negativedd__lendd_) (len_at : PySem.W.findIn K (.ref C_Negative) "__len__" = some (some (.ref f_Negativedd__lendd_))) (len_fn : PySem.W.isFn K (.ref f_Negativedd__lendd_) = true) : FnOk P W K mg base (CX P W) 7 f fd ["_law_script"] (spD K cls M_law 1) :=
  fn_fin (fn_mk (N := ["_law_script", "_law_row", "_law_turn", "_law_negative_here", "_law_steps_here", "_law_recipe_here", "_law_cell", "_law_tone", "_law_first", "_law_is_over", "_law_both", "_law_light", "_law_times", "_law_count", "_law_heard", "_law_due", "_law_far"]) (ps := ["_law_script"]) (g := B_law) F sc_law (fun cdv A outer s H E hr tk => (
  sss_cons (ss_set 1 sc_law.nd (se_lstT (sa_cons (se_var 0) (sa_cons (se_int) (sa_cons (se_int) (sa_cons (se_int) (sa_nil))))))) (
  sss_cons (ss_for (passes_of rfl) rfl (si_range1 rfl T.n_range (se_int)) (sg_var 2 sc_law.nd) (
  sss_cons (ss_par 3 4 rfl sc_law.nd (se_call tk G_l_negative (hr.mono (by decide)) rfl (sa_cons (se_var 1) (sa_cons (se_int) (sa_nil)))) (se_call tk G_l_steps (hr.mono (by decide)) rfl (sa_cons (se_var 1) (sa_nil)))) (
  sss_cons (ss_par 5 6 rfl sc_law.nd (se_call tk G_l_recipe (hr.mono (by decide)) rfl (sa_cons (se_var 1) (sa_cons (se_var 3) (sa_cons (se_int) (sa_nil))))) (se_call tk G_l_taken (hr.mono (by decide)) rfl (sa_cons (se_var 1) (sa_cons (se_callB (cv_lenO T.k_Negative len_at len_fn g_Negativedd__lendd_ (hr.mono (by decide))) (by exact rfl) T.n_len (by decide +kernel) (sa_cons (se_var 3) (sa_nil))) (sa_nil))))) (
  sss_cons (ss_set 7 sc_law.nd (se_call tk G_l_taken (hr.mono (by decide)) rfl (sa_cons (se_var 1) (sa_cons (se_bin ov_add (se_callB (cv_lenO T.k_Negative len_at len_fn g_Negativedd__lendd_ (hr.mono (by decide))) (by exact rfl) T.n_len (by decide +kernel) (sa_cons (se_var 4) (sa_nil))) (se_int)) (sa_nil))))) (
  sss_cons (ss_asg (se_call tk G_l_lights (hr.mono (by decide)) rfl (sa_cons (se_var 3) (sa_cons (se_var 5) (sa_nil)))) (sg_tup rfl (sgs_cons (sg_var 8 sc_law.nd) (sgs_cons (sg_var 9 sc_law.nd) (sgs_nil))))) (
  sss_cons (ss_set 10 sc_law.nd (se_ix (se_call tk G_l_lights (hr.mono (by decide)) rfl (sa_cons (se_var 3) (sa_cons (se_bin ov_add (se_var 5) (se_var 5)) (sa_nil)))) (se_int))) (
  sss_cons (ss_asg (se_tup (sa_cons (se_int) (sa_cons (se_non) (sa_nil)))) (sg_tup rfl (sgs_cons (sg_var 11 sc_law.nd) (sgs_cons (sg_var 12 sc_law.nd) (sgs_nil))))) (
  sss_cons (ss_for (passes_of rfl) rfl (si_range1 rfl T.n_range (se_int)) (sg_var 13 sc_law.nd) (
  sss_cons (ss_if (st_cmp (ov_ne hr.units) (se_call tk G_light_after (hr.mono (by decide)) rfl (sa_cons (se_var 3) (sa_cons (se_var 5) (sa_cons (se_var 6) (sa_cons (se_var 13) (sa_nil)))))) (se_var 11)) (
  sss_one (ss_ret (se_bl))) (
  sss_nil)) (
  sss_cons (ss_if (SW.st (sw_and (st_cmp ov_isN (se_var 12) (se_non)) (sw_and1 (SW.st (sw_or (st_cmp (ov_eq hr.units) (se_var 7) (se_int)) (sw_or1 (st_cmp ov_ge (se_var 11) (se_ix (se_var 4) (se_bin ov_sub (se_var 7) (se_int)))))))))) (
  sss_one (ss_set 12 sc_law.nd (se_var 13))) (
  sss_nil)) (
  sss_cons (ss_set 11 sc_law.nd (se_bin ov_add (se_var 11) (se_ix (se_var 8) (se_var 6)))) (
  sss_one (ss_if (st_cmp (ov_eq hr.units) (se_bin ov_mod (se_callTy cv_int (by exact rfl) T.n_int (by decide +kernel) (sa_cons (se_var 13) (sa_nil))) (se_int)) (se_int)) (
  sss_one (ss_set 11 sc_law.nd (se_bin ov_sub (se_bin ov_add (se_var 11) (se_ix (se_var 10) (se_var 6))) (se_bin ov_mul (se_int) (se_ix (se_var 8) (se_var 6)))))) (
  sss_nil))))))) (
  sss_cons (ss_set 14 sc_law.nd (se_call tk G_times_until (hr.mono (by decide)) rfl (sa_cons (se_var 3) (sa_cons (se_var 4) (sa_cons (se_var 5) (sa_cons (se_var 6) (sa_cons (se_var 7) (sa_nil)))))))) (
  sss_cons (ss_if (SW.st (sw_and (st_cmp ov_notN (se_var 12) (se_non)) (sw_and1 (st_cmp (ov_ne hr.units) (se_var 14) (se_var 12))))) (
  sss_one (ss_ret (se_bl))) (
  sss_nil)) (
  sss_cons (ss_if (st_cmp (ov_ne hr.units) (se_cmp ov_isN (se_var 14) (se_non)) (se_and (se_cmp ov_gt (se_var 7) (se_int)) (se_one (se_cmp (ov_eq hr.units) (se_ix (se_var 10) (se_var 6)) (se_int))))) (
  sss_one (ss_ret (se_bl))) (
  sss_nil)) (
  sss_cons (ss_if (SW.st (sw_and (st_cmp ov_notN (se_var 14) (se_non)) (sw_and1 (st_cmp ov_gt (se_var 14) (se_int))))) (
  sss_cons (ss_set 15 sc_law.nd (se_ix (se_var 4) (se_bin ov_sub (se_var 7) (se_int)))) (
  sss_cons (ss_if (st_cmp ov_lt (se_call tk G_light_after (hr.mono (by decide)) rfl (sa_cons (se_var 3) (sa_cons (se_var 5) (sa_cons (se_var 6) (sa_cons (se_var 14) (sa_nil)))))) (se_var 15)) (
  sss_one (ss_ret (se_bl))) (
  sss_nil)) (
  sss_one (ss_if (st_cmp ov_ge (se_call tk G_light_after (hr.mono (by decide)) rfl (sa_cons (se_var 3) (sa_cons (se_var 5) (sa_cons (se_var 6) (sa_cons (se_bin ov_sub (se_var 14) (se_int)) (sa_nil)))))) (se_var 15)) (
  sss_one (ss_ret (se_bl))) (
  sss_nil))))) (
  sss_nil)) (
  sss_cons (ss_set 16 sc_law.nd (se_bin ov_add (se_bin ov_pow (se_int) (se_int)) (se_call tk G_l_taken (hr.mono (by decide)) rfl (sa_cons (se_var 1) (sa_cons (se_int) (sa_nil)))))) (
  sss_cons (ss_if (st_cmp (ov_ne hr.units) (se_call tk G_light_after (hr.mono (by decide)) rfl (sa_cons (se_var 3) (sa_cons (se_var 5) (sa_cons (se_var 6) (sa_cons (se_bin ov_mul (se_int) (se_var 16)) (sa_nil)))))) (se_bin ov_mul (se_var 16) (se_ix (se_var 10) (se_var 6)))) (
  sss_one (ss_ret (se_bl))) (
  sss_nil)) (
  sss_one (ss_if (st_cmp (ov_ne hr.units) (se_call tk G_light_after (hr.mono (by decide)) rfl (sa_cons (se_var 3) (sa_cons (se_var 5) (sa_cons (se_var 6) (sa_cons (se_bin ov_add (se_bin ov_mul (se_int) (se_var 16)) (se_int)) (sa_nil)))))) (se_bin ov_add (se_bin ov_mul (se_var 16) (se_ix (se_var 10) (se_var 6))) (se_ix (se_var 8) (se_var 6)))) (
  sss_one (ss_ret (se_bl))) (
  sss_nil))))))))))))))))) (
  sss_one (ss_ret (se_bl)))))))
end
end K34

set_option Elab.async false
set_option linter.all false
set_option maxRecDepth 100000
namespace K34
open PySem L2 Fw Pg
set_option maxHeartbeats 8000000 in
theorem all_mk {l : PySem.W.OpenLaw} {w : World} {K : PySem.W.Frag} {h : Heap} {mg : Str → Option Value} {fa : Addr} (X : K.In h) (G : h.Ns mainGlobals mg) (hfa : mg "law" = some (.ref fa))
    {C_UnknownCell : Addr}
    {C_InvalidSteps : Addr}
    {C_InvalidNumber : Addr}
    {C_Negative : Addr}
    {f_Negativedd__lendd_ : Addr} {od_Negativedd__lendd_ an_Negativedd__lendd_ : Option Addr} {sl_Negativedd__lendd_ : Array (Option Value)} {oc_Negativedd__lendd_ kV_Negativedd__lendd_ dc_Negativedd__lendd_ pm_Negativedd__lendd_ cd_Negativedd__lendd_ ct_Negativedd__lendd_ : Value}
    {f_Negative_densities : Addr} {od_Negative_densities an_Negative_densities : Option Addr} {sl_Negative_densities : Array (Option Value)} {oc_Negative_densities kV_Negative_densities dc_Negative_densities pm_Negative_densities cd_Negative_densities ct_Negative_densities : Value}
    {p_Negative_densities : Addr} {rs_Negative_densities : List Value}
    {f_Negative_width : Addr} {od_Negative_width an_Negative_width : Option Addr} {sl_Negative_width : Array (Option Value)} {oc_Negative_width kV_Negative_width dc_Negative_width pm_Negative_width cd_Negative_width ct_Negative_width : Value}
    {p_Negative_width : Addr} {rs_Negative_width : List Value}
    {f_l_open : Addr} {od_l_open an_l_open : Option Addr} {sl_l_open : Array (Option Value)} {oc_l_open kV_l_open dc_l_open pm_l_open cd_l_open ct_l_open : Value}
    {f_l_lights : Addr} {od_l_lights an_l_lights : Option Addr} {sl_l_lights : Array (Option Value)} {oc_l_lights kV_l_lights dc_l_lights pm_l_lights cd_l_lights ct_l_lights : Value}
    {f_is_number : Addr} {od_is_number an_is_number : Option Addr} {sl_is_number : Array (Option Value)} {oc_is_number kV_is_number dc_is_number pm_is_number cd_is_number ct_is_number : Value}
    {f_wrong_side : Addr} {od_wrong_side an_wrong_side : Option Addr} {sl_wrong_side : Array (Option Value)} {oc_wrong_side kV_wrong_side dc_wrong_side pm_wrong_side cd_wrong_side ct_wrong_side : Value}
    {f_wrong_part : Addr} {od_wrong_part an_wrong_part : Option Addr} {sl_wrong_part : Array (Option Value)} {oc_wrong_part kV_wrong_part dc_wrong_part pm_wrong_part cd_wrong_part ct_wrong_part : Value}
    {f_Negativedd__initdd_ : Addr} {od_Negativedd__initdd_ an_Negativedd__initdd_ : Option Addr} {sl_Negativedd__initdd_ : Array (Option Value)} {oc_Negativedd__initdd_ kV_Negativedd__initdd_ dc_Negativedd__initdd_ pm_Negativedd__initdd_ cd_Negativedd__initdd_ ct_Negativedd__initdd_ : Value}
    {f_l_taken : Addr} {od_l_taken an_l_taken : Option Addr} {sl_l_taken : Array (Option Value)} {oc_l_taken kV_l_taken dc_l_taken pm_l_taken cd_l_taken ct_l_taken : Value}
    {f_l_negative : Addr} {od_l_negative an_l_negative : Option Addr} {sl_l_negative : Array (Option Value)} {oc_l_negative kV_l_negative dc_l_negative pm_l_negative cd_l_negative ct_l_negative : Value}
    {f_l_deed : Addr} {od_l_deed an_l_deed : Option Addr} {sl_l_deed : Array (Option Value)} {oc_l_deed kV_l_deed dc_l_deed pm_l_deed cd_l_deed ct_l_deed : Value}
    {f_l_recipe : Addr} {od_l_recipe an_l_recipe : Option Addr} {sl_l_recipe : Array (Option Value)} {oc_l_recipe kV_l_recipe dc_l_recipe pm_l_recipe cd_l_recipe ct_l_recipe : Value}
    {f_l_steps : Addr} {od_l_steps an_l_steps : Option Addr} {sl_l_steps : Array (Option Value)} {oc_l_steps kV_l_steps dc_l_steps pm_l_steps cd_l_steps ct_l_steps : Value}
    {f_check_cell : Addr} {od_check_cell an_check_cell : Option Addr} {sl_check_cell : Array (Option Value)} {oc_check_cell kV_check_cell dc_check_cell pm_check_cell cd_check_cell ct_check_cell : Value}
    {f_check_number : Addr} {od_check_number an_check_number : Option Addr} {sl_check_number : Array (Option Value)} {oc_check_number kV_check_number dc_check_number pm_check_number cd_check_number ct_check_number : Value}
    {f_ascends : Addr} {od_ascends an_ascends : Option Addr} {sl_ascends : Array (Option Value)} {oc_ascends kV_ascends dc_ascends pm_ascends cd_ascends ct_ascends : Value}
    {f_is_mask : Addr} {od_is_mask an_is_mask : Option Addr} {sl_is_mask : Array (Option Value)} {oc_is_mask kV_is_mask dc_is_mask pm_is_mask cd_is_mask ct_is_mask : Value}
    {f_is_deed : Addr} {od_is_deed an_is_deed : Option Addr} {sl_is_deed : Array (Option Value)} {oc_is_deed kV_is_deed dc_is_deed pm_is_deed cd_is_deed ct_is_deed : Value}
    {f_check_recipe : Addr} {od_check_recipe an_check_recipe : Option Addr} {sl_check_recipe : Array (Option Value)} {oc_check_recipe kV_check_recipe dc_check_recipe pm_check_recipe cd_check_recipe ct_check_recipe : Value}
    {f_light_by_times : Addr} {od_light_by_times an_light_by_times : Option Addr} {sl_light_by_times : Array (Option Value)} {oc_light_by_times kV_light_by_times dc_light_by_times pm_light_by_times cd_light_by_times ct_light_by_times : Value}
    {f_light_by : Addr} {od_light_by an_light_by : Option Addr} {sl_light_by : Array (Option Value)} {oc_light_by kV_light_by dc_light_by pm_light_by cd_light_by ct_light_by : Value}
    {f_mirrored : Addr} {od_mirrored an_mirrored : Option Addr} {sl_mirrored : Array (Option Value)} {oc_mirrored kV_mirrored dc_mirrored pm_mirrored cd_mirrored ct_mirrored : Value}
    {f_ticks_of : Addr} {od_ticks_of an_ticks_of : Option Addr} {sl_ticks_of : Array (Option Value)} {oc_ticks_of kV_ticks_of dc_ticks_of pm_ticks_of cd_ticks_of ct_ticks_of : Value}
    {f_open_pair : Addr} {od_open_pair an_open_pair : Option Addr} {sl_open_pair : Array (Option Value)} {oc_open_pair kV_open_pair dc_open_pair pm_open_pair cd_open_pair ct_open_pair : Value}
    {f_light_of : Addr} {od_light_of an_light_of : Option Addr} {sl_light_of : Array (Option Value)} {oc_light_of kV_light_of dc_light_of pm_light_of cd_light_of ct_light_of : Value}
    {f_light_turns : Addr} {od_light_turns an_light_turns : Option Addr} {sl_light_turns : Array (Option Value)} {oc_light_turns kV_light_turns dc_light_turns pm_light_turns cd_light_turns ct_light_turns : Value}
    {f_light_after : Addr} {od_light_after an_light_after : Option Addr} {sl_light_after : Array (Option Value)} {oc_light_after kV_light_after dc_light_after pm_light_after cd_light_after ct_light_after : Value}
    {f_are_steps : Addr} {od_are_steps an_are_steps : Option Addr} {sl_are_steps : Array (Option Value)} {oc_are_steps kV_are_steps dc_are_steps pm_are_steps cd_are_steps ct_are_steps : Value}
    {f_check_steps : Addr} {od_check_steps an_check_steps : Option Addr} {sl_check_steps : Array (Option Value)} {oc_check_steps kV_check_steps dc_check_steps pm_check_steps cd_check_steps ct_check_steps : Value}
    {f_times_to : Addr} {od_times_to an_times_to : Option Addr} {sl_times_to : Array (Option Value)} {oc_times_to kV_times_to dc_times_to pm_times_to cd_times_to ct_times_to : Value}
    {f_times_until : Addr} {od_times_until an_times_until : Option Addr} {sl_times_until : Array (Option Value)} {oc_times_until kV_times_until dc_times_until pm_times_until cd_times_until ct_times_until : Value}
    {f_law : Addr} {od_law an_law : Option Addr} {sl_law : Array (Option Value)} {oc_law kV_law dc_law pm_law cd_law ct_law : Value}
    {t_DENSITIES : Tok}
    {p_FLIP : Addr} {dd_FLIP : Option Addr} {z_FLIP : Nat} {sl_FLIP : Array (Option Value)}
    {t_FLIP_0 : Tok}
    {t_GREATEST_STEP : Tok}
    {t_MOST_CELLS : Tok}
    {t_MOST_DEEDS : Tok}
    {t_MOST_SIDE : Tok}
    {t_MOST_STEPS : Tok}
    {t_MOST_TICKS : Tok}
    {t_MOST_TIMES : Tok}
    {p_UNITS : Addr} {dd_UNITS : Option Addr} {z_UNITS : Nat} {sl_UNITS : Array (Option Value)}
    {t_UNITS_0 : Tok}
    {t_UNITS_1 : Tok}
    {t_UNITS_2 : Tok}
    {t_UNITS_3 : Tok}
    {t_UNITS_4 : Tok}
    (aC_Negative : PySem.W.nsIn K mainGlobals "Negative" = some (some (.ref C_Negative)))
    (pg_Negative : PySem.W.plainGet K C_Negative Str.empty = true)
    (hd_Negative : PySem.W.hasDictIn K C_Negative = true)
    (po_Negative : PySem.W.plainOver K C_Negative = true)
    (sa_Negative : PySem.W.findIn K (.ref C_Negative) "__setattr__" = some (some (.builtin "object.__setattr__")))
    (mk_Negative : PySem.W.makesIn K C_Negative = true)
    (kc_Negative : PySem.W.keepIn K (.ref C_Negative) = true)
    (nf_Negative_columns : PySem.W.findIn K (.ref C_Negative) "columns" = some none)
    (nf_Negative_figures : PySem.W.findIn K (.ref C_Negative) "figures" = some none)
    (nf_Negative_lines : PySem.W.findIn K (.ref C_Negative) "lines" = some none)
    (aC_InvalidNumber : PySem.W.nsIn K mainGlobals "InvalidNumber" = some (some (.ref C_InvalidNumber)))
    (kc_InvalidNumber : PySem.W.keepIn K (.ref C_InvalidNumber) = true)
    (sb_InvalidNumber : PySem.W.subIn K (.ref C_InvalidNumber) (.type "BaseException") = some true)
    (ty_InvalidNumber : PySem.W.typeIn K (.ref C_InvalidNumber) = some (.type "type"))
    (xi_InvalidNumber : PySem.W.excIn K C_InvalidNumber veBase "ValueError.__new__" = true)
    (aC_InvalidSteps : PySem.W.nsIn K mainGlobals "InvalidSteps" = some (some (.ref C_InvalidSteps)))
    (kc_InvalidSteps : PySem.W.keepIn K (.ref C_InvalidSteps) = true)
    (sb_InvalidSteps : PySem.W.subIn K (.ref C_InvalidSteps) (.type "BaseException") = some true)
    (ty_InvalidSteps : PySem.W.typeIn K (.ref C_InvalidSteps) = some (.type "type"))
    (xi_InvalidSteps : PySem.W.excIn K C_InvalidSteps veBase "ValueError.__new__" = true)
    (aC_UnknownCell : PySem.W.nsIn K mainGlobals "UnknownCell" = some (some (.ref C_UnknownCell)))
    (kc_UnknownCell : PySem.W.keepIn K (.ref C_UnknownCell) = true)
    (sb_UnknownCell : PySem.W.subIn K (.ref C_UnknownCell) (.type "BaseException") = some true)
    (ty_UnknownCell : PySem.W.typeIn K (.ref C_UnknownCell) = some (.type "type"))
    (xi_UnknownCell : PySem.W.excIn K C_UnknownCell veBase "ValueError.__new__" = true)
    (n_all : PySem.W.nsIn K mainGlobals "all" = some none)
    (n_bool : PySem.W.nsIn K mainGlobals "bool" = some none)
    (n_divmod : PySem.W.nsIn K mainGlobals "divmod" = some none)
    (n_enumerate : PySem.W.nsIn K mainGlobals "enumerate" = some none)
    (n_int : PySem.W.nsIn K mainGlobals "int" = some none)
    (n_isinstance : PySem.W.nsIn K mainGlobals "isinstance" = some none)
    (n_len : PySem.W.nsIn K mainGlobals "len" = some none)
    (n_max : PySem.W.nsIn K mainGlobals "max" = some none)
    (n_range : PySem.W.nsIn K mainGlobals "range" = some none)
    (n_tuple : PySem.W.nsIn K mainGlobals "tuple" = some none)
    (g_DENSITIES : PySem.W.nsIn K mainGlobals "DENSITIES" = some (some (.str (PySem.Str.ofString "01234") t_DENSITIES)))
    (g_FLIP : PySem.W.nsIn K mainGlobals "FLIP" = some (some (.ref p_FLIP)))
    (gl_FLIP : K.lookup p_FLIP = some ⟨.type "tuple", dd_FLIP, .seq #[.str (PySem.Str.ofString "flip") t_FLIP_0] z_FLIP, sl_FLIP⟩)
    (g_GREATEST_STEP : PySem.W.nsIn K mainGlobals "GREATEST_STEP" = some (some (.int 9999 t_GREATEST_STEP)))
    (g_MOST_CELLS : PySem.W.nsIn K mainGlobals "MOST_CELLS" = some (some (.int 9 t_MOST_CELLS)))
    (g_MOST_DEEDS : PySem.W.nsIn K mainGlobals "MOST_DEEDS" = some (some (.int 8 t_MOST_DEEDS)))
    (g_MOST_SIDE : PySem.W.nsIn K mainGlobals "MOST_SIDE" = some (some (.int 4 t_MOST_SIDE)))
    (g_MOST_STEPS : PySem.W.nsIn K mainGlobals "MOST_STEPS" = some (some (.int 5 t_MOST_STEPS)))
    (g_MOST_TICKS : PySem.W.nsIn K mainGlobals "MOST_TICKS" = some (some (.int 99 t_MOST_TICKS)))
    (g_MOST_TIMES : PySem.W.nsIn K mainGlobals "MOST_TIMES" = some (some (.int 1000000000000000 t_MOST_TIMES)))
    (g_UNITS : PySem.W.nsIn K mainGlobals "UNITS" = some (some (.ref p_UNITS)))
    (gl_UNITS : K.lookup p_UNITS = some ⟨.type "tuple", dd_UNITS, .seq #[.int 16 t_UNITS_0, .int 8 t_UNITS_1, .int 4 t_UNITS_2, .int 2 t_UNITS_3, .int 1 t_UNITS_4] z_UNITS, sl_UNITS⟩)
    (a_Negativedd__lendd_ : PySem.W.findIn K (.ref C_Negative) "__len__" = some (some (.ref f_Negativedd__lendd_)))
    (i_Negativedd__lendd_ : PySem.W.isFn K (.ref f_Negativedd__lendd_) = true)
    (l_Negativedd__lendd_ : K.lookup f_Negativedd__lendd_ = some ⟨oc_Negativedd__lendd_, od_Negativedd__lendd_, .func (PySem.W.fnOf "__len__" "Negative.__len__" (defArgs s_Negativedd__lendd_) (defBody s_Negativedd__lendd_) (defScope s_Negativedd__lendd_) .none kV_Negativedd__lendd_ dc_Negativedd__lendd_ pm_Negativedd__lendd_ an_Negativedd__lendd_ cd_Negativedd__lendd_ ct_Negativedd__lendd_), sl_Negativedd__lendd_⟩)
    (c_Negativedd__lendd_ : PySem.W.codeIn K cd_Negativedd__lendd_ "Negative.__len__" = true)
    (k_Negativedd__lendd_ : PySem.W.keepIn K (.ref f_Negativedd__lendd_) = true)
    (a_Negative_densities : PySem.W.findIn K (.ref C_Negative) "densities" = some (some (.ref p_Negative_densities)))
    (pg_Negative_densities : PySem.W.specialIn K (.ref p_Negative_densities) "__get__" = some (some (.builtin "property.__get__")))
    (pt_Negative_densities : PySem.W.takesIn K (.ref p_Negative_densities) = some true)
    (pr_Negative_densities : PySem.W.recIn K p_Negative_densities "property" = some (.ref f_Negative_densities :: rs_Negative_densities))
    (l_Negative_densities : K.lookup f_Negative_densities = some ⟨oc_Negative_densities, od_Negative_densities, .func (PySem.W.fnOf "densities" "Negative.densities" (defArgs s_Negative_densities) (defBody s_Negative_densities) (defScope s_Negative_densities) .none kV_Negative_densities dc_Negative_densities pm_Negative_densities an_Negative_densities cd_Negative_densities ct_Negative_densities), sl_Negative_densities⟩)
    (c_Negative_densities : PySem.W.codeIn K cd_Negative_densities "Negative.densities" = true)
    (k_Negative_densities : PySem.W.keepIn K (.ref f_Negative_densities) = true)
    (a_Negative_width : PySem.W.findIn K (.ref C_Negative) "width" = some (some (.ref p_Negative_width)))
    (pg_Negative_width : PySem.W.specialIn K (.ref p_Negative_width) "__get__" = some (some (.builtin "property.__get__")))
    (pt_Negative_width : PySem.W.takesIn K (.ref p_Negative_width) = some true)
    (pr_Negative_width : PySem.W.recIn K p_Negative_width "property" = some (.ref f_Negative_width :: rs_Negative_width))
    (l_Negative_width : K.lookup f_Negative_width = some ⟨oc_Negative_width, od_Negative_width, .func (PySem.W.fnOf "width" "Negative.width" (defArgs s_Negative_width) (defBody s_Negative_width) (defScope s_Negative_width) .none kV_Negative_width dc_Negative_width pm_Negative_width an_Negative_width cd_Negative_width ct_Negative_width), sl_Negative_width⟩)
    (c_Negative_width : PySem.W.codeIn K cd_Negative_width "Negative.width" = true)
    (k_Negative_width : PySem.W.keepIn K (.ref f_Negative_width) = true)
    (a_l_open : PySem.W.nsIn K mainGlobals "_law_open" = some (some (.ref f_l_open)))
    (l_l_open : K.lookup f_l_open = some ⟨oc_l_open, od_l_open, .func (PySem.W.fnOf "_law_open" "_law_open" (defArgs s_l_open) (defBody s_l_open) (defScope s_l_open) .none kV_l_open dc_l_open pm_l_open an_l_open cd_l_open ct_l_open), sl_l_open⟩)
    (c_l_open : PySem.W.codeIn K cd_l_open "_law_open" = true)
    (k_l_open : PySem.W.keepIn K (.ref f_l_open) = true)
    (a_l_lights : PySem.W.nsIn K mainGlobals "_law_lights" = some (some (.ref f_l_lights)))
    (l_l_lights : K.lookup f_l_lights = some ⟨oc_l_lights, od_l_lights, .func (PySem.W.fnOf "_law_lights" "_law_lights" (defArgs s_l_lights) (defBody s_l_lights) (defScope s_l_lights) .none kV_l_lights dc_l_lights pm_l_lights an_l_lights cd_l_lights ct_l_lights), sl_l_lights⟩)
    (c_l_lights : PySem.W.codeIn K cd_l_lights "_law_lights" = true)
    (k_l_lights : PySem.W.keepIn K (.ref f_l_lights) = true)
    (a_is_number : PySem.W.nsIn K mainGlobals "is_number" = some (some (.ref f_is_number)))
    (l_is_number : K.lookup f_is_number = some ⟨oc_is_number, od_is_number, .func (PySem.W.fnOf "is_number" "is_number" (defArgs s_is_number) (defBody s_is_number) (defScope s_is_number) .none kV_is_number dc_is_number pm_is_number an_is_number cd_is_number ct_is_number), sl_is_number⟩)
    (c_is_number : PySem.W.codeIn K cd_is_number "is_number" = true)
    (k_is_number : PySem.W.keepIn K (.ref f_is_number) = true)
    (a_wrong_side : PySem.W.nsIn K mainGlobals "wrong_side" = some (some (.ref f_wrong_side)))
    (l_wrong_side : K.lookup f_wrong_side = some ⟨oc_wrong_side, od_wrong_side, .func (PySem.W.fnOf "wrong_side" "wrong_side" (defArgs s_wrong_side) (defBody s_wrong_side) (defScope s_wrong_side) .none kV_wrong_side dc_wrong_side pm_wrong_side an_wrong_side cd_wrong_side ct_wrong_side), sl_wrong_side⟩)
    (c_wrong_side : PySem.W.codeIn K cd_wrong_side "wrong_side" = true)
    (k_wrong_side : PySem.W.keepIn K (.ref f_wrong_side) = true)
    (a_wrong_part : PySem.W.nsIn K mainGlobals "wrong_part" = some (some (.ref f_wrong_part)))
    (l_wrong_part : K.lookup f_wrong_part = some ⟨oc_wrong_part, od_wrong_part, .func (PySem.W.fnOf "wrong_part" "wrong_part" (defArgs s_wrong_part) (defBody s_wrong_part) (defScope s_wrong_part) .none kV_wrong_part dc_wrong_part pm_wrong_part an_wrong_part cd_wrong_part ct_wrong_part), sl_wrong_part⟩)
    (c_wrong_part : PySem.W.codeIn K cd_wrong_part "wrong_part" = true)
    (k_wrong_part : PySem.W.keepIn K (.ref f_wrong_part) = true)
    (a_Negativedd__initdd_ : PySem.W.findIn K (.ref C_Negative) "__init__" = some (some (.ref f_Negativedd__initdd_)))
    (i_Negativedd__initdd_ : PySem.W.isFn K (.ref f_Negativedd__initdd_) = true)
    (l_Negativedd__initdd_ : K.lookup f_Negativedd__initdd_ = some ⟨oc_Negativedd__initdd_, od_Negativedd__initdd_, .func (PySem.W.fnOf "__init__" "Negative.__init__" (defArgs s_Negativedd__initdd_) (defBody s_Negativedd__initdd_) (defScope s_Negativedd__initdd_) .none kV_Negativedd__initdd_ dc_Negativedd__initdd_ pm_Negativedd__initdd_ an_Negativedd__initdd_ cd_Negativedd__initdd_ ct_Negativedd__initdd_), sl_Negativedd__initdd_⟩)
    (c_Negativedd__initdd_ : PySem.W.codeIn K cd_Negativedd__initdd_ "Negative.__init__" = true)
    (k_Negativedd__initdd_ : PySem.W.keepIn K (.ref f_Negativedd__initdd_) = true)
    (a_l_taken : PySem.W.nsIn K mainGlobals "_law_taken" = some (some (.ref f_l_taken)))
    (l_l_taken : K.lookup f_l_taken = some ⟨oc_l_taken, od_l_taken, .func (PySem.W.fnOf "_law_taken" "_law_taken" (defArgs s_l_taken) (defBody s_l_taken) (defScope s_l_taken) .none kV_l_taken dc_l_taken pm_l_taken an_l_taken cd_l_taken ct_l_taken), sl_l_taken⟩)
    (c_l_taken : PySem.W.codeIn K cd_l_taken "_law_taken" = true)
    (k_l_taken : PySem.W.keepIn K (.ref f_l_taken) = true)
    (a_l_negative : PySem.W.nsIn K mainGlobals "_law_negative" = some (some (.ref f_l_negative)))
    (l_l_negative : K.lookup f_l_negative = some ⟨oc_l_negative, od_l_negative, .func (PySem.W.fnOf "_law_negative" "_law_negative" (defArgs s_l_negative) (defBody s_l_negative) (defScope s_l_negative) .none kV_l_negative dc_l_negative pm_l_negative an_l_negative cd_l_negative ct_l_negative), sl_l_negative⟩)
    (c_l_negative : PySem.W.codeIn K cd_l_negative "_law_negative" = true)
    (k_l_negative : PySem.W.keepIn K (.ref f_l_negative) = true)
    (a_l_deed : PySem.W.nsIn K mainGlobals "_law_deed" = some (some (.ref f_l_deed)))
    (l_l_deed : K.lookup f_l_deed = some ⟨oc_l_deed, od_l_deed, .func (PySem.W.fnOf "_law_deed" "_law_deed" (defArgs s_l_deed) (defBody s_l_deed) (defScope s_l_deed) .none kV_l_deed dc_l_deed pm_l_deed an_l_deed cd_l_deed ct_l_deed), sl_l_deed⟩)
    (c_l_deed : PySem.W.codeIn K cd_l_deed "_law_deed" = true)
    (k_l_deed : PySem.W.keepIn K (.ref f_l_deed) = true)
    (a_l_recipe : PySem.W.nsIn K mainGlobals "_law_recipe" = some (some (.ref f_l_recipe)))
    (l_l_recipe : K.lookup f_l_recipe = some ⟨oc_l_recipe, od_l_recipe, .func (PySem.W.fnOf "_law_recipe" "_law_recipe" (defArgs s_l_recipe) (defBody s_l_recipe) (defScope s_l_recipe) .none kV_l_recipe dc_l_recipe pm_l_recipe an_l_recipe cd_l_recipe ct_l_recipe), sl_l_recipe⟩)
    (c_l_recipe : PySem.W.codeIn K cd_l_recipe "_law_recipe" = true)
    (k_l_recipe : PySem.W.keepIn K (.ref f_l_recipe) = true)
    (a_l_steps : PySem.W.nsIn K mainGlobals "_law_steps" = some (some (.ref f_l_steps)))
    (l_l_steps : K.lookup f_l_steps = some ⟨oc_l_steps, od_l_steps, .func (PySem.W.fnOf "_law_steps" "_law_steps" (defArgs s_l_steps) (defBody s_l_steps) (defScope s_l_steps) .none kV_l_steps dc_l_steps pm_l_steps an_l_steps cd_l_steps ct_l_steps), sl_l_steps⟩)
    (c_l_steps : PySem.W.codeIn K cd_l_steps "_law_steps" = true)
    (k_l_steps : PySem.W.keepIn K (.ref f_l_steps) = true)
    (a_check_cell : PySem.W.nsIn K mainGlobals "check_cell" = some (some (.ref f_check_cell)))
    (l_check_cell : K.lookup f_check_cell = some ⟨oc_check_cell, od_check_cell, .func (PySem.W.fnOf "check_cell" "check_cell" (defArgs s_check_cell) (defBody s_check_cell) (defScope s_check_cell) .none kV_check_cell dc_check_cell pm_check_cell an_check_cell cd_check_cell ct_check_cell), sl_check_cell⟩)
    (c_check_cell : PySem.W.codeIn K cd_check_cell "check_cell" = true)
    (k_check_cell : PySem.W.keepIn K (.ref f_check_cell) = true)
    (a_check_number : PySem.W.nsIn K mainGlobals "check_number" = some (some (.ref f_check_number)))
    (l_check_number : K.lookup f_check_number = some ⟨oc_check_number, od_check_number, .func (PySem.W.fnOf "check_number" "check_number" (defArgs s_check_number) (defBody s_check_number) (defScope s_check_number) .none kV_check_number dc_check_number pm_check_number an_check_number cd_check_number ct_check_number), sl_check_number⟩)
    (c_check_number : PySem.W.codeIn K cd_check_number "check_number" = true)
    (k_check_number : PySem.W.keepIn K (.ref f_check_number) = true)
    (a_ascends : PySem.W.nsIn K mainGlobals "ascends" = some (some (.ref f_ascends)))
    (l_ascends : K.lookup f_ascends = some ⟨oc_ascends, od_ascends, .func (PySem.W.fnOf "ascends" "ascends" (defArgs s_ascends) (defBody s_ascends) (defScope s_ascends) .none kV_ascends dc_ascends pm_ascends an_ascends cd_ascends ct_ascends), sl_ascends⟩)
    (c_ascends : PySem.W.codeIn K cd_ascends "ascends" = true)
    (k_ascends : PySem.W.keepIn K (.ref f_ascends) = true)
    (a_is_mask : PySem.W.nsIn K mainGlobals "is_mask" = some (some (.ref f_is_mask)))
    (l_is_mask : K.lookup f_is_mask = some ⟨oc_is_mask, od_is_mask, .func (PySem.W.fnOf "is_mask" "is_mask" (defArgs s_is_mask) (defBody s_is_mask) (defScope s_is_mask) .none kV_is_mask dc_is_mask pm_is_mask an_is_mask cd_is_mask ct_is_mask), sl_is_mask⟩)
    (c_is_mask : PySem.W.codeIn K cd_is_mask "is_mask" = true)
    (k_is_mask : PySem.W.keepIn K (.ref f_is_mask) = true)
    (a_is_deed : PySem.W.nsIn K mainGlobals "is_deed" = some (some (.ref f_is_deed)))
    (l_is_deed : K.lookup f_is_deed = some ⟨oc_is_deed, od_is_deed, .func (PySem.W.fnOf "is_deed" "is_deed" (defArgs s_is_deed) (defBody s_is_deed) (defScope s_is_deed) .none kV_is_deed dc_is_deed pm_is_deed an_is_deed cd_is_deed ct_is_deed), sl_is_deed⟩)
    (c_is_deed : PySem.W.codeIn K cd_is_deed "is_deed" = true)
    (k_is_deed : PySem.W.keepIn K (.ref f_is_deed) = true)
    (a_check_recipe : PySem.W.nsIn K mainGlobals "check_recipe" = some (some (.ref f_check_recipe)))
    (l_check_recipe : K.lookup f_check_recipe = some ⟨oc_check_recipe, od_check_recipe, .func (PySem.W.fnOf "check_recipe" "check_recipe" (defArgs s_check_recipe) (defBody s_check_recipe) (defScope s_check_recipe) .none kV_check_recipe dc_check_recipe pm_check_recipe an_check_recipe cd_check_recipe ct_check_recipe), sl_check_recipe⟩)
    (c_check_recipe : PySem.W.codeIn K cd_check_recipe "check_recipe" = true)
    (k_check_recipe : PySem.W.keepIn K (.ref f_check_recipe) = true)
    (a_light_by_times : PySem.W.nsIn K mainGlobals "light_by_times" = some (some (.ref f_light_by_times)))
    (l_light_by_times : K.lookup f_light_by_times = some ⟨oc_light_by_times, od_light_by_times, .func (PySem.W.fnOf "light_by_times" "light_by_times" (defArgs s_light_by_times) (defBody s_light_by_times) (defScope s_light_by_times) .none kV_light_by_times dc_light_by_times pm_light_by_times an_light_by_times cd_light_by_times ct_light_by_times), sl_light_by_times⟩)
    (c_light_by_times : PySem.W.codeIn K cd_light_by_times "light_by_times" = true)
    (k_light_by_times : PySem.W.keepIn K (.ref f_light_by_times) = true)
    (a_light_by : PySem.W.nsIn K mainGlobals "light_by" = some (some (.ref f_light_by)))
    (l_light_by : K.lookup f_light_by = some ⟨oc_light_by, od_light_by, .func (PySem.W.fnOf "light_by" "light_by" (defArgs s_light_by) (defBody s_light_by) (defScope s_light_by) .none kV_light_by dc_light_by pm_light_by an_light_by cd_light_by ct_light_by), sl_light_by⟩)
    (c_light_by : PySem.W.codeIn K cd_light_by "light_by" = true)
    (k_light_by : PySem.W.keepIn K (.ref f_light_by) = true)
    (a_mirrored : PySem.W.nsIn K mainGlobals "mirrored" = some (some (.ref f_mirrored)))
    (l_mirrored : K.lookup f_mirrored = some ⟨oc_mirrored, od_mirrored, .func (PySem.W.fnOf "mirrored" "mirrored" (defArgs s_mirrored) (defBody s_mirrored) (defScope s_mirrored) .none kV_mirrored dc_mirrored pm_mirrored an_mirrored cd_mirrored ct_mirrored), sl_mirrored⟩)
    (c_mirrored : PySem.W.codeIn K cd_mirrored "mirrored" = true)
    (k_mirrored : PySem.W.keepIn K (.ref f_mirrored) = true)
    (a_ticks_of : PySem.W.nsIn K mainGlobals "ticks_of" = some (some (.ref f_ticks_of)))
    (l_ticks_of : K.lookup f_ticks_of = some ⟨oc_ticks_of, od_ticks_of, .func (PySem.W.fnOf "ticks_of" "ticks_of" (defArgs s_ticks_of) (defBody s_ticks_of) (defScope s_ticks_of) .none kV_ticks_of dc_ticks_of pm_ticks_of an_ticks_of cd_ticks_of ct_ticks_of), sl_ticks_of⟩)
    (c_ticks_of : PySem.W.codeIn K cd_ticks_of "ticks_of" = true)
    (k_ticks_of : PySem.W.keepIn K (.ref f_ticks_of) = true)
    (a_open_pair : PySem.W.nsIn K mainGlobals "open_pair" = some (some (.ref f_open_pair)))
    (l_open_pair : K.lookup f_open_pair = some ⟨oc_open_pair, od_open_pair, .func (PySem.W.fnOf "open_pair" "open_pair" (defArgs s_open_pair) (defBody s_open_pair) (defScope s_open_pair) .none kV_open_pair dc_open_pair pm_open_pair an_open_pair cd_open_pair ct_open_pair), sl_open_pair⟩)
    (c_open_pair : PySem.W.codeIn K cd_open_pair "open_pair" = true)
    (k_open_pair : PySem.W.keepIn K (.ref f_open_pair) = true)
    (a_light_of : PySem.W.nsIn K mainGlobals "light_of" = some (some (.ref f_light_of)))
    (l_light_of : K.lookup f_light_of = some ⟨oc_light_of, od_light_of, .func (PySem.W.fnOf "light_of" "light_of" (defArgs s_light_of) (defBody s_light_of) (defScope s_light_of) .none kV_light_of dc_light_of pm_light_of an_light_of cd_light_of ct_light_of), sl_light_of⟩)
    (c_light_of : PySem.W.codeIn K cd_light_of "light_of" = true)
    (k_light_of : PySem.W.keepIn K (.ref f_light_of) = true)
    (a_light_turns : PySem.W.nsIn K mainGlobals "light_turns" = some (some (.ref f_light_turns)))
    (l_light_turns : K.lookup f_light_turns = some ⟨oc_light_turns, od_light_turns, .func (PySem.W.fnOf "light_turns" "light_turns" (defArgs s_light_turns) (defBody s_light_turns) (defScope s_light_turns) .none kV_light_turns dc_light_turns pm_light_turns an_light_turns cd_light_turns ct_light_turns), sl_light_turns⟩)
    (c_light_turns : PySem.W.codeIn K cd_light_turns "light_turns" = true)
    (k_light_turns : PySem.W.keepIn K (.ref f_light_turns) = true)
    (a_light_after : PySem.W.nsIn K mainGlobals "light_after" = some (some (.ref f_light_after)))
    (l_light_after : K.lookup f_light_after = some ⟨oc_light_after, od_light_after, .func (PySem.W.fnOf "light_after" "light_after" (defArgs s_light_after) (defBody s_light_after) (defScope s_light_after) .none kV_light_after dc_light_after pm_light_after an_light_after cd_light_after ct_light_after), sl_light_after⟩)
    (c_light_after : PySem.W.codeIn K cd_light_after "light_after" = true)
    (k_light_after : PySem.W.keepIn K (.ref f_light_after) = true)
    (a_are_steps : PySem.W.nsIn K mainGlobals "are_steps" = some (some (.ref f_are_steps)))
    (l_are_steps : K.lookup f_are_steps = some ⟨oc_are_steps, od_are_steps, .func (PySem.W.fnOf "are_steps" "are_steps" (defArgs s_are_steps) (defBody s_are_steps) (defScope s_are_steps) .none kV_are_steps dc_are_steps pm_are_steps an_are_steps cd_are_steps ct_are_steps), sl_are_steps⟩)
    (c_are_steps : PySem.W.codeIn K cd_are_steps "are_steps" = true)
    (k_are_steps : PySem.W.keepIn K (.ref f_are_steps) = true)
    (a_check_steps : PySem.W.nsIn K mainGlobals "check_steps" = some (some (.ref f_check_steps)))
    (l_check_steps : K.lookup f_check_steps = some ⟨oc_check_steps, od_check_steps, .func (PySem.W.fnOf "check_steps" "check_steps" (defArgs s_check_steps) (defBody s_check_steps) (defScope s_check_steps) .none kV_check_steps dc_check_steps pm_check_steps an_check_steps cd_check_steps ct_check_steps), sl_check_steps⟩)
    (c_check_steps : PySem.W.codeIn K cd_check_steps "check_steps" = true)
    (k_check_steps : PySem.W.keepIn K (.ref f_check_steps) = true)
    (a_times_to : PySem.W.nsIn K mainGlobals "times_to" = some (some (.ref f_times_to)))
    (l_times_to : K.lookup f_times_to = some ⟨oc_times_to, od_times_to, .func (PySem.W.fnOf "times_to" "times_to" (defArgs s_times_to) (defBody s_times_to) (defScope s_times_to) .none kV_times_to dc_times_to pm_times_to an_times_to cd_times_to ct_times_to), sl_times_to⟩)
    (c_times_to : PySem.W.codeIn K cd_times_to "times_to" = true)
    (k_times_to : PySem.W.keepIn K (.ref f_times_to) = true)
    (a_times_until : PySem.W.nsIn K mainGlobals "times_until" = some (some (.ref f_times_until)))
    (l_times_until : K.lookup f_times_until = some ⟨oc_times_until, od_times_until, .func (PySem.W.fnOf "times_until" "times_until" (defArgs s_times_until) (defBody s_times_until) (defScope s_times_until) .none kV_times_until dc_times_until pm_times_until an_times_until cd_times_until ct_times_until), sl_times_until⟩)
    (c_times_until : PySem.W.codeIn K cd_times_until "times_until" = true)
    (k_times_until : PySem.W.keepIn K (.ref f_times_until) = true)
    (a_law : PySem.W.nsIn K mainGlobals "law" = some (some (.ref f_law)))
    (l_law : K.lookup f_law = some ⟨oc_law, od_law, .func (PySem.W.fnOf "law" "law" (defArgs s_law) (defBody s_law) (defScope s_law) .none kV_law dc_law pm_law an_law cd_law ct_law), sl_law⟩)
    (c_law : PySem.W.codeIn K cd_law "law" = true)
    (k_law : PySem.W.keepIn K (.ref f_law) = true) :
    ∃ fd : FuncData, (∀ (s : Shared) (v : Value), BindsTo s fd ⟨[v], []⟩ [("_law_script", v)]) ∧ ∀ base : Heap, K.In base → base.Ns mainGlobals mg → FnOk l.prog w K mg base (CX l.prog w) 7 fa fd ["_law_script"] (spA K M_law) := by
  have e := hfa.symm.trans (PySem.W.mg_of X G a_law)
  cases e
  let cls : Nat → Option Addr := fun c => if c = 0 then some C_Negative else if c = 106 then some C_InvalidNumber else if c = 104 then some C_InvalidSteps else if c = 105 then some C_UnknownCell else none
  have F_Negativedd__lendd_ := fun_mk (st := s_Negativedd__lendd_) l_Negativedd__lendd_ c_Negativedd__lendd_ k_Negativedd__lendd_
  have F_Negative_densities := fun_mk (st := s_Negative_densities) l_Negative_densities c_Negative_densities k_Negative_densities
  have F_Negative_width := fun_mk (st := s_Negative_width) l_Negative_width c_Negative_width k_Negative_width
  have F_l_open := fun_mk (st := s_l_open) l_l_open c_l_open k_l_open
  have F_l_lights := fun_mk (st := s_l_lights) l_l_lights c_l_lights k_l_lights
  have F_is_number := fun_mk (st := s_is_number) l_is_number c_is_number k_is_number
  have F_wrong_side := fun_mk (st := s_wrong_side) l_wrong_side c_wrong_side k_wrong_side
  have F_wrong_part := fun_mk (st := s_wrong_part) l_wrong_part c_wrong_part k_wrong_part
  have F_Negativedd__initdd_ := fun_mk (st := s_Negativedd__initdd_) l_Negativedd__initdd_ c_Negativedd__initdd_ k_Negativedd__initdd_
  have F_l_taken := fun_mk (st := s_l_taken) l_l_taken c_l_taken k_l_taken
  have F_l_negative := fun_mk (st := s_l_negative) l_l_negative c_l_negative k_l_negative
  have F_l_deed := fun_mk (st := s_l_deed) l_l_deed c_l_deed k_l_deed
  have F_l_recipe := fun_mk (st := s_l_recipe) l_l_recipe c_l_recipe k_l_recipe
  have F_l_steps := fun_mk (st := s_l_steps) l_l_steps c_l_steps k_l_steps
  have F_check_cell := fun_mk (st := s_check_cell) l_check_cell c_check_cell k_check_cell
  have F_check_number := fun_mk (st := s_check_number) l_check_number c_check_number k_check_number
  have F_ascends := fun_mk (st := s_ascends) l_ascends c_ascends k_ascends
  have F_is_mask := fun_mk (st := s_is_mask) l_is_mask c_is_mask k_is_mask
  have F_is_deed := fun_mk (st := s_is_deed) l_is_deed c_is_deed k_is_deed
  have F_check_recipe := fun_mk (st := s_check_recipe) l_check_recipe c_check_recipe k_check_recipe
  have F_light_by_times := fun_mk (st := s_light_by_times) l_light_by_times c_light_by_times k_light_by_times
  have F_light_by := fun_mk (st := s_light_by) l_light_by c_light_by k_light_by
  have F_mirrored := fun_mk (st := s_mirrored) l_mirrored c_mirrored k_mirrored
  have F_ticks_of := fun_mk (st := s_ticks_of) l_ticks_of c_ticks_of k_ticks_of
  have F_open_pair := fun_mk (st := s_open_pair) l_open_pair c_open_pair k_open_pair
  have F_light_of := fun_mk (st := s_light_of) l_light_of c_light_of k_light_of
  have F_light_turns := fun_mk (st := s_light_turns) l_light_turns c_light_turns k_light_turns
  have F_light_after := fun_mk (st := s_light_after) l_light_after c_light_after k_light_after
  have F_are_steps := fun_mk (st := s_are_steps) l_are_steps c_are_steps k_are_steps
  have F_check_steps := fun_mk (st := s_check_steps) l_check_steps c_check_steps k_check_steps
  have F_times_to := fun_mk (st := s_times_to) l_times_to c_times_to k_times_to
  have F_times_until := fun_mk (st := s_times_until) l_times_until c_times_until k_times_until
  have F_law := fun_mk (st := s_law) l_law c_law k_law
  have b_Negativedd__lendd_ := F_Negativedd__lendd_.binds (ps := ["self"]) fun _ _ _ _ _ _ us hl => match us, hl with | [_], _ => rfl
  have b_Negative_densities := F_Negative_densities.binds (ps := ["self"]) fun _ _ _ _ _ _ us hl => match us, hl with | [_], _ => rfl
  have b_Negative_width := F_Negative_width.binds (ps := ["self"]) fun _ _ _ _ _ _ us hl => match us, hl with | [_], _ => rfl
  have b_l_open := F_l_open.binds (ps := ["_law_negative_here", "_law_deed_here"]) fun _ _ _ _ _ _ us hl => match us, hl with | [_, _], _ => rfl
  have b_l_lights := F_l_lights.binds (ps := ["_law_negative_here", "_law_recipe_here"]) fun _ _ _ _ _ _ us hl => match us, hl with | [_, _], _ => rfl
  have b_is_number := F_is_number.binds (ps := ["value", "least", "most"]) fun _ _ _ _ _ _ us hl => match us, hl with | [_, _, _], _ => rfl
  have b_wrong_side := F_wrong_side.binds (ps := ["width", "height"]) fun _ _ _ _ _ _ us hl => match us, hl with | [_, _], _ => rfl
  have b_wrong_part := F_wrong_part.binds (ps := ["width", "height", "densities"]) fun _ _ _ _ _ _ us hl => match us, hl with | [_, _, _], _ => rfl
  have b_Negativedd__initdd_ := F_Negativedd__initdd_.binds (ps := ["self", "width", "height", "densities"]) fun _ _ _ _ _ _ us hl => match us, hl with | [_, _, _, _], _ => rfl
  have b_l_taken := F_l_taken.binds (ps := ["_law_row", "_law_many"]) fun _ _ _ _ _ _ us hl => match us, hl with | [_, _], _ => rfl
  have b_l_negative := F_l_negative.binds (ps := ["_law_row", "_law_most"]) fun _ _ _ _ _ _ us hl => match us, hl with | [_, _], _ => rfl
  have b_l_deed := F_l_deed.binds (ps := ["_law_row", "_law_negative_here"]) fun _ _ _ _ _ _ us hl => match us, hl with | [_, _], _ => rfl
  have b_l_recipe := F_l_recipe.binds (ps := ["_law_row", "_law_negative_here", "_law_most"]) fun _ _ _ _ _ _ us hl => match us, hl with | [_, _, _], _ => rfl
  have b_l_steps := F_l_steps.binds (ps := ["_law_row"]) fun _ _ _ _ _ _ us hl => match us, hl with | [_], _ => rfl
  have b_check_cell := F_check_cell.binds (ps := ["cell", "cells"]) fun _ _ _ _ _ _ us hl => match us, hl with | [_, _], _ => rfl
  have b_check_number := F_check_number.binds (ps := ["value", "least", "most"]) fun _ _ _ _ _ _ us hl => match us, hl with | [_, _, _], _ => rfl
  have b_ascends := F_ascends.binds (ps := ["values", "least", "most"]) fun _ _ _ _ _ _ us hl => match us, hl with | [_, _, _], _ => rfl
  have b_is_mask := F_is_mask.binds (ps := ["covered", "cells"]) fun _ _ _ _ _ _ us hl => match us, hl with | [_, _], _ => rfl
  have b_is_deed := F_is_deed.binds (ps := ["deed", "cells"]) fun _ _ _ _ _ _ us hl => match us, hl with | [_, _], _ => rfl
  have b_check_recipe := F_check_recipe.binds (ps := ["recipe", "cells"]) fun _ _ _ _ _ _ us hl => match us, hl with | [_, _], _ => rfl
  have b_light_by_times := F_light_by_times.binds (ps := ["turns", "count"]) fun _ _ _ _ _ _ us hl => match us, hl with | [_, _], _ => rfl
  have b_light_by := F_light_by.binds (ps := ["ticks", "density", "turned"]) fun _ _ _ _ _ _ us hl => match us, hl with | [_, _, _], _ => rfl
  have b_mirrored := F_mirrored.binds (ps := ["cell", "width"]) fun _ _ _ _ _ _ us hl => match us, hl with | [_, _], _ => rfl
  have b_ticks_of := F_ticks_of.binds (ps := ["deed", "width", "cell"]) fun _ _ _ _ _ _ us hl => match us, hl with | [_, _, _], _ => rfl
  have b_open_pair := F_open_pair.binds (ps := ["width", "recipe", "cell"]) fun _ _ _ _ _ _ us hl => match us, hl with | [_, _, _], _ => rfl
  have b_light_of := F_light_of.binds (ps := ["width", "densities", "recipe", "cell"]) fun _ _ _ _ _ _ us hl => match us, hl with | [_, _, _, _], _ => rfl
  have b_light_turns := F_light_turns.binds (ps := ["negative", "recipe", "cell"]) fun _ _ _ _ _ _ us hl => match us, hl with | [_, _, _], _ => rfl
  have b_light_after := F_light_after.binds (ps := ["negative", "recipe", "cell", "count"]) fun _ _ _ _ _ _ us hl => match us, hl with | [_, _, _, _], _ => rfl
  have b_are_steps := F_are_steps.binds (ps := ["steps"]) fun _ _ _ _ _ _ us hl => match us, hl with | [_], _ => rfl
  have b_check_steps := F_check_steps.binds (ps := ["steps"]) fun _ _ _ _ _ _ us hl => match us, hl with | [_], _ => rfl
  have b_times_to := F_times_to.binds (ps := ["turns", "light"]) fun _ _ _ _ _ _ us hl => match us, hl with | [_, _], _ => rfl
  have b_times_until := F_times_until.binds (ps := ["negative", "steps", "recipe", "cell", "tone"]) fun _ _ _ _ _ _ us hl => match us, hl with | [_, _, _, _, _], _ => rfl
  have T : Tx l.prog w K cls mg C_Negative C_InvalidNumber C_InvalidSteps C_UnknownCell := {
    n_all := PySem.W.mg_none_of X G n_all
    n_bool := PySem.W.mg_none_of X G n_bool
    n_divmod := PySem.W.mg_none_of X G n_divmod
    n_enumerate := PySem.W.mg_none_of X G n_enumerate
    n_int := PySem.W.mg_none_of X G n_int
    n_isinstance := PySem.W.mg_none_of X G n_isinstance
    n_len := PySem.W.mg_none_of X G n_len
    n_max := PySem.W.mg_none_of X G n_max
    n_range := PySem.W.mg_none_of X G n_range
    n_tuple := PySem.W.mg_none_of X G n_tuple
    c_DENSITIES := gv_str X G g_DENSITIES
    c_FLIP := gv_tup (vs := [.str (PySem.Str.ofString "flip")]) X G g_FLIP gl_FLIP (by show 1 ≤ 1000000; decide) (.cons ⟨t_FLIP_0, rfl⟩ (.nil)) (fun w => .cons (by show V.str _ = V.str ⟨(PySem.Str.ofString _).cps.toList.toArray⟩; rw [Array.toArray_toList]) (.nil))
    c_GREATEST_STEP := gv_int X G g_GREATEST_STEP
    c_MOST_CELLS := gv_int X G g_MOST_CELLS
    c_MOST_DEEDS := gv_int X G g_MOST_DEEDS
    c_MOST_SIDE := gv_int X G g_MOST_SIDE
    c_MOST_STEPS := gv_int X G g_MOST_STEPS
    c_MOST_TICKS := gv_int X G g_MOST_TICKS
    c_MOST_TIMES := gv_int X G g_MOST_TIMES
    c_UNITS := gv_tup (vs := [.int 16, .int 8, .int 4, .int 2, .int 1]) X G g_UNITS gl_UNITS (by show 5 ≤ 1000000; decide) (.cons ⟨t_UNITS_0, rfl⟩ (.cons ⟨t_UNITS_1, rfl⟩ (.cons ⟨t_UNITS_2, rfl⟩ (.cons ⟨t_UNITS_3, rfl⟩ (.cons ⟨t_UNITS_4, rfl⟩ (.nil)))))) (fun w => .cons rfl (.cons rfl (.cons rfl (.cons rfl (.cons rfl (.nil))))))
    k_Negative := ⟨by rfl, ⟨pg_Negative, hd_Negative, po_Negative, sa_Negative⟩⟩
    m_Negative := PySem.W.mg_of X G aC_Negative
    f_Negative_columns := nf_Negative_columns
    f_Negative_figures := nf_Negative_figures
    f_Negative_lines := nf_Negative_lines
    e_InvalidNumber := ⟨⟨⟨by decide, by simp [cls]⟩, PySem.W.mg_of X G aC_InvalidNumber, kc_InvalidNumber, sb_InvalidNumber, ty_InvalidNumber⟩, xi_InvalidNumber⟩
    e_InvalidSteps := ⟨⟨⟨by decide, by simp [cls]⟩, PySem.W.mg_of X G aC_InvalidSteps, kc_InvalidSteps, sb_InvalidSteps, ty_InvalidSteps⟩, xi_InvalidSteps⟩
    e_UnknownCell := ⟨⟨⟨by decide, by simp [cls]⟩, PySem.W.mg_of X G aC_UnknownCell, kc_UnknownCell, sb_UnknownCell, ty_UnknownCell⟩, xi_UnknownCell⟩
  }
  refine ⟨PySem.W.fnOf "law" "law" (defArgs s_law) (defBody s_law) (defScope s_law) .none kV_law dc_law pm_law an_law cd_law ct_law, fun s v => .of_eq rfl, fun base hb1 hb2 => ?_⟩
  have g_Negativedd__lendd_ := dm_Negativedd__lendd_ (base := base) F_Negativedd__lendd_ b_Negativedd__lendd_ T 
  have g_Negative_densities := dm_Negative_densities (base := base) F_Negative_densities b_Negative_densities T 
  have g_Negative_width := dm_Negative_width (base := base) F_Negative_width b_Negative_width T 
  have G_l_open := df_l_open (base := base) F_l_open b_l_open (PySem.W.mg_of X G a_l_open) T  g_Negativedd__lendd_ a_Negativedd__lendd_ i_Negativedd__lendd_ g_Negative_width ⟨a_Negative_width, pg_Negative_width, pt_Negative_width, _, pr_Negative_width⟩
  have G_l_lights := df_l_lights (base := base) F_l_lights b_l_lights (PySem.W.mg_of X G a_l_lights) T G_l_open g_Negativedd__lendd_ a_Negativedd__lendd_ i_Negativedd__lendd_ g_Negative_densities ⟨a_Negative_densities, pg_Negative_densities, pt_Negative_densities, _, pr_Negative_densities⟩ g_Negative_width ⟨a_Negative_width, pg_Negative_width, pt_Negative_width, _, pr_Negative_width⟩
  have G_is_number := df_is_number (base := base) F_is_number b_is_number (PySem.W.mg_of X G a_is_number) T 
  have G_wrong_side := df_wrong_side (base := base) F_wrong_side b_wrong_side (PySem.W.mg_of X G a_wrong_side) T G_is_number
  have G_wrong_part := df_wrong_part (base := base) F_wrong_part b_wrong_part (PySem.W.mg_of X G a_wrong_part) T G_wrong_side g_Negativedd__lendd_ a_Negativedd__lendd_ i_Negativedd__lendd_
  have g_Negativedd__initdd_ := dm_Negativedd__initdd_ (base := base) F_Negativedd__initdd_ b_Negativedd__initdd_ T G_wrong_part
  have G_l_taken := df_l_taken (base := base) F_l_taken b_l_taken (PySem.W.mg_of X G a_l_taken) T  g_Negativedd__lendd_ a_Negativedd__lendd_ i_Negativedd__lendd_
  have G_l_negative := df_l_negative (base := base) F_l_negative b_l_negative (PySem.W.mg_of X G a_l_negative) T G_l_taken g_Negativedd__initdd_ ⟨mk_Negative, a_Negativedd__initdd_, i_Negativedd__initdd_, kc_Negative⟩
  have G_l_deed := df_l_deed (base := base) F_l_deed b_l_deed (PySem.W.mg_of X G a_l_deed) T G_l_taken g_Negativedd__lendd_ a_Negativedd__lendd_ i_Negativedd__lendd_
  have G_l_recipe := df_l_recipe (base := base) F_l_recipe b_l_recipe (PySem.W.mg_of X G a_l_recipe) T G_l_deed G_l_taken
  have G_l_steps := df_l_steps (base := base) F_l_steps b_l_steps (PySem.W.mg_of X G a_l_steps) T G_l_taken
  have G_check_cell := df_check_cell (base := base) F_check_cell b_check_cell (PySem.W.mg_of X G a_check_cell) T G_is_number
  have G_check_number := df_check_number (base := base) F_check_number b_check_number (PySem.W.mg_of X G a_check_number) T G_is_number
  have G_ascends := df_ascends (base := base) F_ascends b_ascends (PySem.W.mg_of X G a_ascends) T G_is_number
  have G_is_mask := df_is_mask (base := base) F_is_mask b_is_mask (PySem.W.mg_of X G a_is_mask) T G_ascends
  have G_is_deed := df_is_deed (base := base) F_is_deed b_is_deed (PySem.W.mg_of X G a_is_deed) T G_is_mask G_is_number g_Negativedd__lendd_ a_Negativedd__lendd_ i_Negativedd__lendd_
  have G_check_recipe := df_check_recipe (base := base) F_check_recipe b_check_recipe (PySem.W.mg_of X G a_check_recipe) T G_is_deed
  have G_light_by_times := df_light_by_times (base := base) F_light_by_times b_light_by_times (PySem.W.mg_of X G a_light_by_times) T 
  have G_light_by := df_light_by (base := base) F_light_by b_light_by (PySem.W.mg_of X G a_light_by) T 
  have G_mirrored := df_mirrored (base := base) F_mirrored b_mirrored (PySem.W.mg_of X G a_mirrored) T 
  have G_ticks_of := df_ticks_of (base := base) F_ticks_of b_ticks_of (PySem.W.mg_of X G a_ticks_of) T 
  have G_open_pair := df_open_pair (base := base) F_open_pair b_open_pair (PySem.W.mg_of X G a_open_pair) T G_ticks_of
  have G_light_of := df_light_of (base := base) F_light_of b_light_of (PySem.W.mg_of X G a_light_of) T G_light_by G_mirrored G_open_pair
  have G_light_turns := df_light_turns (base := base) F_light_turns b_light_turns (PySem.W.mg_of X G a_light_turns) T G_light_of g_Negative_densities ⟨a_Negative_densities, pg_Negative_densities, pt_Negative_densities, _, pr_Negative_densities⟩ g_Negative_width ⟨a_Negative_width, pg_Negative_width, pt_Negative_width, _, pr_Negative_width⟩
  have G_light_after := df_light_after (base := base) F_light_after b_light_after (PySem.W.mg_of X G a_light_after) T G_check_cell G_check_number G_check_recipe G_light_by_times G_light_turns g_Negativedd__lendd_ a_Negativedd__lendd_ i_Negativedd__lendd_
  have G_are_steps := df_are_steps (base := base) F_are_steps b_are_steps (PySem.W.mg_of X G a_are_steps) T G_ascends g_Negativedd__lendd_ a_Negativedd__lendd_ i_Negativedd__lendd_
  have G_check_steps := df_check_steps (base := base) F_check_steps b_check_steps (PySem.W.mg_of X G a_check_steps) T G_are_steps
  have G_times_to := df_times_to (base := base) F_times_to b_times_to (PySem.W.mg_of X G a_times_to) T 
  have G_times_until := df_times_until (base := base) F_times_until b_times_until (PySem.W.mg_of X G a_times_until) T G_check_cell G_check_number G_check_recipe G_check_steps G_light_turns G_times_to g_Negativedd__lendd_ a_Negativedd__lendd_ i_Negativedd__lendd_
  exact fn_any (fn_law F_law T G_l_lights G_l_negative G_l_recipe G_l_steps G_l_taken G_light_after G_times_until g_Negativedd__lendd_ a_Negativedd__lendd_ i_Negativedd__lendd_)
end K34

set_option Elab.async false
set_option maxRecDepth 100000
open PySem PySem.W PyProof.Rows
set_option maxHeartbeats 0 in
theorem PySem.Challenge.cw_maskedprints_k34_recipes_again_and_again_holds : PySem.Challenge.rw_maskedprints_k34_recipes_again_and_again.Holds := by
  w_on; o_law; k_head; (case hw => w_witness2)
  k_fill
  refine L2.walk_of (l := PySem.Challenge.rw_maskedprints_k34_recipes_again_and_again) (n := 63) (k := 7) (x := "_law_script") (CX := fun w => L2.CX PySem.Challenge.rw_maskedprints_k34_recipes_again_and_again.prog w) (sp := fun w => Fw.spA _ K34.M_law) rfl (by decide) rfl ⟨rfl, by decide, by decide⟩ (fun w h Y => PySem.W.kIn_of Y) ?F (fun w H a ns hl hO hS => Fw.law_spA (fun _ => K34.law_true) hl hO hS) (fun _ _ _ _ _ ⟨_, _, _, _, _, _, _, _, _, _, _, _, e⟩ => e)
  case F =>
    intro w mg fa h KX G hmg
    refine' K34.all_mk KX G hmg ?aC_Negative ?pg_Negative ?hd_Negative ?po_Negative ?sa_Negative ?mk_Negative ?kc_Negative ?nf_Negative_columns ?nf_Negative_figures ?nf_Negative_lines ?aC_InvalidNumber ?kc_InvalidNumber ?sb_InvalidNumber ?ty_InvalidNumber ?xi_InvalidNumber ?aC_InvalidSteps ?kc_InvalidSteps ?sb_InvalidSteps ?ty_InvalidSteps ?xi_InvalidSteps ?aC_UnknownCell ?kc_UnknownCell ?sb_UnknownCell ?ty_UnknownCell ?xi_UnknownCell ?n_all ?n_bool ?n_divmod ?n_enumerate ?n_int ?n_isinstance ?n_len ?n_max ?n_range ?n_tuple ?g_DENSITIES ?g_FLIP ?gl_FLIP ?g_GREATEST_STEP ?g_MOST_CELLS ?g_MOST_DEEDS ?g_MOST_SIDE ?g_MOST_STEPS ?g_MOST_TICKS ?g_MOST_TIMES ?g_UNITS ?gl_UNITS ?a_Negativedd__lendd_ ?i_Negativedd__lendd_ ?l_Negativedd__lendd_ ?c_Negativedd__lendd_ ?k_Negativedd__lendd_ ?a_Negative_densities ?pg_Negative_densities ?pt_Negative_densities ?pr_Negative_densities ?l_Negative_densities ?c_Negative_densities ?k_Negative_densities ?a_Negative_width ?pg_Negative_width ?pt_Negative_width ?pr_Negative_width ?l_Negative_width ?c_Negative_width ?k_Negative_width ?a_l_open ?l_l_open ?c_l_open ?k_l_open ?a_l_lights ?l_l_lights ?c_l_lights ?k_l_lights ?a_is_number ?l_is_number ?c_is_number ?k_is_number ?a_wrong_side ?l_wrong_side ?c_wrong_side ?k_wrong_side ?a_wrong_part ?l_wrong_part ?c_wrong_part ?k_wrong_part ?a_Negativedd__initdd_ ?i_Negativedd__initdd_ ?l_Negativedd__initdd_ ?c_Negativedd__initdd_ ?k_Negativedd__initdd_ ?a_l_taken ?l_l_taken ?c_l_taken ?k_l_taken ?a_l_negative ?l_l_negative ?c_l_negative ?k_l_negative ?a_l_deed ?l_l_deed ?c_l_deed ?k_l_deed ?a_l_recipe ?l_l_recipe ?c_l_recipe ?k_l_recipe ?a_l_steps ?l_l_steps ?c_l_steps ?k_l_steps ?a_check_cell ?l_check_cell ?c_check_cell ?k_check_cell ?a_check_number ?l_check_number ?c_check_number ?k_check_number ?a_ascends ?l_ascends ?c_ascends ?k_ascends ?a_is_mask ?l_is_mask ?c_is_mask ?k_is_mask ?a_is_deed ?l_is_deed ?c_is_deed ?k_is_deed ?a_check_recipe ?l_check_recipe ?c_check_recipe ?k_check_recipe ?a_light_by_times ?l_light_by_times ?c_light_by_times ?k_light_by_times ?a_light_by ?l_light_by ?c_light_by ?k_light_by ?a_mirrored ?l_mirrored ?c_mirrored ?k_mirrored ?a_ticks_of ?l_ticks_of ?c_ticks_of ?k_ticks_of ?a_open_pair ?l_open_pair ?c_open_pair ?k_open_pair ?a_light_of ?l_light_of ?c_light_of ?k_light_of ?a_light_turns ?l_light_turns ?c_light_turns ?k_light_turns ?a_light_after ?l_light_after ?c_light_after ?k_light_after ?a_are_steps ?l_are_steps ?c_are_steps ?k_are_steps ?a_check_steps ?l_check_steps ?c_check_steps ?k_check_steps ?a_times_to ?l_times_to ?c_times_to ?k_times_to ?a_times_until ?l_times_until ?c_times_until ?k_times_until ?a_law ?l_law ?c_law ?k_law
    (case aC_Negative => k_is)
    (case pg_Negative => k_is)
    (case hd_Negative => k_is)
    (case po_Negative => k_is)
    (case sa_Negative => k_is)
    (case mk_Negative => k_is)
    (case kc_Negative => k_is)
    (case nf_Negative_columns => k_is)
    (case nf_Negative_figures => k_is)
    (case nf_Negative_lines => k_is)
    (case aC_InvalidNumber => k_is)
    (case kc_InvalidNumber => k_is)
    (case sb_InvalidNumber => k_is)
    (case ty_InvalidNumber => k_is)
    (case xi_InvalidNumber => k_exc)
    (case aC_InvalidSteps => k_is)
    (case kc_InvalidSteps => k_is)
    (case sb_InvalidSteps => k_is)
    (case ty_InvalidSteps => k_is)
    (case xi_InvalidSteps => k_exc)
    (case aC_UnknownCell => k_is)
    (case kc_UnknownCell => k_is)
    (case sb_UnknownCell => k_is)
    (case ty_UnknownCell => k_is)
    (case xi_UnknownCell => k_exc)
    (case n_all => k_is)
    (case n_bool => k_is)
    (case n_divmod => k_is)
    (case n_enumerate => k_is)
    (case n_int => k_is)
    (case n_isinstance => k_is)
    (case n_len => k_is)
    (case n_max => k_is)
    (case n_range => k_is)
    (case n_tuple => k_is)
    (case g_DENSITIES => k_is)
    (case g_FLIP => k_is)
    (case gl_FLIP => k_is)
    (case g_GREATEST_STEP => k_is)
    (case g_MOST_CELLS => k_is)
    (case g_MOST_DEEDS => k_is)
    (case g_MOST_SIDE => k_is)
    (case g_MOST_STEPS => k_is)
    (case g_MOST_TICKS => k_is)
    (case g_MOST_TIMES => k_is)
    (case g_UNITS => k_is)
    (case gl_UNITS => k_is)
    (case a_Negativedd__lendd_ => k_is)
    (case i_Negativedd__lendd_ => k_is)
    (case l_Negativedd__lendd_ => k_is)
    (case c_Negativedd__lendd_ => k_is)
    (case k_Negativedd__lendd_ => k_is)
    (case a_Negative_densities => k_is)
    (case pg_Negative_densities => k_is)
    (case pt_Negative_densities => k_is)
    (case pr_Negative_densities => k_is)
    (case l_Negative_densities => k_is)
    (case c_Negative_densities => k_is)
    (case k_Negative_densities => k_is)
    (case a_Negative_width => k_is)
    (case pg_Negative_width => k_is)
    (case pt_Negative_width => k_is)
    (case pr_Negative_width => k_is)
    (case l_Negative_width => k_is)
    (case c_Negative_width => k_is)
    (case k_Negative_width => k_is)
    (case a_l_open => k_is)
    (case l_l_open => k_is)
    (case c_l_open => k_is)
    (case k_l_open => k_is)
    (case a_l_lights => k_is)
    (case l_l_lights => k_is)
    (case c_l_lights => k_is)
    (case k_l_lights => k_is)
    (case a_is_number => k_is)
    (case l_is_number => k_is)
    (case c_is_number => k_is)
    (case k_is_number => k_is)
    (case a_wrong_side => k_is)
    (case l_wrong_side => k_is)
    (case c_wrong_side => k_is)
    (case k_wrong_side => k_is)
    (case a_wrong_part => k_is)
    (case l_wrong_part => k_is)
    (case c_wrong_part => k_is)
    (case k_wrong_part => k_is)
    (case a_Negativedd__initdd_ => k_is)
    (case i_Negativedd__initdd_ => k_is)
    (case l_Negativedd__initdd_ => k_is)
    (case c_Negativedd__initdd_ => k_is)
    (case k_Negativedd__initdd_ => k_is)
    (case a_l_taken => k_is)
    (case l_l_taken => k_is)
    (case c_l_taken => k_is)
    (case k_l_taken => k_is)
    (case a_l_negative => k_is)
    (case l_l_negative => k_is)
    (case c_l_negative => k_is)
    (case k_l_negative => k_is)
    (case a_l_deed => k_is)
    (case l_l_deed => k_is)
    (case c_l_deed => k_is)
    (case k_l_deed => k_is)
    (case a_l_recipe => k_is)
    (case l_l_recipe => k_is)
    (case c_l_recipe => k_is)
    (case k_l_recipe => k_is)
    (case a_l_steps => k_is)
    (case l_l_steps => k_is)
    (case c_l_steps => k_is)
    (case k_l_steps => k_is)
    (case a_check_cell => k_is)
    (case l_check_cell => k_is)
    (case c_check_cell => k_is)
    (case k_check_cell => k_is)
    (case a_check_number => k_is)
    (case l_check_number => k_is)
    (case c_check_number => k_is)
    (case k_check_number => k_is)
    (case a_ascends => k_is)
    (case l_ascends => k_is)
    (case c_ascends => k_is)
    (case k_ascends => k_is)
    (case a_is_mask => k_is)
    (case l_is_mask => k_is)
    (case c_is_mask => k_is)
    (case k_is_mask => k_is)
    (case a_is_deed => k_is)
    (case l_is_deed => k_is)
    (case c_is_deed => k_is)
    (case k_is_deed => k_is)
    (case a_check_recipe => k_is)
    (case l_check_recipe => k_is)
    (case c_check_recipe => k_is)
    (case k_check_recipe => k_is)
    (case a_light_by_times => k_is)
    (case l_light_by_times => k_is)
    (case c_light_by_times => k_is)
    (case k_light_by_times => k_is)
    (case a_light_by => k_is)
    (case l_light_by => k_is)
    (case c_light_by => k_is)
    (case k_light_by => k_is)
    (case a_mirrored => k_is)
    (case l_mirrored => k_is)
    (case c_mirrored => k_is)
    (case k_mirrored => k_is)
    (case a_ticks_of => k_is)
    (case l_ticks_of => k_is)
    (case c_ticks_of => k_is)
    (case k_ticks_of => k_is)
    (case a_open_pair => k_is)
    (case l_open_pair => k_is)
    (case c_open_pair => k_is)
    (case k_open_pair => k_is)
    (case a_light_of => k_is)
    (case l_light_of => k_is)
    (case c_light_of => k_is)
    (case k_light_of => k_is)
    (case a_light_turns => k_is)
    (case l_light_turns => k_is)
    (case c_light_turns => k_is)
    (case k_light_turns => k_is)
    (case a_light_after => k_is)
    (case l_light_after => k_is)
    (case c_light_after => k_is)
    (case k_light_after => k_is)
    (case a_are_steps => k_is)
    (case l_are_steps => k_is)
    (case c_are_steps => k_is)
    (case k_are_steps => k_is)
    (case a_check_steps => k_is)
    (case l_check_steps => k_is)
    (case c_check_steps => k_is)
    (case k_check_steps => k_is)
    (case a_times_to => k_is)
    (case l_times_to => k_is)
    (case c_times_to => k_is)
    (case k_times_to => k_is)
    (case a_times_until => k_is)
    (case l_times_until => k_is)
    (case c_times_until => k_is)
    (case k_times_until => k_is)
    (case a_law => k_is)
    (case l_law => k_is)
    (case c_law => k_is)
    (case k_law => k_is)

