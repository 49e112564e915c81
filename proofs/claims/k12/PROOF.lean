import PyProof.Rows.All
import Wide.All
import OpenK.AllK
import Wide.FinOn
import HandS.ForMost
import HandS.Flow
import HandS.TupAny
import HandS.Wide
import HandS.IsInst
import HandS.SortInts
import HandS.Conv
import HandS.Style
import HandS.RaiseMore
import HandS.Property
import KE.GoesEnum
import HandS.Iter
import HandS.SetFor
import HandS.Strs
import PyProof.ListStr
import PyProof.ZipIter
import PyProof.StrWalks
import HandS.RevRange
import PySem.Challenge.RW_maskedprints_k12_masks_told_by_all_masks
set_option Elab.async false
set_option linter.all false
set_option maxRecDepth 100000
set_option autoImplicit false
/-! The plain reading: values as data, mutable lists and objects as numbered places. -/
namespace Fw
open PySem L2

inductive D where
  | non | bl (b : Bool) | int (i : Int) | str (s : List Nat) | tup (ds : List D) | lst (ds : List D)
  | flst (is : List Int) | obj (c : Nat) (ns : List Str) (ds : List D) | loc (n : Nat)
  deriving Inhabited

mutual
def D.deq : (x y : D) → Decidable (x = y)
  | .non, .non => Decidable.isTrue rfl
  | .bl a, .bl b => if h : a = b then Decidable.isTrue (by rw [h]) else Decidable.isFalse fun e => h (D.bl.inj e)
  | .int a, .int b => if h : a = b then Decidable.isTrue (by rw [h]) else Decidable.isFalse fun e => h (D.int.inj e)
  | .str a, .str b => if h : a = b then Decidable.isTrue (by rw [h]) else Decidable.isFalse fun e => h (D.str.inj e)
  | .tup a, .tup b => match D.deqs a b with
    | Decidable.isTrue h => Decidable.isTrue (by rw [h])
    | Decidable.isFalse h => Decidable.isFalse fun e => h (D.tup.inj e)
  | .lst a, .lst b => match D.deqs a b with
    | Decidable.isTrue h => Decidable.isTrue (by rw [h])
    | Decidable.isFalse h => Decidable.isFalse fun e => h (D.lst.inj e)
  | .flst a, .flst b => if h : a = b then Decidable.isTrue (by rw [h]) else Decidable.isFalse fun e => h (D.flst.inj e)
  | .obj c ns a, .obj c' ns' b => if h : c = c' then if h2 : ns = ns' then match D.deqs a b with
      | Decidable.isTrue h3 => Decidable.isTrue (by rw [h, h2, h3])
      | Decidable.isFalse h3 => Decidable.isFalse fun e => h3 (D.obj.inj e).2.2
    else Decidable.isFalse fun e => h2 (D.obj.inj e).2.1
    else Decidable.isFalse fun e => h (D.obj.inj e).1
  | .loc a, .loc b => if h : a = b then Decidable.isTrue (by rw [h]) else Decidable.isFalse fun e => h (D.loc.inj e)
  | .non, .bl _ => Decidable.isFalse nofun | .non, .int _ => Decidable.isFalse nofun | .non, .str _ => Decidable.isFalse nofun | .non, .tup _ => Decidable.isFalse nofun
  | .non, .lst _ => Decidable.isFalse nofun | .non, .flst _ => Decidable.isFalse nofun | .non, .obj _ _ _ => Decidable.isFalse nofun | .non, .loc _ => Decidable.isFalse nofun
  | .bl _, .non => Decidable.isFalse nofun | .bl _, .int _ => Decidable.isFalse nofun | .bl _, .str _ => Decidable.isFalse nofun | .bl _, .tup _ => Decidable.isFalse nofun
  | .bl _, .lst _ => Decidable.isFalse nofun | .bl _, .flst _ => Decidable.isFalse nofun | .bl _, .obj _ _ _ => Decidable.isFalse nofun | .bl _, .loc _ => Decidable.isFalse nofun
  | .int _, .non => Decidable.isFalse nofun | .int _, .bl _ => Decidable.isFalse nofun | .int _, .str _ => Decidable.isFalse nofun | .int _, .tup _ => Decidable.isFalse nofun
  | .int _, .lst _ => Decidable.isFalse nofun | .int _, .flst _ => Decidable.isFalse nofun | .int _, .obj _ _ _ => Decidable.isFalse nofun | .int _, .loc _ => Decidable.isFalse nofun
  | .str _, .non => Decidable.isFalse nofun | .str _, .bl _ => Decidable.isFalse nofun | .str _, .int _ => Decidable.isFalse nofun | .str _, .tup _ => Decidable.isFalse nofun
  | .str _, .lst _ => Decidable.isFalse nofun | .str _, .flst _ => Decidable.isFalse nofun | .str _, .obj _ _ _ => Decidable.isFalse nofun | .str _, .loc _ => Decidable.isFalse nofun
  | .tup _, .non => Decidable.isFalse nofun | .tup _, .bl _ => Decidable.isFalse nofun | .tup _, .int _ => Decidable.isFalse nofun | .tup _, .str _ => Decidable.isFalse nofun
  | .tup _, .lst _ => Decidable.isFalse nofun | .tup _, .flst _ => Decidable.isFalse nofun | .tup _, .obj _ _ _ => Decidable.isFalse nofun | .tup _, .loc _ => Decidable.isFalse nofun
  | .lst _, .non => Decidable.isFalse nofun | .lst _, .bl _ => Decidable.isFalse nofun | .lst _, .int _ => Decidable.isFalse nofun | .lst _, .str _ => Decidable.isFalse nofun
  | .lst _, .tup _ => Decidable.isFalse nofun | .lst _, .flst _ => Decidable.isFalse nofun | .lst _, .obj _ _ _ => Decidable.isFalse nofun | .lst _, .loc _ => Decidable.isFalse nofun
  | .flst _, .non => Decidable.isFalse nofun | .flst _, .bl _ => Decidable.isFalse nofun | .flst _, .int _ => Decidable.isFalse nofun | .flst _, .str _ => Decidable.isFalse nofun
  | .flst _, .tup _ => Decidable.isFalse nofun | .flst _, .lst _ => Decidable.isFalse nofun | .flst _, .obj _ _ _ => Decidable.isFalse nofun | .flst _, .loc _ => Decidable.isFalse nofun
  | .obj _ _ _, .non => Decidable.isFalse nofun | .obj _ _ _, .bl _ => Decidable.isFalse nofun | .obj _ _ _, .int _ => Decidable.isFalse nofun | .obj _ _ _, .str _ => Decidable.isFalse nofun
  | .obj _ _ _, .tup _ => Decidable.isFalse nofun | .obj _ _ _, .lst _ => Decidable.isFalse nofun | .obj _ _ _, .flst _ => Decidable.isFalse nofun | .obj _ _ _, .loc _ => Decidable.isFalse nofun
  | .loc _, .non => Decidable.isFalse nofun | .loc _, .bl _ => Decidable.isFalse nofun | .loc _, .int _ => Decidable.isFalse nofun | .loc _, .str _ => Decidable.isFalse nofun
  | .loc _, .tup _ => Decidable.isFalse nofun | .loc _, .lst _ => Decidable.isFalse nofun | .loc _, .flst _ => Decidable.isFalse nofun | .loc _, .obj _ _ _ => Decidable.isFalse nofun
def D.deqs : (xs ys : List D) → Decidable (xs = ys)
  | [], [] => Decidable.isTrue rfl
  | [], _ :: _ => Decidable.isFalse nofun
  | _ :: _, [] => Decidable.isFalse nofun
  | x :: xs, y :: ys => match D.deq x y with
    | Decidable.isTrue h => match D.deqs xs ys with
      | Decidable.isTrue h2 => Decidable.isTrue (by rw [h, h2])
      | Decidable.isFalse h2 => Decidable.isFalse fun e => h2 (List.cons.inj e).2
    | Decidable.isFalse h => Decidable.isFalse fun e => h (List.cons.inj e).1
end
instance : DecidableEq D := D.deq

inductive Cell where
  | lst (ds : List D)
  | ins (c : Nat) (ns : List Str) (ds : List D)
  deriving DecidableEq, Inhabited

abbrev Store := List Cell
abbrev Env := List (Option D)
inductive Res (α : Type) where
  | ok (a : α) (μ : Store)
  | stuck
def Res.bind {α β : Type} (r : Res α) (f : α → Store → Res β) : Res β := match r with
  | .ok a μ => f a μ
  | .stuck => .stuck
@[simp] theorem Res.bind_ok {α β : Type} {a : α} {μ : Store} {f : α → Store → Res β} : (Res.ok a μ).bind f = f a μ := rfl
@[simp] theorem Res.bind_stuck {α β : Type} {f : α → Store → Res β} : (Res.stuck : Res α).bind f = .stuck := rfl

/-- the places of the mutable things, the banned places, the heap -/
structure Wd where
  ι : List Addr
  B : List Addr
  H : Hp

section
variable (K : PySem.W.Frag) (cls : Nat → Option Addr) (w : Wd)
def TupAt (a : Addr) (vs : List V) : Prop := (w.H a = some (.tup vs) ∧ a ∉ w.ι ∧ a ∉ w.B) ∨ SqT K (fun _ => none) a vs
def FlsAt (a : Addr) (vs : List V) : Prop := ((∃ o, w.H a = some (.frz o (.lst vs))) ∧ a ∉ w.ι ∧ a ∉ w.B) ∨ SqL K (fun _ => none) a vs
mutual
def RV : D → V → Prop
  | .non, v => v = .non
  | .bl b, v => v = .bl b
  | .int i, v => v = .int i
  | .str s, v => v = .str ⟨s.toArray⟩
  | .tup ds, v => ∃ a vs, v = .ref a ∧ TupAt K w a vs ∧ RVs ds vs
  | .lst ds, v => ∃ a vs, v = .ref a ∧ (w.H a = some (.lst vs) ∧ a ∉ w.ι ∧ a ∉ w.B) ∧ RVs ds vs
  | .flst is, v => ∃ a, v = .ref a ∧ FlsAt K w a (is.map .int)
  | .obj c ns ds, v => ∃ a C dx vs, v = .ref a ∧ cls c = some C ∧ (w.H a = some (.ins C dx (ns.zip vs)) ∧ a ∉ w.ι ∧ a ∉ w.B) ∧ ns.length = vs.length ∧ RVs ds vs
  | .loc n, v => ∃ a, v = .ref a ∧ w.ι[n]? = some a
def RVs : List D → List V → Prop
  | [], vs => vs = []
  | d :: ds, vs => ∃ v r, vs = v :: r ∧ RV d v ∧ RVs ds r
end
def CellOk (a : Addr) : Cell → Prop
  | .lst ds => ∃ vs, w.H a = some (.lst vs) ∧ RVs K cls w ds vs
  | .ins c ns ds => ∃ C dx vs, cls c = some C ∧ w.H a = some (.ins C dx (ns.zip vs)) ∧ ns.length = vs.length ∧ RVs K cls w ds vs
structure RelS (μ : Store) : Prop where
  len : w.ι.length = μ.length
  nd : w.ι.Nodup
  ban : ∀ b ∈ w.B, b ∉ w.ι ∧ ∃ o, w.H b = some o
  cell : ∀ (n : Nat) (c : Cell), μ[n]? = some c → ∃ a, w.ι[n]? = some a ∧ CellOk K cls w a c
def RelE (ρ : Env) (σ : L2.St) : Prop := σ.length = ρ.length ∧ ∀ (i : Nat) (d : D), ρ[i]? = some (some d) → ∃ v, σ[i]? = some (some v) ∧ RV K cls w d v
end

structure Step (w w' : Wd) : Prop where
  keep : ∀ a o, a ∉ w.ι → w.H a = some o → w'.H a = some o
  pre : ∃ l, w'.ι = w.ι ++ l
  fresh : ∀ a ∈ w'.ι, a ∉ w.ι → w.H a = none
  ban : w'.B = w.B

section
variable {K : PySem.W.Frag} {cls : Nat → Option Addr} {w w' w'' : Wd}
theorem Step.refl : Step w w := ⟨fun _ _ _ h => h, ⟨[], by simp⟩, fun a h n => absurd h n, rfl⟩
theorem Step.notin (s : Step w w') {a : Addr} {o : HO} (h : w.H a = some o) (n : a ∉ w.ι) : a ∉ w'.ι := fun z => by
  have := s.fresh a z n
  rw [h] at this
  cases this
theorem Step.trans (s : Step w w') (t : Step w' w'') : Step w w'' where
  keep := fun a o n h => t.keep a o (s.notin h n) (s.keep a o n h)
  pre := by
    obtain ⟨l, e⟩ := s.pre
    obtain ⟨l', e'⟩ := t.pre
    exact ⟨l ++ l', by rw [e', e, List.append_assoc]⟩
  fresh := fun a h n => by
    by_cases q : a ∈ w'.ι
    · exact s.fresh a q n
    · have z := t.fresh a h q
      cases e : w.H a with
      | none => rfl
      | some o =>
        have := s.keep a o n e
        rw [z] at this
        cases this
  ban := t.ban.trans s.ban
theorem Step.loc (s : Step w w') {n : Nat} {a : Addr} (h : w.ι[n]? = some a) : w'.ι[n]? = some a := by
  obtain ⟨l, e⟩ := s.pre
  rw [e]
  exact List.getElem?_append_left (List.getElem?_eq_some_iff.mp h).1 ▸ h

/-- what RV leans on is kept -/
structure Kp (w w' : Wd) : Prop where
  at_ : ∀ a o, a ∉ w.ι → a ∉ w.B → w.H a = some o → w'.H a = some o ∧ a ∉ w'.ι ∧ a ∉ w'.B
  loc : ∀ (n : Nat) (a : Addr), w.ι[n]? = some a → w'.ι[n]? = some a
theorem Step.kp (s : Step w w') : Kp w w' := ⟨fun a o n b h => ⟨s.keep a o n h, s.notin h n, by rw [s.ban]; exact b⟩, fun n a h => s.loc h⟩
theorem TupAt.mono (s : Kp w w') {a : Addr} {vs : List V} (h : TupAt K w a vs) : TupAt K w' a vs := by
  rcases h with ⟨h, n, b⟩ | h
  · exact .inl (s.at_ a _ n b h)
  · exact .inr h
theorem FlsAt.mono (s : Kp w w') {a : Addr} {vs : List V} (h : FlsAt K w a vs) : FlsAt K w' a vs := by
  rcases h with ⟨⟨o, h⟩, n, b⟩ | h
  · obtain ⟨h1, h2⟩ := s.at_ a _ n b h
    exact .inl ⟨⟨o, h1⟩, h2⟩
  · exact .inr h
mutual
theorem RV.mono (s : Kp w w') : ∀ {d : D} {v : V}, RV K cls w d v → RV K cls w' d v
  | .non, _, h => h
  | .bl _, _, h => h
  | .int _, _, h => h
  | .str _, _, h => h
  | .tup ds, _, ⟨a, vs, e, h, r⟩ => ⟨a, vs, e, h.mono s, RVs.mono s r⟩
  | .lst ds, _, ⟨a, vs, e, ⟨h, n, b⟩, r⟩ => ⟨a, vs, e, s.at_ a _ n b h, RVs.mono s r⟩
  | .flst _, _, ⟨a, e, h⟩ => ⟨a, e, h.mono s⟩
  | .obj _ _ ds, _, ⟨a, C, dx, vs, e, c, ⟨h, n, b⟩, l, r⟩ => ⟨a, C, dx, vs, e, c, s.at_ a _ n b h, l, RVs.mono s r⟩
  | .loc _, _, ⟨a, e, h⟩ => ⟨a, e, s.loc _ _ h⟩
theorem RVs.mono (s : Kp w w') : ∀ {ds : List D} {vs : List V}, RVs K cls w ds vs → RVs K cls w' ds vs
  | [], _, h => h
  | _ :: _, _, ⟨v, r, e, h, t⟩ => ⟨v, r, e, RV.mono s h, RVs.mono s t⟩
end
theorem RelE.mono (s : Kp w w') {ρ : Env} {σ : L2.St} (h : RelE K cls w ρ σ) : RelE K cls w' ρ σ := ⟨h.1, fun i d e => by
  obtain ⟨v, e1, r⟩ := h.2 i d e
  exact ⟨v, e1, r.mono s⟩⟩
theorem RVs.length : ∀ {ds : List D} {vs : List V}, RVs K cls w ds vs → vs.length = ds.length
  | [], _, h => by rw [show _ = [] from h]; rfl
  | _ :: _, _, ⟨v, r, e, _, t⟩ => by rw [e, List.length_cons, List.length_cons, RVs.length t]
theorem RVs.get : ∀ {ds : List D} {vs : List V} {i : Nat} {d : D}, RVs K cls w ds vs → ds[i]? = some d → ∃ v, vs[i]? = some v ∧ RV K cls w d v
  | [], _, _, _, _, e => by simp at e
  | d :: ds, _, 0, d', ⟨v, r, e, h, t⟩, e' => by
    simp at e'
    subst e' e
    exact ⟨v, rfl, h⟩
  | d :: ds, _, i + 1, d', ⟨v, r, e, h, t⟩, e' => by
    subst e
    obtain ⟨u, h1, h2⟩ := RVs.get (i := i) t (by simpa using e')
    exact ⟨u, by simpa using h1, h2⟩
theorem RVs.get' {ds : List D} {vs : List V} {i : Nat} {v : V} (h : RVs K cls w ds vs) (e : vs[i]? = some v) : ∃ d, ds[i]? = some d ∧ RV K cls w d v := by
  have hl := h.length
  have hi : i < ds.length := by rw [← hl]; exact (List.getElem?_eq_some_iff.mp e).1
  obtain ⟨u, h1, h2⟩ := h.get (i := i) (d := ds[i]) (List.getElem?_eq_getElem hi)
  rw [e] at h1
  cases h1
  exact ⟨ds[i], List.getElem?_eq_getElem hi, h2⟩
theorem RVs.append : ∀ {ds es : List D} {vs us : List V}, RVs K cls w ds vs → RVs K cls w es us → RVs K cls w (ds ++ es) (vs ++ us)
  | [], _, _, _, h, t => by rw [show _ = [] from h]; exact t
  | _ :: _, _, _, _, ⟨v, r, e, h, t⟩, t' => ⟨v, r ++ _, by rw [e]; rfl, h, RVs.append t t'⟩
theorem RVs.nil : RVs K cls w [] [] := rfl
theorem RVs.cons {d : D} {ds : List D} {v : V} {vs : List V} (h : RV K cls w d v) (t : RVs K cls w ds vs) : RVs K cls w (d :: ds) (v :: vs) := ⟨v, vs, rfl, h, t⟩
theorem RVs.set {e : D} {u : V} (h : RV K cls w e u) : ∀ {ds : List D} {vs : List V} (i : Nat), RVs K cls w ds vs → RVs K cls w (ds.set i e) (vs.set i u)
  | [], _, _, r => by rw [show _ = [] from r]; rfl
  | _ :: _, _, 0, ⟨v, r, q, _, t⟩ => by rw [q]; exact ⟨u, r, rfl, h, t⟩
  | _ :: _, _, i + 1, ⟨v, r, q, g, t⟩ => by rw [q]; exact ⟨v, _, rfl, g, RVs.set h i t⟩
theorem RVs.take : ∀ {ds : List D} {vs : List V} (n : Nat), RVs K cls w ds vs → RVs K cls w (ds.take n) (vs.take n)
  | _, _, 0, _ => by simp [RVs]
  | [], _, n + 1, r => by rw [show _ = [] from r]; rfl
  | _ :: _, _, n + 1, ⟨v, r, q, g, t⟩ => by rw [q]; exact ⟨v, _, rfl, g, RVs.take n t⟩
theorem RVs.drop : ∀ {ds : List D} {vs : List V} (n : Nat), RVs K cls w ds vs → RVs K cls w (ds.drop n) (vs.drop n)
  | _, _, 0, h => by simpa using h
  | [], _, n + 1, r => by rw [show _ = [] from r]; rfl
  | _ :: _, _, n + 1, ⟨v, r, q, g, t⟩ => by rw [q]; exact RVs.drop n t
theorem RVs.ints : ∀ {is : List Int}, RVs K cls w (is.map .int) (is.map .int)
  | [] => rfl
  | _ :: _ => ⟨_, _, rfl, rfl, RVs.ints⟩
theorem RVs.flatten : ∀ {dss : List (List D)} {vss : List (List V)}, Paired (RVs K cls w) dss vss → RVs K cls w dss.flatten vss.flatten
  | _, _, .nil => rfl
  | _, _, .cons h t => by
    rw [List.flatten_cons, List.flatten_cons]
    exact h.append (RVs.flatten t)
theorem RVs.rep {ds : List D} {vs : List V} (h : RVs K cls w ds vs) : ∀ n : Nat, RVs K cls w (List.replicate n ds).flatten (List.replicate n vs).flatten
  | 0 => rfl
  | n + 1 => by
    rw [List.replicate_succ, List.replicate_succ, List.flatten_cons, List.flatten_cons]
    exact h.append (RVs.rep h n)
theorem TupAt.sq {a : Addr} {vs : List V} (h : TupAt K w a vs) : SqT K w.H a vs := by
  rcases h with ⟨h, _⟩ | (h | h)
  · exact .inl (.inl h)
  · rcases h with h | ⟨o, h⟩ <;> cases h
  · exact .inr h
theorem FlsAt.sq {a : Addr} {vs : List V} (h : FlsAt K w a vs) : SqL K w.H a vs := by
  rcases h with ⟨⟨o, h⟩, _⟩ | (h | h)
  · exact .inl (.inr ⟨o, h⟩)
  · rcases h with h | ⟨o, h⟩ <;> cases h
  · exact .inr h

/-! ### new things -/
theorem RelS.tracked {μ : Store} (S : RelS K cls w μ) {a : Addr} (h : a ∈ w.ι) : ∃ o, w.H a = some o := by
  obtain ⟨n, hn, e⟩ := List.getElem_of_mem h
  have hm : n < μ.length := by rw [← S.len]; exact hn
  obtain ⟨a', e1, c⟩ := S.cell n μ[n] (List.getElem?_eq_getElem hm)
  have : a' = a := by
    rw [List.getElem?_eq_getElem hn, e] at e1
    exact (Option.some.inj e1).symm
  subst this
  generalize hc : μ[n] = cc at c
  cases cc with
  | lst ds => obtain ⟨vs, h, _⟩ := c; exact ⟨_, h⟩
  | ins cn ns ds => obtain ⟨C, dx, vs, _, h, _⟩ := c; exact ⟨_, h⟩
theorem RelS.free {μ : Store} (S : RelS K cls w μ) {p : Addr} (h : w.H p = none) : p ∉ w.ι ∧ p ∉ w.B := by
  refine ⟨fun z => ?_, fun z => ?_⟩
  · obtain ⟨o, e⟩ := S.tracked z
    rw [h] at e
    cases e
  · obtain ⟨_, o, e⟩ := S.ban p z
    rw [h] at e
    cases e
abbrev Wd.up (w : Wd) (p : Addr) (o : HO) : Wd := ⟨w.ι, w.B, upd w.H p o⟩
theorem step_new {p : Addr} {o : HO} (h : w.H p = none) : Step w (w.up p o) where
  keep := fun a u _ e => by
    show upd w.H p o a = some u
    rw [upd_ne (ne_of_none e h)]
    exact e
  pre := ⟨[], by simp⟩
  fresh := fun a h n => absurd h n
  ban := rfl
theorem CellOk.mono {a : Addr} {c : Cell} (s : Kp w w') (h : ∀ o, w.H a = some o → w'.H a = some o) : CellOk K cls w a c → CellOk K cls w' a c := by
  cases c with
  | lst ds => exact fun ⟨vs, e, r⟩ => ⟨vs, h _ e, r.mono s⟩
  | ins cn ns ds => exact fun ⟨C, dx, vs, c, e, l, r⟩ => ⟨C, dx, vs, c, h _ e, l, r.mono s⟩
/-- a new thing is laid -/
theorem RelS.new {μ : Store} (S : RelS K cls w μ) {p : Addr} {o : HO} (h : w.H p = none) : RelS K cls (w.up p o) μ where
  len := S.len
  nd := S.nd
  ban := fun b hb => by
    obtain ⟨h1, u, h2⟩ := S.ban b hb
    exact ⟨h1, u, by show upd w.H p o b = some u; rw [upd_ne (ne_of_none h2 h)]; exact h2⟩
  cell := fun n c e => by
    obtain ⟨a, h1, h2⟩ := S.cell n c e
    refine ⟨a, h1, h2.mono (step_new h).kp fun u e => ?_⟩
    show upd w.H p o a = some u
    rw [upd_ne (ne_of_none e h)]
    exact e
theorem new_tup {μ : Store} (S : RelS K cls w μ) {p : Addr} {ds : List D} {vs : List V} (h : w.H p = none) (r : RVs K cls w ds vs) : RV K cls (w.up p (.tup vs)) (.tup ds) (.ref p) :=
  ⟨p, vs, rfl, .inl ⟨upd_same, S.free h⟩, r.mono (step_new h).kp⟩
theorem new_lst {μ : Store} (S : RelS K cls w μ) {p : Addr} {ds : List D} {vs : List V} (h : w.H p = none) (r : RVs K cls w ds vs) : RV K cls (w.up p (.lst vs)) (.lst ds) (.ref p) :=
  ⟨p, vs, rfl, ⟨upd_same, S.free h⟩, r.mono (step_new h).kp⟩

/-- a frozen list that nothing else is becomes a place: p is fresh over w0 -/
abbrev Wd.add (w : Wd) (p : Addr) : Wd := ⟨w.ι ++ [p], w.B, w.H⟩

/-! ### posts -/
def PostR {α : Type} (K : PySem.W.Frag) (cls : Nat → Option Addr) (w : Wd) (R : Wd → α → Prop) : Res α → Prop
  | .ok d μ' => ∀ w', Step w w' → RelS K cls w' μ' → R w' d
  | .stuck => False
theorem PostR.step {α : Type} {R : Wd → α → Prop} {r : Res α} (s : Step w w') (h : PostR K cls w R r) : PostR K cls w' R r := by
  cases r with
  | ok d μ => exact fun w2 s2 => h w2 (s.trans s2)
  | stuck => exact h
end
end Fw

set_option Elab.async false
set_option linter.all false
set_option maxRecDepth 100000
set_option autoImplicit false
/-! The judgements over the plain reading, and the rules of expressions. -/
namespace Fw
open PySem L2

abbrev FE := Env → Store → Res D
abbrev FA := Env → Store → Res (List D)
abbrev FT := Env → Store → Res Bool
def LIM : Nat := 1000000
theorem lim_le {n : Nat} (h : n ≤ LIM) : n ≤ sizeLine := Nat.le_trans h (by rw [sizeLine_eq]; decide)
theorem lim_lt {n : Nat} (h : n < LIM) : n < sizeLine := Nat.lt_of_lt_of_le h (by rw [sizeLine_eq]; decide)

section
variable (X : Cx) (cls : Nat → Option Addr)
def SE (e : Expr) (f : FE) : Prop := ∃ t, PE X e t ∧ ∀ (σ : L2.St) (Q : VK) (w : Wd) (ρ : Env) (μ : Store), RelS X.K cls w μ → RelE X.K cls w ρ σ →
  PostR X.K cls w (fun w' d => ∀ v, RV X.K cls w' d v → Q v w'.H) (f ρ μ) → t σ w.H Q
def SA (es : List Expr) (f : FA) : Prop := ∃ t, PA X es t ∧ ∀ (σ : L2.St) (Q : List V → Hp → Prop) (w : Wd) (ρ : Env) (μ : Store), RelS X.K cls w μ → RelE X.K cls w ρ σ →
  PostR X.K cls w (fun w' d => ∀ v, RVs X.K cls w' d v → Q v w'.H) (f ρ μ) → t σ w.H Q
def ST (e : Expr) (f : FT) : Prop := ∃ t, PT X e t ∧ ∀ (σ : L2.St) (Q : Bool → Hp → Prop) (w : Wd) (ρ : Env) (μ : Store), RelS X.K cls w μ → RelE X.K cls w ρ σ →
  PostR X.K cls w (fun w' b => Q b w'.H) (f ρ μ) → t σ w.H Q
def SW (e : Expr) (f : FT) : Prop := ∃ t, PW X e t ∧ ∀ (σ : L2.St) (Q : Bool → Hp → Prop) (w : Wd) (ρ : Env) (μ : Store), RelS X.K cls w μ → RelE X.K cls w ρ σ →
  PostR X.K cls w (fun w' b => Q b w'.H) (f ρ μ) → t σ w.H Q
/-- an operator by values; a call; a method -/
def OV (op : Value → Value → Sem Value) (f : D → D → Store → Res D) : Prop := ∃ r, OpR X op r ∧ ∀ (w : Wd) (μ : Store) (d e : D) (x y : V) (Q : VK), RelS X.K cls w μ → RV X.K cls w d x → RV X.K cls w e y →
  PostR X.K cls w (fun w' d => ∀ v, RV X.K cls w' d v → Q v w'.H) (f d e μ) → r x y w.H Q
def CV (c : Value) (f : List D → Store → Res D) : Prop := ∃ r, CallR X c r ∧ ∀ (w : Wd) (μ : Store) (ds : List D) (xs : List V) (Q : VK), RelS X.K cls w μ → RVs X.K cls w ds xs →
  PostR X.K cls w (fun w' d => ∀ v, RV X.K cls w' d v → Q v w'.H) (f ds μ) → r xs w.H Q
def MV (id : String) (T : String) (f : D → List D → Store → Res D) : Prop := ∃ r, MtR X id r ∧ (∀ (w : Wd) (μ : Store) (d : D) (ds : List D) (x : V) (xs : List V) (Q : VK), RelS X.K cls w μ → RV X.K cls w d x → RVs X.K cls w ds xs →
  PostR X.K cls w (fun w' d => ∀ v, RV X.K cls w' d v → Q v w'.H) (f d ds μ) → r x xs w.H Q)
end

/-! ### the combinators -/
def eVar (i : Nat) : FE := fun ρ μ => match ρ[i]? with
  | some (some d) => .ok d μ
  | _ => .stuck
def eC (d : D) : FE := fun _ μ => .ok d μ
def eBin (g : D → D → Store → Res D) (fa fb : FE) : FE := fun ρ μ => (fa ρ μ).bind fun x μ1 => (fb ρ μ1).bind fun y μ2 => g x y μ2
def aNil : FA := fun _ μ => .ok [] μ
def aCons (fa : FE) (fr : FA) : FA := fun ρ μ => (fa ρ μ).bind fun x μ1 => (fr ρ μ1).bind fun xs μ2 => .ok (x :: xs) μ2
def eTup (fs : FA) : FE := fun ρ μ => (fs ρ μ).bind fun ds μ1 => if ds.length ≤ LIM then .ok (.tup ds) μ1 else .stuck
def eLst (fs : FA) : FE := fun ρ μ => (fs ρ μ).bind fun ds μ1 => if ds.length ≤ LIM then .ok (.lst ds) μ1 else .stuck
def eCall (F : List D → Store → Res D) (fs : FA) : FE := fun ρ μ => (fs ρ μ).bind fun ds μ1 => F ds μ1
def tB (fa : FE) : FT := fun ρ μ => (fa ρ μ).bind fun x μ1 => match x with
  | .bl b => .ok b μ1
  | _ => .stuck
def tNot (fa : FT) : FT := fun ρ μ => (fa ρ μ).bind fun b μ1 => .ok (!b) μ1
def tAnd (fa fb : FT) : FT := fun ρ μ => (fa ρ μ).bind fun b μ1 => if b then fb ρ μ1 else .ok false μ1
def tOr (fa fb : FT) : FT := fun ρ μ => (fa ρ μ).bind fun b μ1 => if b then .ok true μ1 else fb ρ μ1
def eIf (c : FT) (fa fb : FE) : FE := fun ρ μ => (c ρ μ).bind fun b μ1 => if b then fa ρ μ1 else fb ρ μ1
def eNot (fa : FE) : FE := fun ρ μ => (fa ρ μ).bind fun x μ1 => match x with
  | .bl b => .ok (.bl (!b)) μ1
  | _ => .stuck
def eAnd (fa fb : FE) : FE := fun ρ μ => (fa ρ μ).bind fun x μ1 => match x with
  | .bl b => if b then fb ρ μ1 else .ok (.bl false) μ1
  | _ => .stuck
def eOr (fa fb : FE) : FE := fun ρ μ => (fa ρ μ).bind fun x μ1 => match x with
  | .bl b => if b then .ok (.bl true) μ1 else fb ρ μ1
  | _ => .stuck
/-- a op b op' c -/
def eChain (g g' : D → D → Store → Res D) (fa fb fc : FE) : FE := fun ρ μ => (fa ρ μ).bind fun x μ1 => (fb ρ μ1).bind fun y μ2 => (g x y μ2).bind fun z μ3 => match z with
  | .bl b => if b then (fc ρ μ3).bind fun u μ4 => (g' y u μ4).bind fun z' μ5 => match z' with
      | .bl b' => .ok (.bl b') μ5
      | _ => .stuck
    else .ok (.bl false) μ3
  | _ => .stuck

/-- a bound reading: what comes first, then the rest -/
theorem PostR.bind {α β : Type} {K : PySem.W.Frag} {cls : Nat → Option Addr} {w : Wd} {R : Wd → β → Prop} {r : Res α} {f : α → Store → Res β}
    (h : PostR K cls w R (r.bind f)) : PostR K cls w (fun w' a => ∃ μ', RelS K cls w' μ' ∧ PostR K cls w' R (f a μ')) r := by
  cases r with
  | ok a μ => exact fun w' s S => ⟨μ, S, PostR.step s h⟩
  | stuck => exact h
theorem PostR.imp {α : Type} {K : PySem.W.Frag} {cls : Nat → Option Addr} {w : Wd} {R R' : Wd → α → Prop} {r : Res α} (h : PostR K cls w R r) (q : ∀ w' a, Step w w' → R w' a → R' w' a) : PostR K cls w R' r := by
  cases r with
  | ok a μ => exact fun w' s S => q w' a s (h w' s S)
  | stuck => exact h
theorem PostR.now {α : Type} {K : PySem.W.Frag} {cls : Nat → Option Addr} {w : Wd} {R : Wd → α → Prop} {a : α} {μ : Store} (S : RelS K cls w μ) (h : PostR K cls w R (.ok a μ)) : R w a := h w Step.refl S

section
variable {X : Cx} {cls : Nat → Option Addr} {a b c : Expr} {fa fb fc : FE} {ta tb tc : FT} {pos : Pos}
theorem se_var (i : Nat) {x : Str} (hN : X.N[i]? = some x := by rfl) (hv : Vis X.env.scope x := by first | exact Or.inl rfl | exact Or.inr (Or.inl rfl) | exact Or.inr (Or.inr rfl)) (hd : (x == ("__debug__" : Str)) = false := by decide +kernel)
    (hcd : (x == ("__classdict__" : Str)) = false := by decide +kernel) : SE X cls (.Name x pos) (eVar i) := by
  refine ⟨_, pe_var hN hv hd hcd, fun σ Q w ρ μ S E h => ?_⟩
  unfold eVar at h
  split at h
  · rename_i d hd
    obtain ⟨v, e, r⟩ := E.2 i d hd
    exact ⟨v, e, h w Step.refl S v r⟩
  · exact h.elim
theorem se_int {i : Int} {j pos} : SE X cls (.Constant (.int i) j pos) (eC (.int i)) := ⟨_, pe_int, fun σ Q w ρ μ S E h => h w Step.refl S _ rfl⟩
theorem se_bl {i : Bool} {j pos} : SE X cls (.Constant (.bool i) j pos) (eC (.bl i)) := ⟨_, pe_bl, fun σ Q w ρ μ S E h => h w Step.refl S _ rfl⟩
theorem se_non {j pos} : SE X cls (.Constant .none j pos) (eC .non) := ⟨_, pe_non, fun σ Q w ρ μ S E h => h w Step.refl S _ rfl⟩
theorem se_str {x : Str} {j pos} : SE X cls (.Constant (.str x) j pos) (eC (.str x.cps.toList)) := ⟨_, pe_str, fun σ Q w ρ μ S E h => h w Step.refl S _ (by
  show V.str x = V.str ⟨x.cps.toList.toArray⟩
  rw [Array.toArray_toList])⟩
/-- a module's constant -/
theorem se_glob {x : Str} {v : V} {u : Value} {d : D} (hg : Gl X x) (hm : X.mg x = some u) (r : RelV v u) (rd : ∀ w, RV X.K cls w d v) (hd : (x == ("__debug__" : Str)) = false := by decide +kernel) : SE X cls (.Name x pos) (eC d) :=
  ⟨_, pe_glob hg hm r hd, fun σ Q w ρ μ S E h => h w Step.refl S _ (rd w)⟩
theorem se_bin {op : Operator} {g : D → D → Store → Res D} (ho : OV X cls (binaryOp op) g) (ha : SE X cls a fa) (hb : SE X cls b fb) : SE X cls (.BinOp a op b pos) (eBin g fa fb) := by
  obtain ⟨r, o, ho⟩ := ho
  obtain ⟨t1, p1, h1⟩ := ha
  obtain ⟨t2, p2, h2⟩ := hb
  refine ⟨_, pe_op o p1 p2, fun σ Q w ρ μ S E h => ?_⟩
  refine h1 σ _ w ρ μ S E ((PostR.bind h).imp fun w1 d s1 ⟨μ1, S1, q1⟩ v r1 => ?_)
  refine h2 σ _ w1 ρ μ1 S1 (E.mono s1.kp) ((PostR.bind q1).imp fun w2 e s2 ⟨μ2, S2, q2⟩ u r2 => ?_)
  exact ho w2 μ2 d e v u Q S2 (r1.mono s2.kp) r2 q2
theorem se_cmp {op : CmpOp} {g : D → D → Store → Res D} (ho : OV X cls (compareOp op) g) (ha : SE X cls a fa) (hb : SE X cls b fb) (hm : behindInMarks op b = false := by first | exact nomark _ | rfl) : SE X cls (.Compare a [op] [b] pos) (eBin g fa fb) := by
  obtain ⟨r, o, ho⟩ := ho
  obtain ⟨t1, p1, h1⟩ := ha
  obtain ⟨t2, p2, h2⟩ := hb
  refine ⟨_, pe_cmpR o p1 p2 hm, fun σ Q w ρ μ S E h => ?_⟩
  refine h1 σ _ w ρ μ S E ((PostR.bind h).imp fun w1 d s1 ⟨μ1, S1, q1⟩ v r1 => ?_)
  refine h2 σ _ w1 ρ μ1 S1 (E.mono s1.kp) ((PostR.bind q1).imp fun w2 e s2 ⟨μ2, S2, q2⟩ u r2 => ?_)
  exact ho w2 μ2 d e v u Q S2 (r1.mono s2.kp) r2 q2
/-- a comparison as a test -/
theorem st_cmp {op : CmpOp} {g : D → D → Store → Res D} (ho : OV X cls (compareOp op) g) (ha : SE X cls a fa) (hb : SE X cls b fb) (hm : behindInMarks op b = false := by first | exact nomark _ | rfl) : ST X cls (.Compare a [op] [b] pos) (tB (eBin g fa fb)) := by
  obtain ⟨r, o, ho⟩ := ho
  obtain ⟨t1, p1, h1⟩ := ha
  obtain ⟨t2, p2, h2⟩ := hb
  refine ⟨_, pt_cmpR o p1 p2 hm, fun σ Q w ρ μ S E h => ?_⟩
  have h := PostR.bind h
  refine h1 σ _ w ρ μ S E ((PostR.bind h).imp fun w1 d s1 ⟨μ1, S1, q1⟩ v r1 => ?_)
  refine h2 σ _ w1 ρ μ1 S1 (E.mono s1.kp) ((PostR.bind q1).imp fun w2 e s2 ⟨μ2, S2, q2⟩ u r2 => ?_)
  refine ho w2 μ2 d e v u _ S2 (r1.mono s2.kp) r2 (q2.imp fun w3 z s3 ⟨μ3, S3, q3⟩ x rx => ?_)
  cases z with
  | bl k => exact ⟨k, rx, q3 w3 Step.refl S3⟩
  | _ => exact q3.elim
theorem se_chain {op op' : CmpOp} {g g' : D → D → Store → Res D} (ho : OV X cls (compareOp op) g) (ho' : OV X cls (compareOp op') g') (ha : SE X cls a fa) (hb : SE X cls b fb) (hc : SE X cls c fc)
    (k : ∀ {r r' : R2} {t1 t2 t3 : TE}, OpR X (compareOp op) r → OpR X (compareOp op') r' → PE X a t1 → PE X b t2 → PE X c t3 → PE X (.Compare a [op, op'] [b, c] pos) (tChain r r' t1 t2 t3) := by exact fun o o' p1 p2 p3 => pe_chain o o' p1 p2 p3) :
    SE X cls (.Compare a [op, op'] [b, c] pos) (eChain g g' fa fb fc) := by
  obtain ⟨r, o, ho⟩ := ho
  obtain ⟨r', o', ho'⟩ := ho'
  obtain ⟨t1, p1, h1⟩ := ha
  obtain ⟨t2, p2, h2⟩ := hb
  obtain ⟨t3, p3, h3⟩ := hc
  refine ⟨_, k o o' p1 p2 p3, fun σ Q w ρ μ S E h => ?_⟩
  refine h1 σ _ w ρ μ S E ((PostR.bind h).imp fun w1 d s1 ⟨μ1, S1, q1⟩ v r1 => ?_)
  refine h2 σ _ w1 ρ μ1 S1 (E.mono s1.kp) ((PostR.bind q1).imp fun w2 e s2 ⟨μ2, S2, q2⟩ u r2 => ?_)
  refine ho w2 μ2 d e v u _ S2 (r1.mono s2.kp) r2 ((PostR.bind q2).imp fun w3 z s3 ⟨μ3, S3, q3⟩ x rx => ?_)
  cases z with
  | bl k =>
    refine ⟨k, rx, ?_⟩
    cases k with
    | true =>
      refine h3 σ _ w3 ρ μ3 S3 (E.mono ((s1.trans s2).trans s3).kp) ((PostR.bind q3).imp fun w4 z4 s4 ⟨μ4, S4, q4⟩ x4 rx4 => ?_)
      refine ho' w4 μ4 e z4 u x4 _ S4 (r2.mono (s3.trans s4).kp) rx4 ((PostR.bind q4).imp fun w5 z5 s5 ⟨μ5, S5, q5⟩ x5 rx5 => ?_)
      cases z5 with
      | bl k' =>
        first
        | exact ⟨k', rx5, q5 w5 Step.refl S5 _ rfl⟩
        | exact q5 w5 Step.refl S5 _ rx5
      | _ => exact q5.elim
    | false => exact q3 w3 Step.refl S3 _ rfl
  | _ => exact q3.elim
theorem st_val (ha : SE X cls a fa) (he : ∀ whole, isTrue a X.env whole = (do let v ← whole; standAt a.pos; holding [v] (truthy v)) := by intro _; rfl) : ST X cls a (tB fa) := by
  obtain ⟨t1, p1, h1⟩ := ha
  refine ⟨_, pt_val p1 he, fun σ Q w ρ μ S E h => ?_⟩
  refine h1 σ _ w ρ μ S E ((PostR.bind h).imp fun w1 d s1 ⟨μ1, S1, q1⟩ v r1 => ?_)
  cases d with
  | bl k => exact ⟨k, r1, q1 w1 Step.refl S1⟩
  | _ => exact q1.elim
theorem st_not (ha : ST X cls a ta) : ST X cls (.UnaryOp .Not a pos) (tNot ta) := by
  obtain ⟨t1, p1, h1⟩ := ha
  refine ⟨_, pt_not p1, fun σ Q w ρ μ S E h => ?_⟩
  exact h1 σ _ w ρ μ S E ((PostR.bind h).imp fun w1 d s1 ⟨μ1, S1, q1⟩ => q1 w1 Step.refl S1)
theorem sw_and1 (ha : ST X cls a ta) : SW X cls (.BoolOp .And [a] pos) ta := by
  obtain ⟨t1, p1, h1⟩ := ha
  exact ⟨_, pw_and1 p1, h1⟩
theorem sw_or1 (ha : ST X cls a ta) : SW X cls (.BoolOp .Or [a] pos) ta := by
  obtain ⟨t1, p1, h1⟩ := ha
  exact ⟨_, pw_or1 p1, h1⟩
theorem sw_and {rest : List Expr} (ha : ST X cls a ta) (hb : SW X cls (.BoolOp .And (b :: rest) pos) tb) : SW X cls (.BoolOp .And (a :: b :: rest) pos) (tAnd ta tb) := by
  obtain ⟨t1, p1, h1⟩ := ha
  obtain ⟨t2, p2, h2⟩ := hb
  refine ⟨_, pw_and p1 p2, fun σ Q w ρ μ S E h => ?_⟩
  refine h1 σ _ w ρ μ S E ((PostR.bind h).imp fun w1 d s1 ⟨μ1, S1, q1⟩ => ?_)
  cases d with
  | true => exact h2 σ _ w1 ρ μ1 S1 (E.mono s1.kp) q1
  | false => exact q1 w1 Step.refl S1
theorem sw_or {rest : List Expr} (ha : ST X cls a ta) (hb : SW X cls (.BoolOp .Or (b :: rest) pos) tb) : SW X cls (.BoolOp .Or (a :: b :: rest) pos) (tOr ta tb) := by
  obtain ⟨t1, p1, h1⟩ := ha
  obtain ⟨t2, p2, h2⟩ := hb
  refine ⟨_, pw_or p1 p2, fun σ Q w ρ μ S E h => ?_⟩
  refine h1 σ _ w ρ μ S E ((PostR.bind h).imp fun w1 d s1 ⟨μ1, S1, q1⟩ => ?_)
  cases d with
  | false => exact h2 σ _ w1 ρ μ1 S1 (E.mono s1.kp) q1
  | true => exact q1 w1 Step.refl S1
theorem SW.st (ha : SW X cls a ta) : ST X cls a ta := by
  obtain ⟨t1, p1, h1⟩ := ha
  exact ⟨_, p1.pt, h1⟩
theorem se_if (hc : ST X cls c tc) (ha : SE X cls a fa) (hb : SE X cls b fb) : SE X cls (.IfExp c a b pos) (eIf tc fa fb) := by
  obtain ⟨t0, p0, h0⟩ := hc
  obtain ⟨t1, p1, h1⟩ := ha
  obtain ⟨t2, p2, h2⟩ := hb
  refine ⟨_, pe_ifExp p0 p1 p2, fun σ Q w ρ μ S E h => ?_⟩
  refine h0 σ _ w ρ μ S E ((PostR.bind h).imp fun w1 d s1 ⟨μ1, S1, q1⟩ => ?_)
  cases d with
  | true => exact h1 σ _ w1 ρ μ1 S1 (E.mono s1.kp) q1
  | false => exact h2 σ _ w1 ρ μ1 S1 (E.mono s1.kp) q1
theorem se_not (ha : SE X cls a fa) : SE X cls (.UnaryOp .Not a pos) (eNot fa) := by
  obtain ⟨t1, p1, h1⟩ := ha
  refine ⟨_, pe_not p1, fun σ Q w ρ μ S E h => ?_⟩
  refine h1 σ _ w ρ μ S E ((PostR.bind h).imp fun w1 d s1 ⟨μ1, S1, q1⟩ v r1 => ?_)
  cases d with
  | bl k => exact ⟨k, r1, q1 w1 Step.refl S1 _ rfl⟩
  | _ => exact q1.elim
theorem se_one {op} (ha : SE X cls a fa) : SE X cls (.BoolOp op [a] pos) fa := by
  obtain ⟨t1, p1, h1⟩ := ha
  exact ⟨_, pe_one p1, h1⟩
theorem se_and {rest : List Expr} (ha : SE X cls a fa) (hb : SE X cls (.BoolOp .And (b :: rest) pos) fb) : SE X cls (.BoolOp .And (a :: b :: rest) pos) (eAnd fa fb) := by
  obtain ⟨t1, p1, h1⟩ := ha
  obtain ⟨t2, p2, h2⟩ := hb
  refine ⟨_, pe_and p1 p2, fun σ Q w ρ μ S E h => ?_⟩
  refine h1 σ _ w ρ μ S E ((PostR.bind h).imp fun w1 d s1 ⟨μ1, S1, q1⟩ v r1 => ?_)
  cases d with
  | bl k =>
    refine ⟨k, r1, ?_⟩
    cases k with
    | true => exact h2 σ _ w1 ρ μ1 S1 (E.mono s1.kp) q1
    | false => exact q1 w1 Step.refl S1 _ rfl
  | _ => exact q1.elim
theorem se_or {rest : List Expr} (ha : SE X cls a fa) (hb : SE X cls (.BoolOp .Or (b :: rest) pos) fb) : SE X cls (.BoolOp .Or (a :: b :: rest) pos) (eOr fa fb) := by
  obtain ⟨t1, p1, h1⟩ := ha
  obtain ⟨t2, p2, h2⟩ := hb
  refine ⟨_, pe_or p1 p2, fun σ Q w ρ μ S E h => ?_⟩
  refine h1 σ _ w ρ μ S E ((PostR.bind h).imp fun w1 d s1 ⟨μ1, S1, q1⟩ v r1 => ?_)
  cases d with
  | bl k =>
    refine ⟨k, r1, ?_⟩
    cases k with
    | false => exact h2 σ _ w1 ρ μ1 S1 (E.mono s1.kp) q1
    | true => exact q1 w1 Step.refl S1 _ rfl
  | _ => exact q1.elim
theorem sa_nil : SA X cls [] aNil := ⟨_, pa_nil, fun σ Q w ρ μ S E h => h w Step.refl S _ rfl⟩
theorem sa_cons {es : List Expr} {fr : FA} (ha : SE X cls a fa) (hr : SA X cls es fr) (hs : starEach (a :: es) X.env = (false, eval a X.env) :: starEach es X.env := by rfl) : SA X cls (a :: es) (aCons fa fr) := by
  obtain ⟨t1, p1, h1⟩ := ha
  obtain ⟨t2, p2, h2⟩ := hr
  refine ⟨_, pa_cons p1 p2 hs, fun σ Q w ρ μ S E h => ?_⟩
  refine h1 σ _ w ρ μ S E ((PostR.bind h).imp fun w1 d s1 ⟨μ1, S1, q1⟩ v r1 => ?_)
  refine h2 σ _ w1 ρ μ1 S1 (E.mono s1.kp) ((PostR.bind q1).imp fun w2 e s2 ⟨μ2, S2, q2⟩ u r2 => ?_)
  exact q2 w2 Step.refl S2 _ (.cons (r1.mono s2.kp) r2)
theorem se_tup {es : List Expr} {fr : FA} {x1} (ha : SA X cls es fr) : SE X cls (.Tuple es x1 pos) (eTup fr) := by
  obtain ⟨t1, p1, h1⟩ := ha
  refine ⟨_, pe_tup p1, fun σ Q w ρ μ S E h => ?_⟩
  refine h1 σ _ w ρ μ S E ((PostR.bind h).imp fun w1 d s1 ⟨μ1, S1, q1⟩ v r1 => ?_)
  by_cases hl : d.length ≤ LIM
  · rw [if_pos hl] at q1
    exact ⟨by rw [r1.length]; exact lim_le hl, fun p hp => q1 (w1.up p (.tup v)) (step_new hp) (S1.new hp) _ (new_tup S1 hp r1)⟩
  · rw [if_neg hl] at q1
    exact q1.elim
theorem se_lst {es : List Expr} {fr : FA} (ha : SA X cls es fr) : SE X cls (.List es pos) (eLst fr) := by
  obtain ⟨t1, p1, h1⟩ := ha
  refine ⟨_, pe_lst p1, fun σ Q w ρ μ S E h => ?_⟩
  refine h1 σ _ w ρ μ S E ((PostR.bind h).imp fun w1 d s1 ⟨μ1, S1, q1⟩ v r1 => ?_)
  by_cases hl : d.length ≤ LIM
  · rw [if_pos hl] at q1
    exact ⟨by rw [r1.length]; exact lim_le hl, fun p hp => q1 (w1.up p (.lst v)) (step_new hp) (S1.new hp) _ (new_lst S1 hp r1)⟩
  · rw [if_neg hl] at q1
    exact q1.elim
/-- a built-in by its name -/
theorem se_callB {x : Str} {p : Pos} {es : List Expr} {fr : FA} {id : String} {F : List D → Store → Res D} (hc : CV X cls (.builtin id) F) (hg : Gl X x) (hm : X.mg x = none) (hv : bootBuiltins x = some (.builtin id)) (ha : SA X cls (a :: es) fr)
    (hn : x ≠ "__name__" := by decide +kernel) (hdb : (x == ("__debug__" : Str)) = false := by decide +kernel)
    (he : starEach (a :: es) X.env = (false, eval a X.env) :: starEach es X.env := by rfl) (hpl : (backTo pos (starEach es X.env)).any (·.1) = false := by rfl) : SE X cls (.Call (.Name x p) (a :: es) [] pos) (eCall F fr) := by
  obtain ⟨r, c, hc⟩ := hc
  obtain ⟨t1, p1, h1⟩ := ha
  refine ⟨_, pe_callB c hg hm hv p1 hn hdb he hpl, fun σ Q w ρ μ S E h => ?_⟩
  refine h1 σ _ w ρ μ S E ((PostR.bind h).imp fun w1 d s1 ⟨μ1, S1, q1⟩ v r1 => ?_)
  exact hc w1 μ1 d v Q S1 r1 q1
theorem se_callTy {x : Str} {p : Pos} {es : List Expr} {fr : FA} {T : String} {F : List D → Store → Res D} (hc : CV X cls (.type T) F) (hg : Gl X x) (hm : X.mg x = none) (hv : bootBuiltins x = some (.type T)) (ha : SA X cls (a :: es) fr)
    (hn : x ≠ "__name__" := by decide +kernel) (hdb : (x == ("__debug__" : Str)) = false := by decide +kernel)
    (he : starEach (a :: es) X.env = (false, eval a X.env) :: starEach es X.env := by rfl) (hpl : (backTo pos (starEach es X.env)).any (·.1) = false := by rfl) : SE X cls (.Call (.Name x p) (a :: es) [] pos) (eCall F fr) := by
  obtain ⟨r, c, hc⟩ := hc
  obtain ⟨t1, p1, h1⟩ := ha
  refine ⟨_, pe_callTy c hg hm hv p1 hn hdb he hpl, fun σ Q w ρ μ S E h => ?_⟩
  refine h1 σ _ w ρ μ S E ((PostR.bind h).imp fun w1 d s1 ⟨μ1, S1, q1⟩ v r1 => ?_)
  exact hc w1 μ1 d v Q S1 r1 q1

/-! ### a def's promise by its reading, and its call -/
def spD (K : PySem.W.Frag) (cls : Nat → Option Addr) (F : List D → Store → Res D) (n : Nat) : Sp := fun vs H Q _ => ∃ (w : Wd) (ds : List D) (μ : Store), w.H = H ∧ ds.length = n ∧ RelS K cls w μ ∧ RVs K cls w ds vs ∧
  PostR K cls w (fun w' d => ∀ v, RV K cls w' d v → Q v w'.H) (F ds μ)
/-- a def as the top has left it, with what it reads as -/
structure Df (P : Program) (W : World) (K : PySem.W.Frag) (cls : Nat → Option Addr) (mg : Str → Option Value) (base : Heap) (k : Nat) (x : Str) (n : Nat) (F : List D → Store → Res D) : Prop where
  ex : ∃ (f : Addr) (fd : FuncData) (ps : List Str), FnOk P W K mg base CX0 k f fd ps (spD K cls F n) ∧ mg x = some (.ref f) ∧ PySem.W.keepIn K (.ref f) = true ∧ Binds K fd ps [] ∧ ps.length = n
def eCallD (n : Nat) (F : List D → Store → Res D) (fs : FA) : FE := fun ρ μ => (fs ρ μ).bind fun ds μ1 => if ds.length = n then F ds μ1 else .stuck
theorem se_call {k n : Nat} {x : Str} {p : Pos} {es : List Expr} {fr : FA} {F : List D → Store → Res D} (G : Df X.prog X.w X.K cls X.mg X.base k x n F) (hr : Room k X.A) (hg : Gl X x) (ha : SA X cls (a :: es) fr)
    (hdb : (x == ("__debug__" : Str)) = false := by decide +kernel) (he : starEach (a :: es) X.env = (false, eval a X.env) :: starEach es X.env := by rfl) (hpl : (backTo pos (starEach es X.env)).any (·.1) = false := by rfl) :
    SE X cls (.Call (.Name x p) (a :: es) [] pos) (eCallD n F fr) := by
  obtain ⟨f, fd, ps, hf, hm, hk, hb, hn⟩ := G.ex
  obtain ⟨t1, p1, h1⟩ := ha
  refine ⟨_, pe_call hf hr hg hm hk hb .nil pass0 p1 hdb he hpl, fun σ Q w ρ μ S E h => ?_⟩
  refine h1 σ _ w ρ μ S E ((PostR.bind h).imp fun w1 d s1 ⟨μ1, S1, q1⟩ v r1 => ?_)
  by_cases hl : d.length = n
  · rw [if_pos hl] at q1
    rw [List.append_nil]
    exact ⟨w1, d, μ1, rfl, hl, S1, r1, q1⟩
  · rw [if_neg hl] at q1
    exact q1.elim
end
end Fw

set_option Elab.async false
set_option linter.all false
set_option maxRecDepth 100000
set_option autoImplicit false
/-! The operators and the built-ins by values. -/
namespace Fw
open PySem L2 PyProof.Rows

section
variable {K : PySem.W.Frag} {cls : Nat → Option Addr} {w : Wd} {μ : Store}
def lstOf (μ : Store) : D → Option (List D)
  | .lst ds => some ds
  | .loc n => match μ[n]? with
    | some (.lst ds) => some ds
    | _ => none
  | _ => none
theorem lstOf_at (S : RelS K cls w μ) {d : D} {x : V} {ds : List D} (r : RV K cls w d x) (h : lstOf μ d = some ds) : ∃ a vs, x = .ref a ∧ w.H a = some (.lst vs) ∧ RVs K cls w ds vs := by
  cases d with
  | lst es =>
    cases h
    obtain ⟨a, vs, e, ⟨h1, _⟩, h2⟩ := r
    exact ⟨a, vs, e, h1, h2⟩
  | loc n =>
    obtain ⟨a, e, hn⟩ := r
    simp only [lstOf] at h
    split at h
    · rename_i es hc
      cases h
      obtain ⟨a', h1, vs, h2, h3⟩ := S.cell n _ hc
      rw [hn] at h1
      cases h1
      exact ⟨a, vs, e, h2, h3⟩
    · cases h
  | _ => cases h
/-- any sequence but a text -/
def seqOf (μ : Store) : D → Option (List D)
  | .lst ds => some ds
  | .tup ds => some ds
  | .flst is => some (is.map .int)
  | .loc n => match μ[n]? with
    | some (.lst ds) => some ds
    | _ => none
  | _ => none
theorem seqOf_at (S : RelS K cls w μ) {d : D} {x : V} {ds : List D} (r : RV K cls w d x) (h : seqOf μ d = some ds) : ∃ a vs, x = .ref a ∧ (SqL K w.H a vs ∨ SqT K w.H a vs) ∧ RVs K cls w ds vs := by
  cases d with
  | lst es =>
    obtain ⟨a, vs, e, h1, h2⟩ := lstOf_at S r h
    exact ⟨a, vs, e, .inl (.inl (.inl h1)), h2⟩
  | loc n =>
    obtain ⟨a, vs, e, h1, h2⟩ := lstOf_at S r h
    exact ⟨a, vs, e, .inl (.inl (.inl h1)), h2⟩
  | tup es =>
    cases h
    obtain ⟨a, vs, e, h1, h2⟩ := r
    exact ⟨a, vs, e, .inr h1.sq, h2⟩
  | flst is =>
    cases h
    obtain ⟨a, e, h1⟩ := r
    exact ⟨a, _, e, .inl h1.sq, RVs.ints⟩
  | _ => cases h
theorem strEq {s : List Nat} : (⟨s.toArray⟩ : Str).cps.toList = s := by simp
theorem strLen {s : List Nat} : (⟨s.toArray⟩ : Str).length = s.length := by show s.toArray.size = s.length; simp
theorem strApp {s t : List Nat} : (⟨s.toArray⟩ : Str) ++ (⟨t.toArray⟩ : Str) = (⟨(s ++ t).toArray⟩ : Str) := by
  show Str.mk (s.toArray ++ t.toArray) = _
  simp
end

/-! ### + - * // % ** -/
def oAdd : D → D → Store → Res D := fun d e μ => match d, e with
  | .int i, .int j => .ok (.int (i + j)) μ
  | .str a, .str b => if a.length + b.length ≤ LIM then .ok (.str (a ++ b)) μ else .stuck
  | .tup a, .tup b => if a.length + b.length ≤ LIM then .ok (.tup (a ++ b)) μ else .stuck
  | d, e => match lstOf μ d, lstOf μ e with
    | some a, some b => if a.length + b.length ≤ LIM then .ok (.lst (a ++ b)) μ else .stuck
    | _, _ => .stuck
def oSub : D → D → Store → Res D := fun d e μ => match d, e with
  | .int i, .int j => .ok (.int (i - j)) μ
  | _, _ => .stuck
def Sm (i : Int) : Bool := decide (-(2 ^ 64) < i) && decide (i < 2 ^ 64)
def oMul : D → D → Store → Res D := fun d e μ => match d, e with
  | .int i, .int j => if (Sm i || Sm j) = true then .ok (.int (i * j)) μ else .stuck
  | .str a, .int j => if j ≤ 1000 ∧ -1000 ≤ j ∧ a.length ≤ 1000 then .ok (.str (List.replicate j.toNat a).flatten) μ else .stuck
  | d, .int j => match lstOf μ d with
    | some a => if j ≤ 1000 ∧ -1000 ≤ j ∧ a.length ≤ 1000 then .ok (.lst (List.replicate j.toNat a).flatten) μ else .stuck
    | _ => .stuck
  | _, _ => .stuck
def oMod : D → D → Store → Res D := fun d e μ => match d, e with
  | .int i, .int j => if 0 < j then .ok (.int (i % j)) μ else .stuck
  | _, _ => .stuck
def oFdv : D → D → Store → Res D := fun d e μ => match d, e with
  | .int i, .int j => if 0 < j ∧ j.natAbs.log2 < 9000 then .ok (.int (i / j)) μ else .stuck
  | _, _ => .stuck
def oPow : D → D → Store → Res D := fun d e μ => match d, e with
  | .int i, .int j => if 0 ≤ j ∧ j ≤ 1000 ∧ Sm i = true then .ok (.int (i ^ j.toNat)) μ else .stuck
  | _, _ => .stuck

section
variable {X : Cx} {cls : Nat → Option Addr}
theorem sm_ok {i : Int} (h : Sm i = true) : -(2 ^ 64) < i ∧ i < 2 ^ 64 := by
  unfold Sm at h
  simpa using h
theorem ov_add : OV X cls (binaryOp .Add) oAdd := by
  refine ⟨_, op_add.or (op_add_str.or (op_catA.or op_cat)), fun w μ d e x y Q S r1 r2 h => ?_⟩
  have lsts : ∀ {a b : List D}, lstOf μ d = some a → lstOf μ e = some b → PostR X.K cls w (fun w' d => ∀ v, RV X.K cls w' d v → Q v w'.H) (if a.length + b.length ≤ LIM then Res.ok (.lst (a ++ b)) μ else .stuck) →
      L2.rCat x y w.H Q := fun {a b} ha hb h => by
    obtain ⟨l, vs, e1, h1, h2⟩ := lstOf_at S r1 ha
    obtain ⟨m, us, e2, h3, h4⟩ := lstOf_at S r2 hb
    split at h
    · rename_i hl
      refine ⟨l, m, vs, us, e1, e2, h1, h3, by rw [h2.length, h4.length]; exact lim_le hl, fun p hp => ?_⟩
      exact h (w.up p (.lst (vs ++ us))) (step_new hp) (S.new hp) _ (new_lst S hp (h2.append h4))
    · exact h.elim
  unfold oAdd at h
  split at h
  · exact .inl ⟨_, _, r1, r2, h w Step.refl S _ rfl⟩
  · rename_i a b
    split at h
    · rename_i hl
      refine .inr (.inl ⟨_, _, r1, r2, by rw [strLen, strLen]; exact lim_le hl, ?_⟩)
      rw [strApp]
      exact h w Step.refl S _ rfl
    · exact h.elim
  · rename_i a b
    split at h
    · rename_i hl
      obtain ⟨p, vs, e1, t1, q1⟩ := r1
      obtain ⟨q, us, e2, t2, q2⟩ := r2
      refine .inr (.inr (.inl ⟨p, q, vs, us, e1, e2, t1.sq, t2.sq, by rw [q1.length, q2.length]; exact lim_le hl, fun z => ?_, fun z z' => ?_, fun z z' n hn => ?_⟩))
      · subst z
        refine h w Step.refl S _ ⟨q, us, rfl, t2, ?_⟩
        have : a = [] := List.length_eq_zero_iff.mp (by rw [← q1.length]; rfl)
        rw [this]
        exact q2
      · subst z'
        refine h w Step.refl S _ ⟨p, vs, rfl, t1, ?_⟩
        have : b = [] := List.length_eq_zero_iff.mp (by rw [← q2.length]; rfl)
        rw [this, List.append_nil]
        exact q1
      · exact h (w.up n (.tup (vs ++ us))) (step_new hn) (S.new hn) _ (new_tup S hn (q1.append q2))
    · exact h.elim
  · split at h
    · rename_i a b ha hb
      exact .inr (.inr (.inr (lsts ha hb h)))
    · exact h.elim
theorem ov_sub : OV X cls (binaryOp .Sub) oSub := by
  refine ⟨_, op_sub, fun w μ d e x y Q S r1 r2 h => ?_⟩
  unfold oSub at h
  split at h
  · exact ⟨_, _, r1, r2, h w Step.refl S _ rfl⟩
  · exact h.elim
theorem op_repS : OpR X (binaryOp .Mult) (fun x y H Q => ∃ (a : List Nat) (j : Int), x = .str ⟨a.toArray⟩ ∧ y = .int j ∧ (j ≤ 1000 ∧ -1000 ≤ j ∧ a.length ≤ 1000) ∧ Q (.str ⟨(List.replicate j.toNat a).flatten.toArray⟩) H) := by
  intro pins s σ H x y v u Q I rx ry h
  obtain ⟨a, j, rfl, rfl, ⟨h1, h2, h3⟩, q⟩ := h
  obtain ⟨t, rfl⟩ := rx
  obtain ⟨t', rfl⟩ := ry
  have hl : (⟨a.toArray⟩ : Str).length = a.length := strLen
  refine PySem.P.mul_str (by rw [decide_eq_false (by omega), decide_eq_false (by omega)]; rfl) (fun g1 _ z => ?_) (fun g1 _ => ?_) ?_
  · rw [hl] at z
    have hj : (1000 : Int) * j ≤ 2 ^ 63 - 1 := by omega
    have : (1000 : Int) ≤ (2 ^ 63 - 1) / j := (Int.le_ediv_iff_mul_le (by omega)).mpr hj
    omega
  · rw [hl]
    have hm : a.length * j.toNat ≤ 1000 * 1000 := Nat.mul_le_mul h3 (by omega)
    unfold Builtin.Str.tooLong
    rw [sizeLine_eq]
    simp
    omega
  · have key : ∀ n : Nat, (List.replicate n a.toArray).foldl (· ++ ·) #[] = (List.replicate n a).flatten.toArray := fun n => by
      have gen : ∀ (n : Nat) (b : List Nat), (List.replicate n a.toArray).foldl (· ++ ·) b.toArray = (b ++ (List.replicate n a).flatten).toArray := by
        intro n
        induction n with
        | zero => intro b; simp
        | succ n ih =>
          intro b
          rw [List.replicate_succ, List.foldl_cons, List.append_toArray, ih, List.replicate_succ, List.flatten_cons, List.append_assoc]
      simpa using gen n []
    split
    · rename_i hn
      have : j.toNat = 0 := by omega
      rw [this] at q
      exact ⟨by decide, ⟨V.str Str.empty, H, I.tok _, ⟨_, rfl⟩, q⟩⟩
    · split
      · rename_i hn hb
        rw [Bool.or_eq_true] at hb
        rcases hb with hb | hb
        · have : j = 1 := by simpa using hb
          subst this
          have e : (List.replicate (1 : Int).toNat a).flatten = a := by simp
          rw [e] at q
          exact ⟨V.str _, H, I, ⟨_, rfl⟩, q⟩
        · rw [hl] at hb
          have : a = [] := List.length_eq_zero_iff.mp (by simpa using hb)
          subst this
          have e : (List.replicate j.toNat ([] : List Nat)).flatten = [] := by
            rw [List.flatten_eq_nil_iff]
            intro l hl
            exact List.eq_of_mem_replicate hl
          rw [e] at q
          exact ⟨V.str _, H, I, ⟨_, rfl⟩, q⟩
      · rw [key]
        refine ⟨?_, ⟨V.str _, H, I.tok _, ⟨_, rfl⟩, q⟩⟩
        show ((List.replicate j.toNat a).flatten.toArray).size ≤ sizeLine
        have e : (List.replicate j.toNat a).flatten.length = j.toNat * a.length := by simp
        rw [List.size_toArray, e]
        have hm : j.toNat * a.length ≤ 1000 * 1000 := Nat.mul_le_mul (by omega) h3
        exact lim_le hm
theorem ov_mul : OV X cls (binaryOp .Mult) oMul := by
  refine ⟨_, op_mul.or (op_repS.or op_rep), fun w μ d e x y Q S r1 r2 h => ?_⟩
  unfold oMul at h
  split at h
  · split at h
    · rename_i i j hs
      refine .inl ⟨_, _, r1, r2, ?_, h w Step.refl S _ rfl⟩
      rw [Bool.or_eq_true] at hs
      exact hs.imp sm_ok sm_ok
    · exact h.elim
  · split at h
    · rename_i a j hs
      exact .inr (.inl ⟨_, _, r1, r2, hs, h w Step.refl S _ rfl⟩)
    · exact h.elim
  · split at h
    · rename_i a ha
      split at h
      · rename_i hs
        obtain ⟨l, vs, e1, h1, h2⟩ := lstOf_at S r1 ha
        have hm : ∀ n : Nat, n ≤ 1000 → vs.length * n ≤ sizeLine := fun n hn => by
          rw [h2.length]
          exact lim_le (Nat.mul_le_mul hs.2.2 hn)
        exact .inr (.inr ⟨l, _, vs, e1, r2, h1, by omega, by omega, hm _ (by omega), fun p hp => h (w.up p _) (step_new hp) (S.new hp) _ (new_lst S hp (h2.rep _))⟩)
      · exact h.elim
    · exact h.elim
  · exact h.elim
theorem ov_mod : OV X cls (binaryOp .Mod) oMod := by
  refine ⟨_, op_mod, fun w μ d e x y Q S r1 r2 h => ?_⟩
  unfold oMod at h
  split at h
  · split at h
    · rename_i hs
      exact ⟨_, _, r1, r2, hs, h w Step.refl S _ rfl⟩
    · exact h.elim
  · exact h.elim
theorem ov_fdv : OV X cls (binaryOp .FloorDiv) oFdv := by
  refine ⟨_, op_fdivW, fun w μ d e x y Q S r1 r2 h => ?_⟩
  unfold oFdv at h
  split at h
  · split at h
    · rename_i hs
      exact ⟨_, _, r1, r2, hs, h w Step.refl S _ rfl⟩
    · exact h.elim
  · exact h.elim
theorem ov_pow : OV X cls (binaryOp .Pow) oPow := by
  refine ⟨_, op_pow, fun w μ d e x y Q S r1 r2 h => ?_⟩
  unfold oPow at h
  split at h
  · split at h
    · rename_i hs
      refine ⟨_, _, r1, r2, ⟨hs.1, by omega, ?_⟩, h w Step.refl S _ rfl⟩
      have := sm_ok hs.2.2
      omega
    · exact h.elim
  · exact h.elim

/-! ### order, is -/
def oI (p : Int → Int → Bool) : D → D → Store → Res D := fun d e μ => match d, e with
  | .int i, .int j => .ok (.bl (p i j)) μ
  | _, _ => .stuck
theorem ov_I {op : CmpOp} {p : Int → Int → Bool} (ho : OpR X (compareOp op) (rI0 fun i j => .bl (p i j))) : OV X cls (compareOp op) (oI p) := by
  refine ⟨_, ho, fun w μ d e x y Q S r1 r2 h => ?_⟩
  unfold oI at h
  split at h
  · exact ⟨_, _, r1, r2, h w Step.refl S _ rfl⟩
  · exact h.elim
def oLt := oI fun i j => decide (i < j)
def oLe := oI fun i j => decide (i ≤ j)
def oGt := oI fun i j => decide (j < i)
def oGe := oI fun i j => decide (j ≤ i)
theorem ov_lt : OV X cls (compareOp .Lt) oLt := ov_I op_lt
theorem ov_le : OV X cls (compareOp .LtE) oLe := ov_I op_le
theorem ov_gt : OV X cls (compareOp .Gt) oGt := ov_I op_gt
theorem ov_ge : OV X cls (compareOp .GtE) oGe := ov_I op_ge
def D.isNon : D → Bool
  | .non => true
  | _ => false
theorem isNon_iff {K : PySem.W.Frag} {w : Wd} {d : D} {x : V} (r : RV K cls w d x) : decide (x = .non) = d.isNon := by
  cases d with
  | non => rw [show x = V.non from r]; rfl
  | bl b => rw [show x = V.bl b from r]; rfl
  | int b => rw [show x = V.int b from r]; rfl
  | str b => rw [show x = V.str _ from r]; rfl
  | tup b => obtain ⟨_, _, e, _⟩ := r; rw [e]; rfl
  | lst b => obtain ⟨_, _, e, _⟩ := r; rw [e]; rfl
  | flst b => obtain ⟨_, e, _⟩ := r; rw [e]; rfl
  | obj _ _ b => obtain ⟨_, _, _, _, e, _⟩ := r; rw [e]; rfl
  | loc b => obtain ⟨_, e, _⟩ := r; rw [e]; rfl
def oIsN : D → D → Store → Res D := fun d e μ => match e with
  | .non => .ok (.bl d.isNon) μ
  | _ => .stuck
def oNotN : D → D → Store → Res D := fun d e μ => match e with
  | .non => .ok (.bl (!d.isNon)) μ
  | _ => .stuck
theorem ov_isN : OV X cls (compareOp .Is) oIsN := by
  refine ⟨_, op_isN, fun w μ d e x y Q S r1 r2 h => ?_⟩
  unfold oIsN at h
  split at h
  · exact ⟨r2, h w Step.refl S _ (by rw [isNon_iff r1]; rfl)⟩
  · exact h.elim
theorem ov_notN : OV X cls (compareOp .IsNot) oNotN := by
  refine ⟨_, op_notN, fun w μ d e x y Q S r1 r2 h => ?_⟩
  unfold oNotN at h
  split at h
  · exact ⟨r2, h w Step.refl S _ (by rw [isNon_iff r1]; rfl)⟩
  · exact h.elim
end
end Fw

set_option Elab.async false
set_option linter.all false
set_option maxRecDepth 100000
set_option autoImplicit false
/-! ==, in, subscripts, slices, built-in calls, methods. -/
namespace Fw
open PySem L2 PyProof.Rows

/-! ### == -/
mutual
def toPy : D → PyData
  | .non => .none
  | .bl b => .bool b
  | .int i => .int i
  | .str s => .str ⟨s.toArray⟩
  | .tup ds => .tuple (toPys ds)
  | .lst ds => .list (toPys ds)
  | .flst is => .list (is.map .int)
  | .obj _ _ _ => .dict []
  | .loc _ => .dict []
def toPys : List D → List PyData
  | [] => []
  | d :: ds => toPy d :: toPys ds
end
theorem toPys_map : ∀ ds : List D, toPys ds = ds.map toPy
  | [] => rfl
  | d :: ds => by rw [toPys, toPys_map ds]; rfl
def toPyM (μ : Store) : D → PyData
  | .loc n => match μ[n]? with
    | some (.lst ds) => .list (toPys ds)
    | _ => .dict []
  | d => toPy d
/-- a thing that == can tell: texts of code points, not too deep, nothing else in it -/
def okD (p : PyData) : Bool := SeqAt.shaped p
section
variable {K : PySem.W.Frag} {cls : Nat → Option Addr} {w : Wd} {μ : Store}
mutual
theorem dp_of : ∀ {d : D} {x : V}, RV K cls w d x → (toPy d).canLay0 = true → Dp K w.H x (toPy d)
  | .non, _, r, _ => by rw [show _ = V.non from r]; exact .non
  | .bl b, _, r, _ => by rw [show _ = V.bl b from r]; exact .bl b
  | .int b, _, r, _ => by rw [show _ = V.int b from r]; exact .int b
  | .str b, _, r, _ => by rw [show _ = V.str _ from r]; exact .str _
  | .tup ds, _, ⟨a, vs, e, t, r⟩, h => by rw [e]; exact .tup t.sq (dps_of r h)
  | .lst ds, _, ⟨a, vs, e, t, r⟩, h => by rw [e]; exact .lst (.inl (.inl t.1)) (dps_of r h)
  | .flst is, _, ⟨a, e, t⟩, h => by rw [e]; exact .lst t.sq (dps_ints is)
  | .obj _ _ _, _, _, h => nomatch h
  | .loc _, _, _, h => nomatch h
theorem dps_of : ∀ {ds : List D} {vs : List V}, RVs K cls w ds vs → PyData.canLayAll0 (toPys ds) = true → DpAll K w.H vs (toPys ds)
  | [], _, r, _ => by rw [show _ = [] from r]; exact .nil
  | d :: ds, _, ⟨v, vs, e, r, t⟩, h => by
    have h' : (toPy d).canLay0 = true ∧ PyData.canLayAll0 (toPys ds) = true := by simpa [toPys, PyData.canLayAll0] using h
    rw [e]
    exact .cons (dp_of r h'.1) (dps_of t h'.2)
theorem dps_ints : ∀ is : List Int, DpAll K w.H (is.map V.int) (is.map PyData.int)
  | [] => .nil
  | i :: is => .cons (.int i) (dps_ints is)
end
theorem dpM_of (S : RelS K cls w μ) {d : D} {x : V} (r : RV K cls w d x) (h : okD (toPyM μ d) = true) : Dp K w.H x (toPyM μ d) := by
  have h1 : (toPyM μ d).canLay0 = true := by
    unfold okD SeqAt.shaped at h
    rw [Bool.and_eq_true] at h
    exact h.1
  cases d with
  | loc n =>
    simp only [toPyM] at h1 ⊢
    split
    · rename_i ds hc
      rw [hc] at h1
      obtain ⟨a, vs, e, h2, h3⟩ := lstOf_at S (d := .loc n) (ds := ds) r (by simp [lstOf, hc])
      rw [e]
      exact .lst (.inl (.inl h2)) (dps_of h3 h1)
    · rename_i hc
      split at h1
      · rename_i ds hc'
        exact absurd hc' (hc ds)
      · exact nomatch h1
  | _ => exact dp_of r h1
end
def oEq : D → D → Store → Res D := fun d e μ => if (okD (toPyM μ d) && okD (toPyM μ e)) = true then .ok (.bl (PyData.eqv (toPyM μ d) (toPyM μ e))) μ else .stuck
def oNe : D → D → Store → Res D := fun d e μ => if (okD (toPyM μ d) && okD (toPyM μ e)) = true then .ok (.bl (!PyData.eqv (toPyM μ d) (toPyM μ e))) μ else .stuck
section
variable {X : Cx} {cls : Nat → Option Addr}
theorem ov_eq (hu : X.A.units + 64 < cLine) : OV X cls (compareOp .Eq) oEq := by
  refine ⟨_, op_eqD hu, fun w μ d e x y Q S r1 r2 h => ?_⟩
  unfold oEq at h
  split at h
  · rename_i hs
    rw [Bool.and_eq_true] at hs
    exact ⟨_, _, dpM_of S r1 hs.1, dpM_of S r2 hs.2, hs.1, hs.2, h w Step.refl S _ rfl⟩
  · exact h.elim
theorem ov_ne (hu : X.A.units + 64 < cLine) : OV X cls (compareOp .NotEq) oNe := by
  refine ⟨_, op_neD hu, fun w μ d e x y Q S r1 r2 h => ?_⟩
  unfold oNe at h
  split at h
  · rename_i hs
    rw [Bool.and_eq_true] at hs
    exact ⟨_, _, dpM_of S r1 hs.1, dpM_of S r2 hs.2, hs.1, hs.2, h w Step.refl S _ rfl⟩
  · exact h.elim
end

/-! ### in -/
def flatD : D → Bool
  | .non => true
  | .bl _ => true
  | .int _ => true
  | .str _ => true
  | _ => false
def eqDf : D → D → Bool
  | .non, .non => true
  | .bl a, .bl b => a == b
  | .bl a, .int b => (if a then 1 else 0) == b
  | .int a, .bl b => a == (if b then 1 else 0)
  | .int a, .int b => a == b
  | .str a, .str b => a == b
  | _, _ => false
def inD (d : D) (ds : List D) : Bool := ds.any fun y => eqDf y d
def oIn (neg : Bool) : D → D → Store → Res D := fun d e μ => match d, e with
  | .str [c], .str s => .ok (.bl (if neg then !decide (c ∈ s) else decide (c ∈ s))) μ
  | d, e => match seqOf μ e with
    | some ds => if (flatD d && ds.all flatD) = true then .ok (.bl (if neg then !inD d ds else inD d ds)) μ else .stuck
    | none => .stuck
section
variable {K : PySem.W.Frag} {cls : Nat → Option Addr} {w : Wd} {μ : Store}
theorem flat_of {d : D} {x : V} (r : RV K cls w d x) (h : flatD d = true) : flatV x = true := by
  cases d with
  | non => rw [show x = V.non from r]; rfl
  | bl b => rw [show x = V.bl b from r]; rfl
  | int b => rw [show x = V.int b from r]; rfl
  | str b => rw [show x = V.str _ from r]; rfl
  | _ => exact nomatch h
theorem str_beq {a b : List Nat} : ((⟨a.toArray⟩ : Str) == (⟨b.toArray⟩ : Str)) = (a == b) := by
  by_cases h : a = b
  · subst h; simp
  · have : ¬ (⟨a.toArray⟩ : Str) = ⟨b.toArray⟩ := fun e => h (by simpa using congrArg (fun s : Str => s.cps.toList) e)
    rw [beq_eq_false_iff_ne.mpr this, beq_eq_false_iff_ne.mpr h]
theorem eqV_of {d e : D} {x y : V} (r : RV K cls w d x) (r2 : RV K cls w e y) (h : flatD d = true) (h2 : flatD e = true) : eqV x y = eqDf d e := by
  cases d with
  | non => rw [show x = V.non from r]; cases e with
    | non => rw [show y = V.non from r2]; rfl
    | bl b => rw [show y = V.bl b from r2]; rfl
    | int b => rw [show y = V.int b from r2]; rfl
    | str b => rw [show y = V.str _ from r2]; rfl
    | _ => exact nomatch h2
  | bl b => rw [show x = V.bl b from r]; cases e with
    | non => rw [show y = V.non from r2]; rfl
    | bl b => rw [show y = V.bl b from r2]; rfl
    | int b => rw [show y = V.int b from r2]; rfl
    | str b => rw [show y = V.str _ from r2]; rfl
    | _ => exact nomatch h2
  | int b => rw [show x = V.int b from r]; cases e with
    | non => rw [show y = V.non from r2]; rfl
    | bl b => rw [show y = V.bl b from r2]; rfl
    | int b => rw [show y = V.int b from r2]; rfl
    | str b => rw [show y = V.str _ from r2]; rfl
    | _ => exact nomatch h2
  | str b => rw [show x = V.str _ from r]; cases e with
    | non => rw [show y = V.non from r2]; rfl
    | bl b => rw [show y = V.bl b from r2]; rfl
    | int b => rw [show y = V.int b from r2]; rfl
    | str b => rw [show y = V.str _ from r2]; exact str_beq
    | _ => exact nomatch h2
  | _ => exact nomatch h
theorem inV_of {d : D} {x : V} (r : RV K cls w d x) (h : flatD d = true) : ∀ {ds : List D} {vs : List V}, RVs K cls w ds vs → ds.all flatD = true → vs.all flatV = true ∧ inV x vs = inD d ds
  | [], _, t, _ => by rw [show _ = [] from t]; exact ⟨rfl, rfl⟩
  | e :: ds, _, ⟨v, vs, q, t, ts⟩, hf => by
    rw [List.all_cons, Bool.and_eq_true] at hf
    obtain ⟨h1, h2⟩ := inV_of r h ts hf.2
    refine ⟨?_, ?_⟩
    · rw [q, List.all_cons, flat_of t hf.1, h1]; rfl
    · rw [q]
      show (eqV v x || vs.any fun y => eqV y x) = (eqDf e d || ds.any fun y => eqDf y d)
      rw [eqV_of t r hf.1 h]
      show (eqDf e d || inV x vs) = (eqDf e d || inD d ds)
      rw [h2]
end
section
variable {X : Cx} {cls : Nat → Option Addr}
theorem ov_inG {neg : Bool} {op : CmpOp} (h1 : OpR X (compareOp op) (fun x y H Q => ∃ (c : Nat) (z : Str), x = .str ⟨#[c]⟩ ∧ y = .str z ∧ Q (.bl (if neg then !decide (c ∈ z.cps.toList) else decide (c ∈ z.cps.toList))) H))
    (h2 : OpR X (compareOp op) (rIn X.K neg)) : OV X cls (compareOp op) (oIn neg) := by
  refine ⟨_, h1.or h2, fun w μ d e x y Q S r1 r2 h => ?_⟩
  unfold oIn at h
  split at h
  · rename_i c s
    have h := h w Step.refl S _ rfl
    refine .inl ⟨c, _, r1, r2, ?_⟩
    rw [strEq]
    exact h
  · split at h
    · rename_i ds hd
      split at h
      · rename_i hs
        rw [Bool.and_eq_true] at hs
        obtain ⟨a, vs, e1, h3, h4⟩ := seqOf_at S r2 hd
        obtain ⟨h5, h6⟩ := inV_of r1 hs.1 h4 hs.2
        have h := h w Step.refl S _ rfl
        rw [← h6] at h
        exact .inr ⟨a, vs, e1, h3, flat_of r1 hs.1, h5, h⟩
      · exact h.elim
    · exact h.elim
theorem ov_in : OV X cls (compareOp .In) (oIn false) := ov_inG (fun pins s σ H x y v u Q I rx ry h => op_in_sign pins s σ H x y v u Q I rx ry (by simpa using h)) op_in_seq
theorem ov_notIn : OV X cls (compareOp .NotIn) (oIn true) := ov_inG (fun pins s σ H x y v u Q I rx ry h => op_notIn_sign pins s σ H x y v u Q I rx ry (by simpa using h)) op_notIn_seq
end

/-! ### subscripts, slices -/
def oIx : D → D → Store → Res D := fun d e μ => match d, e with
  | .str s, .int i => if s.length ≤ LIM then match atI s i with
      | some c => .ok (.str [c]) μ
      | none => .stuck
    else .stuck
  | d, .int i => match seqOf μ d with
    | some ds => match atI ds i with
      | some e => .ok e μ
      | none => .stuck
    | none => .stuck
  | _, _ => .stuck
def cutD {α : Type} (xs : List α) (lo hi : Option Int) : List α := (xs.drop (HT.sIx xs.length 0 lo)).take (HT.sIx xs.length xs.length hi - HT.sIx xs.length 0 lo)
def oCut : D → Option Int → Option Int → Store → Res D := fun d lo hi μ => match d with
  | .str s => if s.length ≤ LIM then .ok (.str (cutD s lo hi)) μ else .stuck
  | .tup ds => .ok (.tup (cutD ds lo hi)) μ
  | d => match seqOf μ d with
    | some ds => .ok (.lst (cutD ds lo hi)) μ
    | none => .stuck
abbrev FO := Env → Store → Res (Option Int)
def oNone : FO := fun _ μ => .ok none μ
def oSome (fa : FE) : FO := fun ρ μ => (fa ρ μ).bind fun d μ1 => match d with
  | .int i => .ok (some i) μ1
  | _ => .stuck
def eCut (fa : FE) (fl fh : FO) : FE := fun ρ μ => (fa ρ μ).bind fun d μ1 => (fl ρ μ1).bind fun l μ2 => (fh ρ μ2).bind fun u μ3 => oCut d l u μ3
section
variable {K : PySem.W.Frag} {cls : Nat → Option Addr} {w : Wd} {μ : Store}
theorem RVs.atI {ds : List D} {vs : List V} {i : Int} {d : D} (r : RVs K cls w ds vs) (h : L2.atI ds i = some d) : ∃ v, L2.atI vs i = some v ∧ RV K cls w d v := by
  unfold L2.atI at h ⊢
  rw [r.length]
  cases e : ixN ds.length i with
  | none => rw [e] at h; cases h
  | some j =>
    rw [e] at h
    exact r.get h
theorem RVs.cut {ds : List D} {vs : List V} {lo hi : Option Int} (r : RVs K cls w ds vs) : RVs K cls w (cutD ds lo hi) (cutV vs lo hi) := by
  unfold cutD cutV
  rw [r.length]
  exact (r.drop _).take _
end
section
variable {K : PySem.W.Frag} {cls : Nat → Option Addr} {w : Wd} {μ : Store} {Q : VK}
theorem ix_val (S : RelS K cls w μ) {d e : D} {x y : V} (r1 : RV K cls w d x) (r2 : RV K cls w e y) (q2 : PostR K cls w (fun w' d => ∀ v, RV K cls w' d v → Q v w'.H) (oIx d e μ)) : rIx K x y w.H Q := by
  unfold oIx at q2
  split at q2
  · rename_i s i
    split at q2
    · rename_i hl
      split at q2
      · rename_i c hc
        exact .inr (.inr ⟨_, i, c, r1, r2, by rw [strLen]; exact lim_le hl, by rw [strEq]; exact hc, q2 w Step.refl S _ rfl⟩)
      · exact q2.elim
    · exact q2.elim
  · rename_i i hn
    split at q2
    · rename_i ds hd
      split at q2
      · rename_i e he
        obtain ⟨a, vs, e1, h3, h4⟩ := seqOf_at S r1 hd
        obtain ⟨x, h5, h6⟩ := h4.atI he
        have q2 := q2 w Step.refl S _ h6
        rcases h3 with h3 | h3
        · exact .inl ⟨a, vs, _, x, e1, r2, h3, h5, q2⟩
        · exact .inr (.inl ⟨a, vs, _, x, e1, r2, h3, h5, q2⟩)
      · exact q2.elim
    · exact q2.elim
  · exact q2.elim
theorem cut_val (S : RelS K cls w μ) {d : D} {x : V} {l u : Option Int} (r1 : RV K cls w d x) (q3 : PostR K cls w (fun w' d => ∀ v, RV K cls w' d v → Q v w'.H) (oCut d l u μ)) :
    rSlS x l u w.H Q ∨ rSlA K x l u w.H Q ∨ rSlL K x l u w.H Q := by
  have fin : ∀ {ds : List D} {p : Addr} {vs : List V}, x = .ref p → SqL K w.H p vs → RVs K cls w ds vs → PostR K cls w (fun w' d => ∀ v, RV K cls w' d v → Q v w'.H) (.ok (.lst (cutD ds l u)) μ) → rSlL K x l u w.H Q := fun {ds p vs} e h4 h5 q =>
    ⟨p, vs, e, h4, fun n hp => q (w.up n (.lst (cutV vs l u))) (step_new hp) (S.new hp) _ (new_lst S hp h5.cut)⟩
  cases d with
  | str s =>
    simp only [oCut] at q3
    split at q3
    · rename_i hl
      refine .inl ⟨_, r1, by rw [strLen]; exact lim_le hl, ?_⟩
      have e : cutS (⟨s.toArray⟩ : Str) l u = ⟨(cutD s l u).toArray⟩ := by
        unfold cutS cutD
        rw [strLen, strEq]
      rw [e]
      exact q3 w Step.refl S _ rfl
    · exact q3.elim
  | tup ds =>
    simp only [oCut] at q3
    obtain ⟨p, vs, e1, h4, h5⟩ := r1
    refine .inr (.inl ⟨p, vs, e1, h4.sq, fun hw => ?_, fun hn n hp => ?_⟩)
    · have e : cutD ds l u = ds := by
        unfold cutD
        rw [← h5.length, hw.1, hw.2, List.drop_zero, Nat.sub_zero]
        exact List.take_of_length_le (by rw [h5.length]; exact Nat.le_refl _)
      rw [e] at q3
      exact q3 w Step.refl S _ ⟨p, vs, rfl, h4, h5⟩
    · exact q3 (w.up n (.tup (cutV vs l u))) (step_new hp) (S.new hp) _ (new_tup S hp h5.cut)
  | lst ds =>
    simp only [oCut, seqOf] at q3
    obtain ⟨p, vs, e2, h6, h7⟩ := lstOf_at S (d := .lst ds) (ds := ds) r1 rfl
    exact .inr (.inr (fin e2 (.inl (.inl h6)) h7 q3))
  | flst is =>
    simp only [oCut, seqOf] at q3
    obtain ⟨p, e2, h6⟩ := r1
    exact .inr (.inr (fin e2 h6.sq RVs.ints q3))
  | loc n =>
    simp only [oCut, seqOf] at q3
    split at q3
    · rename_i ds hd
      split at hd
      · rename_i es hc
        cases hd
        obtain ⟨p, vs, e2, h6, h7⟩ := lstOf_at S (d := .loc n) (ds := ds) r1 (by simp [lstOf, hc])
        exact .inr (.inr (fin e2 (.inl (.inl h6)) h7 q3))
      · cases hd
    · exact q3.elim
  | non => exact q3.elim
  | bl _ => exact q3.elim
  | int _ => exact q3.elim
  | obj _ _ _ => exact q3.elim
end
section
variable {X : Cx} {cls : Nat → Option Addr} {a b e : Expr} {fa fb : FE} {fl fh : FO} {pos p2 : Pos} {lo hi : Option Expr}
theorem se_ix (ha : SE X cls a fa) (hb : SE X cls b fb) (hs : PlainIx b := by exact fun _ _ => rfl) : SE X cls (.Subscript a b pos) (eBin oIx fa fb) := by
  obtain ⟨t1, p1, h1⟩ := ha
  obtain ⟨t2, p2, h2⟩ := hb
  refine ⟨_, pe_ix ix_seq p1 p2 hs, fun σ Q w ρ μ S E h => ?_⟩
  refine h1 σ _ w ρ μ S E ((PostR.bind h).imp fun w1 d s1 ⟨μ1, S1, q1⟩ v r1 => ?_)
  refine h2 σ _ w1 ρ μ1 S1 (E.mono s1.kp) ((PostR.bind q1).imp fun w2 e s2 ⟨μ2, S2, q2⟩ u r2 => ?_)
  exact ix_val S2 (r1.mono s2.kp) r2 q2
def SO (X : Cx) (cls : Nat → Option Addr) (e : Option Expr) (f : FO) : Prop := ∃ t, PO X e t ∧ ∀ (σ : L2.St) (Q : Option Int → Hp → Prop) (w : Wd) (ρ : Env) (μ : Store), RelS X.K cls w μ → RelE X.K cls w ρ σ →
  PostR X.K cls w (fun w' o => Q o w'.H) (f ρ μ) → t σ w.H Q
theorem so_none : SO X cls none oNone := ⟨_, po_none, fun σ Q w ρ μ S E h => h w Step.refl S⟩
theorem so_some (ha : SE X cls a fa) : SO X cls (some a) (oSome fa) := by
  obtain ⟨t1, p1, h1⟩ := ha
  refine ⟨_, po_some p1, fun σ Q w ρ μ S E h => ?_⟩
  refine h1 σ _ w ρ μ S E ((PostR.bind h).imp fun w1 d s1 ⟨μ1, S1, q1⟩ v r1 => ?_)
  cases d with
  | int i => exact ⟨i, r1, q1 w1 Step.refl S1⟩
  | _ => exact q1.elim
theorem slR_or {r r' : V → Option Int → Option Int → Hp → VK → Prop} (h : SlR X r) (h' : SlR X r') : SlR X (fun x l u H Q => r x l u H Q ∨ r' x l u H Q) := by
  intro pins s σ H x v vl vu lo hi sl Q I rx hs pl pu z
  rcases z with z | z
  · exact h pins s σ H x v vl vu lo hi sl Q I rx hs pl pu z
  · exact h' pins s σ H x v vl vu lo hi sl Q I rx hs pl pu z
theorem se_cut (ha : SE X cls a fa) (hl : SO X cls lo fl) (hh : SO X cls hi fh) : SE X cls (.Subscript a (.Slice lo hi none p2) pos) (eCut fa fl fh) := by
  obtain ⟨t1, p1, h1⟩ := ha
  obtain ⟨t2, p2, h2⟩ := hl
  obtain ⟨t3, p3, h3⟩ := hh
  refine ⟨_, pe_slice (slR_or sl_str (slR_or sl_tupA sl_list)) p1 p2 p3, fun σ Q w ρ μ S E h => ?_⟩
  refine h1 σ _ w ρ μ S E ((PostR.bind h).imp fun w1 d s1 ⟨μ1, S1, q1⟩ v r1 => ?_)
  refine h2 σ _ w1 ρ μ1 S1 (E.mono s1.kp) ((PostR.bind q1).imp fun w2 l s2 ⟨μ2, S2, q2⟩ => ?_)
  refine h3 σ _ w2 ρ μ2 S2 (E.mono (s1.trans s2).kp) ((PostR.bind q2).imp fun w3 u s3 ⟨μ3, S3, q3⟩ => ?_)
  exact cut_val S3 (r1.mono (s2.trans s3).kp) q3
end
end Fw

set_option Elab.async false
set_option linter.all false
set_option maxRecDepth 100000
set_option autoImplicit false
/-! Built-in calls, methods, what is written. -/
namespace Fw
open PySem L2 PyProof.Rows

/-! ### calls -/
def cLen : List D → Store → Res D := fun ds μ => match ds with
  | [.str s] => if s.length ≤ LIM then .ok (.int s.length) μ else .stuck
  | [d] => match seqOf μ d with
    | some es => .ok (.int es.length) μ
    | none => .stuck
  | _ => .stuck
def cInt : List D → Store → Res D := fun ds μ => match ds with
  | [.int i] => .ok (.int i) μ
  | [.bl b] => .ok (.int (if b then 1 else 0)) μ
  | [.str s] => match PySem.intText? ⟨s.toArray⟩ with
    | some n => if s.length ≤ 640 then .ok (.int n) μ else .stuck
    | none => .stuck
  | _ => .stuck
def strI (i : Int) : List Nat := (Str.ofString (toString i)).cps.toList
def cStr : List D → Store → Res D := fun ds μ => match ds with
  | [.int i] => if i.natAbs.log2 < 1920 then .ok (.str (strI i)) μ else .stuck
  | [.str s] => .ok (.str s) μ
  | _ => .stuck
def cTuple : List D → Store → Res D := fun ds μ => match ds with
  | [d] => match seqOf μ d with
    | some es => .ok (.tup es) μ
    | none => .stuck
  | _ => .stuck
def cList : List D → Store → Res D := fun ds μ => match ds with
  | [d] => match seqOf μ d with
    | some es => .ok (.lst es) μ
    | none => .stuck
  | _ => .stuck
def cMax2 : List D → Store → Res D := fun ds μ => match ds with
  | [.int i, .int j] => .ok (.int (if j > i then j else i)) μ
  | _ => .stuck
def cMin2 : List D → Store → Res D := fun ds μ => match ds with
  | [.int i, .int j] => .ok (.int (if j < i then j else i)) μ
  | _ => .stuck
def intsOf : List D → Option (List Int)
  | [] => some []
  | .int i :: ds => (intsOf ds).map (i :: ·)
  | _ :: _ => none
def blsOf : List D → Option (List Bool)
  | [] => some []
  | .bl i :: ds => (blsOf ds).map (i :: ·)
  | _ :: _ => none
def strsOf : List D → Option (List (List Nat))
  | [] => some []
  | .str i :: ds => (strsOf ds).map (i :: ·)
  | _ :: _ => none
/-- a list's ints: not a tuple's -/
def lintsOf (μ : Store) (d : D) : Option (List Int) := match d with
  | .flst is => some is
  | d => match lstOf μ d with
    | some es => intsOf es
    | none => none
def cSum : List D → Store → Res D := fun ds μ => match ds with
  | [d] => match lintsOf μ d with
    | some is => .ok (.int is.sum) μ
    | none => .stuck
  | _ => .stuck
def cSorted : List D → Store → Res D := fun ds μ => match ds with
  | [d] => match lintsOf μ d with
    | some is => .ok (.lst ((is.mergeSort (fun a b => decide (a ≤ b))).map .int)) μ
    | none => .stuck
  | _ => .stuck
def cAll : List D → Store → Res D := fun ds μ => match ds with
  | [d] => match lstOf μ d with
    | some es => match blsOf es with
      | some bs => .ok (.bl (bs.all id)) μ
      | none => .stuck
    | none => .stuck
  | _ => .stuck
def cAny : List D → Store → Res D := fun ds μ => match ds with
  | [d] => match lstOf μ d with
    | some es => match blsOf es with
      | some bs => .ok (.bl (bs.any id)) μ
      | none => .stuck
    | none => .stuck
  | _ => .stuck
section
variable {K : PySem.W.Frag} {cls : Nat → Option Addr} {w : Wd} {μ : Store}
theorem RVs.one {d : D} {xs : List V} (r : RVs K cls w [d] xs) : ∃ x, xs = [x] ∧ RV K cls w d x := by
  obtain ⟨v, vs, e, h, t⟩ := r
  rw [show vs = [] from t] at e
  exact ⟨v, e, h⟩
theorem RVs.two {d d' : D} {xs : List V} (r : RVs K cls w [d, d'] xs) : ∃ x y, xs = [x, y] ∧ RV K cls w d x ∧ RV K cls w d' y := by
  obtain ⟨v, vs, e, h, t⟩ := r
  obtain ⟨u, rfl, h2⟩ := RVs.one t
  exact ⟨v, u, e, h, h2⟩
theorem intsOf_at : ∀ {ds : List D} {is : List Int} {vs : List V}, RVs K cls w ds vs → intsOf ds = some is → vs = is.map V.int
  | [], _, _, r, h => by rw [show _ = [] from r]; cases h; rfl
  | .int i :: ds, is, _, ⟨v, vs, e, h1, t⟩, h => by
    simp only [intsOf, Option.map_eq_some_iff] at h
    obtain ⟨js, h2, rfl⟩ := h
    rw [e, intsOf_at t h2, show v = V.int i from h1]
    rfl
  | .non :: _, _, _, _, h | .bl _ :: _, _, _, _, h | .str _ :: _, _, _, _, h | .tup _ :: _, _, _, _, h | .lst _ :: _, _, _, _, h | .flst _ :: _, _, _, _, h | .obj _ _ _ :: _, _, _, _, h | .loc _ :: _, _, _, _, h => by simp [intsOf] at h
theorem blsOf_at : ∀ {ds : List D} {is : List Bool} {vs : List V}, RVs K cls w ds vs → blsOf ds = some is → vs = is.map V.bl
  | [], _, _, r, h => by rw [show _ = [] from r]; cases h; rfl
  | .bl i :: ds, is, _, ⟨v, vs, e, h1, t⟩, h => by
    simp only [blsOf, Option.map_eq_some_iff] at h
    obtain ⟨js, h2, rfl⟩ := h
    rw [e, blsOf_at t h2, show v = V.bl i from h1]
    rfl
  | .non :: _, _, _, _, h | .int _ :: _, _, _, _, h | .str _ :: _, _, _, _, h | .tup _ :: _, _, _, _, h | .lst _ :: _, _, _, _, h | .flst _ :: _, _, _, _, h | .obj _ _ _ :: _, _, _, _, h | .loc _ :: _, _, _, _, h => by simp [blsOf] at h
theorem strsOf_at : ∀ {ds : List D} {is : List (List Nat)} {vs : List V}, RVs K cls w ds vs → strsOf ds = some is → vs = (is.map fun s => (⟨s.toArray⟩ : Str)).map V.str
  | [], _, _, r, h => by rw [show _ = [] from r]; cases h; rfl
  | .str i :: ds, is, _, ⟨v, vs, e, h1, t⟩, h => by
    simp only [strsOf, Option.map_eq_some_iff] at h
    obtain ⟨js, h2, rfl⟩ := h
    rw [e, strsOf_at t h2, show v = V.str _ from h1]
    rfl
  | .non :: _, _, _, _, h | .int _ :: _, _, _, _, h | .bl _ :: _, _, _, _, h | .tup _ :: _, _, _, _, h | .lst _ :: _, _, _, _, h | .flst _ :: _, _, _, _, h | .obj _ _ _ :: _, _, _, _, h | .loc _ :: _, _, _, _, h => by simp [strsOf] at h
theorem lintsOf_at (S : RelS K cls w μ) {d : D} {x : V} {is : List Int} (r : RV K cls w d x) (h : lintsOf μ d = some is) : ∃ a, x = .ref a ∧ SqL K w.H a (is.map V.int) := by
  unfold lintsOf at h
  split at h
  · cases h
    obtain ⟨a, e, t⟩ := r
    exact ⟨a, e, t.sq⟩
  · split at h
    · rename_i es he
      obtain ⟨a, vs, e, h1, h2⟩ := lstOf_at S r he
      rw [intsOf_at h2 h] at h1
      exact ⟨a, e, .inl (.inl h1)⟩
    · cases h
end
section
variable {X : Cx} {cls : Nat → Option Addr}
theorem cv_len : CV X cls (.builtin "len") cLen := by
  refine ⟨_, call_len_str.or call_len_seq, fun w μ ds xs Q S r0 h => ?_⟩
  unfold cLen at h
  split at h
  · rename_i s
    obtain ⟨x, rfl, r⟩ := r0.one
    split at h
    · rename_i hl
      refine .inl ⟨_, congrArg (fun z => [z]) r, by rw [strLen]; exact lim_le hl, ?_⟩
      rw [strLen]
      exact h w Step.refl S _ rfl
    · exact h.elim
  · obtain ⟨x, rfl, r⟩ := r0.one
    split at h
    · rename_i es hd
      obtain ⟨a, vs, e, h3, h4⟩ := seqOf_at S r hd
      refine .inr ⟨a, vs, congrArg (fun z => [z]) e, h3, ?_⟩
      rw [h4.length]
      exact h w Step.refl S _ rfl
    · exact h.elim
  · exact h.elim
theorem cv_int : CV X cls (.type "int") cInt := by
  refine ⟨_, call_int1.or call_int_str, fun w μ ds xs Q S r0 h => ?_⟩
  unfold cInt at h
  split at h
  · obtain ⟨x, rfl, r⟩ := r0.one
    exact .inl (.inl ⟨_, congrArg (fun z => [z]) r, h w Step.refl S _ rfl⟩)
  · obtain ⟨x, rfl, r⟩ := r0.one
    exact .inl (.inr ⟨_, congrArg (fun z => [z]) r, h w Step.refl S _ rfl⟩)
  · obtain ⟨x, rfl, r⟩ := r0.one
    split at h
    · rename_i n hn
      split at h
      · rename_i hl
        exact .inr ⟨_, n, congrArg (fun z => [z]) r, hn, by rw [strLen]; exact hl, h w Step.refl S _ rfl⟩
      · exact h.elim
    · exact h.elim
  · exact h.elim
theorem cv_str : CV X cls (.type "str") cStr := by
  refine ⟨_, call_str_int.or SkE.call_str_str, fun w μ ds xs Q S r0 h => ?_⟩
  unfold cStr at h
  split at h
  · rename_i i
    obtain ⟨x, rfl, r⟩ := r0.one
    split at h
    · rename_i hl
      refine .inl ⟨i, congrArg (fun z => [z]) r, hl, h w Step.refl S _ ?_⟩
      show V.str _ = V.str ⟨(strI i).toArray⟩
      unfold strI
      rw [Array.toArray_toList]
    · exact h.elim
  · obtain ⟨x, rfl, r⟩ := r0.one
    exact .inr ⟨_, congrArg (fun z => [z]) r, h w Step.refl S _ rfl⟩
  · exact h.elim
theorem cv_tuple : CV X cls (.type "tuple") cTuple := by
  refine ⟨_, call_tuple_of, fun w μ ds xs Q S r0 h => ?_⟩
  unfold cTuple at h
  split at h
  · rename_i d
    obtain ⟨x, rfl, r⟩ := r0.one
    split at h
    · rename_i es hd
      have gen : (∃ a vs, x = .ref a ∧ SqL X.K w.H a vs ∧ RVs X.K cls w es vs) → ∃ p ys, [x] = [V.ref p] ∧ ((SqL X.K w.H p ys ∧ ∀ l, w.H l = none → Q (.ref l) (upd w.H l (.tup ys))) ∨ (SqT X.K w.H p ys ∧ Q (.ref p) w.H)) := fun ⟨a, vs, e, h3, h4⟩ =>
        ⟨a, vs, congrArg (fun z => [z]) e, .inl ⟨h3, fun l hl => h (w.up l (.tup vs)) (step_new hl) (S.new hl) _ (new_tup S hl h4)⟩⟩
      cases d with
      | tup ts =>
        cases hd
        obtain ⟨a, vs, e, t, q⟩ := r
        exact ⟨a, vs, congrArg (fun z => [z]) e, .inr ⟨t.sq, h w Step.refl S _ ⟨a, vs, rfl, t, q⟩⟩⟩
      | lst ts => obtain ⟨a, vs, e, h3, h4⟩ := lstOf_at S (d := .lst ts) (ds := es) r hd; exact gen ⟨a, vs, e, .inl (.inl h3), h4⟩
      | loc ts => obtain ⟨a, vs, e, h3, h4⟩ := lstOf_at S (d := .loc ts) (ds := es) r hd; exact gen ⟨a, vs, e, .inl (.inl h3), h4⟩
      | flst ts =>
        cases hd
        obtain ⟨a, e, t⟩ := r
        exact gen ⟨a, _, e, t.sq, RVs.ints⟩
      | _ => cases hd
    · exact h.elim
  · exact h.elim
theorem cv_list : CV X cls (.type "list") cList := by
  refine ⟨_, call_list_of, fun w μ ds xs Q S r0 h => ?_⟩
  unfold cList at h
  split at h
  · rename_i d
    obtain ⟨x, rfl, r⟩ := r0.one
    split at h
    · rename_i es hd
      obtain ⟨a, vs, e, h3, h4⟩ := seqOf_at S r hd
      exact ⟨a, vs, congrArg (fun z => [z]) e, h3, fun l hl => h (w.up l (.lst vs)) (step_new hl) (S.new hl) _ (new_lst S hl h4)⟩
    · exact h.elim
  · exact h.elim
theorem cv_max2 (hc : X.calm = true) : CV X cls (.builtin "max") cMax2 := by
  refine ⟨_, call_max2 hc, fun w μ ds xs Q S r0 h => ?_⟩
  unfold cMax2 at h
  split at h
  · obtain ⟨x, y, rfl, r1, r2⟩ := r0.two
    exact ⟨_, _, by rw [show x = _ from r1, show y = _ from r2], h w Step.refl S _ rfl⟩
  · exact h.elim
theorem cv_min2 (hc : X.calm = true) : CV X cls (.builtin "min") cMin2 := by
  refine ⟨_, call_min2 hc, fun w μ ds xs Q S r0 h => ?_⟩
  unfold cMin2 at h
  split at h
  · obtain ⟨x, y, rfl, r1, r2⟩ := r0.two
    exact ⟨_, _, by rw [show x = _ from r1, show y = _ from r2], h w Step.refl S _ rfl⟩
  · exact h.elim
theorem cv_sum (hc : X.calm = true) : CV X cls (.builtin "sum") cSum := by
  refine ⟨_, cr_sum hc, fun w μ ds xs Q S r0 h => ?_⟩
  unfold cSum at h
  split at h
  · obtain ⟨x, rfl, r⟩ := r0.one
    split at h
    · rename_i is hd
      obtain ⟨a, e, h3⟩ := lintsOf_at S r hd
      exact ⟨a, is, congrArg (fun z => [z]) e, h3, h w Step.refl S _ rfl⟩
    · exact h.elim
  · exact h.elim
theorem sorted_one {a b : List Int} (hp : a.Perm b) (hs : a.Pairwise (· ≤ ·)) : a = b.mergeSort (fun a b => decide (a ≤ b)) := by
  refine List.Perm.eq_of_pairwise (le := (· ≤ ·)) (fun x y _ _ h1 h2 => Int.le_antisymm h1 h2) hs ?_ (hp.trans (List.mergeSort_perm b _).symm)
  have := List.pairwise_mergeSort (le := fun a b => decide ((a : Int) ≤ b)) (fun a b c h1 h2 => by simp at *; omega) (fun a b => by simp; omega) b
  exact this.imp fun h => by simpa using h
theorem cv_sorted : CV X cls (.builtin "sorted") cSorted := by
  refine ⟨_, cr_sortedI, fun w μ ds xs Q S r0 h => ?_⟩
  unfold cSorted at h
  split at h
  · obtain ⟨x, rfl, r⟩ := r0.one
    split at h
    · rename_i is hd
      obtain ⟨a, e, h3⟩ := lintsOf_at S r hd
      refine ⟨a, is, congrArg (fun z => [z]) e, h3, fun ns p hp hs hl => ?_⟩
      rw [← sorted_one hp hs] at h
      exact h (w.up p (.lst (ns.map V.int))) (step_new hl) (S.new hl) _ (new_lst S hl RVs.ints)
    · exact h.elim
  · exact h.elim
theorem cv_all (hc : X.calm = true) : CV X cls (.builtin "all") cAll := by
  refine ⟨_, cr_all hc, fun w μ ds xs Q S r0 h => ?_⟩
  unfold cAll at h
  split at h
  · obtain ⟨x, rfl, r⟩ := r0.one
    split at h
    · rename_i es hd
      obtain ⟨a, vs, e, h3, h4⟩ := lstOf_at S r hd
      split at h
      · rename_i bs hb
        rw [blsOf_at h4 hb] at h3
        exact ⟨a, bs, congrArg (fun z => [z]) e, .inl (.inl h3), h w Step.refl S _ rfl⟩
      · exact h.elim
    · exact h.elim
  · exact h.elim
theorem cv_any (hc : X.calm = true) : CV X cls (.builtin "any") cAny := by
  refine ⟨_, cr_any hc, fun w μ ds xs Q S r0 h => ?_⟩
  unfold cAny at h
  split at h
  · obtain ⟨x, rfl, r⟩ := r0.one
    split at h
    · rename_i es hd
      obtain ⟨a, vs, e, h3, h4⟩ := lstOf_at S r hd
      split at h
      · rename_i bs hb
        rw [blsOf_at h4 hb] at h3
        exact ⟨a, bs, congrArg (fun z => [z]) e, .inl (.inl h3), h w Step.refl S _ rfl⟩
      · exact h.elim
    · exact h.elim
  · exact h.elim
end

/-! ### isinstance(x, T), T built-in -/
def tyName (μ : Store) : D → Option String
  | .non => some "NoneType"
  | .bl _ => some "bool"
  | .int _ => some "int"
  | .str _ => some "str"
  | .tup _ => some "tuple"
  | .lst _ => some "list"
  | .flst _ => none
  | .obj _ _ _ => none
  | .loc n => match μ[n]? with
    | some (.lst _) => some "list"
    | _ => none
def eIsi (T : String) (fa : FE) : FE := fun ρ μ => (fa ρ μ).bind fun d μ1 => match tyName μ1 d with
  | some t => match kitB t T with
    | some b => .ok (.bl b) μ1
    | none => .stuck
  | none => .stuck
theorem tyName_at {K : PySem.W.Frag} {cls : Nat → Option Addr} {w : Wd} {μ : Store} (S : RelS K cls w μ) {d : D} {x : V} {t : String} (r : RV K cls w d x) (h : tyName μ d = some t) : TyX K w.H x (.type t) := by
  cases d with
  | non => cases h; rw [show x = V.non from r]; exact .base .non
  | bl b => cases h; rw [show x = V.bl b from r]; exact .base (.bl b)
  | int b => cases h; rw [show x = V.int b from r]; exact .base (.int b)
  | str b => cases h; rw [show x = V.str _ from r]; exact .base (.str _)
  | tup b =>
    cases h
    obtain ⟨a, vs, e, t, _⟩ := r
    rw [e]
    rcases t with ⟨t, _⟩ | t
    · exact .base (.tup t)
    · rcases t with (t | ⟨o, t⟩) | ⟨o, its, n, e1, e2, _⟩
      · cases t
      · cases t
      · exact .kTuple e1 e2
  | lst b =>
    cases h
    obtain ⟨a, vs, e, ⟨t, _⟩, _⟩ := r
    rw [e]
    exact .base (.lst t)
  | flst b => cases h
  | obj _ _ _ => cases h
  | loc n =>
    simp only [tyName] at h
    split at h
    · rename_i es hc
      cases h
      obtain ⟨a, vs, e, h1, _⟩ := lstOf_at S (d := .loc n) (ds := es) r (by simp [lstOf, hc])
      rw [e]
      exact .base (.lst h1)
    · cases h
theorem se_isi {X : Cx} {cls : Nat → Option Addr} {a : Expr} {fa : FE} {pos p p2 : Pos} {T : String} {x : Str} (ha : SE X cls a fa) (hg : Gl X "isinstance") (hm : X.mg "isinstance" = none) (hv : bootBuiltins "isinstance" = some (.builtin "isinstance"))
    (hg2 : Gl X x) (hm2 : X.mg x = none) (hv2 : bootBuiltins x = some (.type T)) (hn : x ≠ "__name__" := by decide +kernel) (hd : (x == ("__debug__" : Str)) = false := by decide +kernel)
    (he : starEach [a, .Name x p2] X.env = (false, eval a X.env) :: starEach [.Name x p2] X.env := by rfl) (hs : starEach [.Name x p2] X.env = (false, eval (.Name x p2) X.env) :: starEach [] X.env := by rfl)
    (hpl : (backTo pos (starEach [.Name x p2] X.env)).any (·.1) = false := by rfl) :
    SE X cls (.Call (.Name "isinstance" p) [a, .Name x p2] [] pos) (eIsi T fa) := by
  obtain ⟨t1, p1, h1⟩ := ha
  refine ⟨_, pe_callB call_isi hg hm hv (pa_cons p1 (pa_cons (pe_bltn (v := .ty T) hg2 hm2 hv2 rfl hn hd) pa_nil hs) he) (by decide +kernel) (by decide +kernel) he hpl, fun σ Q w ρ μ S E h => ?_⟩
  refine h1 σ _ w ρ μ S E ((PostR.bind h).imp fun w1 d s1 ⟨μ1, S1, q1⟩ v r1 => ?_)
  split at q1
  · rename_i t ht
    split at q1
    · rename_i b hb
      exact ⟨v, .ty T, .type t, .type T, b, rfl, .ty T, tyName_at S1 r1 ht, kit_ty hb, q1 w1 Step.refl S1 _ rfl⟩
    · exact q1.elim
  · exact q1.elim
end Fw

set_option Elab.async false
set_option linter.all false
set_option maxRecDepth 100000
set_option autoImplicit false
/-! Methods, statements, loops, comprehensions, defs. -/
namespace Fw
open PySem L2 PyProof.Rows

/-! ### join -/
def joinD (S : List Nat) : List (List Nat) → List Nat
  | [] => []
  | [p] => p
  | p :: q :: r => p ++ (S ++ joinD S (q :: r))
theorem joinD_nil : ∀ ps : List (List Nat), joinD [] ps = ps.flatten
  | [] => rfl
  | [p] => by simp [joinD]
  | p :: q :: r => by rw [joinD, joinD_nil (q :: r)]; simp
theorem join_of (S : List Nat) : ∀ ps : List (List Nat), Str.join ⟨S.toArray⟩ (ps.map fun s => (⟨s.toArray⟩ : Str)) = ⟨(joinD S ps).toArray⟩
  | [] => rfl
  | [p] => rfl
  | p :: q :: r => by
    show ((⟨p.toArray⟩ : Str) ++ (⟨S.toArray⟩ : Str)) ++ Str.join ⟨S.toArray⟩ ((q :: r).map fun s => (⟨s.toArray⟩ : Str)) = _
    rw [join_of S (q :: r), strApp, strApp, List.append_assoc]
    rfl
def oJoin (d e : D) (μ : Store) : Res D := match d with
  | .str s => match seqOf μ e with
    | some es => match strsOf es with
      | some ps => if (ps.map List.length).sum + ps.length * s.length ≤ LIM then .ok (.str (joinD s ps)) μ else .stuck
      | none => .stuck
    | none => .stuck
  | _ => .stuck
def eJoin (fo fe : FE) : FE := fun ρ μ => (fo ρ μ).bind fun d μ1 => match d with
  | .str s => (fe ρ μ1).bind fun e μ2 => oJoin (.str s) e μ2
  | _ => .stuck
/-! ### list methods on a place -/
def isL (μ : Store) : D → Bool
  | .loc n => match μ[n]? with
    | some (.lst _) => true
    | _ => false
  | _ => false
def oApp (d e : D) (μ : Store) : Res D := match d with
  | .loc n => match μ[n]? with
    | some (.lst es) => if es.length < LIM then .ok .non (μ.set n (.lst (es ++ [e]))) else .stuck
    | _ => .stuck
  | _ => .stuck
def oPopAt (d e : D) (μ : Store) : Res D := match d, e with
  | .loc n, .int i => match μ[n]? with
    | some (.lst es) => if 0 ≤ i ∧ i ≤ LIM then match es[i.toNat]? with
        | some e => .ok e (μ.set n (.lst (es.eraseIdx i.toNat)))
        | none => .stuck
      else .stuck
    | _ => .stuck
  | _, _ => .stuck
def oPop0 (d : D) (μ : Store) : Res D := match d with
  | .loc n => match μ[n]? with
    | some (.lst es) => match es[es.length - 1]? with
      | some e => .ok e (μ.set n (.lst es.dropLast))
      | none => .stuck
    | _ => .stuck
  | _ => .stuck
/-- xs.m(e), xs a list at a place -/
def eLm (g : D → D → Store → Res D) (fo fe : FE) : FE := fun ρ μ => (fo ρ μ).bind fun d μ1 => if isL μ1 d = true then (fe ρ μ1).bind fun e μ2 => g d e μ2 else .stuck
def eLm0 (g : D → Store → Res D) (fo : FE) : FE := fun ρ μ => (fo ρ μ).bind fun d μ1 => if isL μ1 d = true then g d μ1 else .stuck
section
variable {K : PySem.W.Frag} {cls : Nat → Option Addr} {w : Wd} {μ : Store}
theorem Step.write {n : Nat} {a : Addr} (hn : w.ι[n]? = some a) {o : HO} : Step w (w.up a o) where
  keep := fun b u hb e => by
    show upd w.H a o b = some u
    rw [upd_ne fun z => hb (by rw [z]; exact List.mem_of_getElem? hn)]
    exact e
  pre := ⟨[], by simp⟩
  fresh := fun b h n => absurd h n
  ban := rfl
theorem RelS.write (S : RelS K cls w μ) {n : Nat} {a : Addr} {c : Cell} {o : HO} (hn : w.ι[n]? = some a) (hc : CellOk K cls (w.up a o) a c) : RelS K cls (w.up a o) (μ.set n c) where
  len := by rw [List.length_set]; exact S.len
  nd := S.nd
  ban := fun b hb => by
    obtain ⟨h1, u, h2⟩ := S.ban b hb
    exact ⟨h1, u, by show upd w.H a o b = some u; rw [upd_ne fun z => h1 (by rw [z]; exact List.mem_of_getElem? hn)]; exact h2⟩
  cell := fun m c' e => by
    have hl : n < μ.length := by rw [← S.len]; exact (List.getElem?_eq_some_iff.mp hn).1
    by_cases hm : n = m
    · subst hm
      rw [List.getElem?_set_self hl] at e
      cases e
      exact ⟨a, hn, hc⟩
    · rw [List.getElem?_set_ne hm] at e
      obtain ⟨a', h1, h2⟩ := S.cell m c' e
      refine ⟨a', h1, h2.mono (Step.write hn).kp fun u e => ?_⟩
      show upd w.H a o a' = some u
      rw [upd_ne fun z => hm ?_]
      · exact e
      · obtain ⟨l1, e1⟩ := List.getElem?_eq_some_iff.mp hn
        obtain ⟨l2, e2⟩ := List.getElem?_eq_some_iff.mp h1
        exact (List.getElem_inj S.nd).mp (e1.trans (z.symm.trans e2.symm))
theorem RelS.lst (S : RelS K cls w μ) {n : Nat} {x : V} {ds : List D} (r : RV K cls w (.loc n) x) (h : μ[n]? = some (.lst ds)) : ∃ a vs, x = .ref a ∧ w.ι[n]? = some a ∧ w.H a = some (.lst vs) ∧ RVs K cls w ds vs := by
  obtain ⟨a, e, hn⟩ := r
  obtain ⟨a', h1, vs, h2, h3⟩ := S.cell n _ h
  rw [hn] at h1
  cases h1
  exact ⟨a, vs, e, hn, h2, h3⟩
theorem wlst (S : RelS K cls w μ) {n : Nat} {a : Addr} {ds : List D} {vs : List V} (hn : w.ι[n]? = some a) (r : RVs K cls w ds vs) : RelS K cls (w.up a (.lst vs)) (μ.set n (.lst ds)) :=
  S.write hn ⟨vs, upd_same, r.mono (Step.write hn).kp⟩
theorem RVs.eraseIdx : ∀ {ds : List D} {vs : List V} (i : Nat), RVs K cls w ds vs → RVs K cls w (ds.eraseIdx i) (vs.eraseIdx i)
  | [], _, _, r => by rw [show _ = [] from r]; rfl
  | _ :: _, _, 0, ⟨v, r, q, _, t⟩ => by rw [q]; exact t
  | _ :: _, _, i + 1, ⟨v, r, q, g, t⟩ => by rw [q]; exact ⟨v, _, rfl, g, RVs.eraseIdx i t⟩
theorem RVs.dropLast {ds : List D} {vs : List V} (r : RVs K cls w ds vs) : RVs K cls w ds.dropLast vs.dropLast := by
  rw [List.dropLast_eq_take, List.dropLast_eq_take, r.length]
  exact r.take _
end
section
variable {X : Cx} {cls : Nat → Option Addr} {o e : Expr} {fo fe : FE} {apos pos : Pos}
theorem se_join (ho : SE X cls o fo) (he : SE X cls e fe) (hs : starEach [e] X.env = [(false, eval e X.env)] := by rfl) (hbase : attributeBase o "join" X.env (eval o X.env) = eval o X.env := by rfl) (hline : (apos.endLine == pos.line) = true := by rfl) :
    SE X cls (.Call (.Attribute o "join" apos) [e] [] pos) (eJoin fo fe) := by
  obtain ⟨t1, p1, h1⟩ := ho
  obtain ⟨t2, p2, h2⟩ := he
  refine ⟨_, pe_join p1 p2 hs hbase hline, fun σ Q w ρ μ S E h => ?_⟩
  refine h1 σ _ w ρ μ S E ((PostR.bind h).imp fun w1 d s1 ⟨μ1, S1, q1⟩ v r1 => ?_)
  cases d with
  | str s =>
    refine ⟨⟨_, r1⟩, h2 σ _ w1 ρ μ1 S1 (E.mono s1.kp) ((PostR.bind q1).imp fun w2 e s2 ⟨μ2, S2, q2⟩ u r2 => ?_)⟩
    simp only [oJoin] at q2
    split at q2
    · rename_i es hd
      obtain ⟨a, vs, e1, h3, h4⟩ := seqOf_at S2 r2 hd
      split at q2
      · rename_i ps hp
        rw [strsOf_at h4 hp] at h3
        split at q2
        · rename_i hl
          have hz : (ps.map fun s => (⟨s.toArray⟩ : Str)).map (·.length) = ps.map List.length := by
            rw [List.map_map]
            exact List.map_congr_left fun s _ => strLen
          refine ⟨_, a, ps.map fun s => (⟨s.toArray⟩ : Str), r1, congrArg (fun z => [z]) e1, h3, ?_, ?_⟩
          · rw [hz, List.length_map, strLen]
            have := lim_le hl
            rw [sizeLine_eq] at this
            exact this
          · rw [TL.join_eq, join_of]
            exact q2 w2 Step.refl S2 _ rfl
        · exact q2.elim
      · exact q2.elim
    · exact q2.elim
  | _ => exact q1.elim
theorem isL_at {K : PySem.W.Frag} {w : Wd} {μ : Store} (S : RelS K cls w μ) {d : D} {x : V} (r : RV K cls w d x) (h : isL μ d = true) : tyV K "list" x w.H := by
  cases d with
  | loc n =>
    simp only [isL] at h
    split at h
    · rename_i es hc
      obtain ⟨a, vs, e, _, h2, _⟩ := S.lst r hc
      rw [e]
      exact .inl ⟨rfl, vs, .inl (.inl h2)⟩
    · cases h
  | _ => cases h
theorem app_val {K : PySem.W.Frag} {w : Wd} {μ : Store} {Q : VK} (S : RelS K cls w μ) {d e : D} {x y : V} (r1 : RV K cls w d x) (r2 : RV K cls w e y) (q : PostR K cls w (fun w' d => ∀ v, RV K cls w' d v → Q v w'.H) (oApp d e μ)) : rAppend x [y] w.H Q := by
  cases d with
  | loc n =>
    simp only [oApp] at q
    split at q
    · rename_i es hc
      split at q
      · rename_i hl
        obtain ⟨a, vs, ex, hn, h2, h3⟩ := S.lst r1 hc
        exact ⟨a, vs, y, ex, rfl, h2, by rw [h3.length]; exact lim_lt hl, q (w.up a (.lst (vs ++ [y]))) (Step.write hn) (wlst S hn (h3.append (.cons r2 .nil))) _ rfl⟩
      · exact q.elim
    · exact q.elim
  | _ => exact q.elim
theorem popAt_val {K : PySem.W.Frag} {w : Wd} {μ : Store} {Q : VK} (S : RelS K cls w μ) {d e : D} {x y : V} (r1 : RV K cls w d x) (r2 : RV K cls w e y) (q : PostR K cls w (fun w' d => ∀ v, RV K cls w' d v → Q v w'.H) (oPopAt d e μ)) : rPopAt x [y] w.H Q := by
  cases d with
  | loc n =>
    cases e with
    | int i =>
      simp only [oPopAt] at q
      split at q
      · rename_i es hc
        split at q
        · rename_i hl
          split at q
          · rename_i e he
            obtain ⟨a, vs, ex, hn, h2, h3⟩ := S.lst r1 hc
            obtain ⟨v, hv, rv⟩ := h3.get he
            have hlt : i.toNat < vs.length := (List.getElem?_eq_some_iff.mp hv).1
            have hL : (LIM : Int) = 1000000 := rfl
            refine ⟨a, vs, i, i.toNat, v, ex, by rw [show y = V.int i from r2], h2, by omega, by omega, ?_, hv, q (w.up a (.lst (vs.eraseIdx i.toNat))) (Step.write hn) (wlst S hn (h3.eraseIdx _)) _ (rv.mono (Step.write hn).kp)⟩
            have h0 : ¬ i < 0 := by omega
            have h1 : 0 ≤ i ∧ i < (vs.length : Int) := ⟨by omega, by omega⟩
            simp [seqIndex?, h0, h1]
          · exact q.elim
        · exact q.elim
      · exact q.elim
    | _ => exact q.elim
  | _ => cases e <;> exact q.elim
theorem pop0_val {K : PySem.W.Frag} {w : Wd} {μ : Store} {Q : VK} (S : RelS K cls w μ) {d : D} {x : V} (r1 : RV K cls w d x) (q : PostR K cls w (fun w' d => ∀ v, RV K cls w' d v → Q v w'.H) (oPop0 d μ)) : rPop x [] w.H Q := by
  cases d with
  | loc n =>
    simp only [oPop0] at q
    split at q
    · rename_i es hc
      split at q
      · rename_i e he
        obtain ⟨a, vs, ex, hn, h2, h3⟩ := S.lst r1 hc
        rw [← h3.length] at he
        obtain ⟨v, hv, rv⟩ := h3.get he
        exact ⟨a, vs, v, ex, rfl, h2, hv, q (w.up a (.lst vs.dropLast)) (Step.write hn) (wlst S hn h3.dropLast) _ (rv.mono (Step.write hn).kp)⟩
      · exact q.elim
    · exact q.elim
  | _ => exact q.elim
theorem se_lm {m : Str} {r : V → List V → Hp → VK → Prop} {g : D → D → Store → Res D} (ho : SE X cls o fo) (he : SE X cls e fe)
    (k : ∀ {to : TE} {t : TA}, PE X o to → PA X [e] t → PE X (.Call (.Attribute o m apos) [e] [] pos) (tBM X.K "list" r to t))
    (hg : ∀ {w : Wd} {μ : Store} {Q : VK} {d e : D} {x y : V}, RelS X.K cls w μ → RV X.K cls w d x → RV X.K cls w e y → PostR X.K cls w (fun w' d => ∀ v, RV X.K cls w' d v → Q v w'.H) (g d e μ) → r x [y] w.H Q)
    (hs : starEach [e] X.env = (false, eval e X.env) :: starEach [] X.env := by rfl) :
    SE X cls (.Call (.Attribute o m apos) [e] [] pos) (eLm g fo fe) := by
  obtain ⟨t1, p1, h1⟩ := ho
  obtain ⟨t2, p2, h2⟩ := he
  refine ⟨_, k p1 (pa_cons p2 pa_nil hs), fun σ Q w ρ μ S E h => ?_⟩
  refine h1 σ _ w ρ μ S E ((PostR.bind h).imp fun w1 d s1 ⟨μ1, S1, q1⟩ v r1 => ?_)
  split at q1
  · rename_i hl
    refine ⟨isL_at S1 r1 hl, h2 σ _ w1 ρ μ1 S1 (E.mono s1.kp) ((PostR.bind q1).imp fun w2 e s2 ⟨μ2, S2, q2⟩ u r2 => hg S2 (r1.mono s2.kp) r2 q2)⟩
  · exact q1.elim
theorem se_lm0 {m : Str} {r : V → List V → Hp → VK → Prop} {g : D → Store → Res D} (ho : SE X cls o fo)
    (k : ∀ {to : TE}, PE X o to → PE X (.Call (.Attribute o m apos) [] [] pos) (tBM0 X.K "list" r to))
    (hg : ∀ {w : Wd} {μ : Store} {Q : VK} {d : D} {x : V}, RelS X.K cls w μ → RV X.K cls w d x → PostR X.K cls w (fun w' d => ∀ v, RV X.K cls w' d v → Q v w'.H) (g d μ) → r x [] w.H Q) :
    SE X cls (.Call (.Attribute o m apos) [] [] pos) (eLm0 g fo) := by
  obtain ⟨t1, p1, h1⟩ := ho
  refine ⟨_, k p1, fun σ Q w ρ μ S E h => ?_⟩
  refine h1 σ _ w ρ μ S E ((PostR.bind h).imp fun w1 d s1 ⟨μ1, S1, q1⟩ v r1 => ?_)
  split at q1
  · rename_i hl
    exact ⟨isL_at S1 r1 hl, hg S1 r1 q1⟩
  · exact q1.elim
end

/-! ### statements -/
inductive SR where
  | nx (ρ : Env) (μ : Store)
  | rt (d : D) (μ : Store)
  | bk (ρ : Env) (μ : Store)
  | ct (ρ : Env) (μ : Store)
  | stuck
abbrev FS := Env → Store → SR
def PostS (K : PySem.W.Frag) (cls : Nat → Option Addr) (w : Wd) (D : Ends) : SR → Prop
  | .nx ρ μ => ∀ w' σ, Step w w' → RelS K cls w' μ → RelE K cls w' ρ σ → D.nx σ w'.H
  | .rt d μ => ∀ w' v, Step w w' → RelS K cls w' μ → RV K cls w' d v → D.rt v w'.H
  | .bk ρ μ => ∀ w' σ, Step w w' → RelS K cls w' μ → RelE K cls w' ρ σ → D.bk σ w'.H
  | .ct ρ μ => ∀ w' σ, Step w w' → RelS K cls w' μ → RelE K cls w' ρ σ → D.ct σ w'.H
  | .stuck => False
def Off (is : List Nat) (σ σ' : L2.St) : Prop := σ'.length = σ.length ∧ ∀ j, j ∉ is → σ'[j]? = σ[j]?
theorem Off.refl {is : List Nat} {σ : L2.St} : Off is σ σ := ⟨rfl, fun _ _ => rfl⟩
theorem Off.set {i : Nat} {σ : L2.St} {v : Option V} : Off [i] σ (σ.set i v) := ⟨List.length_set, fun j hj => List.getElem?_set_ne fun e => hj (by rw [e]; exact List.mem_cons_self)⟩
theorem Off.trans {is js : List Nat} {σ σ1 σ2 : L2.St} (a : Off is σ σ1) (b : Off js σ1 σ2) : Off (is ++ js) σ σ2 := ⟨b.1.trans a.1, fun j hj => (b.2 j fun z => hj (List.mem_append_right _ z)).trans (a.2 j fun z => hj (List.mem_append_left _ z))⟩
section
variable (X : Cx) (cls : Nat → Option Addr)
def SS (st : Stmt) (f : FS) : Prop := ∃ t, PS X st t ∧ ∀ (D : Ends) (σ : L2.St) (w : Wd) (ρ : Env) (μ : Store), RelS X.K cls w μ → RelE X.K cls w ρ σ → PostS X.K cls w D (f ρ μ) → t D σ w.H
def SSs (st : List Stmt) (f : FS) : Prop := ∃ t, PSs X st t ∧ ∀ (D : Ends) (σ : L2.St) (w : Wd) (ρ : Env) (μ : Store), RelS X.K cls w μ → RelE X.K cls w ρ σ → PostS X.K cls w D (f ρ μ) → t D σ w.H
/-- a target; is: the slots that it writes -/
def SG (tg : Expr) (is : List Nat) (g : D → Env → Store → Res Env) : Prop := ∃ t, PG X tg t ∧ ∀ (v : V) (d : D) (σ : L2.St) (w : Wd) (ρ : Env) (μ : Store) (Q : L2.St → Hp → Prop), RelS X.K cls w μ → RelE X.K cls w ρ σ → RV X.K cls w d v →
  PostR X.K cls w (fun w' ρ' => ∀ σ', RelE X.K cls w' ρ' σ' → Off is σ σ' → Q σ' w'.H) (g d ρ μ) → t v σ w.H Q
def SGs (ts : List Expr) (is : List Nat) (g : List D → Env → Store → Res Env) : Prop := ∃ t, PGs X ts t ∧ ∀ (vs : List V) (ds : List D) (σ : L2.St) (w : Wd) (ρ : Env) (μ : Store) (Q : L2.St → Hp → Prop), RelS X.K cls w μ → RelE X.K cls w ρ σ → RVs X.K cls w ds vs →
  PostR X.K cls w (fun w' ρ' => ∀ σ', RelE X.K cls w' ρ' σ' → Off is σ σ' → Q σ' w'.H) (g ds ρ μ) → t vs σ w.H Q
end
theorem PostS.step {K : PySem.W.Frag} {cls : Nat → Option Addr} {w w' : Wd} {D : Ends} {r : SR} (s : Step w w') (h : PostS K cls w D r) : PostS K cls w' D r := by
  cases r with
  | nx ρ μ => exact fun w2 σ s2 => h w2 σ (s.trans s2)
  | rt ρ μ => exact fun w2 σ s2 => h w2 σ (s.trans s2)
  | bk ρ μ => exact fun w2 σ s2 => h w2 σ (s.trans s2)
  | ct ρ μ => exact fun w2 σ s2 => h w2 σ (s.trans s2)
  | stuck => exact h
/-- ahead of a statement's reading an expression's -/
def rS {α : Type} (r : Res α) (f : α → Store → SR) : SR := match r with
  | .ok a μ => f a μ
  | .stuck => .stuck
@[simp] theorem rS_ok {α : Type} {a : α} {μ : Store} {f : α → Store → SR} : rS (.ok a μ) f = f a μ := rfl
@[simp] theorem rS_stuck {α : Type} {f : α → Store → SR} : rS (.stuck : Res α) f = .stuck := rfl
theorem PostS.bind {α : Type} {K : PySem.W.Frag} {cls : Nat → Option Addr} {w : Wd} {D : Ends} {r : Res α} {f : α → Store → SR}
    (h : PostS K cls w D (rS r f)) : PostR K cls w (fun w' a => ∃ μ', RelS K cls w' μ' ∧ PostS K cls w' D (f a μ')) r := by
  cases r with
  | ok a μ => exact fun w' s S => ⟨μ, S, PostS.step s h⟩
  | stuck => exact h
def sNext : FS := fun ρ μ => .nx ρ μ
def sSeq (f g : FS) : FS := fun ρ μ => match f ρ μ with
  | .nx ρ1 μ1 => g ρ1 μ1
  | r => r
def sIf (c : FT) (f g : FS) : FS := fun ρ μ => rS (c ρ μ) fun b μ1 => if b = true then f ρ μ1 else g ρ μ1
def sRet (fe : FE) : FS := fun ρ μ => rS (fe ρ μ) fun d μ1 => .rt d μ1
def sExpr (fe : FE) : FS := fun ρ μ => rS (fe ρ μ) fun _ μ1 => .nx ρ μ1
def sNever : FS := fun _ _ => .stuck
def sAsg (g : D → Env → Store → Res Env) (fe : FE) : FS := fun ρ μ => rS (fe ρ μ) fun d μ1 => rS (g d ρ μ1) fun ρ1 μ2 => .nx ρ1 μ2
def gVar (i : Nat) : D → Env → Store → Res Env := fun d ρ μ => if i < ρ.length then .ok (ρ.set i (some d)) μ else .stuck
def gNil : List D → Env → Store → Res Env := fun ds ρ μ => match ds with
  | [] => .ok ρ μ
  | _ => .stuck
def gCons (g : D → Env → Store → Res Env) (h : List D → Env → Store → Res Env) : List D → Env → Store → Res Env := fun ds ρ μ => match ds with
  | [] => .stuck
  | d :: r => (g d ρ μ).bind fun ρ1 μ1 => h r ρ1 μ1
def gTup (n : Nat) (h : List D → Env → Store → Res Env) : D → Env → Store → Res Env := fun d ρ μ => match d with
  | .tup ds => if ds.length = n then h ds ρ μ else .stuck
  | _ => .stuck
/-- xs[i] = v, a list at a place -/
def gIx (fo fi : FE) : D → Env → Store → Res Env := fun v ρ μ => (fo ρ μ).bind fun d μ1 => (fi ρ μ1).bind fun e μ2 => match d, e with
  | .loc n, .int i => match μ2[n]? with
    | some (.lst es) => match ixN es.length i with
      | some j => .ok ρ (μ2.set n (.lst (es.set j v)))
      | none => .stuck
    | _ => .stuck
  | _, _ => .stuck
/-- x op= e on a name -/
def sAug (i : Nat) (g : D → D → Store → Res D) (fe : FE) : FS := fun ρ μ => match ρ[i]? with
  | some (some x) => rS (fe ρ μ) fun y μ1 => rS (g x y μ1) fun z μ2 => if i < ρ.length then .nx (ρ.set i (some z)) μ2 else .stuck
  | _ => .stuck
section
variable {X : Cx} {cls : Nat → Option Addr} {st : Stmt} {rest : List Stmt} {f g : FS} {e : Expr} {fe : FE} {pos : Pos}
theorem RelE.set {K : PySem.W.Frag} {w : Wd} {ρ : Env} {σ : L2.St} {i : Nat} {d : D} {v : V} (h : RelE K cls w ρ σ) (r : RV K cls w d v) : RelE K cls w (ρ.set i (some d)) (σ.set i (some v)) := by
  refine ⟨by rw [List.length_set, List.length_set]; exact h.1, fun j d' e => ?_⟩
  by_cases hj : i = j
  · subst hj
    by_cases hl : i < ρ.length
    · rw [List.getElem?_set_self hl] at e
      cases e
      exact ⟨v, List.getElem?_set_self (by rw [h.1]; exact hl), r⟩
    · rw [List.getElem?_eq_none (by rw [List.length_set]; omega)] at e
      cases e
  · rw [List.getElem?_set_ne hj] at e
    obtain ⟨v', h1, h2⟩ := h.2 j d' e
    exact ⟨v', by rw [List.getElem?_set_ne hj]; exact h1, h2⟩
theorem sss_nil : SSs X cls [] sNext := ⟨_, pss_nil, fun D σ w ρ μ S E h => h w σ Step.refl S E⟩
theorem sss_cons (h1 : SS X cls st f) (h2 : SSs X cls rest g) : SSs X cls (st :: rest) (sSeq f g) := by
  obtain ⟨t1, p1, h1⟩ := h1
  obtain ⟨t2, p2, h2⟩ := h2
  refine ⟨_, pss_cons p1 p2, fun D σ w ρ μ S E h => ?_⟩
  refine h1 _ σ w ρ μ S E ?_
  unfold sSeq at h
  cases hf : f ρ μ with
  | nx ρ1 μ1 =>
    rw [hf] at h
    exact fun w' σ' s' S' E' => h2 D σ' w' ρ1 μ1 S' E' (PostS.step s' h)
  | rt d μ1 => rw [hf] at h; exact h
  | bk ρ1 μ1 => rw [hf] at h; exact h
  | ct ρ1 μ1 => rw [hf] at h; exact h
  | stuck => rw [hf] at h; exact h
theorem sss_one (h1 : SS X cls st f) : SSs X cls [st] f := by
  obtain ⟨t1, p1, h1⟩ := h1
  exact ⟨_, pss_one p1, h1⟩
theorem ss_pass : SS X cls (.Pass pos) sNext := ⟨_, ps_pass, fun D σ w ρ μ S E h => h w σ Step.refl S E⟩
theorem ss_break : SS X cls (.Break pos) (fun ρ μ => .bk ρ μ) := ⟨_, ps_break, fun D σ w ρ μ S E h => h w σ Step.refl S E⟩
theorem ss_continue : SS X cls (.Continue pos) (fun ρ μ => .ct ρ μ) := ⟨_, ps_continue, fun D σ w ρ μ S E h => h w σ Step.refl S E⟩
theorem ss_never : SS X cls st sNever := ⟨_, ps_never, fun D σ w ρ μ S E h => h.elim⟩
theorem sss_never {sts : List Stmt} : SSs X cls sts sNever := ⟨_, pss_never, fun D σ w ρ μ S E h => h.elim⟩
theorem ss_expr (he : SE X cls e fe) (hs : swapsWith e none pos.line X.env = pure false := by rfl) : SS X cls (.Expr e pos) (sExpr fe) := by
  obtain ⟨t1, p1, h1⟩ := he
  refine ⟨_, ps_expr p1 hs, fun D σ w ρ μ S E h => ?_⟩
  exact h1 σ _ w ρ μ S E ((PostS.bind h).imp fun w1 d s1 ⟨μ1, S1, q1⟩ v r1 => q1 w1 σ Step.refl S1 (E.mono s1.kp))
theorem ss_ret (he : SE X cls e fe) : SS X cls (.Return (some e) pos) (sRet fe) := by
  obtain ⟨t1, p1, h1⟩ := he
  refine ⟨_, ps_ret p1, fun D σ w ρ μ S E h => ?_⟩
  exact h1 σ _ w ρ μ S E ((PostS.bind h).imp fun w1 d s1 ⟨μ1, S1, q1⟩ v r1 => q1 w1 v Step.refl S1 r1)
theorem ss_retN : SS X cls (.Return none pos) (fun _ μ => .rt .non μ) := ⟨_, ps_retN, fun D σ w ρ μ S E h => h w _ Step.refl S rfl⟩
theorem ss_if {c : Expr} {a b : List Stmt} {fc : FT} (hc : ST X cls c fc) (ha : SSs X cls a f) (hb : SSs X cls b g) : SS X cls (.If c a b pos) (sIf fc f g) := by
  obtain ⟨t0, p0, h0⟩ := hc
  obtain ⟨t1, p1, h1⟩ := ha
  obtain ⟨t2, p2, h2⟩ := hb
  refine ⟨_, ps_if p0 p1 p2, fun D σ w ρ μ S E h => ?_⟩
  refine h0 σ _ w ρ μ S E ((PostS.bind h).imp fun w1 b s1 ⟨μ1, S1, q1⟩ => ?_)
  cases b with
  | true => exact h1 D σ w1 ρ μ1 S1 (E.mono s1.kp) q1
  | false => exact h2 D σ w1 ρ μ1 S1 (E.mono s1.kp) q1
theorem sg_var (i : Nat) {x : Str} (hN : X.N.Nodup) (hi : X.N[i]? = some x := by rfl) (hx : Loc X.env.scope x := by first | exact .inl rfl | exact .inr rfl) (hf : X.fn x = true ∨ X.env.scope.names.lookup x = some .local := by first | exact .inl rfl | exact .inr rfl) : SG X cls (.Name x pos) [i] (gVar i) := by
  refine ⟨_, pg_name hN hi hx hf, fun v d σ w ρ μ Q S E r h => ?_⟩
  unfold gVar at h
  split at h
  · exact h w Step.refl S _ (E.set r) Off.set
  · exact h.elim
theorem sgs_nil : SGs X cls [] [] gNil := by
  refine ⟨_, pgs_nil, fun vs ds σ w ρ μ Q S E r h => ?_⟩
  cases ds with
  | nil => exact ⟨r, h w Step.refl S _ E Off.refl⟩
  | cons d ds => exact h.elim
theorem sgs_cons {t : Expr} {ts : List Expr} {is js : List Nat} {g1 : D → Env → Store → Res Env} {g2 : List D → Env → Store → Res Env} (h1 : SG X cls t is g1) (h2 : SGs X cls ts js g2)
    (hs : (assignEach (t :: ts) X.env).map (·.2) = assign t X.env :: (assignEach ts X.env).map (·.2) := by rfl) : SGs X cls (t :: ts) (is ++ js) (gCons g1 g2) := by
  obtain ⟨t1, p1, h1⟩ := h1
  obtain ⟨t2, p2, h2⟩ := h2
  refine ⟨_, pgs_cons p1 p2 hs, fun vs ds σ w ρ μ Q S E r h => ?_⟩
  cases ds with
  | nil => exact h.elim
  | cons d ds =>
    obtain ⟨v, vr, e, r1, r2⟩ := r
    refine ⟨v, vr, e, ?_⟩
    exact h1 v d σ w ρ μ _ S E r1 ((PostR.bind h).imp fun w1 ρ1 s1 ⟨μ1, S1, q1⟩ σ1 E1 o1 => h2 vr ds σ1 w1 ρ1 μ1 Q S1 E1 (r2.mono s1.kp) (q1.imp fun w2 ρ2 s2 q2 σ2 E2 o2 => q2 σ2 E2 (o1.trans o2)))
theorem sg_tup {ts : List Expr} {k n : Nat} {is : List Nat} {g2 : List D → Env → Store → Res Env} (hc : X.calm = true) (h2 : SGs X cls ts is g2) (hn : (assignEach ts X.env).length = n := by rfl) (hst : (assignEach ts X.env).findIdx? (·.1) = none := by rfl) :
    SG X cls (.Tuple ts k pos) is (gTup n g2) := by
  obtain ⟨t2, p2, h2⟩ := h2
  refine ⟨_, pg_tup hc p2 hn hst, fun v d σ w ρ μ Q S E r h => ?_⟩
  cases d with
  | tup ds =>
    simp only [gTup] at h
    split at h
    · rename_i hl
      obtain ⟨a, vs, e, t, q⟩ := r
      exact ⟨a, vs, e, t.sq, by rw [q.length]; exact hl, h2 vs ds σ w ρ μ Q S E q h⟩
    · exact h.elim
  | _ => exact h.elim
theorem sg_ix {o i : Expr} {fo fi : FE} (ho : SE X cls o fo) (hi : SE X cls i fi)
    (ha : ∀ v, assign (.Subscript o i pos) X.env v = (do
      let ov ← holding [v] (eval o X.env)
      let iv ← holding [v, ov] (eval i X.env)
      standAt pos
      holding [v, ov, iv] (setItem ov iv v)
      release [v, ov, iv] []) := by intro _; rfl) : SG X cls (.Subscript o i pos) [] (gIx fo fi) := by
  obtain ⟨t1, p1, h1⟩ := ho
  obtain ⟨t2, p2, h2⟩ := hi
  refine ⟨_, pg_sub p1 p2 set_list ha, fun v d σ w ρ μ Q S E r h => ?_⟩
  refine h1 σ _ w ρ μ S E ((PostR.bind h).imp fun w1 d1 s1 ⟨μ1, S1, q1⟩ v1 r1 => ?_)
  refine h2 σ _ w1 ρ μ1 S1 (E.mono s1.kp) ((PostR.bind q1).imp fun w2 d2 s2 ⟨μ2, S2, q2⟩ v2 r2 => ?_)
  cases d1 with
  | loc n =>
    cases d2 with
    | int i =>
      simp only at q2
      split at q2
      · rename_i es hc
        split at q2
        · rename_i j hj
          obtain ⟨a, vs, ex, hn, h3, h4⟩ := S2.lst (r1.mono s2.kp) hc
          have rv := r.mono (s1.trans s2).kp
          exact ⟨a, vs, i, j, ex, r2, h3, by rw [h4.length]; exact hj, q2 (w2.up a (.lst (vs.set j v))) (Step.write hn) (wlst S2 hn (RVs.set rv j h4)) σ (E.mono ((s1.trans s2).trans (Step.write hn)).kp) Off.refl⟩
        · exact q2.elim
      · exact q2.elim
    | _ => exact q2.elim
  | _ => cases d2 <;> exact q2.elim
theorem ss_asg {tg : Expr} {is : List Nat} {g1 : D → Env → Store → Res Env} (he : SE X cls e fe) (hg : SG X cls tg is g1) (hs : swapsWithSole [tg] e pos.line X.env = pure false := by rfl) (hw : swappedStores [tg] e X.env = pure none := by rfl)
    (h1 : (assignEach [tg] X.env).map (·.2) = [assign tg X.env] := by rfl) : SS X cls (.Assign [tg] e pos) (sAsg g1 fe) := by
  obtain ⟨t1, p1, h1'⟩ := he
  obtain ⟨t2, p2, h2⟩ := hg
  refine ⟨_, ps_asg p1 p2 hs hw h1, fun D σ w ρ μ S E h => ?_⟩
  refine h1' σ _ w ρ μ S E ((PostS.bind h).imp fun w1 d s1 ⟨μ1, S1, q1⟩ v r1 => ?_)
  exact h2 v d σ w1 ρ μ1 D.nx S1 (E.mono s1.kp) r1 ((PostS.bind q1).imp fun w2 ρ2 s2 ⟨μ2, S2, q2⟩ σ2 E2 _ => q2 w2 σ2 Step.refl S2 E2)
theorem ss_set (i : Nat) {x : Str} {pos' : Pos} (hN : X.N.Nodup) (he : SE X cls e fe) (hi : X.N[i]? = some x := by rfl) (hx : Loc X.env.scope x := by first | exact .inl rfl | exact .inr rfl) (hs : swapsWith e (some (.Name x pos')) pos.line X.env = pure false := by rfl)
    (hf : X.fn x = true ∨ X.env.scope.names.lookup x = some .local := by first | exact .inl rfl | exact .inr rfl) : SS X cls (.Assign [.Name x pos'] e pos) (sAsg (gVar i) fe) := by
  obtain ⟨t1, p1, h1⟩ := he
  refine ⟨_, ps_set hN hi hx p1 hs hf, fun D σ w ρ μ S E h => ?_⟩
  refine h1 σ _ w ρ μ S E ((PostS.bind h).imp fun w1 d s1 ⟨μ1, S1, q1⟩ v r1 => ?_)
  unfold gVar at q1
  split at q1
  · exact q1 w1 _ Step.refl S1 ((E.mono s1.kp).set r1)
  · exact q1.elim
/-- a, b = x, y on plain local names -/
def sPar (i j : Nat) (fa fb : FE) : FS := fun ρ μ => rS (fa ρ μ) fun x μ1 => rS (fb ρ μ1) fun y μ2 => if i < ρ.length ∧ j < ρ.length then .nx ((ρ.set i (some x)).set j (some y)) μ2 else .stuck
theorem ss_par (i j : Nat) {x y : Str} {a b : Expr} {fa fb : FE} {px py pt : Pos} {kt k2 pt2} (hc : X.calm = true) (hN : X.N.Nodup) (ha : SE X cls a fa) (hb : SE X cls b fb) (hi : X.N[i]? = some x := by rfl) (hj : X.N[j]? = some y := by rfl) (hij : i ≠ j := by decide)
    (hx : X.env.scope.names.lookup x = some .local := by rfl) (hy : X.env.scope.names.lookup y = some .local := by rfl) (hs1 : starEach [a, b] X.env = (false, eval a X.env) :: starEach [b] X.env := by rfl) (hs2 : starEach [b] X.env = (false, eval b X.env) :: starEach [] X.env := by rfl)
    (hw : swappedStores [.Tuple [.Name x px, .Name y py] kt pt] (.Tuple [a, b] k2 pt2) X.env = pure (some [x, y]) := by rfl)
    (hs : swapsWithSole [.Tuple [.Name x px, .Name y py] kt pt] (.Tuple [a, b] k2 pt2) pos.line X.env = pure false := by rfl) :
    SS X cls (.Assign [.Tuple [.Name x px, .Name y py] kt pt] (.Tuple [a, b] k2 pt2) pos) (sPar i j fa fb) := by
  obtain ⟨t1, p1, h1⟩ := ha
  obtain ⟨t2, p2, h2⟩ := hb
  refine ⟨_, ps_par hc hN hi hj hij hx hy (pa_cons p1 (pa_cons p2 pa_nil hs2) hs1) hw hs, fun D σ w ρ μ S E h => ?_⟩
  refine h1 σ _ w ρ μ S E ((PostS.bind h).imp fun w1 d s1 ⟨μ1, S1, q1⟩ v r1 => ?_)
  refine h2 σ _ w1 ρ μ1 S1 (E.mono s1.kp) ((PostS.bind q1).imp fun w2 d2 s2 ⟨μ2, S2, q2⟩ v2 r2 => ?_)
  split at q2
  · exact ⟨v, v2, rfl, q2 w2 _ Step.refl S2 (((E.mono (s1.trans s2).kp).set (r1.mono s2.kp)).set r2)⟩
  · exact q2.elim
/-- a = b = e -/
def sAsg2 (g1 g2 : D → Env → Store → Res Env) (fe : FE) : FS := fun ρ μ => rS (fe ρ μ) fun d μ1 => rS (g1 d ρ μ1) fun ρ1 μ2 => rS (g2 d ρ1 μ2) fun ρ2 μ3 => .nx ρ2 μ3
theorem ss_asg2 {t1 t2 : Expr} {is js : List Nat} {g1 g2 : D → Env → Store → Res Env} (he : SE X cls e fe) (h1 : SG X cls t1 is g1) (h2 : SG X cls t2 js g2)
    (k : ∀ {te : TE} {u1 u2 : TG}, PE X e te → PG X t1 u1 → PG X t2 u2 → PS X (.Assign [t1, t2] e pos) (tAsg2 te u1 u2) := by exact fun p q r => ps_asg2 p q r) : SS X cls (.Assign [t1, t2] e pos) (sAsg2 g1 g2 fe) := by
  obtain ⟨t0, p0, h0⟩ := he
  obtain ⟨t1, p1, h1⟩ := h1
  obtain ⟨t2, p2, h2⟩ := h2
  refine ⟨_, k p0 p1 p2, fun D σ w ρ μ S E h => ?_⟩
  refine h0 σ _ w ρ μ S E ((PostS.bind h).imp fun w1 d s1 ⟨μ1, S1, q1⟩ v r1 => ?_)
  refine h1 v d σ w1 ρ μ1 _ S1 (E.mono s1.kp) r1 ((PostS.bind q1).imp fun w2 ρ2 s2 ⟨μ2, S2, q2⟩ σ2 E2 _ => ?_)
  exact h2 v d σ2 w2 ρ2 μ2 D.nx S2 E2 (r1.mono s2.kp) ((PostS.bind q2).imp fun w3 ρ3 s3 ⟨μ3, S3, q3⟩ σ3 E3 _ => q3 w3 σ3 Step.refl S3 E3)
/-- ints: x += e -/
def oAddI : D → D → Store → Res D := fun d e μ => match d, e with
  | .int i, .int j => .ok (.int (i + j)) μ
  | _, _ => .stuck
theorem ss_augAdd (i : Nat) {x : Str} {pos' : Pos} (hN : X.N.Nodup) (he : SE X cls e fe) (hi : X.N[i]? = some x := by rfl) (hx : Loc X.env.scope x := by first | exact .inl rfl | exact .inr rfl) (hf : X.fn x = true ∨ X.env.scope.names.lookup x = some .local := by first | exact .inl rfl | exact .inr rfl) :
    SS X cls (.AugAssign (.Name x pos') .Add e pos) (sAug i oAddI fe) := by
  obtain ⟨t1, p1, h1⟩ := he
  refine ⟨_, ps_aug hN hi hx p1 ip_add hf, fun D σ w ρ μ S E h => ?_⟩
  unfold sAug at h
  split at h
  · rename_i d hd
    obtain ⟨v, e1, r⟩ := E.2 i d hd
    refine ⟨v, e1, h1 σ _ w ρ μ S E ((PostS.bind h).imp fun w1 y s1 ⟨μ1, S1, q1⟩ u r1 => ?_)⟩
    have r := r.mono s1.kp
    cases d with
    | int i =>
      cases y with
      | int j =>
        refine ⟨i, j, r, r1, ?_⟩
        simp only [oAddI, rS_ok] at q1
        split at q1
        · exact q1 w1 _ Step.refl S1 ((E.mono s1.kp).set rfl)
        · exact q1.elim
      | _ => exact q1.elim
    | _ => cases y <;> exact q1.elim
  · exact h.elim
end
end Fw

set_option Elab.async false
set_option linter.all false
set_option maxRecDepth 100000
set_option autoImplicit false
/-! Loops, comprehensions, defs. -/
namespace Fw
open PySem L2 PyProof.Rows

/-! ### the readings as such -/
section
variable {X : Cx} {cls : Nat → Option Addr}
def TEof (K : PySem.W.Frag) (cls : Nat → Option Addr) (f : FE) : TE := fun σ H Q => ∃ (w : Wd) (ρ : Env) (μ : Store), w.H = H ∧ RelS K cls w μ ∧ RelE K cls w ρ σ ∧ PostR K cls w (fun w' d => ∀ v, RV K cls w' d v → Q v w'.H) (f ρ μ)
theorem SE.pe {e : Expr} {f : FE} (h : SE X cls e f) : PE X e (TEof X.K cls f) := by
  obtain ⟨t, p, k⟩ := h
  refine ⟨fun pins s σ H Q I z => ?_⟩
  obtain ⟨w, ρ, μ, rfl, S, E, q⟩ := z
  exact p.run pins s σ w.H Q I (k σ Q w ρ μ S E q)
def TTof (K : PySem.W.Frag) (cls : Nat → Option Addr) (f : FT) : TT := fun σ H Q => ∃ (w : Wd) (ρ : Env) (μ : Store), w.H = H ∧ RelS K cls w μ ∧ RelE K cls w ρ σ ∧ PostR K cls w (fun w' b => Q b w'.H) (f ρ μ)
def STs (X : Cx) (cls : Nat → Option Addr) (es : List Expr) (f : FT) : Prop := PTs X es (TTof X.K cls f)
theorem sts_nil : STs X cls [] (fun _ μ => .ok true μ) := by
  refine ⟨fun pins s σ H Q I z => ?_⟩
  obtain ⟨w, ρ, μ, rfl, S, E, q⟩ := z
  exact pts_nil.run pins s σ w.H Q I (q w Step.refl S)
theorem sts_one {e : Expr} {f : FT} (h : ST X cls e f) : STs X cls [e] f := by
  obtain ⟨t, p, k⟩ := h
  refine ⟨fun pins s σ H Q I z => ?_⟩
  obtain ⟨w, ρ, μ, rfl, S, E, q⟩ := z
  exact (pts_one p).run pins s σ w.H Q I (k σ Q w ρ μ S E q)
def TGof (K : PySem.W.Frag) (cls : Nat → Option Addr) (is : List Nat) (g : D → Env → Store → Res Env) : TG := fun v σ H Q => ∃ (w : Wd) (ρ : Env) (μ : Store) (d : D), w.H = H ∧ RelS K cls w μ ∧ RelE K cls w ρ σ ∧ RV K cls w d v ∧
  PostR K cls w (fun w' ρ' => ∀ σ', RelE K cls w' ρ' σ' → Off is σ σ' → Q σ' w'.H) (g d ρ μ)
theorem SG.pg {e : Expr} {is : List Nat} {g : D → Env → Store → Res Env} (h : SG X cls e is g) : PG X e (TGof X.K cls is g) := by
  obtain ⟨t, p, k⟩ := h
  refine ⟨fun pins s σ H v u Q I r z => ?_⟩
  obtain ⟨w, ρ, μ, d, rfl, S, E, rd, q⟩ := z
  exact p.run pins s σ w.H v u Q I r (k v d σ w ρ μ Q S E rd q)
end

/-! ### what is walked -/
abbrev FI := Env → Store → Res (List D × Option Nat)
def srcOk (src : Option Nat) (items : List D) (μ : Store) : Bool := match src with
  | none => true
  | some n => decide (μ[n]? = some (.lst items))
def Wk (K : PySem.W.Frag) (cls : Nat → Option Addr) (J : It) (w : Wd) (items : List D) (src : Option Nat) : Prop :=
  ∀ (i : Nat) (w' : Wd) (μ' : Store), Kp w w' → RelS K cls w' μ' → srcOk src items μ' = true →
    (∀ d, items[i]? = some d → J.go i w'.H ∧ ∀ x H2, J.yld i w'.H x H2 → ∃ w2 : Wd, w2.H = H2 ∧ Step w' w2 ∧ RelS K cls w2 μ' ∧ RV K cls w2 d x) ∧
    (items.length ≤ i → J.stop i w'.H)
def SI (X : Cx) (cls : Nat → Option Addr) (tg iter : Expr) (f : FI) : Prop := ∃ wi, PI X tg iter wi ∧ ∀ (σ : L2.St) (R : It → Hp → Prop) (w : Wd) (ρ : Env) (μ : Store), RelS X.K cls w μ → RelE X.K cls w ρ σ →
  PostR X.K cls w (fun w' it => ∀ J, Wk X.K cls J w' it.1 it.2 → R J w'.H) (f ρ μ) → wi σ w.H R
theorem pi_or {X : Cx} {tg iter : Expr} {a b : TI} (h : PI X tg iter a) (h' : PI X tg iter b) : PI X tg iter (fun σ H R => a σ H R ∨ b σ H R) :=
  ⟨fun pins s σ H R I z => z.elim (h.run pins s σ H R I) (h'.run pins s σ H R I)⟩
def oWalk (d : D) (μ : Store) : Res (List D × Option Nat) := match d with
  | .lst ds => .ok (ds, none) μ
  | .flst is => .ok (is.map .int, none) μ
  | .tup ds => .ok (ds, none) μ
  | .str s => .ok (s.map fun c => .str [c], none) μ
  | .loc n => match μ[n]? with
    | some (.lst ds) => .ok (ds, some n) μ
    | _ => .stuck
  | _ => .stuck
def iOf (fe : FE) : FI := fun ρ μ => (fe ρ μ).bind fun d μ1 => oWalk d μ1
section
variable {K : PySem.W.Frag} {cls : Nat → Option Addr} {w : Wd} {μ : Store}
theorem wk_list {a : Addr} {ds : List D} {src : Option Nat} (h : ∀ (w' : Wd) (μ' : Store), Kp w w' → RelS K cls w' μ' → srcOk src ds μ' = true → ∃ vs, SqL K w'.H a vs ∧ RVs K cls w' ds vs) : Wk K cls (Itl K a) w ds src := by
  intro i w' μ' k S' so
  obtain ⟨vs, h1, h2⟩ := h w' μ' k S' so
  refine ⟨fun d hd => ?_, fun hi => ⟨vs, h1, by rw [h2.length]; exact hi⟩⟩
  obtain ⟨v, hv, rv⟩ := h2.get hd
  refine ⟨⟨vs, v, h1, hv⟩, fun x H2 ⟨e, y⟩ => ⟨w', e.symm, Step.refl, S', ?_⟩⟩
  have := y vs h1
  rw [hv] at this
  cases this
  exact rv
theorem wk_tup {a : Addr} {ds : List D} (h : ∀ (w' : Wd), Kp w w' → ∃ vs, SqT K w'.H a vs ∧ RVs K cls w' ds vs) : Wk K cls (Itt K a) w ds none := by
  intro i w' μ' k S' so
  obtain ⟨vs, h1, h2⟩ := h w' k
  refine ⟨fun d hd => ?_, fun hi => ⟨vs, h1, by rw [h2.length]; exact hi⟩⟩
  obtain ⟨v, hv, rv⟩ := h2.get hd
  refine ⟨⟨vs, v, h1, hv⟩, fun x H2 ⟨e, y⟩ => ⟨w', e.symm, Step.refl, S', ?_⟩⟩
  have := y vs h1
  rw [hv] at this
  cases this
  exact rv
theorem wk_str {s : List Nat} : Wk K cls (Its ⟨s.toArray⟩) w (s.map fun c => .str [c]) none := by
  intro i w' μ' k S' so
  refine ⟨fun d hd => ?_, fun hi => ?_⟩
  · rw [List.getElem?_map, Option.map_eq_some_iff] at hd
    obtain ⟨c, hc, rfl⟩ := hd
    have hi : i < s.length := (List.getElem?_eq_some_iff.mp hc).1
    refine ⟨by show i < s.toArray.size; simpa using hi, fun x H2 ⟨e, c', h1, h2⟩ => ⟨w', e.symm, Step.refl, S', ?_⟩⟩
    have h1 : s.toArray[i]? = some c' := h1
    rw [List.getElem?_toArray, hc] at h1
    cases h1
    rw [h2]
    rfl
  · show s.toArray.size ≤ i
    simpa using hi
theorem wk_range {lo : Int} {n : Nat} : Wk K cls (Itr lo n) w ((List.range n).map fun i => .int (lo + (i : Nat))) none := by
  intro i w' μ' k S' so
  refine ⟨fun d hd => ?_, fun hi => ?_⟩
  · rw [List.getElem?_map, Option.map_eq_some_iff] at hd
    obtain ⟨c, hc, rfl⟩ := hd
    obtain ⟨hi, e⟩ := List.getElem?_eq_some_iff.mp hc
    rw [List.length_range] at hi
    rw [List.getElem_range] at e
    subst e
    exact ⟨hi, fun x H2 ⟨e, h2⟩ => ⟨w', e.symm, Step.refl, S', h2⟩⟩
  · rw [List.length_map, List.length_range] at hi
    exact hi
end
section
variable {X : Cx} {cls : Nat → Option Addr} {tg e a b : Expr} {fe fa fb : FE} {p pos : Pos}
theorem si_of (he : SE X cls e fe) : SI X cls tg e (iOf fe) := by
  obtain ⟨t, p, k⟩ := he
  refine ⟨_, pi_or (pi_list p) (pi_or (pi_tup p) (pi_str p)), fun σ R w ρ μ S E h => ?_⟩
  have h := PostR.bind h
  cases hf : fe ρ μ with
  | stuck => rw [hf] at h; exact h.elim
  | ok d μ1 =>
    have go := k σ
    rw [hf] at h
    cases d with
    | lst ds =>
      refine .inl (go _ w ρ μ S E ?_)
      rw [hf]
      intro w1 s1 S1 v r1
      obtain ⟨μ', S2, q⟩ := h w1 s1 S1
      obtain ⟨a, vs, e1, h1, h2⟩ := r1
      refine ⟨a, e1, ⟨vs, .inl (.inl h1.1)⟩, q w1 Step.refl S2 _ (wk_list fun w' μ' kp S' _ => ?_)⟩
      exact ⟨vs, .inl (.inl (kp.at_ a _ h1.2.1 h1.2.2 h1.1).1), h2.mono kp⟩
    | flst is =>
      refine .inl (go _ w ρ μ S E ?_)
      rw [hf]
      intro w1 s1 S1 v r1
      obtain ⟨μ', S2, q⟩ := h w1 s1 S1
      obtain ⟨a, e1, h1⟩ := r1
      refine ⟨a, e1, ⟨_, h1.sq⟩, q w1 Step.refl S2 _ (wk_list fun w' μ' kp S' _ => ?_)⟩
      exact ⟨_, (h1.mono kp).sq, RVs.ints⟩
    | loc n =>
      refine .inl (go _ w ρ μ S E ?_)
      rw [hf]
      intro w1 s1 S1 v r1
      obtain ⟨μ', S2, q⟩ := h w1 s1 S1
      simp only [oWalk] at q
      split at q
      · rename_i ds hc
        obtain ⟨a, vs, e1, hn, h1, h2⟩ := S2.lst r1 hc
        refine ⟨a, e1, ⟨vs, .inl (.inl h1)⟩, q w1 Step.refl S2 _ (wk_list fun w' μ' kp S' so => ?_)⟩
        have so : μ'[n]? = some (.lst ds) := of_decide_eq_true so
        obtain ⟨a', vs', e2, hn', h3, h4⟩ := S'.lst (x := .ref a) ⟨a, rfl, kp.loc n a hn⟩ so
        cases e2
        exact ⟨vs', .inl (.inl h3), h4⟩
      · exact q.elim
    | tup ds =>
      refine .inr (.inl (go _ w ρ μ S E ?_))
      rw [hf]
      intro w1 s1 S1 v r1
      obtain ⟨μ', S2, q⟩ := h w1 s1 S1
      obtain ⟨a, vs, e1, h1, h2⟩ := r1
      refine ⟨a, e1, ⟨vs, h1.sq⟩, q w1 Step.refl S2 _ (wk_tup fun w' kp => ?_)⟩
      exact ⟨vs, (h1.mono kp).sq, h2.mono kp⟩
    | str s =>
      refine .inr (.inr (go _ w ρ μ S E ?_))
      rw [hf]
      intro w1 s1 S1 v r1
      obtain ⟨μ', S2, q⟩ := h w1 s1 S1
      exact ⟨_, r1, q w1 Step.refl S2 _ wk_str⟩
    | non =>
      refine .inl (go _ w ρ μ S E ?_)
      rw [hf]
      intro w1 s1 S1 v r1
      obtain ⟨μ', S2, q⟩ := h w1 s1 S1
      exact q.elim
    | bl _ =>
      refine .inl (go _ w ρ μ S E ?_)
      rw [hf]
      intro w1 s1 S1 v r1
      obtain ⟨μ', S2, q⟩ := h w1 s1 S1
      exact q.elim
    | int _ =>
      refine .inl (go _ w ρ μ S E ?_)
      rw [hf]
      intro w1 s1 S1 v r1
      obtain ⟨μ', S2, q⟩ := h w1 s1 S1
      exact q.elim
    | obj _ _ _ =>
      refine .inl (go _ w ρ μ S E ?_)
      rw [hf]
      intro w1 s1 S1 v r1
      obtain ⟨μ', S2, q⟩ := h w1 s1 S1
      exact q.elim
def iRange1 (fa : FE) : FI := fun ρ μ => (fa ρ μ).bind fun d μ1 => match d with
  | .int j => if -1000000 ≤ j ∧ j ≤ 1000000 then .ok ((List.range j.toNat).map fun i => .int (0 + (i : Nat)), none) μ1 else .stuck
  | _ => .stuck
theorem si_range1 (hg : Gl X "range") (hm : X.mg "range" = none) (ha : SE X cls a fa) (hs : starEach [a] X.env = [(false, eval a X.env)] := by rfl) : SI X cls tg (.Call (.Name "range" p) [a] [] pos) (iRange1 fa) := by
  obtain ⟨t, p, k⟩ := ha
  refine ⟨_, pi_range1 hg hm (pa_cons p pa_nil hs) hs, fun σ R w ρ μ S E h => ?_⟩
  refine k σ _ w ρ μ S E ((PostR.bind h).imp fun w1 d s1 ⟨μ1, S1, q1⟩ v r1 => ?_)
  cases d with
  | int j =>
    simp only at q1
    split at q1
    · rename_i hj
      exact ⟨j, by rw [show v = V.int j from r1], by omega, by omega, q1 w1 Step.refl S1 _ wk_range⟩
    · exact q1.elim
  | _ => exact q1.elim
def iRange2 (fa fb : FE) : FI := fun ρ μ => (fa ρ μ).bind fun d μ1 => (fb ρ μ1).bind fun e μ2 => match d, e with
  | .int i, .int j => if -1000000 ≤ i ∧ i ≤ 1000000 ∧ -1000000 ≤ j ∧ j ≤ 1000000 then .ok ((List.range (j - i).toNat).map fun k => .int (i + (k : Nat)), none) μ2 else .stuck
  | _, _ => .stuck
theorem si_range2 (hg : Gl X "range") (hm : X.mg "range" = none) (ha : SE X cls a fa) (hb : SE X cls b fb) (hs : starEach [a, b] X.env = [(false, eval a X.env), (false, eval b X.env)] := by rfl) (hs2 : starEach [b] X.env = [(false, eval b X.env)] := by rfl) :
    SI X cls tg (.Call (.Name "range" p) [a, b] [] pos) (iRange2 fa fb) := by
  obtain ⟨t, p, k⟩ := ha
  obtain ⟨t2, p2, k2⟩ := hb
  refine ⟨_, pi_range2 hg hm (pa_cons p (pa_cons p2 pa_nil hs2) (by rw [hs, hs2])) hs hs2, fun σ R w ρ μ S E h => ?_⟩
  refine k σ _ w ρ μ S E ((PostR.bind h).imp fun w1 d s1 ⟨μ1, S1, q1⟩ v r1 => ?_)
  refine k2 σ _ w1 ρ μ1 S1 (E.mono s1.kp) ((PostR.bind q1).imp fun w2 d2 s2 ⟨μ2, S2, q2⟩ v2 r2 => ?_)
  cases d with
  | int i =>
    cases d2 with
    | int j =>
      simp only at q2
      split at q2
      · rename_i hj
        exact ⟨i, j, by rw [show v = V.int i from r1, show v2 = V.int j from r2], ⟨by omega, by omega, by omega, by omega⟩, q2 w2 Step.refl S2 _ wk_range⟩
      · exact q2.elim
    | _ => exact q2.elim
  | _ => cases d2 <;> exact q2.elim
end

/-- what comes first, the rest at the base -/
theorem PostS.bind0 {α : Type} {K : PySem.W.Frag} {cls : Nat → Option Addr} {w w' : Wd} {D : Ends} {r : Res α} {f : α → Store → SR}
    (h : PostS K cls w D (rS r f)) : PostR K cls w' (fun w3 a => Step w' w3 ∧ ∃ μ', RelS K cls w3 μ' ∧ PostS K cls w D (f a μ')) r := by
  cases r with
  | ok a μ => exact fun w3 s S => ⟨s, μ, S, h⟩
  | stuck => exact h
theorem PostR.bind0 {α β : Type} {K : PySem.W.Frag} {cls : Nat → Option Addr} {w w' : Wd} {R : Wd → β → Prop} {r : Res α} {f : α → Store → Res β}
    (h : PostR K cls w R (r.bind f)) : PostR K cls w' (fun w3 a => Step w' w3 ∧ ∃ μ', RelS K cls w3 μ' ∧ PostR K cls w R (f a μ')) r := by
  cases r with
  | ok a μ => exact fun w3 s S => ⟨s, μ, S, h⟩
  | stuck => exact h

/-! ### for -/
def forL (items : List D) (src : Option Nat) (g : D → Env → Store → Res Env) (body : FS) : List D → Env → Store → SR
  | [], ρ, μ => if srcOk src items μ = true then .nx ρ μ else .stuck
  | d :: ds, ρ, μ => if srcOk src items μ = true then rS (g d ρ μ) fun ρ1 μ1 => match body ρ1 μ1 with
      | .nx ρ2 μ2 => forL items src g body ds ρ2 μ2
      | .ct ρ2 μ2 => forL items src g body ds ρ2 μ2
      | .bk ρ2 μ2 => .nx ρ2 μ2
      | .rt d μ2 => .rt d μ2
      | .stuck => .stuck
    else .stuck
def sFor (fi : FI) (g : D → Env → Store → Res Env) (body : FS) : FS := fun ρ μ => rS (fi ρ μ) fun it μ1 => forL it.1 it.2 g body it.1 ρ μ1
theorem ss_for {X : Cx} {cls : Nat → Option Addr} {tg iter : Expr} {body : List Stmt} {pos : Pos} {fi : FI} {is : List Nat} {g : D → Env → Store → Res Env} {fb : FS} (hp : PassesOwn (model X.prog X.w) X.A X.env X.xe) (hc : X.calm = true)
    (hi : SI X cls tg iter fi) (hg : SG X cls tg is g) (hb : SSs X cls body fb) (hs : ∀ x, foldedSetIterable iter X.env x = pure x := by intro _; rfl) : SS X cls (.For tg iter body [] pos) (sFor fi g fb) := by
  obtain ⟨t1, p1, h1⟩ := hi
  obtain ⟨t2, p2, h2⟩ := hg
  obtain ⟨t3, p3, h3⟩ := hb
  refine ⟨_, ps_for hp hc p1 p2 p3 hs, fun D σ w ρ μ S E h => ?_⟩
  refine h1 σ _ w ρ μ S E ((PostS.bind h).imp fun w1 it s1 ⟨μ1, S1, q1⟩ J wk => ?_)
  obtain ⟨items, src⟩ := it
  have E1 := E.mono s1.kp
  refine ⟨fun i m σ' H' => m = items.length - i ∧ i ≤ items.length ∧ ∃ (w' : Wd) (ρ' : Env) (μ' : Store), w'.H = H' ∧ Step w1 w' ∧ RelS X.K cls w' μ' ∧ RelE X.K cls w' ρ' σ' ∧ PostS X.K cls w1 D (forL items src g fb (items.drop i) ρ' μ'),
    ⟨items.length, by simp, Nat.zero_le _, w1, ρ, μ1, rfl, Step.refl, S1, E1, by simpa using q1⟩, ?_⟩
  rintro i m σ' H' ⟨rfl, hle, w', ρ', μ', rfl, st, S', E', q⟩
  by_cases hlt : i < items.length
  · rw [List.drop_eq_getElem_cons hlt] at q
    simp only [forL] at q
    split at q
    · rename_i so
      obtain ⟨wd, _⟩ := wk i w' μ' st.kp S' so
      obtain ⟨go, yld⟩ := wd items[i] (List.getElem?_eq_getElem hlt)
      refine .inr ⟨go, fun σ2 H2 => ∃ (w2 : Wd) (ρ2 : Env) (μ2 : Store), w2.H = H2 ∧ Step w1 w2 ∧ RelS X.K cls w2 μ2 ∧ RelE X.K cls w2 ρ2 σ2 ∧ PostS X.K cls w1 D (forL items src g fb (items.drop (i + 1)) ρ2 μ2), ?_, fun x H2 y => ?_⟩
      · rintro σ2 H2 ⟨w2, ρ2, μ2, e, st2, S2, E2, q2⟩
        exact ⟨_, by omega, rfl, hlt, w2, ρ2, μ2, e, st2, S2, E2, q2⟩
      · obtain ⟨w2, rfl, st2, S2, rx⟩ := yld x H2 y
        refine h2 x items[i] σ' w2 ρ' μ' _ S2 (E'.mono st2.kp) rx ((PostS.bind0 q).imp fun w3 ρ3 _ ⟨st3, μ3, S3, q3⟩ σ3 E3 _ => ?_)
        have st13 := (st.trans st2).trans st3
        refine h3 _ σ3 w3 ρ3 μ3 S3 E3 ?_
        split at q3
        · rename_i ρ4 μ4 hf
          rw [hf]
          exact fun w4 σ4 s4 S4 E4 => ⟨w4, ρ4, μ4, rfl, st13.trans s4, S4, E4, q3⟩
        · rename_i ρ4 μ4 hf
          rw [hf]
          exact fun w4 σ4 s4 S4 E4 => ⟨w4, ρ4, μ4, rfl, st13.trans s4, S4, E4, q3⟩
        · rename_i ρ4 μ4 hf
          rw [hf]
          exact fun w4 σ4 s4 S4 E4 => q3 w4 σ4 (st13.trans s4) S4 E4
        · rename_i d μ4 hf
          rw [hf]
          exact fun w4 σ4 s4 S4 E4 => q3 w4 σ4 (st13.trans s4) S4 E4
        · exact q3.elim
    · exact q.elim
  · have e : i = items.length := by omega
    subst e
    rw [List.drop_length] at q
    simp only [forL] at q
    split at q
    · rename_i so
      obtain ⟨_, stop⟩ := wk items.length w' μ' st.kp S' so
      exact .inl ⟨stop (Nat.le_refl _), q w' σ' st S' E'⟩
    · exact q.elim

/-! ### while -/
def whileL (c : FT) (body : FS) : Nat → Env → Store → SR
  | 0, _, _ => .stuck
  | n + 1, ρ, μ => rS (c ρ μ) fun b μ1 => if b = true then match body ρ μ1 with
      | .nx ρ2 μ2 => whileL c body n ρ2 μ2
      | .ct ρ2 μ2 => whileL c body n ρ2 μ2
      | .bk ρ2 μ2 => .nx ρ2 μ2
      | .rt d μ2 => .rt d μ2
      | .stuck => .stuck
    else .nx ρ μ1
def sWhile (n : Nat) (c : FT) (body : FS) : FS := fun ρ μ => whileL c body n ρ μ
theorem ss_while (n : Nat) {X : Cx} {cls : Nat → Option Addr} {c : Expr} {body : List Stmt} {pos : Pos} {fc : FT} {fb : FS} (hp : PassesOwn (model X.prog X.w) X.A X.env X.xe) (hc : ST X cls c fc) (hb : SSs X cls body fb) :
    SS X cls (.While c body [] pos) (sWhile n fc fb) := by
  obtain ⟨t1, p1, h1⟩ := hc
  obtain ⟨t3, p3, h3⟩ := hb
  refine ⟨_, ps_while hp p1 p3, fun D σ w ρ μ S E h => ?_⟩
  refine ⟨fun m σ' H' => ∃ (w' : Wd) (ρ' : Env) (μ' : Store), w'.H = H' ∧ Step w w' ∧ RelS X.K cls w' μ' ∧ RelE X.K cls w' ρ' σ' ∧ PostS X.K cls w D (whileL fc fb m ρ' μ'), ⟨n, w, ρ, μ, rfl, Step.refl, S, E, h⟩, ?_⟩
  rintro m σ' H' ⟨w', ρ', μ', rfl, st, S', E', q⟩
  cases m with
  | zero => exact q.elim
  | succ m =>
    simp only [whileL] at q
    refine h1 σ' _ w' ρ' μ' S' E' ((PostS.bind0 q).imp fun w3 b _ ⟨st3, μ3, S3, q3⟩ => ?_)
    have st13 := st.trans st3
    have E3 := E'.mono st3.kp
    cases b with
    | false => exact q3 w3 σ' st13 S3 E3
    | true =>
      refine ⟨fun σ2 H2 => ∃ (w2 : Wd) (ρ2 : Env) (μ2 : Store), w2.H = H2 ∧ Step w w2 ∧ RelS X.K cls w2 μ2 ∧ RelE X.K cls w2 ρ2 σ2 ∧ PostS X.K cls w D (whileL fc fb m ρ2 μ2), fun σ2 H2 z => ⟨m, Nat.lt_succ_self _, z⟩, ?_⟩
      refine h3 _ σ' w3 ρ' μ3 S3 E3 ?_
      simp only [if_true] at q3
      split at q3
      · rename_i ρ4 μ4 hf
        rw [hf]
        exact fun w4 σ4 s4 S4 E4 => ⟨w4, ρ4, μ4, rfl, st13.trans s4, S4, E4, q3⟩
      · rename_i ρ4 μ4 hf
        rw [hf]
        exact fun w4 σ4 s4 S4 E4 => ⟨w4, ρ4, μ4, rfl, st13.trans s4, S4, E4, q3⟩
      · rename_i ρ4 μ4 hf
        rw [hf]
        exact fun w4 σ4 s4 S4 E4 => q3 w4 σ4 (st13.trans s4) S4 E4
      · rename_i d μ4 hf
        rw [hf]
        exact fun w4 σ4 s4 S4 E4 => q3 w4 σ4 (st13.trans s4) S4 E4
      · exact q3.elim

/-! ### a comprehension -/
def wipeE (ρ : Env) : List Nat → Env
  | [] => ρ
  | v :: vs => (wipeE ρ vs).set v none
def lcL (items : List D) (src : Option Nat) (g : D → Env → Store → Res Env) (ft : FT) (fe : FE) (ρ : Env) : List D → Store → List D → Res D
  | [], μ, acc => if srcOk src items μ = true then .ok (.lst acc) μ else .stuck
  | d :: ds, μ, acc => if srcOk src items μ = true then (g d ρ μ).bind fun ρ1 μ1 => (ft ρ1 μ1).bind fun b μ2 =>
      if b = true then (fe ρ1 μ2).bind fun y μ3 => if acc.length < LIM then lcL items src g ft fe ρ ds μ3 (acc ++ [y]) else .stuck
      else lcL items src g ft fe ρ ds μ2 acc
    else .stuck
def eLc (vs : List Nat) (fi : FI) (g : D → Env → Store → Res Env) (ft : FT) (fe : FE) : FE := fun ρ μ => (fi ρ μ).bind fun it μ1 => lcL it.1 it.2 g ft fe (wipeE ρ vs) it.1 μ1 []
section
variable {K : PySem.W.Frag} {cls : Nat → Option Addr} {w : Wd} {μ : Store}
theorem RelE.setN {ρ : Env} {σ : L2.St} {i : Nat} (h : RelE K cls w ρ σ) : RelE K cls w (ρ.set i none) (σ.set i none) := by
  refine ⟨by rw [List.length_set, List.length_set]; exact h.1, fun j d' e => ?_⟩
  by_cases hj : i = j
  · subst hj
    by_cases hl : i < ρ.length
    · rw [List.getElem?_set_self hl] at e
      cases e
    · rw [List.getElem?_eq_none (by rw [List.length_set]; omega)] at e
      cases e
  · rw [List.getElem?_set_ne hj] at e
    obtain ⟨v', h1, h2⟩ := h.2 j d' e
    exact ⟨v', by rw [List.getElem?_set_ne hj]; exact h1, h2⟩
theorem RelE.wipe {ρ : Env} {σ : L2.St} (h : RelE K cls w ρ σ) : ∀ vs : List Nat, RelE K cls w (wipeE ρ vs) (L2.wipe σ vs)
  | [] => h
  | v :: vs => (RelE.wipe h vs).setN
theorem wipe_in {σ : L2.St} {i : Nat} : ∀ {vs : List Nat}, i ∈ vs → i < σ.length → (L2.wipe σ vs)[i]? = some none
  | [], h, _ => absurd h (by simp)
  | v :: vs, h, hl => by
    unfold L2.wipe
    by_cases e : v = i
    · subst e
      rw [List.getElem?_set_self (by rw [wipe_length]; exact hl)]
    · rw [List.getElem?_set_ne e]
      exact wipe_in (by simpa [Ne.symm e] using h) hl
theorem wipe_off {σ σ2 : L2.St} {is vs : List Nat} (h : Off is (L2.wipe σ vs) σ2) (hs : is.all (vs.contains ·) = true) : L2.wipe σ2 vs = L2.wipe σ vs := by
  have hl : σ2.length = σ.length := by rw [h.1, wipe_length]
  refine List.ext_getElem? fun i => ?_
  by_cases hi : i ∈ vs
  · by_cases hlt : i < σ.length
    · rw [wipe_in hi (by rw [hl]; exact hlt), wipe_in hi hlt]
    · rw [List.getElem?_eq_none (by rw [wipe_length, hl]; omega), List.getElem?_eq_none (by rw [wipe_length]; omega)]
  · rw [wipe_out hi]
    refine h.2 i fun z => hi ?_
    have := List.all_eq_true.mp hs i z
    simpa using this
/-- one more banned -/
theorem RelS.ban1 (S : RelS K cls w μ) {p : Addr} {o : HO} (h : w.H p = none) : RelS K cls ⟨w.ι, p :: w.B, upd w.H p o⟩ μ where
  len := S.len
  nd := S.nd
  ban := fun b hb => by
    rcases List.mem_cons.mp hb with e | hb
    · subst e
      exact ⟨(S.free h).1, o, upd_same⟩
    · obtain ⟨h1, u, h2⟩ := S.ban b hb
      exact ⟨h1, u, by show upd w.H p o b = some u; rw [upd_ne (ne_of_none h2 h)]; exact h2⟩
  cell := fun n c e => by
    obtain ⟨a, h1, h2⟩ := S.cell n c e
    refine ⟨a, h1, h2.mono (kp_ban h) fun u e => ?_⟩
    show upd w.H p o a = some u
    rw [upd_ne (ne_of_none e h)]
    exact e
where
  kp_ban {p : Addr} {o : HO} (h : w.H p = none) : Kp w ⟨w.ι, p :: w.B, upd w.H p o⟩ := ⟨fun a u hi hb e => ⟨by
    show upd w.H p o a = some u
    rw [upd_ne (ne_of_none e h)]
    exact e, hi, fun z => (List.mem_cons.mp z).elim (fun e1 => ne_of_none e h e1) hb⟩, fun n a e => e⟩
end

section
variable {K : PySem.W.Frag} {cls : Nat → Option Addr} {w w1 w' w4 : Wd} {μ : Store}
theorem kp_bump {p : Addr} {o : HO} (hp : p ∈ w.B) : Kp w ⟨w.ι, w.B, upd w.H p o⟩ := ⟨fun a u hi hb e => ⟨by
    show upd w.H p o a = some u
    rw [upd_ne fun z => hb (by rw [z]; exact hp)]
    exact e, hi, hb⟩, fun n a e => e⟩
theorem RelS.bump (S : RelS K cls w μ) {p : Addr} {o : HO} (hp : p ∈ w.B) : RelS K cls ⟨w.ι, w.B, upd w.H p o⟩ μ where
  len := S.len
  nd := S.nd
  ban := fun b hb => by
    obtain ⟨h1, u, h2⟩ := S.ban b hb
    refine ⟨h1, ?_⟩
    by_cases e : b = p
    · subst e
      exact ⟨o, upd_same⟩
    · exact ⟨u, by show upd w.H p o b = some u; rw [upd_ne e]; exact h2⟩
  cell := fun n c e => by
    obtain ⟨a, h1, h2⟩ := S.cell n c e
    refine ⟨a, h1, h2.mono (kp_bump hp) fun u e => ?_⟩
    show upd w.H p o a = some u
    rw [upd_ne fun z => (S.ban p hp).1 (by rw [← z]; exact List.mem_of_getElem? h1)]
    exact e
theorem Step.under {B : List Addr} (st : Step w1 ⟨w'.ι, B, w'.H⟩) (s : Step w' w4) : Step w1 ⟨w4.ι, B, w4.H⟩ where
  keep := fun a o hi e => s.keep a o (st.notin e hi) (st.keep a o hi e)
  pre := by
    obtain ⟨l, e⟩ := st.pre
    obtain ⟨l', e'⟩ := s.pre
    exact ⟨l ++ l', by show w4.ι = _; rw [e', show w'.ι = _ from e, List.append_assoc]⟩
  fresh := fun a h n => by
    by_cases q : a ∈ w'.ι
    · exact st.fresh a q n
    · have z := s.fresh a h q
      cases e : w1.H a with
      | none => rfl
      | some o =>
        have := st.keep a o n e
        rw [show w'.H a = none from z] at this
        cases this
  ban := st.ban
theorem Step.bumped {B : List Addr} {p : Addr} {o : HO} (st : Step w1 ⟨w'.ι, B, w'.H⟩) (h : w1.H p = none) : Step w1 ⟨w'.ι, B, upd w'.H p o⟩ where
  keep := fun a u hi e => by
    show upd w'.H p o a = some u
    rw [upd_ne (ne_of_none e h)]
    exact st.keep a u hi e
  pre := st.pre
  fresh := st.fresh
  ban := st.ban
theorem kp_unban {B : List Addr} {p : Addr} (hB : w.B = p :: B) : Kp w ⟨w.ι, B, w.H⟩ := ⟨fun a o hi hb e => ⟨e, hi, fun z => hb (by rw [hB]; exact List.mem_cons_of_mem _ z)⟩, fun n a e => e⟩
theorem RelS.unban {B : List Addr} {p : Addr} (S : RelS K cls w μ) (hB : w.B = p :: B) : RelS K cls ⟨w.ι, B, w.H⟩ μ := by
  have kp : Kp w ⟨w.ι, B, w.H⟩ := kp_unban hB
  exact ⟨S.len, S.nd, fun b hb => S.ban b (by rw [hB]; exact List.mem_cons_of_mem _ hb), fun n c e => by
    obtain ⟨a, h1, h2⟩ := S.cell n c e
    exact ⟨a, h1, h2.mono kp fun u e => e⟩⟩
theorem RVs.unban {B : List Addr} {p : Addr} {ds : List D} {vs : List V} (r : RVs K cls w ds vs) (hB : w.B = p :: B) : RVs K cls ⟨w.ι, B, w.H⟩ ds vs :=
  RVs.mono (kp_unban hB) r
theorem lc_ok {wi : TI} {fi : FI} {is vs : List Nat} {g : D → Env → Store → Res Env} {ft : FT} {fe : FE}
    (h1 : ∀ (σ : L2.St) (R : It → Hp → Prop) (w : Wd) (ρ : Env) (μ : Store), RelS K cls w μ → RelE K cls w ρ σ → PostR K cls w (fun w' it => ∀ J, Wk K cls J w' it.1 it.2 → R J w'.H) (fi ρ μ) → wi σ w.H R)
    (hs : is.all (vs.contains ·) = true) {σ : L2.St} {Q : VK} {ρ : Env} (S : RelS K cls w μ) (E : RelE K cls w ρ σ) (h : PostR K cls w (fun w' d => ∀ v, RV K cls w' d v → Q v w'.H) (eLc vs fi g ft fe ρ μ)) :
    tLc wi (TGof K cls is g) (TTof K cls ft) (TEof K cls fe) vs σ w.H Q := by
  refine h1 σ _ w ρ μ S E ((PostR.bind h).imp fun w1 it s1 ⟨μ1, S1, q1⟩ J wk => ?_)
  obtain ⟨items, src⟩ := it
  have E1 := E.mono s1.kp
  intro p hp
  refine ⟨fun i m H => m = items.length - i ∧ i ≤ items.length ∧ ∃ (w' : Wd) (μ' : Store) (acc : List D) (us : List V), w'.H = H ∧ w'.B = p :: w1.B ∧ Step w1 ⟨w'.ι, w1.B, w'.H⟩ ∧ RelS K cls w' μ' ∧ H p = some (.lst us) ∧
      RVs K cls w' acc us ∧ PostR K cls w1 (fun w' d => ∀ v, RV K cls w' d v → Q v w'.H) (lcL items src g ft fe (wipeE ρ vs) (items.drop i) μ' acc),
    ⟨items.length, by simp, Nat.zero_le _, ⟨w1.ι, p :: w1.B, upd w1.H p (.lst [])⟩, μ1, [], [], rfl, rfl, step_new hp, S1.ban1 hp, upd_same, rfl, by simpa using q1⟩, ?_⟩
  rintro i m H ⟨rfl, hle, w', μ', acc, us, rfl, hB, st, S', hD, racc, q⟩
  have kp : Kp w1 w' := ⟨fun a o hi hb e => ⟨st.keep a o hi e, st.notin e hi, fun z => by
      rw [hB] at z
      rcases List.mem_cons.mp z with e1 | z
      · exact ne_of_none e hp e1
      · exact hb z⟩, fun n a e => st.loc e⟩
  have E' := (E1.mono kp).wipe vs
  by_cases hlt : i < items.length
  · rw [List.drop_eq_getElem_cons hlt] at q
    simp only [lcL] at q
    split at q
    · rename_i so
      obtain ⟨wd, _⟩ := wk i w' μ' kp S' so
      obtain ⟨go, yld⟩ := wd items[i] (List.getElem?_eq_getElem hlt)
      refine .inr ⟨go, fun H => ∃ (w' : Wd) (μ' : Store) (acc : List D) (us : List V), w'.H = H ∧ w'.B = p :: w1.B ∧ Step w1 ⟨w'.ι, w1.B, w'.H⟩ ∧ RelS K cls w' μ' ∧ H p = some (.lst us) ∧
          RVs K cls w' acc us ∧ PostR K cls w1 (fun w' d => ∀ v, RV K cls w' d v → Q v w'.H) (lcL items src g ft fe (wipeE ρ vs) (items.drop (i + 1)) μ' acc), fun H z => ⟨_, by omega, rfl, hlt, z⟩, fun x H2 y => ?_⟩
      obtain ⟨w2, rfl, st2, S2, rx⟩ := yld x H2 y
      refine ⟨w2, wipeE ρ vs, μ', items[i], rfl, S2, E'.mono st2.kp, rx, (PostR.bind0 q).imp fun w3 ρ3 _ ⟨st3, μ3, S3, q3⟩ σ3 E3 off => ⟨wipe_off off hs, w3, ρ3, μ3, rfl, S3, E3, (PostR.bind0 q3).imp fun w4 b _ ⟨st4, μ4, S4, q4⟩ => ?_⟩⟩
      have st14 : Step w' w4 := (st2.trans st3).trans st4
      have stw := st.under st14
      have hpB : p ∈ w'.B := by rw [hB]; exact List.mem_cons_self
      cases b with
      | false =>
        refine iteF ?_
        exact ⟨w4, μ4, acc, us, rfl, st14.ban.trans hB, stw, S4, st14.keep p _ (S'.ban p hpB).1 hD, racc.mono st14.kp, by simpa using q4⟩
      | true =>
        refine iteT ?_
        simp only [if_true] at q4
        refine ⟨w4, ρ3, μ4, rfl, S4, E3.mono st4.kp, (PostR.bind0 q4).imp fun w5 y _ ⟨st5, μ5, S5, q5⟩ v rv => ?_⟩
        have st15 : Step w' w5 := st14.trans st5
        split at q5
        · rename_i hl
          have hB5 : w5.B = p :: w1.B := st15.ban.trans hB
          have hp5 : p ∈ w5.B := by rw [hB5]; exact List.mem_cons_self
          refine ⟨us, st15.keep p _ (S'.ban p hpB).1 hD, by rw [racc.length]; exact lim_lt hl, ⟨w5.ι, w5.B, upd w5.H p (.lst (us ++ [v]))⟩, μ5, acc ++ [y], us ++ [v], rfl, hB5, (st.under st15).bumped hp, S5.bump hp5, upd_same, ?_, q5⟩
          exact ((racc.mono st15.kp).append (.cons rv .nil)).mono (kp_bump hp5)
        · exact q5.elim
    · exact q.elim
  · have e : i = items.length := by omega
    subst e
    rw [List.drop_length] at q
    simp only [lcL] at q
    split at q
    · rename_i so
      obtain ⟨_, stop⟩ := wk items.length w' μ' kp S' so
      refine .inl ⟨stop (Nat.le_refl _), q ⟨w'.ι, w1.B, w'.H⟩ st (S'.unban hB) _ ⟨p, us, rfl, ⟨hD, (S'.ban p (by rw [hB]; exact List.mem_cons_self)).1, (S1.free hp).2⟩, racc.unban hB⟩⟩
    · exact q.elim
end
section
variable {X : Cx} {cls : Nat → Option Addr} {elt tg iter : Expr} {ifs : List Expr} {scope : Scope} {own : List (Str × Nat)} {pos : Pos} {is : List Nat} {fi : FI} {g : D → Env → Store → Res Env} {ft : FT} {fe : FE}
theorem se_lc (hc : X.calm = true) (hN : X.N.Nodup) (hi : SI X cls tg iter fi) (ok : BlkOk X.N X.env.scope scope own)
    (hg : ∀ (s : Shared) (H : Hp) (C : Addr) (cl : List (Str × Addr)) (fp : List Addr), SG (X.blk s H scope (compEnvC scope cl C X.env) fp) cls tg is g) (ht : ∀ (s : Shared) (H : Hp) (C : Addr) (cl : List (Str × Addr)) (fp : List Addr), STs (X.blk s H scope (compEnvC scope cl C X.env) fp) cls ifs ft)
    (he : ∀ (s : Shared) (H : Hp) (C : Addr) (cl : List (Str × Addr)) (fp : List Addr), SE (X.blk s H scope (compEnvC scope cl C X.env) fp) cls elt fe) (hs : is.all ((own.map (·.2)).contains ·) = true := by decide) (hf : ∀ x, foldedSetIterable iter X.env x = pure x := by intro _; rfl) :
    SE X cls (.ListComp elt [⟨tg, iter, ifs, 0⟩] scope pos) (eLc (own.map (·.2)) fi g ft fe) := by
  obtain ⟨t1, p1, h1⟩ := hi
  exact ⟨_, pe_lc (g := TGof X.K cls is g) (tt := TTof X.K cls ft) (te := TEof X.K cls fe) hc hN p1 ok (fun s H C cl fp => (hg s H C cl fp).pg) ht (fun s H C cl fp => (he s H C cl fp).pe) hf, fun σ Q w ρ μ S E h => lc_ok h1 hs S E h⟩
theorem ss_setLc {i : Nat} {y : Str} {py spos : Pos} (hc : X.calm = true) (hN : X.N.Nodup) (hy : X.N[i]? = some y) (hyl : X.env.scope.names.lookup y = some .local) (hsw : swapsWith (.ListComp elt [⟨tg, iter, ifs, 0⟩] scope pos) (some (.Name y py)) spos.line X.env = pure true)
    (hi : SI X cls tg iter fi) (ok : BlkOk X.N X.env.scope scope own)
    (hg : ∀ (s : Shared) (H : Hp) (C : Addr) (cl : List (Str × Addr)) (fp : List Addr), SG (X.blk s H scope (compEnvC scope cl C X.env) fp) cls tg is g) (ht : ∀ (s : Shared) (H : Hp) (C : Addr) (cl : List (Str × Addr)) (fp : List Addr), STs (X.blk s H scope (compEnvC scope cl C X.env) fp) cls ifs ft)
    (he : ∀ (s : Shared) (H : Hp) (C : Addr) (cl : List (Str × Addr)) (fp : List Addr), SE (X.blk s H scope (compEnvC scope cl C X.env) fp) cls elt fe) (hs : is.all ((own.map (·.2)).contains ·) = true := by decide) (hf : ∀ x, foldedSetIterable iter X.env x = pure x := by intro _; rfl) :
    SS X cls (.Assign [.Name y py] (.ListComp elt [⟨tg, iter, ifs, 0⟩] scope pos) spos) (sAsg (gVar i) (eLc (own.map (·.2)) fi g ft fe)) := by
  obtain ⟨t1, p1, h1⟩ := hi
  refine ⟨_, ps_setLc (g := TGof X.K cls is g) (tt := TTof X.K cls ft) (te := TEof X.K cls fe) hc hN hy hyl hsw p1 ok (fun s H C cl fp => (hg s H C cl fp).pg) ht (fun s H C cl fp => (he s H C cl fp).pe) hf, fun D σ w ρ μ S E h => ?_⟩
  refine lc_ok (Q := fun x H1 => L2.gName i x σ H1 D.nx) h1 hs S E ((PostS.bind h).imp fun w1 d s1 ⟨μ1, S1, q1⟩ v r1 => ?_)
  unfold gVar at q1
  split at q1
  · exact q1 w1 _ Step.refl S1 ((E.mono s1.kp).set r1)
  · exact q1.elim
end

/-! ### a list that changes: it becomes a place -/
/-- xs = [..] (the list is new and nothing else) becomes the next place -/
def sNewL (i : Nat) (fs : FA) : FS := fun ρ μ => rS (fs ρ μ) fun ds μ1 => if ds.length ≤ LIM ∧ i < ρ.length then .nx (ρ.set i (some (.loc μ1.length))) (μ1 ++ [.lst ds]) else .stuck
section
variable {K : PySem.W.Frag} {cls : Nat → Option Addr} {w : Wd} {μ : Store}
theorem kp_add {p : Addr} {o : HO} (h : w.H p = none) : Kp w ⟨w.ι ++ [p], w.B, upd w.H p o⟩ := ⟨fun a u hi hb e => ⟨by
    show upd w.H p o a = some u
    rw [upd_ne (ne_of_none e h)]
    exact e, fun z => (List.mem_append.mp z).elim hi fun z => ne_of_none e h (by simpa using z), hb⟩, fun n a e => by
    rw [List.getElem?_append_left (List.getElem?_eq_some_iff.mp e).1]
    exact e⟩
theorem step_add {p : Addr} {o : HO} (h : w.H p = none) : Step w ⟨w.ι ++ [p], w.B, upd w.H p o⟩ where
  keep := fun a u hi e => by
    show upd w.H p o a = some u
    rw [upd_ne (ne_of_none e h)]
    exact e
  pre := ⟨[p], rfl⟩
  fresh := fun a hm hn => by
    have : a = p := (List.mem_append.mp hm).elim (fun z => absurd z hn) fun z => by simpa using z
    rw [this]
    exact h
  ban := rfl
theorem RelS.add (S : RelS K cls w μ) {p : Addr} {o : HO} {c : Cell} (h : w.H p = none) (hc : CellOk K cls ⟨w.ι ++ [p], w.B, upd w.H p o⟩ p c) : RelS K cls ⟨w.ι ++ [p], w.B, upd w.H p o⟩ (μ ++ [c]) where
  len := by rw [List.length_append, List.length_append, S.len]; rfl
  nd := by
    rw [List.nodup_append]
    refine ⟨S.nd, by simp, fun a ha b hb e => ?_⟩
    have hb : b = p := by simpa using hb
    rw [e, hb] at ha
    exact (S.free h).1 ha
  ban := fun b hb => by
    obtain ⟨h1, u, h2⟩ := S.ban b hb
    have hbp : b ≠ p := ne_of_none h2 h
    exact ⟨fun z => (List.mem_append.mp z).elim h1 fun z => hbp (by simpa using z), u, by show upd w.H p o b = some u; rw [upd_ne hbp]; exact h2⟩
  cell := fun n c' e => by
    by_cases hn : n < μ.length
    · rw [List.getElem?_append_left hn] at e
      obtain ⟨a, h1, h2⟩ := S.cell n c' e
      refine ⟨a, by rw [List.getElem?_append_left (by rw [S.len]; exact hn)]; exact h1, h2.mono (kp_add h) fun u e => ?_⟩
      show upd w.H p o a = some u
      rw [upd_ne (ne_of_none e h)]
      exact e
    · rw [List.getElem?_append_right (by omega)] at e
      have hn2 : n - μ.length = 0 := by
        have := (List.getElem?_eq_some_iff.mp e).1
        simp at this
        omega
      rw [hn2] at e
      cases e
      refine ⟨p, ?_, hc⟩
      rw [List.getElem?_append_right (by rw [S.len]; omega), S.len, hn2]
      rfl
end
section
variable {X : Cx} {cls : Nat → Option Addr} {es : List Expr} {fs : FA} {pos pos2 : Pos}
theorem ss_newL (i : Nat) {x : Str} {pos' : Pos} (hN : X.N.Nodup) (he : SA X cls es fs) (hi : X.N[i]? = some x := by rfl) (hx : Loc X.env.scope x := by first | exact .inl rfl | exact .inr rfl) (hs : swapsWith (.List es pos2) (some (.Name x pos')) pos.line X.env = pure false := by rfl)
    (hf : X.fn x = true ∨ X.env.scope.names.lookup x = some .local := by first | exact .inl rfl | exact .inr rfl) : SS X cls (.Assign [.Name x pos'] (.List es pos2) pos) (sNewL i fs) := by
  obtain ⟨t1, p1, h1⟩ := he
  refine ⟨_, ps_set hN hi hx (pe_lst p1) hs hf, fun D σ w ρ μ S E h => ?_⟩
  refine h1 σ _ w ρ μ S E ((PostS.bind h).imp fun w1 d s1 ⟨μ1, S1, q1⟩ v r1 => ?_)
  split at q1
  · rename_i hl
    refine ⟨by rw [r1.length]; exact lim_le hl.1, fun p hp => ?_⟩
    refine q1 ⟨w1.ι ++ [p], w1.B, upd w1.H p (.lst v)⟩ _ (step_add hp) (S1.add hp ⟨v, upd_same, r1.mono (kp_add hp)⟩) (((E.mono s1.kp).mono (kp_add hp)).set (v := .ref p) ⟨p, rfl, ?_⟩)
    rw [List.getElem?_append_right (by rw [S1.len]; omega), S1.len, Nat.sub_self]
    rfl
  · exact q1.elim
end

/-! ### a def -/
def mD (m : Nat) (g : FS) : List D → Store → Res D := fun ds μ => match g (ds.map some ++ List.replicate (m - ds.length) none) μ with
  | .rt d μ' => .ok d μ'
  | .nx _ μ' => .ok .non μ'
  | _ => .stuck
mutual
/-- no place from n on in it -/
def low (n : Nat) : D → Bool
  | .tup ds => lows n ds
  | .lst ds => lows n ds
  | .obj _ _ ds => lows n ds
  | .loc k => decide (k < n)
  | _ => true
def lows (n : Nat) : List D → Bool
  | [] => true
  | d :: ds => low n d && lows n ds
end
def lowC (n : Nat) : Cell → Bool
  | .lst ds => lows n ds
  | .ins _ _ ds => lows n ds
/-- a def's own lists are gone behind it; one that it hands back is frozen -/
def fin (n : Nat) : Res D → Res D
  | .ok d μ => match d with
    | .loc k => if k < n then (if (μ.take n).all (lowC n) = true then .ok (.loc k) (μ.take n) else .stuck) else match μ[k]? with
      | some (.lst ds) => if (lows n ds && (μ.take n).all (lowC n)) = true then .ok (.lst ds) (μ.take n) else .stuck
      | _ => .stuck
    | d => if (low n d && (μ.take n).all (lowC n)) = true then .ok d (μ.take n) else .stuck
  | .stuck => .stuck
def mDf (m : Nat) (g : FS) : List D → Store → Res D := fun ds μ => fin μ.length (mD m g ds μ)
end Fw

set_option Elab.async false
set_option linter.all false
set_option maxRecDepth 100000
set_option autoImplicit false
/-! New lists as places, defs. -/
namespace Fw
open PySem L2 PyProof.Rows

def thaw : Res D → Res D
  | .ok (.lst ds) μ => .ok (.loc μ.length) (μ ++ [.lst ds])
  | _ => .stuck
def eThaw (f : FE) : FE := fun ρ μ => thaw (f ρ μ)
section
variable {K : PySem.W.Frag} {cls : Nat → Option Addr} {w : Wd} {μ : Store} {Q : VK}
/-- a list is laid at p and becomes the next place -/
theorem thaw_new (S : RelS K cls w μ) {ds : List D} {vs : List V} (r : RVs K cls w ds vs) (h : PostR K cls w (fun w' d => ∀ v, RV K cls w' d v → Q v w'.H) (thaw (.ok (.lst ds) μ))) {p : Addr} (hp : w.H p = none) : Q (.ref p) (upd w.H p (.lst vs)) := by
  refine h ⟨w.ι ++ [p], w.B, upd w.H p (.lst vs)⟩ (step_add hp) (S.add hp ⟨vs, upd_same, r.mono (kp_add hp)⟩) _ ⟨p, rfl, ?_⟩
  show (w.ι ++ [p])[μ.length]? = some p
  rw [List.getElem?_append_right (by rw [S.len]; omega), S.len, Nat.sub_self]
  rfl
theorem PostR.thaw {α : Type} {R : Wd → D → Prop} {r : Res α} {f : α → Store → Res D} (h : PostR K cls w R (thaw (r.bind f))) : PostR K cls w (fun w' a => ∃ μ', RelS K cls w' μ' ∧ PostR K cls w' R (thaw (f a μ'))) r := by
  cases r with
  | ok a μ => exact fun w' s S => ⟨μ, S, PostR.step s h⟩
  | stuck => exact h
end
section
variable {X : Cx} {cls : Nat → Option Addr} {a b : Expr} {fa fb : FE} {es : List Expr} {fs : FA} {p pos : Pos}
theorem se_lstT (ha : SA X cls es fs) : SE X cls (.List es pos) (eThaw (eLst fs)) := by
  obtain ⟨t1, p1, h1⟩ := ha
  refine ⟨_, pe_lst p1, fun σ Q w ρ μ S E h => ?_⟩
  refine h1 σ _ w ρ μ S E ((PostR.thaw h).imp fun w1 d s1 ⟨μ1, S1, q1⟩ v r1 => ?_)
  by_cases hl : d.length ≤ LIM
  · rw [if_pos hl] at q1
    exact ⟨by rw [r1.length]; exact lim_le hl, fun p hp => thaw_new S1 r1 q1 hp⟩
  · rw [if_neg hl] at q1
    exact q1.elim
theorem se_listT (hg : Gl X "list") (hm : X.mg "list" = none) (ha : SE X cls a fa) (hs : starEach [a] X.env = (false, eval a X.env) :: starEach [] X.env := by rfl) (hpl : (backTo pos (starEach [] X.env)).any (·.1) = false := by rfl) :
    SE X cls (.Call (.Name "list" p) [a] [] pos) (eThaw (eCall cList (aCons fa aNil))) := by
  obtain ⟨t1, p1, h1⟩ := ha
  refine ⟨_, pe_callTy call_list_of hg hm (by decide +kernel) (pa_cons p1 pa_nil hs) (by decide +kernel) (by decide +kernel) hs hpl, fun σ Q w ρ μ S E h => ?_⟩
  have h : PostR X.K cls w (fun w' d => ∀ v, RV X.K cls w' d v → Q v w'.H) (thaw ((fa ρ μ).bind fun d μ1 => cList [d] μ1)) := by
    unfold eThaw eCall aCons aNil at h
    cases hf : fa ρ μ with
    | ok d μ1 => rw [hf] at h; exact h
    | stuck => rw [hf] at h; exact h
  refine h1 σ _ w ρ μ S E ((PostR.thaw h).imp fun w1 d s1 ⟨μ1, S1, q1⟩ v r1 => ?_)
  simp only [cList] at q1
  split at q1
  · rename_i es hd
    obtain ⟨l, vs, e, h3, h4⟩ := seqOf_at S1 r1 hd
    exact ⟨l, vs, congrArg (fun z => [z]) e, h3, fun p hp => thaw_new S1 h4 q1 hp⟩
  · exact q1.elim
theorem se_repT (ha : SE X cls a fa) (hb : SE X cls b fb) : SE X cls (.BinOp a .Mult b pos) (eThaw (eBin oMul fa fb)) := by
  obtain ⟨t1, p1, h1⟩ := ha
  obtain ⟨t2, p2, h2⟩ := hb
  refine ⟨_, pe_op op_rep p1 p2, fun σ Q w ρ μ S E h => ?_⟩
  refine h1 σ _ w ρ μ S E ((PostR.thaw h).imp fun w1 d s1 ⟨μ1, S1, q1⟩ v r1 => ?_)
  refine h2 σ _ w1 ρ μ1 S1 (E.mono s1.kp) ((PostR.thaw q1).imp fun w2 e s2 ⟨μ2, S2, q2⟩ u r2 => ?_)
  have r1 := r1.mono s2.kp
  unfold oMul at q2
  split at q2
  · split at q2 <;> exact q2.elim
  · split at q2 <;> exact q2.elim
  · split at q2
    · rename_i a ha
      split at q2
      · rename_i hs
        obtain ⟨l, vs, e1, h1, h2⟩ := lstOf_at S2 r1 ha
        have hm : ∀ n : Nat, n ≤ 1000 → vs.length * n ≤ sizeLine := fun n hn => by
          rw [h2.length]
          exact lim_le (Nat.mul_le_mul hs.2.2 hn)
        exact ⟨l, _, vs, e1, r2, h1, by omega, by omega, hm _ (by omega), fun p hp => thaw_new S2 (h2.rep _) q2 hp⟩
      · exact q2.elim
    · exact q2.elim
  · exact q2.elim
/-- tuple(range(..)), list(range(..)) -/
def eTupRg (fi : FI) : FE := fun ρ μ => (fi ρ μ).bind fun it μ1 => .ok (.tup it.1) μ1
theorem se_tupRg1 (hc : X.calm = true) (hg : Gl X "tuple") (hm : X.mg "tuple" = none) (hg2 : Gl X "range") (hm2 : X.mg "range" = none) (ha : SE X cls a fa) {p2 pos2 : Pos} (na : starEach [a] X.env = (false, eval a X.env) :: starEach [] X.env := by rfl)
    (na2 : starEach [.Call (.Name "range" p2) [a] [] pos2] X.env = (false, eval (.Call (.Name "range" p2) [a] [] pos2) X.env) :: starEach [] X.env := by rfl) :
    SE X cls (.Call (.Name "tuple" p) [.Call (.Name "range" p2) [a] [] pos2] [] pos) (eTupRg (iRange1 fa)) := by
  obtain ⟨t1, p1, h1⟩ := ha
  refine ⟨_, pe_tupRg hc hg hm (prg_1 hg2 hm2 p1 na) na2, fun σ Q w ρ μ S E h => ?_⟩
  have h := PostR.bind h
  refine h1 σ _ w ρ μ S E ((PostR.bind h).imp fun w1 d s1 ⟨μ1, S1, q1⟩ v r1 => ?_)
  cases d with
  | int j =>
    refine ⟨j, r1, ?_⟩
    simp only at q1
    split at q1
    · rename_i hj
      obtain ⟨μ2, S2, q2⟩ := q1 w1 Step.refl S1
      refine ⟨⟨by omega, by omega, by omega, by omega, by omega⟩, fun p hp => ?_⟩
      have r : RVs X.K cls w1 ((List.range j.toNat).map fun i => D.int (0 + (i : Nat))) (rgV 0 j) := by
        have e : rgV 0 j = ((List.range j.toNat).map fun i => (0 + (i : Nat) : Int)).map V.int := by
          unfold rgV
          rw [List.map_map, show (j - 0).toNat = j.toNat by omega]
          rfl
        have e2 : ((List.range j.toNat).map fun i => D.int (0 + (i : Nat))) = ((List.range j.toNat).map fun i => (0 + (i : Nat) : Int)).map D.int := by
          rw [List.map_map]
          rfl
        rw [e, e2]
        exact RVs.ints
      exact q2 (w1.up p (.tup (rgV 0 j))) (step_new hp) (S2.new hp) _ (new_tup S2 hp r)
    · exact q1.elim
  | _ => exact q1.elim
end

/-! ### a def -/
section
variable {K : PySem.W.Frag} {cls : Nat → Option Addr} {w w' : Wd} {μ : Store}
/-- kept but for the places from n on -/
structure Kl (n : Nat) (w w' : Wd) : Prop where
  at_ : ∀ a o, a ∉ w.ι → a ∉ w.B → w.H a = some o → w'.H a = some o ∧ a ∉ w'.ι ∧ a ∉ w'.B
  loc : ∀ (k : Nat) (a : Addr), k < n → w.ι[k]? = some a → w'.ι[k]? = some a
mutual
theorem RV.low {n : Nat} (s : Kl n w w') : ∀ {d : D} {v : V}, low n d = true → RV K cls w d v → RV K cls w' d v
  | .non, _, _, h => h
  | .bl _, _, _, h => h
  | .int _, _, _, h => h
  | .str _, _, _, h => h
  | .tup ds, _, l, ⟨a, vs, e, h, r⟩ => ⟨a, vs, e, (match h with
    | .inl ⟨h, m, b⟩ => .inl (s.at_ a _ m b h)
    | .inr h => .inr h), RVs.low s l r⟩
  | .lst ds, _, l, ⟨a, vs, e, ⟨h, m, b⟩, r⟩ => ⟨a, vs, e, s.at_ a _ m b h, RVs.low s l r⟩
  | .flst _, _, _, ⟨a, e, h⟩ => ⟨a, e, match h with
    | .inl ⟨⟨o, h⟩, m, b⟩ => let z := s.at_ a _ m b h; .inl ⟨⟨o, z.1⟩, z.2⟩
    | .inr h => .inr h⟩
  | .obj _ _ ds, _, l, ⟨a, C, dx, vs, e, c, ⟨h, m, b⟩, hl, r⟩ => ⟨a, C, dx, vs, e, c, s.at_ a _ m b h, hl, RVs.low s l r⟩
  | .loc _, _, l, ⟨a, e, h⟩ => ⟨a, e, s.loc _ _ (of_decide_eq_true l) h⟩
theorem RVs.low {n : Nat} (s : Kl n w w') : ∀ {ds : List D} {vs : List V}, lows n ds = true → RVs K cls w ds vs → RVs K cls w' ds vs
  | [], _, _, h => h
  | d :: ds, _, l, ⟨v, r, e, h, t⟩ => by
    have l : Fw.low n d = true ∧ lows n ds = true := by simpa [lows] using l
    exact ⟨v, r, e, RV.low s l.1 h, RVs.low s l.2 t⟩
end
/-- the places from the entry's on are gone -/
theorem kl_cut (s : Step w w') : Kl w.ι.length w' ⟨w.ι, w'.B, w'.H⟩ := ⟨fun a o hi hb e => ⟨e, fun z => hi (by obtain ⟨l, e⟩ := s.pre; rw [e]; exact List.mem_append_left _ z), hb⟩, fun k a hk e => by
  obtain ⟨l, el⟩ := s.pre
  rw [el, List.getElem?_append_left hk] at e
  exact e⟩
theorem step_cut (s : Step w w') : Step w ⟨w.ι, w'.B, w'.H⟩ := ⟨s.keep, ⟨[], by simp⟩, fun a h n => absurd h n, s.ban⟩
theorem RelS.cut (S : RelS K cls w μ) {μ' : Store} (s : Step w w') (S' : RelS K cls w' μ') (h : (μ'.take μ.length).all (lowC μ.length) = true) : RelS K cls ⟨w.ι, w'.B, w'.H⟩ (μ'.take μ.length) := by
  have hle : μ.length ≤ μ'.length := by
    obtain ⟨l, e⟩ := s.pre
    rw [← S.len, ← S'.len, e, List.length_append]
    omega
  refine ⟨by rw [List.length_take, S.len]; omega, S.nd, fun b hb => ?_, fun n c e => ?_⟩
  · obtain ⟨h1, h2⟩ := S'.ban b hb
    exact ⟨fun z => h1 (by obtain ⟨l, e⟩ := s.pre; rw [e]; exact List.mem_append_left _ z), h2⟩
  · have hn : n < μ.length := by
      have := (List.getElem?_eq_some_iff.mp e).1
      rw [List.length_take] at this
      omega
    have lc : lowC μ.length c = true := List.all_eq_true.mp h c (List.mem_of_getElem? e)
    rw [List.getElem?_take_of_lt hn] at e
    obtain ⟨a, h1, h2⟩ := S'.cell n c e
    have hk := kl_cut s
    rw [S.len] at hk
    refine ⟨a, hk.loc n a hn h1, ?_⟩
    cases c with
    | lst ds =>
      obtain ⟨vs, e1, r⟩ := h2
      exact ⟨vs, e1, RVs.low hk lc r⟩
    | ins cn ns ds =>
      obtain ⟨C, dx, vs, e0, e1, e2, r⟩ := h2
      exact ⟨C, dx, vs, e0, e1, e2, RVs.low hk lc r⟩
theorem fin_ok {Q : VK} (S : RelS K cls w μ) {r : Res D} (h : PostR K cls w (fun w' d => ∀ v, RV K cls w' d v → Q v w'.H) (fin μ.length r)) : PostR K cls w (fun w' d => ∀ v, RV K cls w' d v → Q v w'.H) r := by
  cases r with
  | stuck => exact h
  | ok d μ' =>
    intro w' s S' v rv
    have hk := kl_cut s
    rw [S.len] at hk
    have plain : (low μ.length d && (μ'.take μ.length).all (lowC μ.length)) = true → PostR K cls w (fun w' d => ∀ v, RV K cls w' d v → Q v w'.H) (.ok d (μ'.take μ.length)) → Q v w'.H := fun hc h => by
      rw [Bool.and_eq_true] at hc
      exact h ⟨w.ι, w'.B, w'.H⟩ (step_cut s) (S.cut s S' hc.2) v (RV.low hk hc.1 rv)
    cases d with
    | loc k =>
      simp only [fin] at h
      split at h
      · rename_i hlt
        split at h
        · rename_i hc
          exact plain (by rw [hc]; simp [low, hlt]) h
        · exact h.elim
      · rename_i hge
        split at h
        · rename_i ds he
          split at h
          · rename_i hc
            rw [Bool.and_eq_true] at hc
            obtain ⟨a, vs, ex, hn, h3, h4⟩ := S'.lst rv he
            refine h ⟨w.ι, w'.B, w'.H⟩ (step_cut s) (S.cut s S' hc.2) v ⟨a, vs, ex, ⟨h3, fun z => ?_, (fun z => (S'.ban a z).1 (List.mem_of_getElem? hn))⟩, RVs.low hk hc.1 h4⟩
            obtain ⟨l, el⟩ := s.pre
            obtain ⟨j, hj, ej⟩ := List.getElem_of_mem z
            have hj : j < w.ι.length := hj
            have hj' : w'.ι[j]? = some a := by rw [el, List.getElem?_append_left hj, List.getElem?_eq_getElem hj, ej]
            obtain ⟨l1, e1⟩ := List.getElem?_eq_some_iff.mp hn
            obtain ⟨l2, e2⟩ := List.getElem?_eq_some_iff.mp hj'
            have : k = j := (List.getElem_inj S'.nd).mp (e1.trans e2.symm)
            have hw : w.ι.length = μ.length := S.len
            omega
          · exact h.elim
        · exact h.elim
    | non => simp only [fin] at h; split at h; exact plain (by assumption) h; exact h.elim
    | bl _ => simp only [fin] at h; split at h; exact plain (by assumption) h; exact h.elim
    | int _ => simp only [fin] at h; split at h; exact plain (by assumption) h; exact h.elim
    | str _ => simp only [fin] at h; split at h; exact plain (by assumption) h; exact h.elim
    | tup _ => simp only [fin] at h; split at h; exact plain (by assumption) h; exact h.elim
    | lst _ => simp only [fin] at h; split at h; exact plain (by assumption) h; exact h.elim
    | flst _ => simp only [fin] at h; split at h; exact plain (by assumption) h; exact h.elim
    | obj _ _ _ => simp only [fin] at h; split at h; exact plain (by assumption) h; exact h.elim
theorem relE_start {N : List Str} : ∀ {ds : List D} {vs : List V}, RVs K cls w ds vs → RelE K cls w (ds.map some ++ List.replicate (N.length - ds.length) none) (L2.start N vs) := fun {ds vs} r => by
  unfold L2.start
  rw [r.length]
  refine ⟨by simp [r.length], fun i d e => ?_⟩
  by_cases hi : i < ds.length
  · rw [List.getElem?_append_left (by simpa using hi), List.getElem?_map, Option.map_eq_some_iff] at e
    obtain ⟨d', e1, e2⟩ := e
    cases e2
    obtain ⟨v, hv, rv⟩ := r.get e1
    refine ⟨v, ?_, rv⟩
    rw [List.getElem?_append_left (by rw [List.length_map, r.length]; exact hi), List.getElem?_map, hv]
    rfl
  · rw [List.getElem?_append_right (by simpa using hi)] at e
    have := List.mem_replicate.mp (List.mem_of_getElem? e)
    cases this.2
end
section
variable {P : Program} {W : World} {K : PySem.W.Frag} {cls : Nat → Option Addr} {mg : Str → Option Value} {base : Heap} {x qual : Str} {st : Stmt} {f : Addr} {fd : FuncData} {N ps : List Str} {k : Nat} {g : FS}
theorem fn_mk (F : Fun K x qual st f fd) (S : FnScope N ps (defScope st))
    (hb : ∀ (cdv : Value) (A : Around) (outer : List PySem.Env) (s : Shared) (H : Hp) (E : XK), Room k (A.deeper (envOfC qual (defScope st) s.heap.objs.size f cdv)) → SSs (cxOf CX0 P W K mg base N qual (defScope st) f cdv A outer s H E).nox cls (defBody st) g) :
    FnOk P W K mg base CX0 (k + 1) f fd ps (spD K cls (mD N.length g) ps.length) := by
  refine F.ok S (fun vs H Q E h => ?_) fun cdv A outer s H vs Q E hr h => ?_
  · obtain ⟨w, ds, μ, _, hl, _, r, _⟩ := h
    rw [r.length, hl]
  · obtain ⟨w, ds, μ, rfl, hl, S', r, h⟩ := h
    obtain ⟨t, p, hk⟩ := hb cdv A outer s w.H E hr
    refine ⟨t, p, hk _ _ w _ μ S' (relE_start r) ?_⟩
    unfold mD at h
    cases hg : g (ds.map some ++ List.replicate (N.length - ds.length) none) μ with
    | nx ρ μ1 => rw [hg] at h; exact fun w' σ s S1 E1 => h w' s S1 _ rfl
    | rt d μ1 => rw [hg] at h; exact fun w' v s S1 r1 => h w' s S1 v r1
    | bk ρ μ1 => rw [hg] at h; exact h.elim
    | ct ρ μ1 => rw [hg] at h; exact h.elim
    | stuck => rw [hg] at h; exact h
theorem df_mk (F : Fun K x qual st f fd) (b : Binds K fd ps []) (hm : mg x = some (.ref f)) (S : FnScope N ps (defScope st))
    (hb : ∀ (cdv : Value) (A : Around) (outer : List PySem.Env) (s : Shared) (H : Hp) (E : XK), Room k (A.deeper (envOfC qual (defScope st) s.heap.objs.size f cdv)) → SSs (cxOf CX0 P W K mg base N qual (defScope st) f cdv A outer s H E).nox cls (defBody st) g) :
    Df P W K cls mg base (k + 1) x ps.length (mD N.length g) := ⟨f, fd, ps, fn_mk F S hb, hm, F.kp, b, rfl⟩
theorem Df.fin {n m : Nat} {g : FS} (h : Df P W K cls mg base k x n (mD m g)) : Df P W K cls mg base k x n (mDf m g) := by
  obtain ⟨f, fd, ps, hf, hm, hk, hb, hn⟩ := h.ex
  refine ⟨f, fd, ps, hf.imp fun vs H Q E h => ?_, hm, hk, hb, hn⟩
  obtain ⟨w, ds, μ, e, hl, S, r, h⟩ := h
  exact ⟨w, ds, μ, e, hl, S, r, fin_ok S h⟩
end
end Fw

set_option Elab.async false
set_option linter.all false
set_option maxRecDepth 100000
set_option autoImplicit false
/-! enumerate over a tuple; more. -/
namespace Fw
open PySem L2 PyProof.Rows

set_option maxHeartbeats 1000000 in
theorem meets_enum1 {v : Value} {o : Obj} {H : Heap → Prop} (B : Begins v o H) :
    Meets (Builtin.«enumerate.__new__» ⟨[.type "enumerate", v], []⟩) (fun _ R s => H s.heap ∧
      R (.ok (.ret (.ref (s.heap.push o).objs.size))) { s with heap := (s.heap.push o).push { cls := .type "enumerate", data := .fields #[.none, .bool false, .ref s.heap.objs.size, rawInt 0, .none, .none] } }) :=
  .of_wp fun prog w A R s h => by
    obtain ⟨hp, g, d, tk, os⟩ := s; obtain ⟨h1, h⟩ := h
    have hsub := sub_enumerate
    have q1 : ∀ {A' : Around} {E : Value → Shared → Prop} {Q : Value → Shared → Prop}, Q (.ref hp.objs.size) ⟨hp.push o, g, d, tk, os⟩ → wpAny (model prog w) A' (pyIter v) Q E ⟨hp, g, d, tk, os⟩ :=
      fun q => B.iter prog w _ _ ⟨hp, g, d, tk, os⟩ _ h1 q
    wp_walk using q1
    refine wpAny_stack_any fun st => wpAny_pure ?_
    split
    · rename_i c _ _ _ _ _
      cases (c == Value.type "enumerate")
      · wp_walk using q1
        exact ⟨_, rfl, h⟩
      · wp_walk using q1
        exact ⟨_, rfl, h⟩
    · wp_walk using q1
      exact ⟨_, rfl, h⟩
section
variable {prog : Program} {w : World} {A : Around} {E : Value → Shared → Prop} {s : Shared}
theorem enum_begins1 {v : Value} {o : Obj} {H : Heap → Prop} {Q : Value → Shared → Prop} (B : Begins v o H) (h1 : H s.heap)
    (h : ∀ h', IsEnum h' (s.heap.objs.size + 1) s.heap.objs.size 0 .none → h'.get? s.heap.objs.size = some o → h'.objs.size = s.heap.objs.size + 2 →
      (∀ b o, s.heap.get? b = some o → h'.get? b = some o) → Q (.ref (s.heap.objs.size + 1)) { s with heap := h' }) :
    wpAny (model prog w) A (call (.type "enumerate") [v]) Q E s := by
  refine callType_new F.called_enumerate (by decide) (F.typeCall_enumerate_1 _) (F.newCall_enumerate_1 _) (fun obj => F.args_object_init_2 obj _) F.entry_enumerate_new
    (meets_enum1 B) ⟨h1, ?_⟩
  have hz : (s.heap.push o).objs.size = s.heap.objs.size + 1 := Heap.size_push ..
  show _ ∧ _
  rw [hz]
  have hg : ((s.heap.push o).push { cls := .type "enumerate", data := .fields #[.none, .bool false, .ref s.heap.objs.size, rawInt 0, .none, .none] }).get? (s.heap.objs.size + 1) =
      some { cls := .type "enumerate", data := .fields #[.none, .bool false, .ref s.heap.objs.size, rawInt 0, .none, .none] } := by
    rw [← hz]
    exact Heap.get?_push_size _ rfl
  refine ⟨⟨_, hg, rfl⟩, h _ hg (Heap.get?_push_of_some _ (Heap.get?_push_size _ B.free)) (by rw [Heap.size_push, hz]) fun b o e => Heap.get?_push_of_some _ (Heap.get?_push_of_some _ e)⟩
end

/-- the tuple at a, each item in a new pair -/
def IteT (K : PySem.W.Frag) (a : Addr) : It :=
  ⟨fun i H => ∃ (xs : List V) (x : V), SqT K H a xs ∧ xs[i]? = some x, fun i H v H' => ∃ T x, v = .ref T ∧ H T = none ∧ H' = upd H T (.tup [.int (i : Nat), x]) ∧ ∀ xs, SqT K H a xs → xs[i]? = some x, fun i H => ∃ xs : List V, SqT K H a xs ∧ xs.length ≤ i⟩
theorem turn_enumT {P : Program} {w : World} {K : PySem.W.Frag} {elts : List Expr} {kk : Nat} {tpos : Pos} (a e it : Addr) :
    Turn P w K (.Tuple elts kk tpos) (IteT K a) [e, it] e (fun i h => (∃ old, IsEnum h e it ((i : Nat) : Int) old) ∧ h.IsTupleIter it a i ∧ e ≠ it) where
  mem := by simp
  obj := fun i h st b hb => by
    obtain ⟨⟨old, he⟩, ⟨o, ho, hc, hd⟩, _⟩ := st
    have e' : b = e ∨ b = it := by simpa using hb
    rcases e' with z | z
    · rw [z]; exact ⟨_, he, fun v q => nomatch q⟩
    · rw [z]; exact ⟨o, ho, fun v q => by rw [hd] at q; cases q⟩
  keep := fun i h h' st k => let ⟨⟨old, he⟩, hi, hne⟩ := st; ⟨⟨old, k e (by simp) _ he⟩, hi.at fun o q => k it (by simp) o q, hne⟩
  item := by
    intro X hP hw hK hc i pins s σ H E I hf st hg
    subst hP hw hK
    obtain ⟨⟨old, he⟩, hit, hne⟩ := st
    obtain ⟨xs, x, hq, hx⟩ := hg
    obtain ⟨its, rv, p, hz⟩ := I.tuple hq
    obtain ⟨u, hu, ru⟩ := rv.get hx
    have hel : e < s.heap.objs.size := Heap.lt_size he
    have hil : it < s.heap.objs.size := by obtain ⟨_, q, _⟩ := hit; exact Heap.lt_size q
    have hai : a ≠ it := fun z => by
      obtain ⟨o, ho, hc2, n, hd⟩ := p
      obtain ⟨o', ho', hc', _⟩ := hit
      rw [z, ho'] at ho
      cases ho
      rw [hc'] at hc2
      injection hc2 with z
      exact absurd z (by decide)
    have hae : e ≠ a := fun z => by
      obtain ⟨o, ho, hc2, n, hd⟩ := p
      rw [← z, show s.heap.get? e = _ from he] at ho
      cases ho
      injection hc2 with z
      exact absurd z (by decide)
    have hlt : i < its.toArray.size := by simpa using (List.getElem?_eq_some_iff.mp hu).1
    refine wpAny_pyNext_enum_itemD (Draws.tuple (prog := X.prog) (w := X.w) (A := X.A.in1) (I.ok.hd hc) it a hai its.toArray) he ⟨hit, p⟩ hlt hne (by simp [hne, hae]) fun x' h' tk hP ho hst hT hsz hk => ?_
    have hP : its.toArray[i]? = some x' := hP
    have ex : x' = u := by
      rw [List.getElem?_toArray, hu] at hP
      exact (Option.some.inj hP).symm
    subst ex
    refine ⟨_, rfl, wpAny_letOwnedTupleGo_enum (s := { s with heap := h', toks := tk + 1 }) ho fun h'' he' sb => ?_⟩
    have hT2 : h''.get? s.heap.objs.size = some { cls := .type "tuple", data := .seq #[.int i tk, x'] } := (sb.2 _ (Nat.ne_of_gt hel)).trans hT
    have new : ObjOk X.prog X.w (upd H s.heap.objs.size (.tup [.int (i : Nat), x])) h'' s.heap.objs.size (.tup [.int (i : Nat), x]) :=
      ⟨by show 2 ≤ sizeLine; decide, [.int i tk, x'], .cons ⟨_, rfl⟩ (.cons ru .nil), ⟨_, hT2, rfl, _, rfl⟩⟩
    have I1 : Inv X pins σ (upd H s.heap.objs.size (.tup [.int (i : Nat), x])) { s with heap := h'', toks := tk + 1 } :=
      I.turnedNew (ch := [e, it]) (fun b ob hb q => (sb.2 b (fun z => hb (by simp [z]))).trans (hk b ob (fun z => hb (by simp [z])) (fun z => hb (by simp [z])) q)) hf (Nat.le_refl _) new
    refine ⟨.ref s.heap.objs.size, _, I1, rfl, ⟨_, x, rfl, I.hok.fresh (Nat.le_refl _), rfl, fun ys hy => by rw [I.tuple_inj hy hq]; exact hx⟩, ⟨⟨x', ?_⟩, hst.1.at fun o q => (sb.2 it (Ne.symm hne)).trans q, hne⟩, fun b hb => ?_⟩
    · have e1 : ((i + 1 : Nat) : Int) = (i : Int) + 1 := by omega
      rw [e1]; exact he'
    · have hb' : b < s.heap.objs.size := by
        have e' : b = e ∨ b = it := by simpa using hb
        rcases e' with z | z
        · rw [z]; exact hel
        · rw [z]; exact hil
      rw [upd_ne (Nat.ne_of_lt hb')]
      exact (hf b hb).1
  done := by
    intro X hP hw hK hc i pins s σ H E I hf st hg
    subst hP hw hK
    obtain ⟨⟨old, he⟩, hit, hne⟩ := st
    obtain ⟨xs, hq, hx⟩ := hg
    obtain ⟨its, rv, p, hz⟩ := I.tuple hq
    obtain ⟨f0, f1, f2, f3, f4, f5⟩ := hf it (by simp)
    have hl := rv.length
    have hai : a ≠ it := fun z => by
      obtain ⟨o, ho, hc2, n, hd⟩ := p
      obtain ⟨o', ho', hc', _⟩ := hit
      rw [z, ho'] at ho
      cases ho
      rw [hc'] at hc2
      injection hc2 with z
      exact absurd z (by decide)
    have hge : its.toArray.size ≤ i := by simp; omega
    have D : Draws X.prog X.w X.A.in1 it [it, a] i (fun i v => its.toArray[i]? = some v) (fun k h => k = i ∧ h.IsTupleIter it a i ∧ h.IsTuple a its.toArray) := {
      live := fun _ _ st => let ⟨o, ho, _⟩ := st.2.1; ⟨o, ho⟩
      frame := fun _ _ _ st hk => ⟨st.1, st.2.1.at fun o e => hk it (by simp) o e, st.2.2.at fun o e => hk a (by simp) o e⟩
      item := fun j s Q E hj st hQ => absurd st.1 (Nat.ne_of_lt hj)
      done := fun s Q E st hE => wpAny_nextOf_tuple_end (I.ok.hd hc) st.2.1 st.2.2 (by simp; omega) hE }
    exact wpAny_pyNext_enum_endD D he ⟨rfl, hit, p⟩ fun h' eb => ⟨rfl, I.turned (t' := s.toks) (fun b o hb q => eb b o hb q) f0 f1 f3 f4 f5⟩
  self := fun A i s Q E st h => let ⟨⟨_, he⟩, _⟩ := st; wpAny_pyIter_enum he h
def iEnumT (K : PySem.W.Frag) (ta : TA) : TI := fun σ H R => ta σ H fun vs H1 => ∃ a xs, vs = [.ref a] ∧ SqT K H1 a xs ∧ R (IteT K a) H1
theorem pi_enumT {X : Cx} {e : Expr} {ta : TA} {p pos tpos : Pos} {elts : List Expr} {kk : Nat} (hg : Gl X "enumerate") (hm : X.mg "enumerate" = none) (ha : PA X [e] ta) (hs : starEach [e] X.env = [(false, eval e X.env)] := by rfl) :
    PI X (.Tuple elts kk tpos) (.Call (.Name "enumerate" p) [e] [] pos) (iEnumT X.K ta) := by
  refine ⟨fun pins s σ H R I h => ?_⟩
  refine Call_ (ld_blt I hg hm boot_enumerate (PyProof.Rows.callWith_type1 (thn (ha.run pos pins s σ H _ I h) fun us s1 ⟨vs, H1, I1, r1, q1⟩ => ?_) hs rfl))
  obtain ⟨a, xs, ex, hq, q⟩ := q1
  subst ex
  cases r1 with
  | cons r rr =>
    cases rr
    cases r
    obtain ⟨its, rv, p', hz⟩ := I1.tuple hq
    refine enum_begins1 (begins_tuple a its.toArray) p' fun h' he hit hsz hk => wpAny_pyIter_enum he ?_
    have I2 : Inv X pins σ H1 { s1 with heap := h' } := I1.kept (t' := s1.toks) hk
    refine ⟨s1.heap.objs.size + 1, [s1.heap.objs.size + 1, s1.heap.objs.size], _, _, H1, rfl, I2, turn_enumT a (s1.heap.objs.size + 1) s1.heap.objs.size, ⟨⟨.none, he⟩, ⟨_, hit, rfl, rfl⟩, Nat.succ_ne_self _⟩, fun b hb => ?_, q⟩
    have e' : b = s1.heap.objs.size + 1 ∨ b = s1.heap.objs.size := by simpa using hb
    have hle : s1.heap.objs.size ≤ b := by
      rcases e' with z | z
      · rw [z]; exact Nat.le_add_right _ _
      · rw [z]; exact Nat.le_refl _
    exact I1.fpOk hle (I1.hok.fresh hle)

def enumD (ds : List D) : List D := (ds.zipIdx).map fun p => .tup [.int (p.2 : Nat), p.1]
def oEnum (d : D) (μ : Store) : Res (List D × Option Nat) := match d with
  | .lst ds => .ok (enumD ds, none) μ
  | .tup ds => .ok (enumD ds, none) μ
  | _ => .stuck
def iEnumD (fe : FE) : FI := fun ρ μ => (fe ρ μ).bind fun d μ1 => oEnum d μ1
section
variable {K : PySem.W.Frag} {cls : Nat → Option Addr} {w : Wd} {μ : Store}
theorem enumD_get {ds : List D} {i : Nat} {d : D} (h : (enumD ds)[i]? = some d) : ∃ e, ds[i]? = some e ∧ d = .tup [.int (i : Nat), e] := by
  unfold enumD at h
  rw [List.getElem?_map, Option.map_eq_some_iff] at h
  obtain ⟨⟨e, j⟩, h1, rfl⟩ := h
  rw [List.getElem?_zipIdx, Option.map_eq_some_iff] at h1
  obtain ⟨e', h2, h3⟩ := h1
  simp at h3
  obtain ⟨rfl, rfl⟩ := h3
  exact ⟨_, h2, by simp⟩
theorem wk_enumG {J : It} {ds : List D} (h : ∀ (w' : Wd), Kp w w' → ∃ vs, RVs K cls w' ds vs ∧ (∀ i v, vs[i]? = some v → J.go i w'.H ∧ ∀ x H2, J.yld i w'.H x H2 → ∃ T, x = .ref T ∧ w'.H T = none ∧ H2 = upd w'.H T (.tup [.int (i : Nat), v])) ∧ (∀ i, vs.length ≤ i → J.stop i w'.H)) : Wk K cls J w (enumD ds) none := by
  intro i w' μ' k S' so
  obtain ⟨vs, h1, h2, h3⟩ := h w' k
  refine ⟨fun d hd => ?_, fun hi => h3 i (by rw [h1.length]; simpa [enumD] using hi)⟩
  obtain ⟨e, he, rfl⟩ := enumD_get hd
  obtain ⟨v, hv, rv⟩ := h1.get he
  obtain ⟨go, yld⟩ := h2 i v hv
  refine ⟨go, fun x H2 y => ?_⟩
  obtain ⟨T, rfl, hT, rfl⟩ := yld x H2 y
  exact ⟨w'.up T (.tup [.int (i : Nat), v]), rfl, step_new hT, S'.new hT, new_tup S' hT (.cons rfl (.cons rv .nil))⟩
end
theorem si_enum {X : Cx} {cls : Nat → Option Addr} {e : Expr} {fe : FE} {p pos tpos : Pos} {elts : List Expr} {kk : Nat} (hg : Gl X "enumerate") (hm : X.mg "enumerate" = none) (he : SE X cls e fe) (hs : starEach [e] X.env = [(false, eval e X.env)] := by rfl) :
    SI X cls (.Tuple elts kk tpos) (.Call (.Name "enumerate" p) [e] [] pos) (iEnumD fe) := by
  obtain ⟨t, p1, k⟩ := he
  refine ⟨_, pi_or (pi_enum hg hm (pa_cons p1 pa_nil hs) hs) (pi_enumT hg hm (pa_cons p1 pa_nil hs) hs), fun σ R w ρ μ S E h => ?_⟩
  have h := PostR.bind h
  cases hf : fe ρ μ with
  | stuck => rw [hf] at h; exact h.elim
  | ok d μ1 =>
    rw [hf] at h
    have go := k σ
    cases d with
    | lst ds =>
      refine .inl (go _ w ρ μ S E ?_)
      rw [hf]
      intro w1 s1 S1 v r1
      obtain ⟨μ', S2, q⟩ := h w1 s1 S1
      obtain ⟨a, vs, e1, h1, h2⟩ := r1
      refine ⟨a, vs, congrArg (fun z => [z]) e1, .inl (.inl h1.1), q w1 Step.refl S2 _ (wk_enumG fun w' kp => ?_)⟩
      have hL : SqL X.K w'.H a vs := .inl (.inl (kp.at_ a _ h1.2.1 h1.2.2 h1.1).1)
      refine ⟨vs, h2.mono kp, fun i v hv => ⟨⟨vs, v, hL, hv⟩, fun x H2 ⟨T, x', ex, hT, hH, hx⟩ => ⟨T, ex, hT, ?_⟩⟩, fun i hi => ⟨vs, hL, hi⟩⟩
      have := hx vs hL
      rw [hv] at this
      cases this
      exact hH
    | tup ds =>
      refine .inr (go _ w ρ μ S E ?_)
      rw [hf]
      intro w1 s1 S1 v r1
      obtain ⟨μ', S2, q⟩ := h w1 s1 S1
      obtain ⟨a, vs, e1, h1, h2⟩ := r1
      refine ⟨a, vs, congrArg (fun z => [z]) e1, h1.sq, q w1 Step.refl S2 _ (wk_enumG fun w' kp => ?_)⟩
      have hL : SqT X.K w'.H a vs := (h1.mono kp).sq
      refine ⟨vs, h2.mono kp, fun i v hv => ⟨⟨vs, v, hL, hv⟩, fun x H2 ⟨T, x', ex, hT, hH, hx⟩ => ⟨T, ex, hT, ?_⟩⟩, fun i hi => ⟨vs, hL, hi⟩⟩
      have := hx vs hL
      rw [hv] at this
      cases this
      exact hH
    | non => exact .inl (go _ w ρ μ S E (by rw [hf]; intro w1 s1 S1 v r1; obtain ⟨μ', S2, q⟩ := h w1 s1 S1; exact q.elim))
    | bl _ => exact .inl (go _ w ρ μ S E (by rw [hf]; intro w1 s1 S1 v r1; obtain ⟨μ', S2, q⟩ := h w1 s1 S1; exact q.elim))
    | int _ => exact .inl (go _ w ρ μ S E (by rw [hf]; intro w1 s1 S1 v r1; obtain ⟨μ', S2, q⟩ := h w1 s1 S1; exact q.elim))
    | str _ => exact .inl (go _ w ρ μ S E (by rw [hf]; intro w1 s1 S1 v r1; obtain ⟨μ', S2, q⟩ := h w1 s1 S1; exact q.elim))
    | flst _ => exact .inl (go _ w ρ μ S E (by rw [hf]; intro w1 s1 S1 v r1; obtain ⟨μ', S2, q⟩ := h w1 s1 S1; exact q.elim))
    | obj _ _ _ => exact .inl (go _ w ρ μ S E (by rw [hf]; intro w1 s1 S1 v r1; obtain ⟨μ', S2, q⟩ := h w1 s1 S1; exact q.elim))
    | loc _ => exact .inl (go _ w ρ μ S E (by rw [hf]; intro w1 s1 S1 v r1; obtain ⟨μ', S2, q⟩ := h w1 s1 S1; exact q.elim))
end Fw

set_option Elab.async false
set_option linter.all false
set_option maxRecDepth 100000
set_option autoImplicit false
/-! Instances of own classes. -/
namespace Fw
open PySem L2 PyProof.Rows

/-- a method as the top has left it -/
structure Dm (P : Program) (W : World) (K : PySem.W.Frag) (cls : Nat → Option Addr) (mg : Str → Option Value) (base : Heap) (k : Nat) (f : Addr) (n : Nat) (F : List D → Store → Res D) : Prop where
  ex : ∃ (fd : FuncData) (ps : List Str), FnOk P W K mg base CX0 k f fd ps (spD K cls F n) ∧ Binds K fd ps [] ∧ ps.length = n
/-- an own class -/
structure Kl1 (K : PySem.W.Frag) (cls : Nat → Option Addr) (c : Nat) (C : Addr) : Prop where
  at_ : cls c = some C
  cl : Cls K C
def putNs (f : Str) : List Str → List Str
  | [] => [f]
  | g :: r => if g = f then g :: r else g :: putNs f r
def putXs {α : Type} (f : Str) (d : α) : List Str → List α → List α
  | g :: r, x :: xs => if g = f then d :: xs else x :: putXs f d r xs
  | _, _ => [d]
theorem putF_zip (f : Str) (y : V) : ∀ (ns : List Str) (vs : List V), ns.length = vs.length → putF f y (ns.zip vs) = (putNs f ns).zip (putXs f y ns vs)
  | [], [], _ => rfl
  | g :: r, x :: xs, h => by
    show (if g = f then (g, y) :: r.zip xs else (g, x) :: putF f y (r.zip xs)) = (if g = f then g :: r else g :: putNs f r).zip (if g = f then y :: xs else x :: putXs f y r xs)
    by_cases e : g = f
    · rw [if_pos e, if_pos e, if_pos e]; rfl
    · rw [if_neg e, if_neg e, if_neg e, putF_zip f y r xs (by simpa using h)]; rfl
theorem put_len {α : Type} (f : Str) (y : α) : ∀ (ns : List Str) (vs : List α), ns.length = vs.length → (putNs f ns).length = (putXs f y ns vs).length
  | [], [], _ => rfl
  | g :: r, x :: xs, h => by
    show (if g = f then g :: r else g :: putNs f r).length = (if g = f then y :: xs else x :: putXs f y r xs).length
    have := put_len f y r xs (by simpa using h)
    split <;> simp_all
theorem RVs.put {K : PySem.W.Frag} {cls : Nat → Option Addr} {w : Wd} {f : Str} {d : D} {y : V} (h : RV K cls w d y) : ∀ {ns : List Str} {ds : List D} {vs : List V}, RVs K cls w ds vs → RVs K cls w (putXs f d ns ds) (putXs f y ns vs)
  | [], _, _, _ => ⟨y, [], rfl, h, rfl⟩
  | g :: r, [], _, t => by rw [show _ = [] from t]; exact ⟨y, [], rfl, h, rfl⟩
  | g :: r, e :: ds, _, ⟨v, vs, q, t1, t2⟩ => by
    rw [q]
    show RVs K cls w (if g = f then d :: ds else e :: putXs f d r ds) (if g = f then y :: vs else v :: putXs f y r vs)
    split
    · exact ⟨y, vs, rfl, h, t2⟩
    · exact ⟨v, _, rfl, t1, RVs.put h t2⟩
theorem RVs.lookup {K : PySem.W.Frag} {cls : Nat → Option Addr} {w : Wd} {f : Str} {d : D} : ∀ {ns : List Str} {ds : List D} {vs : List V}, RVs K cls w ds vs → (ns.zip ds).lookup f = some d → ∃ v, (ns.zip vs).lookup f = some v ∧ RV K cls w d v
  | [], _, _, _, h => by simp at h
  | g :: r, [], _, _, h => by simp at h
  | g :: r, e :: ds, _, ⟨v, vs, q, t1, t2⟩, h => by
    rw [q]
    rw [List.zip_cons_cons, List.lookup_cons] at h ⊢
    by_cases e : (f == g) = true
    · rw [e] at h ⊢
      cases h
      exact ⟨v, rfl, t1⟩
    · have e : (f == g) = false := by simpa using e
      rw [e] at h ⊢
      exact RVs.lookup t2 h

/-! ### x.f -/
def insOf (c : Nat) (μ : Store) : D → Option (List Str × List D)
  | .obj c' ns ds => if c' = c then some (ns, ds) else none
  | .loc n => match μ[n]? with
    | some (.ins c' ns ds) => if c' = c then some (ns, ds) else none
    | _ => none
  | _ => none
theorem insOf_at {K : PySem.W.Frag} {cls : Nat → Option Addr} {w : Wd} {μ : Store} (S : RelS K cls w μ) {c : Nat} {C : Addr} (hc : cls c = some C) {d : D} {x : V} {ns : List Str} {ds : List D} (r : RV K cls w d x) (h : insOf c μ d = some (ns, ds)) :
    ∃ a dx vs, x = .ref a ∧ w.H a = some (.ins C dx (ns.zip vs)) ∧ ns.length = vs.length ∧ RVs K cls w ds vs := by
  cases d with
  | obj c' ns' ds' =>
    simp only [insOf] at h
    split at h
    · rename_i e
      cases h
      subst e
      obtain ⟨a, C', dx, vs, e1, e2, ⟨e3, _⟩, e4, e5⟩ := r
      rw [hc] at e2
      cases e2
      exact ⟨a, dx, vs, e1, e3, e4, e5⟩
    · cases h
  | loc n =>
    simp only [insOf] at h
    split at h
    · rename_i c' ns' ds' hm
      split at h
      · rename_i e
        cases h
        subst e
        obtain ⟨a, e1, hn⟩ := r
        obtain ⟨a', h1, C', dx, vs, e2, e3, e4, e5⟩ := S.cell n _ hm
        rw [hn] at h1
        cases h1
        rw [hc] at e2
        cases e2
        exact ⟨a, dx, vs, e1, e3, e4, e5⟩
      · cases h
    · cases h
  | _ => cases h
def eFld (c : Nat) (f : Str) (fa : FE) : FE := fun ρ μ => (fa ρ μ).bind fun d μ1 => match insOf c μ1 d with
  | some (ns, ds) => match (ns.zip ds).lookup f with
    | some e => .ok e μ1
    | none => .stuck
  | none => .stuck
def eProp (c : Nat) (F : List D → Store → Res D) (fa : FE) : FE := fun ρ μ => (fa ρ μ).bind fun d μ1 => match insOf c μ1 d with
  | some _ => F [d] μ1
  | none => .stuck
def sFld (c : Nat) (f : Str) (fo fv : FE) : FS := fun ρ μ => rS (fv ρ μ) fun e μ1 => rS (fo ρ μ1) fun d μ2 => match d with
  | .loc n => match μ2[n]? with
    | some (.ins c' ns ds) => if c' = c ∧ ns.length < 900 then .nx ρ (μ2.set n (.ins c (putNs f ns) (putXs f e ns ds))) else .stuck
    | _ => .stuck
  | _ => .stuck
def cLenO (c : Nat) (F : List D → Store → Res D) : List D → Store → Res D := fun ds μ => match ds with
  | [d] => match insOf c μ d with
    | some _ => (F [d] μ).bind fun e μ1 => match e with
      | .int n => if 0 ≤ n ∧ n < 1000000 then .ok (.int n) μ1 else .stuck
      | _ => .stuck
    | none => cLen [d] μ
  | _ => .stuck
/-- C(..) -/
def eMake (c n : Nat) (F : List D → Store → Res D) (fs : FA) : FE := fun ρ μ => (fs ρ μ).bind fun ds μ1 => if ds.length + 1 = n then match F (.loc μ1.length :: ds) (μ1 ++ [.ins c [] []]) with
    | .ok .non μ2 => match μ2[μ1.length]? with
      | some (.ins c' ns es) => if (decide (c' = c) && decide (μ2.length = μ1.length + 1) && lows μ1.length es && (μ2.take μ1.length).all (lowC μ1.length)) = true then .ok (.obj c ns es) (μ2.take μ1.length) else .stuck
      | _ => .stuck
    | _ => .stuck
  else .stuck
section
variable {X : Cx} {cls : Nat → Option Addr} {e o v : Expr} {fe fo fv : FE} {c : Nat} {C : Addr} {f : Str} {pos pos' : Pos}
theorem se_fld (T : Kl1 X.K cls c C) (hn : NoAttr X.K C f) (he : SE X cls e fe) (hb : attributeBase e f X.env (eval e X.env) = eval e X.env := by rfl) : SE X cls (.Attribute e f pos) (eFld c f fe) := by
  obtain ⟨t1, p1, h1⟩ := he
  refine ⟨_, pe_fld p1 hb, fun σ Q w ρ μ S E h => ?_⟩
  refine h1 σ _ w ρ μ S E ((PostR.bind h).imp fun w1 d s1 ⟨μ1, S1, q1⟩ x r1 => ?_)
  split at q1
  · rename_i ns ds hd
    split at q1
    · rename_i y hy
      obtain ⟨a, dx, vs, e1, e2, e3, e4⟩ := insOf_at S1 T.at_ r1 hd
      obtain ⟨u, hu, ru⟩ := e4.lookup hy
      exact ⟨a, C, dx, _, u, e1, e2, T.cl, hn, hu, q1 w1 Step.refl S1 u ru⟩
    · exact q1.elim
  · exact q1.elim
theorem se_prop {p g : Addr} {k : Nat} {F : List D → Store → Res D} (T : Kl1 X.K cls c C) (hp : PropOf X.K C f p g) (G : Dm X.prog X.w X.K cls X.mg X.base k g 1 F) (hr : Room (k + 1) X.A) (he : SE X cls e fe) (hb : attributeBase e f X.env (eval e X.env) = eval e X.env := by rfl) :
    SE X cls (.Attribute e f pos) (eProp c F fe) := by
  obtain ⟨t1, p1, h1⟩ := he
  obtain ⟨fd, ps, hf, hbd, hl⟩ := G.ex
  refine ⟨_, pe_prop p1 T.cl hp hf hr hbd .nil pass0 hb, fun σ Q w ρ μ S E h => ?_⟩
  refine h1 σ _ w ρ μ S E ((PostR.bind h).imp fun w1 d s1 ⟨μ1, S1, q1⟩ x r1 => ?_)
  split at q1
  · rename_i hd
    obtain ⟨a, dx, vs, e1, e2, e3, e4⟩ := insOf_at S1 T.at_ r1 hd
    subst e1
    exact ⟨a, dx, _, rfl, e2, w1, [d], μ1, rfl, rfl, S1, .cons r1 .nil, q1⟩
  · exact q1.elim
theorem ss_fld (T : Kl1 X.K cls c C) (hn : NoAttr X.K C f) (ho : SE X cls o fo) (hv : SE X cls v fv) (hs : swapsWith v (some (.Attribute o f pos')) pos.line X.env = pure false := by rfl) : SS X cls (.Assign [.Attribute o f pos'] v pos) (sFld c f fo fv) := by
  obtain ⟨t1, p1, h1⟩ := ho
  obtain ⟨t2, p2, h2⟩ := hv
  refine ⟨_, ps_fld p1 p2 hs, fun D σ w ρ μ S E h => ?_⟩
  refine h2 σ _ w ρ μ S E ((PostS.bind h).imp fun w1 d s1 ⟨μ1, S1, q1⟩ x r1 => ?_)
  refine h1 σ _ w1 ρ μ1 S1 (E.mono s1.kp) ((PostS.bind q1).imp fun w2 e s2 ⟨μ2, S2, q2⟩ y r2 => ?_)
  cases e with
  | loc n =>
    simp only at q2
    split at q2
    · rename_i c' ns ds hm
      split at q2
      · rename_i hc
        obtain ⟨rfl, hl⟩ := hc
        obtain ⟨a, e1, hn'⟩ := r2
        obtain ⟨a', h1', C', dx, vs, e2, e3, e4, e5⟩ := S2.cell n _ hm
        rw [hn'] at h1'
        cases h1'
        rw [T.at_] at e2
        cases e2
        refine ⟨a, C, dx, _, e1, e3, T.cl, hn, by rw [List.length_zip, ← e4]; omega, ?_⟩
        have kw := (Step.write (o := .ins C dx (putF f x (ns.zip vs))) hn').kp
        refine q2 (w2.up a (.ins C dx (putF f x (ns.zip vs)))) σ (Step.write hn') (S2.write hn' ⟨C, dx, putXs f x ns vs, T.at_, ?_, put_len f x ns vs e4, (e5.mono kw).put ((r1.mono s2.kp).mono kw)⟩) (E.mono ((s1.trans s2).trans (Step.write hn')).kp)
        show upd w2.H a _ a = _
        rw [upd_same, putF_zip f x ns vs e4]
      · exact q2.elim
    · exact q2.elim
  | _ => exact q2.elim
theorem call_lenOwn {k : Nat} {g : Addr} {F : List D → Store → Res D} (T : Kl1 X.K cls c C) (hs : PySem.W.findIn X.K (.ref C) "__len__" = some (some (.ref g))) (hf : PySem.W.isFn X.K (.ref g) = true) (G : Dm X.prog X.w X.K cls X.mg X.base k g 1 F) (hr : Room (k + 1) X.A) :
    CallR X (.builtin "len") (fun xs H Q => ∃ a dx fs, xs = [.ref a] ∧ H a = some (.ins C dx fs) ∧ spD X.K cls F 1 [.ref a] H (fun v H' => ∃ n, v = .int n ∧ 0 ≤ n ∧ n < 2 ^ 63 ∧ Q (.int n) H') E0) := by
  intro pins s σ H xs us Q I r h
  obtain ⟨a, dx, fs, rfl, ea, hsp⟩ := h
  obtain ⟨u, rfl, ru⟩ := vals1 r
  cases ru
  obtain ⟨mA, O, _⟩ := ins_get I.hok ea
  obtain ⟨od, J, _⟩ := O.look
  obtain ⟨m, hF⟩ := I.fr
  obtain ⟨fd, ps, hfn, hbd, hl⟩ := G.ex
  refine PySem.W.len_K hF I.ok.mod.kin J hs hf ?_
  have hb := hbd s [.ref a] I.kIn (by simpa using hl.symm)
  refine wpAny_call (codeAny_mono (hfn.run X.A.in1 X.stack s H ⟨[.ref a], []⟩ [.ref a] [.ref a] _ E0 hr.in1 I.env0.in1 (by simpa using hb) (.cons rfl .nil) hsp) fun r s' hq => ?_)
  cases r with
  | error er => exact False.elim hq
  | ok fl =>
    cases fl with
    | ret u =>
      obtain ⟨v, H', I3, rv, n, ev, h0, h1, q3⟩ := I.after hq
      subst ev
      obtain ⟨t, rfl⟩ := rv
      exact ⟨⟨h0, h1⟩, .int n, H', I3.tok _, ⟨_, rfl⟩, q3⟩
    | next => exact False.elim hq
    | brk => exact False.elim hq
    | cont => exact False.elim hq
theorem cv_lenO {k : Nat} {g : Addr} {F : List D → Store → Res D} (T : Kl1 X.K cls c C) (hs : PySem.W.findIn X.K (.ref C) "__len__" = some (some (.ref g))) (hf : PySem.W.isFn X.K (.ref g) = true) (G : Dm X.prog X.w X.K cls X.mg X.base k g 1 F) (hr : Room (k + 1) X.A) :
    CV X cls (.builtin "len") (cLenO c F) := by
  obtain ⟨r0, c0, h0⟩ := cv_len (X := X) (cls := cls)
  refine ⟨_, c0.or (call_lenOwn T hs hf G hr), fun w μ ds xs Q S r h => ?_⟩
  unfold cLenO at h
  split at h
  · rename_i d
    split at h
    · rename_i ns ds hd
      obtain ⟨x, rfl, r1⟩ := r.one
      obtain ⟨a, dx, vs, e1, e2, e3, e4⟩ := insOf_at S T.at_ r1 hd
      subst e1
      refine .inr ⟨a, dx, _, rfl, e2, w, [d], μ, rfl, rfl, S, r, (PostR.bind h).imp fun w1 e s1 ⟨μ1, S1, q1⟩ v rv => ?_⟩
      cases e with
      | int n =>
        simp only at q1
        split at q1
        · rename_i hn
          exact ⟨n, rv, hn.1, by omega, q1 w1 Step.refl S1 _ rfl⟩
        · exact q1.elim
      | _ => exact q1.elim
    · exact .inl (h0 w μ [d] xs Q S r h)
  · exact h.elim
theorem se_make {k n : Nat} {g : Addr} {x : Str} {p : Pos} {a : Expr} {es : List Expr} {fs : FA} {F : List D → Store → Res D} (T : Kl1 X.K cls c C) (M : Mk X.K C g) (G : Dm X.prog X.w X.K cls X.mg X.base k g n F) (hr : Room (k + 1) X.A) (hg : Gl X x) (hm : X.mg x = some (.ref C)) (ha : SA X cls (a :: es) fs)
    (hdb : (x == ("__debug__" : Str)) = false := by decide +kernel) (he : starEach (a :: es) X.env = (false, eval a X.env) :: starEach es X.env := by rfl) (hpl : (backTo pos (starEach es X.env)).any (·.1) = false := by rfl) :
    SE X cls (.Call (.Name x p) (a :: es) [] pos) (eMake c n F fs) := by
  obtain ⟨t1, p1, h1⟩ := ha
  obtain ⟨fd, ps, hf, hbd, hl⟩ := G.ex
  refine ⟨_, pe_make M hf hr hg hm hbd .nil pass0 p1 hdb he hpl, fun σ Q w ρ μ S E h => ?_⟩
  refine h1 σ _ w ρ μ S E ((PostR.bind h).imp fun w1 ds s1 ⟨μ1, S1, q1⟩ vs r1 => ?_)
  split at q1
  · rename_i hn
    intro y dy hy hdy hne
    rw [List.append_nil]
    have hy2 : (w1.up dy (.own y)).H y = none := by
      show upd w1.H dy _ y = none
      rw [upd_ne (Ne.symm hne)]
      exact hy
    have S2 := (S1.new (o := .own y) hdy).add (c := .ins c [] []) (o := .ins C dy []) hy2 ⟨C, dy, [], T.at_, upd_same, rfl, rfl⟩
    have st : Step w1 ⟨w1.ι ++ [y], w1.B, upd (upd w1.H dy (.own y)) y (.ins C dy [])⟩ := (step_new hdy).trans (step_add hy2)
    refine ⟨_, .loc μ1.length :: ds, μ1 ++ [.ins c [] []], rfl, hn, S2, ⟨.ref y, vs, rfl, ⟨y, rfl, ?_⟩, r1.mono st.kp⟩, ?_⟩
    · show (w1.ι ++ [y])[μ1.length]? = some y
      rw [List.getElem?_append_right (by rw [S1.len]; omega), S1.len, Nat.sub_self]
      rfl
    · cases hF : F (.loc μ1.length :: ds) (μ1 ++ [.ins c [] []]) with
      | stuck => rw [hF] at q1; exact q1.elim
      | ok d μ2 =>
        rw [hF] at q1
        cases d with
        | non =>
          simp only at q1
          split at q1
          · rename_i c' ns es hm2
            split at q1
            · rename_i hcond
              simp only [Bool.and_eq_true, decide_eq_true_eq] at hcond
              obtain ⟨⟨⟨hcc, hlen⟩, hlow⟩, hall⟩ := hcond
              subst hcc
              intro w' s' S' v rv
              have stt := st.trans s'
              obtain ⟨a', h3, C', dx, us, e2, e3, e4, e5⟩ := S'.cell μ1.length _ hm2
              have hy3 : w'.ι[μ1.length]? = some y := s'.loc (by
                show (w1.ι ++ [y])[μ1.length]? = some y
                rw [List.getElem?_append_right (by rw [S1.len]; omega), S1.len, Nat.sub_self]
                rfl)
              rw [hy3] at h3
              cases h3
              rw [T.at_] at e2
              cases e2
              have hk := kl_cut stt
              rw [S1.len] at hk
              refine ⟨rv, q1 ⟨w1.ι, w'.B, w'.H⟩ (step_cut stt) (S1.cut stt S' hall) _ ⟨y, C, dx, us, rfl, T.at_, ⟨e3, (S1.free hy).1, ?_⟩, e4, RVs.low hk hlow e5⟩⟩
              show y ∉ w'.B
              rw [stt.ban]
              exact (S1.free hy).2
            · exact q1.elim
          · exact q1.elim
        | _ => exact q1.elim
  · exact q1.elim
end
end Fw

set_option Elab.async false
set_option linter.all false
set_option maxRecDepth 100000
set_option autoImplicit false
namespace Fw
open PySem L2 PyProof.Rows
abbrev lit (s : String) : List Nat := (PySem.Str.ofString s).cps.toList
/-- a module's constant, whatever object it is -/
structure Gv (K : PySem.W.Frag) (cls : Nat → Option Addr) (mg : Str → Option Value) (x : Str) (d : D) : Prop where
  ex : ∃ (v : V) (u : Value), mg x = some u ∧ RelV v u ∧ ∀ w, RV K cls w d v
section
variable {X : Cx} {cls : Nat → Option Addr} {a b c : Expr} {fa fb fc : FE} {pos : Pos}
theorem se_globG {x : Str} {d : D} (hg : Gl X x) (G : Gv X.K cls X.mg x d) (hd : (x == ("__debug__" : Str)) = false := by decide +kernel) : SE X cls (.Name x pos) (eC d) := by
  obtain ⟨v, u, hm, r, rd⟩ := G.ex
  exact se_glob hg hm r rd hd
def eNeg (fa : FE) : FE := fun ρ μ => (fa ρ μ).bind fun x μ1 => match x with
  | .int i => .ok (.int (-i)) μ1
  | _ => .stuck
theorem se_neg (ha : SE X cls a fa) : SE X cls (.UnaryOp .USub a pos) (eNeg fa) := by
  obtain ⟨t1, p1, h1⟩ := ha
  refine ⟨_, pe_un un_neg p1, fun σ Q w ρ μ S E h => ?_⟩
  refine h1 σ _ w ρ μ S E ((PostR.bind h).imp fun w1 d s1 ⟨μ1, S1, q1⟩ v r1 => ?_)
  cases d with
  | int i => exact ⟨i, r1, q1 w1 Step.refl S1 _ rfl⟩
  | _ => exact q1.elim
theorem st_chain {op op' : CmpOp} {g g' : D → D → Store → Res D} (ho : OV X cls (compareOp op) g) (ho' : OV X cls (compareOp op') g') (ha : SE X cls a fa) (hb : SE X cls b fb) (hc : SE X cls c fc)
    (k : ∀ {r r' : R2} {t1 t2 t3 : TE}, OpR X (compareOp op) r → OpR X (compareOp op') r' → PE X a t1 → PE X b t2 → PE X c t3 → PT X (.Compare a [op, op'] [b, c] pos) (tTest (tChain r r' t1 t2 t3)) := by exact fun o o' p1 p2 p3 => pt_chain o o' p1 p2 p3) :
    ST X cls (.Compare a [op, op'] [b, c] pos) (Fw.tB (eChain g g' fa fb fc)) := by
  obtain ⟨r, o, ho⟩ := ho
  obtain ⟨r', o', ho'⟩ := ho'
  obtain ⟨t1, p1, h1⟩ := ha
  obtain ⟨t2, p2, h2⟩ := hb
  obtain ⟨t3, p3, h3⟩ := hc
  refine ⟨_, k o o' p1 p2 p3, fun σ Q w ρ μ S E h => ?_⟩
  have h := PostR.bind h
  refine h1 σ _ w ρ μ S E ((PostR.bind h).imp fun w1 d s1 ⟨μ1, S1, q1⟩ v r1 => ?_)
  refine h2 σ _ w1 ρ μ1 S1 (E.mono s1.kp) ((PostR.bind q1).imp fun w2 e s2 ⟨μ2, S2, q2⟩ u r2 => ?_)
  refine ho w2 μ2 d e v u _ S2 (r1.mono s2.kp) r2 ((PostR.bind q2).imp fun w3 z s3 ⟨μ3, S3, q3⟩ x rx => ?_)
  cases z with
  | bl k =>
    refine ⟨k, rx, ?_⟩
    cases k with
    | true =>
      refine h3 σ _ w3 ρ μ3 S3 (E.mono ((s1.trans s2).trans s3).kp) ((PostR.bind q3).imp fun w4 z4 s4 ⟨μ4, S4, q4⟩ x4 rx4 => ?_)
      refine ho' w4 μ4 e z4 u x4 _ S4 (r2.mono (s3.trans s4).kp) rx4 ((PostR.bind q4).imp fun w5 z5 s5 ⟨μ5, S5, q5⟩ x5 rx5 => ?_)
      cases z5 with
      | bl k' =>
        obtain ⟨μ6, S6, q6⟩ := q5 w5 Step.refl S5
        exact ⟨k', rx5, q6 w5 Step.refl S6⟩
      | _ => exact q5.elim
    | false =>
      obtain ⟨μ6, S6, q6⟩ := q3 w3 Step.refl S3
      exact ⟨false, rfl, q6 w3 Step.refl S6⟩
  | _ => exact q3.elim
end
section
variable {P : Program} {W : World} {K : PySem.W.Frag} {cls : Nat → Option Addr} {mg : Str → Option Value} {base : Heap} {x qual : Str} {st : Stmt} {f : Addr} {fd : FuncData} {N ps : List Str} {k : Nat} {g : FS}
theorem dm_mk (F : Fun K x qual st f fd) (b : Binds K fd ps []) (S : FnScope N ps (defScope st))
    (hb : ∀ (cdv : Value) (A : Around) (outer : List PySem.Env) (s : Shared) (H : Hp) (E : XK), Room k (A.deeper (envOfC qual (defScope st) s.heap.objs.size f cdv)) → SSs (cxOf CX0 P W K mg base N qual (defScope st) f cdv A outer s H E).nox cls (defBody st) g) :
    Dm P W K cls mg base (k + 1) f ps.length (mD N.length g) := ⟨fd, ps, fn_mk F S hb, b, rfl⟩
end
end Fw

set_option Elab.async false
set_option linter.all false
set_option maxRecDepth 100000
set_option autoImplicit false
namespace Fw
open PySem L2 PyProof.Rows
section
variable {K : PySem.W.Frag} {cls : Nat → Option Addr} {h : Heap} {mg : Str → Option Value} {x : Str}
theorem gv_int {i : Int} {t : Tok} (X : K.In h) (G : h.Ns mainGlobals mg) (a : PySem.W.nsIn K mainGlobals x = some (some (.int i t))) : Gv K cls mg x (.int i) := ⟨.int i, .int i t, PySem.W.mg_of X G a, ⟨t, rfl⟩, fun _ => rfl⟩
theorem gv_str {s : String} {t : Tok} (X : K.In h) (G : h.Ns mainGlobals mg) (a : PySem.W.nsIn K mainGlobals x = some (some (.str (PySem.Str.ofString s) t))) : Gv K cls mg x (.str (lit s)) :=
  ⟨.str (PySem.Str.ofString s), .str _ t, PySem.W.mg_of X G a, ⟨t, rfl⟩, fun _ => by
    show V.str _ = V.str ⟨(PySem.Str.ofString s).cps.toList.toArray⟩
    rw [Array.toArray_toList]⟩
theorem gv_tup {p : Addr} {dd : Option Addr} {its : Array Value} {n : Nat} {sl : Array (Option Value)} {vs : List V} {ds : List D} (X : K.In h) (G : h.Ns mainGlobals mg) (a : PySem.W.nsIn K mainGlobals x = some (some (.ref p)))
    (l : K.lookup p = some ⟨.type "tuple", dd, .seq its n, sl⟩) (hz : its.size ≤ LIM) (hv : Vals vs its.toList) (hr : ∀ w, RVs K cls w ds vs) : Gv K cls mg x (.tup ds) :=
  ⟨.ref p, .ref p, PySem.W.mg_of X G a, rfl, fun w => ⟨p, vs, rfl, .inr (.inr ⟨_, its, n, l, rfl, rfl, lim_le hz, hv⟩), hr w⟩⟩
theorem fn_fin {P : Program} {W : World} {base : Heap} {k : Nat} {f : Addr} {fd : FuncData} {ps : List Str} {m n : Nat} {g : FS} (hf : FnOk P W K mg base CX0 k f fd ps (spD K cls (mD m g) n)) : FnOk P W K mg base CX0 k f fd ps (spD K cls (mDf m g) n) :=
  hf.imp fun vs H Q E h => by
    obtain ⟨w, ds, μ, e, hl, S, r, h⟩ := h
    exact ⟨w, ds, μ, e, hl, S, r, fin_ok S h⟩
theorem law_sp {F : List D → Store → Res D} (hF : ∀ ns : List Int, ns.length ≤ 63 → ∃ μ, F [.flst ns] [] = .ok (.bl true) μ) {H : Hp} {a : Addr} {ns : List Int} (hl : ns.length ≤ 63) (hO : Only H) (hS : SqL K H a (ns.map V.int)) :
    spD K cls F 1 [.ref a] H (fun v _ => v = .bl true) (fun _ _ _ => False) := by
  obtain ⟨μ, e⟩ := hF ns hl
  refine ⟨⟨[], [], H⟩, [.flst ns], [], rfl, rfl, ⟨rfl, List.nodup_nil, (fun b hb => by simp at hb), (fun n c e => by simp at e)⟩, .cons ⟨a, rfl, ?_⟩ .nil, ?_⟩
  · rcases hS with (hS | ⟨o, hS⟩) | hS
    · rcases hO a with z | ⟨o, xs, z⟩
      · rw [hS] at z; cases z
      · rw [hS] at z; cases z
    · exact .inl ⟨⟨o, hS⟩, by simp, by simp⟩
    · exact .inr (.inr hS)
  · rw [e]
    exact fun w' s S v r => r
end
/-- the law's promise, whatever the classes' places -/
def spA (K : PySem.W.Frag) (F : List D → Store → Res D) : Sp := fun vs H Q E => ∀ cls, spD K cls F 1 vs H Q E
theorem fn_any {P : Program} {W : World} {K : PySem.W.Frag} {cls : Nat → Option Addr} {mg : Str → Option Value} {base : Heap} {k : Nat} {f : Addr} {fd : FuncData} {ps : List Str} {F : List D → Store → Res D} (hf : FnOk P W K mg base CX0 k f fd ps (spD K cls F 1)) : FnOk P W K mg base CX0 k f fd ps (spA K F) :=
  hf.imp fun vs H Q E h => h cls
theorem law_spA {K : PySem.W.Frag} {F : List D → Store → Res D} (hF : ∀ ns : List Int, ns.length ≤ 63 → ∃ μ, F [.flst ns] [] = .ok (.bl true) μ) {H : Hp} {a : Addr} {ns : List Int} (hl : ns.length ≤ 63) (hO : Only H) (hS : SqL K H a (ns.map V.int)) :
    spA K F [.ref a] H (fun v _ => v = .bl true) (fun _ _ _ => False) := fun _ => law_sp hF hl hO hS
end Fw

set_option Elab.async false
set_option linter.all false
set_option maxRecDepth 100000
set_option autoImplicit false
namespace Fw
open PySem L2
/-! ### the readings, one step at a time -/
section
variable {α β : Type} {ρ : Env} {μ : Store} {fa fb fc fd fe fo fi fv : FE} {fs fr : FA} {ft c c' : FT} {g g' : D → D → Store → Res D} {F : List D → Store → Res D} {n i j k : Nat} {s s' : FS}
theorem bok {a : α} {f : α → Store → Res β} : (Res.ok a μ).bind f = f a μ := (rfl)
theorem sok {a : α} {f : α → Store → SR} : rS (.ok a μ) f = f a μ := (rfl)
@[simp] theorem eVar_ev : eVar i ρ μ = match ρ[i]? with | some (some d) => .ok d μ | _ => .stuck := (rfl)
@[simp] theorem eC_ev {d : D} : eC d ρ μ = .ok d μ := (rfl)
@[simp] theorem eBin_ev : eBin g fa fb ρ μ = (fa ρ μ).bind fun x μ1 => (fb ρ μ1).bind fun y μ2 => g x y μ2 := (rfl)
@[simp] theorem aNil_ev : aNil ρ μ = .ok [] μ := (rfl)
@[simp] theorem aCons_ev : aCons fa fr ρ μ = (fa ρ μ).bind fun x μ1 => (fr ρ μ1).bind fun xs μ2 => .ok (x :: xs) μ2 := (rfl)
@[simp] theorem eTup_ev : eTup fs ρ μ = (fs ρ μ).bind fun ds μ1 => if ds.length ≤ LIM then .ok (.tup ds) μ1 else .stuck := (rfl)
@[simp] theorem eLst_ev : eLst fs ρ μ = (fs ρ μ).bind fun ds μ1 => if ds.length ≤ LIM then .ok (.lst ds) μ1 else .stuck := (rfl)
@[simp] theorem eCall_ev : eCall F fs ρ μ = (fs ρ μ).bind fun ds μ1 => F ds μ1 := (rfl)
@[simp] theorem eCallD_ev : eCallD n F fs ρ μ = (fs ρ μ).bind fun ds μ1 => if ds.length = n then F ds μ1 else .stuck := (rfl)
@[simp] theorem tB_ev : tB fa ρ μ = (fa ρ μ).bind fun x μ1 => match x with | .bl b => .ok b μ1 | _ => .stuck := (rfl)
@[simp] theorem tNot_ev : tNot c ρ μ = (c ρ μ).bind fun b μ1 => .ok (!b) μ1 := (rfl)
@[simp] theorem tAnd_ev : tAnd c c' ρ μ = (c ρ μ).bind fun b μ1 => if b then c' ρ μ1 else .ok false μ1 := (rfl)
@[simp] theorem tOr_ev : tOr c c' ρ μ = (c ρ μ).bind fun b μ1 => if b then .ok true μ1 else c' ρ μ1 := (rfl)
@[simp] theorem eIf_ev : eIf c fa fb ρ μ = (c ρ μ).bind fun b μ1 => if b then fa ρ μ1 else fb ρ μ1 := (rfl)
@[simp] theorem eNot_ev : eNot fa ρ μ = (fa ρ μ).bind fun x μ1 => match x with | .bl b => .ok (.bl (!b)) μ1 | _ => .stuck := (rfl)
@[simp] theorem eAnd_ev : eAnd fa fb ρ μ = (fa ρ μ).bind fun x μ1 => match x with | .bl b => if b then fb ρ μ1 else .ok (.bl false) μ1 | _ => .stuck := (rfl)
@[simp] theorem eOr_ev : eOr fa fb ρ μ = (fa ρ μ).bind fun x μ1 => match x with | .bl b => if b then .ok (.bl true) μ1 else fb ρ μ1 | _ => .stuck := (rfl)
@[simp] theorem eChain_ev : eChain g g' fa fb fc ρ μ = (fa ρ μ).bind fun x μ1 => (fb ρ μ1).bind fun y μ2 => (g x y μ2).bind fun z μ3 => match z with
  | .bl b => if b then (fc ρ μ3).bind fun u μ4 => (g' y u μ4).bind fun z' μ5 => match z' with
      | .bl b' => .ok (.bl b') μ5
      | _ => .stuck
    else .ok (.bl false) μ3
  | _ => .stuck := (rfl)
@[simp] theorem oNone_ev : oNone ρ μ = .ok none μ := (rfl)
@[simp] theorem oSome_ev : oSome fa ρ μ = (fa ρ μ).bind fun d μ1 => match d with | .int i => .ok (some i) μ1 | _ => .stuck := (rfl)
@[simp] theorem eCut_ev {fl fh : FO} : eCut fa fl fh ρ μ = (fa ρ μ).bind fun d μ1 => (fl ρ μ1).bind fun l μ2 => (fh ρ μ2).bind fun u μ3 => oCut d l u μ3 := (rfl)
@[simp] theorem eIsi_ev {T : String} : eIsi T fa ρ μ = (fa ρ μ).bind fun d μ1 => match tyName μ1 d with
  | some t => match kitB t T with
    | some b => .ok (.bl b) μ1
    | none => .stuck
  | none => .stuck := (rfl)
@[simp] theorem eJoin_ev : eJoin fo fe ρ μ = (fo ρ μ).bind fun d μ1 => match d with | .str s => (fe ρ μ1).bind fun e μ2 => oJoin (.str s) e μ2 | _ => .stuck := (rfl)
@[simp] theorem eLm_ev : eLm g fo fe ρ μ = (fo ρ μ).bind fun d μ1 => if isL μ1 d = true then (fe ρ μ1).bind fun e μ2 => g d e μ2 else .stuck := (rfl)
@[simp] theorem sNext_ev : sNext ρ μ = .nx ρ μ := (rfl)
@[simp] theorem sSeq_ev : sSeq s s' ρ μ = match s ρ μ with | .nx ρ1 μ1 => s' ρ1 μ1 | r => r := (rfl)
@[simp] theorem sIf_ev : sIf c s s' ρ μ = rS (c ρ μ) fun b μ1 => if b = true then s ρ μ1 else s' ρ μ1 := (rfl)
@[simp] theorem sRet_ev : sRet fe ρ μ = rS (fe ρ μ) fun d μ1 => .rt d μ1 := (rfl)
@[simp] theorem sExpr_ev : sExpr fe ρ μ = rS (fe ρ μ) fun _ μ1 => .nx ρ μ1 := (rfl)
@[simp] theorem sNever_ev : sNever ρ μ = .stuck := (rfl)
@[simp] theorem sAsg_ev {g : D → Env → Store → Res Env} : sAsg g fe ρ μ = rS (fe ρ μ) fun d μ1 => rS (g d ρ μ1) fun ρ1 μ2 => .nx ρ1 μ2 := (rfl)
@[simp] theorem gVar_ev {d : D} : gVar i d ρ μ = if i < ρ.length then .ok (ρ.set i (some d)) μ else .stuck := (rfl)
@[simp] theorem gNil_ev : gNil [] ρ μ = .ok ρ μ := (rfl)
@[simp] theorem gCons_ev {g : D → Env → Store → Res Env} {h : List D → Env → Store → Res Env} {d : D} {r : List D} : gCons g h (d :: r) ρ μ = (g d ρ μ).bind fun ρ1 μ1 => h r ρ1 μ1 := (rfl)
@[simp] theorem gTup_ev {h : List D → Env → Store → Res Env} {ds : List D} : gTup n h (.tup ds) ρ μ = if ds.length = n then h ds ρ μ else .stuck := (rfl)
@[simp] theorem gIx_ev {v : D} : gIx fo fi v ρ μ = (fo ρ μ).bind fun d μ1 => (fi ρ μ1).bind fun e μ2 => match d, e with
  | .loc n, .int i => match μ2[n]? with
    | some (.lst es) => match ixN es.length i with
      | some j => .ok ρ (μ2.set n (.lst (es.set j v)))
      | none => .stuck
    | _ => .stuck
  | _, _ => .stuck := (rfl)
@[simp] theorem sAug_ev : sAug i g fe ρ μ = match ρ[i]? with
  | some (some x) => rS (fe ρ μ) fun y μ1 => rS (g x y μ1) fun z μ2 => if i < ρ.length then .nx (ρ.set i (some z)) μ2 else .stuck
  | _ => .stuck := (rfl)
@[simp] theorem sPar_ev : sPar i j fa fb ρ μ = rS (fa ρ μ) fun x μ1 => rS (fb ρ μ1) fun y μ2 => if i < ρ.length ∧ j < ρ.length then .nx ((ρ.set i (some x)).set j (some y)) μ2 else .stuck := (rfl)
@[simp] theorem sAsg2_ev {g1 g2 : D → Env → Store → Res Env} : sAsg2 g1 g2 fe ρ μ = rS (fe ρ μ) fun d μ1 => rS (g1 d ρ μ1) fun ρ1 μ2 => rS (g2 d ρ1 μ2) fun ρ2 μ3 => .nx ρ2 μ3 := (rfl)
@[simp] theorem iOf_ev : iOf fe ρ μ = (fe ρ μ).bind fun d μ1 => oWalk d μ1 := (rfl)
@[simp] theorem iEnumD_ev : iEnumD fe ρ μ = (fe ρ μ).bind fun d μ1 => oEnum d μ1 := (rfl)
def rangeR (d : D) (μ : Store) : Res (List D × Option Nat) := match d with
  | .int j => if -1000000 ≤ j ∧ j ≤ 1000000 then .ok ((List.range j.toNat).map fun i => .int (0 + (i : Nat)), none) μ else .stuck
  | _ => .stuck
def rg (n : Nat) : List D := (List.range n).map fun i => .int (i : Nat)
@[simp] theorem iRange1_ev : iRange1 fa ρ μ = (fa ρ μ).bind fun d μ1 => rangeR d μ1 := (rfl)
theorem rangeR_nat (h : n ≤ 1000000) : rangeR (.int (n : Nat)) μ = .ok (rg n, none) μ := by
  have h1 : (-1000000 : Int) ≤ (n : Nat) ∧ ((n : Nat) : Int) ≤ 1000000 := by omega
  simp only [rangeR, if_pos h1, rg, Int.toNat_natCast, Int.zero_add]
@[simp] theorem sFor_ev {fi : FI} {g : D → Env → Store → Res Env} : sFor fi g s ρ μ = rS (fi ρ μ) fun it μ1 => forL it.1 it.2 g s it.1 ρ μ1 := (rfl)
@[simp] theorem eLc_ev {vs : List Nat} {fi : FI} {g : D → Env → Store → Res Env} : eLc vs fi g ft fe ρ μ = (fi ρ μ).bind fun it μ1 => lcL it.1 it.2 g ft fe (wipeE ρ vs) it.1 μ1 [] := (rfl)
@[simp] theorem mD_ev {ds : List D} : mD n s ds μ = match s (ds.map some ++ List.replicate (n - ds.length) none) μ with
  | .rt d μ' => .ok d μ'
  | .nx _ μ' => .ok .non μ'
  | _ => .stuck := (rfl)
@[simp] theorem mDf_ev {ds : List D} : mDf n s ds μ = fin μ.length (mD n s ds μ) := (rfl)
@[simp] theorem thaw_ev {ds : List D} : thaw (.ok (.lst ds) μ) = .ok (.loc μ.length) (μ ++ [.lst ds]) := (rfl)
@[simp] theorem eThaw_ev : eThaw fe ρ μ = thaw (fe ρ μ) := (rfl)
@[simp] theorem eTupRg_ev {fi : FI} : eTupRg fi ρ μ = (fi ρ μ).bind fun it μ1 => .ok (.tup it.1) μ1 := (rfl)
@[simp] theorem eNeg_ev : eNeg fa ρ μ = (fa ρ μ).bind fun x μ1 => match x with | .int i => .ok (.int (-i)) μ1 | _ => .stuck := (rfl)
@[simp] theorem eFld_ev {f : Str} : eFld k f fa ρ μ = (fa ρ μ).bind fun d μ1 => match insOf k μ1 d with
  | some (ns, ds) => match (ns.zip ds).lookup f with
    | some e => .ok e μ1
    | none => .stuck
  | none => .stuck := (rfl)
@[simp] theorem eProp_ev : eProp k F fa ρ μ = (fa ρ μ).bind fun d μ1 => match insOf k μ1 d with
  | some _ => F [d] μ1
  | none => .stuck := (rfl)
@[simp] theorem sFld_ev {f : Str} : sFld k f fo fv ρ μ = rS (fv ρ μ) fun e μ1 => rS (fo ρ μ1) fun d μ2 => match d with
  | .loc n => match μ2[n]? with
    | some (.ins c' ns ds) => if c' = k ∧ ns.length < 900 then .nx ρ (μ2.set n (.ins k (putNs f ns) (putXs f e ns ds))) else .stuck
    | _ => .stuck
  | _ => .stuck := (rfl)
@[simp] theorem eMake_ev : eMake k n F fs ρ μ = (fs ρ μ).bind fun ds μ1 => if ds.length + 1 = n then match F (.loc μ1.length :: ds) (μ1 ++ [.ins k [] []]) with
    | .ok .non μ2 => match μ2[μ1.length]? with
      | some (.ins c' ns es) => if (decide (c' = k) && decide (μ2.length = μ1.length + 1) && lows μ1.length es && (μ2.take μ1.length).all (lowC μ1.length)) = true then .ok (.obj k ns es) (μ2.take μ1.length) else .stuck
      | _ => .stuck
    | _ => .stuck
  else .stuck := (rfl)
@[simp] theorem oAdd_int {a b : Int} : oAdd (.int a) (.int b) μ = .ok (.int (a + b)) μ := (rfl)
@[simp] theorem oAddI_int {a b : Int} : oAddI (.int a) (.int b) μ = .ok (.int (a + b)) μ := (rfl)
@[simp] theorem oSub_int {a b : Int} : oSub (.int a) (.int b) μ = .ok (.int (a - b)) μ := (rfl)
theorem oMul_int {a b : Int} (h : (Sm a || Sm b) = true) : oMul (.int a) (.int b) μ = .ok (.int (a * b)) μ := by simp [oMul, h]
theorem oMod_int {a b : Int} (h : 0 < b) : oMod (.int a) (.int b) μ = .ok (.int (a % b)) μ := by simp [oMod, h]
theorem oFdv_wide {a b : Int} (h : 0 < b) (h2 : b < 4611686018427387904) : oFdv (.int a) (.int b) μ = .ok (.int (a / b)) μ := by
  have h3 : b.natAbs.log2 < 9000 := by
    have h4 : b.natAbs < 2 ^ 62 := by omega
    exact Nat.lt_of_lt_of_le (PySem.Flt.log2_lt_of (by decide) h4) (by decide)
  simp [oFdv, h, h3]
theorem oFdv_int {a b : Int} (h : 0 < b) (h2 : b < 1073741824) : oFdv (.int a) (.int b) μ = .ok (.int (a / b)) μ := oFdv_wide h (by omega)
@[simp] theorem oI_int {p : Int → Int → Bool} {a b : Int} : oI p (.int a) (.int b) μ = .ok (.bl (p a b)) μ := (rfl)
@[simp] theorem oLt_int {a b : Int} : oLt (.int a) (.int b) μ = .ok (.bl (decide (a < b))) μ := (rfl)
@[simp] theorem oLe_int {a b : Int} : oLe (.int a) (.int b) μ = .ok (.bl (decide (a ≤ b))) μ := (rfl)
@[simp] theorem oGt_int {a b : Int} : oGt (.int a) (.int b) μ = .ok (.bl (decide (b < a))) μ := (rfl)
@[simp] theorem oGe_int {a b : Int} : oGe (.int a) (.int b) μ = .ok (.bl (decide (b ≤ a))) μ := (rfl)
@[simp] theorem oNotN_ev {d : D} : oNotN d .non μ = .ok (.bl (!d.isNon)) μ := (rfl)
@[simp] theorem oIsN_ev {d : D} : oIsN d .non μ = .ok (.bl d.isNon) μ := (rfl)
@[simp] theorem cInt_int {a : Int} : cInt [.int a] μ = .ok (.int a) μ := (rfl)
@[simp] theorem cInt_bl {b : Bool} : cInt [.bl b] μ = .ok (.int (if b then 1 else 0)) μ := (rfl)
@[simp] theorem cMax2_ev {a b : Int} : cMax2 [.int a, .int b] μ = .ok (.int (if b > a then b else a)) μ := (rfl)
end
/-! ### plain data -/
mutual
def pl : Nat → D → Bool
  | _, .int _ => true
  | _, .str s => s.all (· < 0x110000)
  | k + 1, .tup ds => pls k ds
  | k + 1, .lst ds => pls k ds
  | _, _ => false
def pls : Nat → List D → Bool
  | _, [] => true
  | k, d :: ds => pl k d && pls k ds
end
theorem pls_iff {k : Nat} {ds : List D} : pls k ds = true ↔ ∀ d ∈ ds, pl k d = true := by
  induction ds with
  | nil => simp [pls]
  | cons d ds ih => simp [pls, ih]
mutual
theorem pl_lay : ∀ {k : Nat} {d : D}, pl k d = true → (toPy d).canLay0 = true ∧ (toPy d).depth ≤ k + 1
  | _, .int _, _ => by simp [toPy, PyData.canLay0, PyData.depth]
  | _, .str s, h => by
    simp only [pl] at h
    simp [toPy, PyData.canLay0, PyData.depth, PyData.strOk]
    simpa using h
  | 0, .tup ds, h => by simp [pl] at h
  | 0, .lst ds, h => by simp [pl] at h
  | k + 1, .tup ds, h => by
    have := pls_lay (k := k) (ds := ds) (by simpa [pl] using h)
    simp only [toPy, PyData.canLay0, PyData.depth]
    exact ⟨this.1, by omega⟩
  | k + 1, .lst ds, h => by
    have := pls_lay (k := k) (ds := ds) (by simpa [pl] using h)
    simp only [toPy, PyData.canLay0, PyData.depth]
    exact ⟨this.1, by omega⟩
  | 0, .non, h => by simp [pl] at h
  | k + 1, .non, h => by simp [pl] at h
  | 0, .bl _, h => by simp [pl] at h
  | k + 1, .bl _, h => by simp [pl] at h
  | 0, .flst _, h => by simp [pl] at h
  | k + 1, .flst _, h => by simp [pl] at h
  | 0, .obj _ _ _, h => by simp [pl] at h
  | k + 1, .obj _ _ _, h => by simp [pl] at h
  | 0, .loc _, h => by simp [pl] at h
  | k + 1, .loc _, h => by simp [pl] at h
theorem pls_lay : ∀ {k : Nat} {ds : List D}, pls k ds = true → PyData.canLayAll0 (toPys ds) = true ∧ PyData.depthAll (toPys ds) ≤ k + 1
  | _, [], _ => by simp [toPys, PyData.canLayAll0, PyData.depthAll]
  | k, d :: ds, h => by
    simp only [pls, Bool.and_eq_true] at h
    have h1 := pl_lay h.1
    have h2 := pls_lay h.2
    simp only [toPys, PyData.canLayAll0, PyData.depthAll, h1.1, h2.1]
    exact ⟨rfl, by omega⟩
end
theorem pl_ok {k : Nat} {d : D} (h : pl k d = true) (hk : k ≤ 60 := by decide) : okD (toPy d) = true := by
  have := pl_lay h
  unfold okD SeqAt.shaped
  simp only [this.1, Bool.true_and, decide_eq_true_eq]
  omega
mutual
theorem pl_eqv : ∀ {k j : Nat} {d e : D}, pl k d = true → pl j e = true → (PyData.eqv (toPy d) (toPy e) = true ↔ d = e)
  | _, _, .int _, .int _, _, _ => by simp [toPy, PyData.eqv]
  | _, _, .str _, .str _, _, _ => by simp [toPy, PyData.eqv]
  | k + 1, j + 1, .tup ds, .tup es, h, h2 => by simpa [toPy, PyData.eqv] using pls_eqv (k := k) (j := j) (by simpa [pl] using h) (by simpa [pl] using h2)
  | k + 1, j + 1, .lst ds, .lst es, h, h2 => by simpa [toPy, PyData.eqv] using pls_eqv (k := k) (j := j) (by simpa [pl] using h) (by simpa [pl] using h2)
  | _, _, .int _, .str _, _, _ => by simp [toPy, PyData.eqv]
  | _, _, .int _, .tup _, _, _ => by simp [toPy, PyData.eqv]
  | _, _, .int _, .lst _, _, _ => by simp [toPy, PyData.eqv]
  | _, _, .str _, .int _, _, _ => by simp [toPy, PyData.eqv]
  | _, _, .str _, .tup _, _, _ => by simp [toPy, PyData.eqv]
  | _, _, .str _, .lst _, _, _ => by simp [toPy, PyData.eqv]
  | _, _, .tup _, .int _, _, _ => by simp [toPy, PyData.eqv]
  | _, _, .tup _, .str _, _, _ => by simp [toPy, PyData.eqv]
  | _, _, .tup _, .lst _, _, _ => by simp [toPy, PyData.eqv]
  | _, _, .lst _, .int _, _, _ => by simp [toPy, PyData.eqv]
  | _, _, .lst _, .str _, _, _ => by simp [toPy, PyData.eqv]
  | _, _, .lst _, .tup _, _, _ => by simp [toPy, PyData.eqv]
  | 0, _, .tup _, _, h, _ => by simp [pl] at h
  | 0, _, .lst _, _, h, _ => by simp [pl] at h
  | _, 0, _, .tup _, _, h => by simp [pl] at h
  | _, 0, _, .lst _, _, h => by simp [pl] at h
  | 0, _, .non, _, h, _ => by simp [pl] at h
  | k + 1, _, .non, _, h, _ => by simp [pl] at h
  | 0, _, .bl _, _, h, _ => by simp [pl] at h
  | k + 1, _, .bl _, _, h, _ => by simp [pl] at h
  | 0, _, .flst _, _, h, _ => by simp [pl] at h
  | k + 1, _, .flst _, _, h, _ => by simp [pl] at h
  | 0, _, .obj _ _ _, _, h, _ => by simp [pl] at h
  | k + 1, _, .obj _ _ _, _, h, _ => by simp [pl] at h
  | 0, _, .loc _, _, h, _ => by simp [pl] at h
  | k + 1, _, .loc _, _, h, _ => by simp [pl] at h
  | _, 0, _, .non, _, h => by simp [pl] at h
  | _, k + 1, _, .non, _, h => by simp [pl] at h
  | _, 0, _, .bl _, _, h => by simp [pl] at h
  | _, k + 1, _, .bl _, _, h => by simp [pl] at h
  | _, 0, _, .flst _, _, h => by simp [pl] at h
  | _, k + 1, _, .flst _, _, h => by simp [pl] at h
  | _, 0, _, .obj _ _ _, _, h => by simp [pl] at h
  | _, k + 1, _, .obj _ _ _, _, h => by simp [pl] at h
  | _, 0, _, .loc _, _, h => by simp [pl] at h
  | _, k + 1, _, .loc _, _, h => by simp [pl] at h
theorem pls_eqv : ∀ {k j : Nat} {ds es : List D}, pls k ds = true → pls j es = true → (PyData.eqvAll (toPys ds) (toPys es) = true ↔ ds = es)
  | _, _, [], [], _, _ => by simp [toPys, PyData.eqvAll]
  | _, _, [], _ :: _, _, _ => by simp [toPys, PyData.eqvAll]
  | _, _, _ :: _, [], _, _ => by simp [toPys, PyData.eqvAll]
  | k, j, d :: ds, e :: es, h, h2 => by
    simp only [pls, Bool.and_eq_true] at h h2
    simp [toPys, PyData.eqvAll, pl_eqv h.1 h2.1, pls_eqv h.2 h2.2]
end
/-- what stands at a place -/
def rd (μ : Store) : D → D
  | .loc n => match μ[n]? with
    | some (.lst ds) => .lst ds
    | _ => .loc n
  | d => d
theorem toPyM_rd {μ : Store} {d : D} : toPyM μ d = toPy (rd μ d) := by
  cases d <;> try rfl
  rename_i n
  simp only [toPyM, rd]
  cases h : μ[n]? with
  | none => rfl
  | some c => cases c <;> rfl
theorem oEq_pl {k j : Nat} {d e : D} {μ : Store} (h : pl k (rd μ d) = true) (h2 : pl j (rd μ e) = true) (hk : k ≤ 60 := by decide) (hj : j ≤ 60 := by decide) : oEq d e μ = .ok (.bl (decide (rd μ d = rd μ e))) μ := by
  unfold oEq
  simp only [toPyM_rd, pl_ok h hk, pl_ok h2 hj, Bool.and_true, if_true]
  congr 2
  rw [Bool.eq_iff_iff, decide_eq_true_eq]
  exact pl_eqv h h2
theorem oNe_pl {k j : Nat} {d e : D} {μ : Store} (h : pl k (rd μ d) = true) (h2 : pl j (rd μ e) = true) (hk : k ≤ 60 := by decide) (hj : j ≤ 60 := by decide) : oNe d e μ = .ok (.bl (!decide (rd μ d = rd μ e))) μ := by
  unfold oNe
  simp only [toPyM_rd, pl_ok h hk, pl_ok h2 hj, Bool.and_true, if_true]
  congr 3
  rw [Bool.eq_iff_iff, decide_eq_true_eq]
  exact pl_eqv h h2
@[simp] theorem oEq_bl {a b : Bool} {μ : Store} : oEq (.bl a) (.bl b) μ = .ok (.bl (a == b)) μ := by cases a <;> cases b <;> rfl
@[simp] theorem oNe_bl {a b : Bool} {μ : Store} : oNe (.bl a) (.bl b) μ = .ok (.bl (a != b)) μ := by cases a <;> cases b <;> rfl
@[simp] theorem oEq_int {a b : Int} {μ : Store} : oEq (.int a) (.int b) μ = .ok (.bl (decide (a = b))) μ := by
  rw [oEq_pl (k := 0) (j := 0) rfl rfl]; simp [rd]
@[simp] theorem oNe_int {a b : Int} {μ : Store} : oNe (.int a) (.int b) μ = .ok (.bl (!decide (a = b))) μ := by
  rw [oNe_pl (k := 0) (j := 0) rfl rfl]; simp [rd]
/-! ### comprehensions -/
theorem lc_pure {items : List D} {g : D → Env → Store → Res Env} {ft : FT} {fe : FE} {ρ : Env} {μ : Store} (p : D → Bool) (f : D → D) {ds : List D} {acc : List D}
    (h : ∀ d ∈ ds, ∃ ρ1, g d ρ μ = .ok ρ1 μ ∧ ft ρ1 μ = .ok (p d) μ ∧ (p d = true → fe ρ1 μ = .ok (f d) μ)) (hl : acc.length + ds.length ≤ LIM) :
    lcL items none g ft fe ρ ds μ acc = .ok (.lst (acc ++ (ds.filter p).map f)) μ := by
  induction ds generalizing acc with
  | nil => simp [lcL, srcOk]
  | cons d ds ih =>
    obtain ⟨ρ1, h1, h2, h3⟩ := h d (by simp)
    simp only [lcL, srcOk, if_true, h1, Res.bind_ok, h2]
    simp only [List.length_cons] at hl
    cases hp : p d with
    | false =>
      simp only [Bool.false_eq_true, if_false]
      rw [ih (fun d' m => h d' (by simp [m])) (by omega)]
      simp [hp]
    | true =>
      simp only [if_true, h3 hp, Res.bind_ok]
      rw [if_pos (by omega), ih (fun d' m => h d' (by simp [m])) (by simp; omega)]
      simp [hp]
inductive F2 {α β : Type} (P : α → β → Prop) : List α → List β → Prop
  | nil : F2 P [] []
  | cons {a : α} {b : β} {r : List α} {s : List β} (h : P a b) (t : F2 P r s) : F2 P (a :: r) (b :: s)
theorem F2.length_eq {α β : Type} {P : α → β → Prop} {r : List α} {s : List β} (h : F2 P r s) : r.length = s.length := by
  induction h with
  | nil => rfl
  | cons _ _ ih => simp [ih]
theorem F2.all {α β : Type} {P : α → β → Prop} {r : List α} {s : List β} (h : F2 P r s) : ∀ b ∈ s, ∃ a ∈ r, P a b := by
  induction h with
  | nil => simp
  | cons h _ ih =>
    intro b hb
    rcases List.mem_cons.mp hb with rfl | hb
    · exact ⟨_, by simp, h⟩
    · obtain ⟨a, m, p⟩ := ih b hb
      exact ⟨a, by simp [m], p⟩
/-- a comprehension with a state: what holds of the state goes on to hold, what holds of each thing holds of all -/
theorem lc_st {items : List D} {g : D → Env → Store → Res Env} {ft : FT} {fe : FE} {ρ : Env} (I : Store → Prop) (P : D → D → Prop) {ds : List D} {acc : List D} {μ : Store} (hI : I μ)
    (h : ∀ d ∈ ds, ∀ μ, I μ → ∃ ρ1 μ1, g d ρ μ = .ok ρ1 μ1 ∧ ∃ b μ2, ft ρ1 μ1 = .ok b μ2 ∧ (b = false → I μ2) ∧ (b = true → ∃ y μ3, fe ρ1 μ2 = .ok y μ3 ∧ I μ3 ∧ P d y)) (hl : acc.length + ds.length ≤ LIM) :
    ∃ ys zs μ', lcL items none g ft fe ρ ds μ acc = .ok (.lst (acc ++ ys)) μ' ∧ I μ' ∧ zs.Sublist ds ∧ F2 P zs ys := by
  induction ds generalizing acc μ with
  | nil => exact ⟨[], [], μ, by simp [lcL, srcOk], hI, .slnil, .nil⟩
  | cons d ds ih =>
    obtain ⟨ρ1, μ1, h1, b, μ2, h2, h3, h4⟩ := h d (by simp) μ hI
    simp only [lcL, srcOk, if_true, h1, Res.bind_ok, h2]
    simp only [List.length_cons] at hl
    cases b with
    | false =>
      simp only [Bool.false_eq_true, if_false]
      obtain ⟨ys, zs, μ', e, i, s, f⟩ := ih (acc := acc) (h3 rfl) (fun d' m => h d' (by simp [m])) (by omega)
      exact ⟨ys, zs, μ', e, i, s.cons _, f⟩
    | true =>
      obtain ⟨y, μ3, h5, h6, h7⟩ := h4 rfl
      simp only [if_true, h5, Res.bind_ok]
      rw [if_pos (by omega)]
      obtain ⟨ys, zs, μ', e, i, s, f⟩ := ih (acc := acc ++ [y]) h6 (fun d' m => h d' (by simp [m])) (by simp; omega)
      exact ⟨y :: ys, d :: zs, μ', by rw [e]; simp, i, s.cons₂ _, .cons h7 f⟩
theorem lc_all {items : List D} {g : D → Env → Store → Res Env} {ft : FT} {fe : FE} {ρ : Env} (I : Store → Prop) (P : D → D → Prop) {ds : List D} {acc : List D} {μ : Store} (hI : I μ)
    (h : ∀ d ∈ ds, ∀ μ, I μ → ∃ ρ1 μ1, g d ρ μ = .ok ρ1 μ1 ∧ ∃ μ2, ft ρ1 μ1 = .ok true μ2 ∧ ∃ y μ3, fe ρ1 μ2 = .ok y μ3 ∧ I μ3 ∧ P d y) (hl : acc.length + ds.length ≤ LIM) :
    ∃ ys μ', lcL items none g ft fe ρ ds μ acc = .ok (.lst (acc ++ ys)) μ' ∧ I μ' ∧ F2 P ds ys := by
  induction ds generalizing acc μ with
  | nil => exact ⟨[], μ, by simp [lcL, srcOk], hI, .nil⟩
  | cons d ds ih =>
    obtain ⟨ρ1, μ1, h1, μ2, h2, y, μ3, h5, h6, h7⟩ := h d (by simp) μ hI
    simp only [lcL, srcOk, if_true, h1, Res.bind_ok, h2, h5]
    simp only [List.length_cons] at hl
    rw [if_pos (by omega)]
    obtain ⟨ys, μ', e, i, f⟩ := ih (acc := acc ++ [y]) h6 (fun d' m => h d' (by simp [m])) (by simp; omega)
    exact ⟨y :: ys, μ', by rw [e]; simp, i, .cons h7 f⟩
theorem F2.map_of {α β γ : Type} {P : α → β → Prop} {Q : γ → Prop} {f : γ → β} (h : ∀ a b, P a b → ∃ c, b = f c ∧ Q c) {r : List α} {s : List β} (t : F2 P r s) : ∃ cs : List γ, s = cs.map f ∧ cs.length = r.length ∧ ∀ c ∈ cs, Q c := by
  induction t with
  | nil => exact ⟨[], rfl, rfl, by simp⟩
  | cons p _ ih =>
    obtain ⟨c, rfl, q⟩ := h _ _ p
    obtain ⟨cs, rfl, l, qs⟩ := ih
    exact ⟨c :: cs, rfl, by simp [l], by simp [q]; exact qs⟩
theorem join_one : ∀ {cs : List Nat}, joinD [] (cs.map fun c => [c]) = cs
  | [] => rfl
  | [c] => rfl
  | c :: d :: r => by
    have := join_one (cs := d :: r)
    simp only [List.map_cons] at this ⊢
    simp only [joinD, this]
    rfl
theorem strs_one : ∀ {cs : List Nat}, strsOf (cs.map fun c => D.str [c]) = some (cs.map fun c => [c])
  | [] => rfl
  | c :: r => by simp [strsOf, strs_one (cs := r)]
theorem oJoin_one {cs : List Nat} {μ : Store} (h : cs.length ≤ LIM) : oJoin (.str []) (.lst (cs.map fun c => D.str [c])) μ = .ok (.str cs) μ := by
  simp [oJoin, seqOf, strs_one, join_one, Function.comp_def]
  have : ∀ l : List Nat, (List.map (fun c : Nat => 1) l).sum = l.length := fun l => by induction l <;> simp_all; omega
  rw [this]
  exact h
theorem for_cons {items : List D} {g : D → Env → Store → Res Env} {body : FS} {d : D} {ds : List D} {ρ : Env} {μ : Store} : forL items none g body (d :: ds) ρ μ = rS (g d ρ μ) fun ρ1 μ1 => match body ρ1 μ1 with
      | .nx ρ2 μ2 => forL items none g body ds ρ2 μ2
      | .ct ρ2 μ2 => forL items none g body ds ρ2 μ2
      | .bk ρ2 μ2 => .nx ρ2 μ2
      | .rt d μ2 => .rt d μ2
      | .stuck => .stuck := by rw [forL, if_pos (show srcOk none items μ = true from rfl)] <;> rfl
theorem for_nil {items : List D} {g : D → Env → Store → Res Env} {body : FS} {ρ : Env} {μ : Store} : forL items none g body [] ρ μ = .nx ρ μ := by rw [forL, if_pos (show srcOk none items μ = true from rfl)]
theorem getElem?_mid {α : Type} {μ r : List α} {x : α} : (μ ++ x :: r)[μ.length]? = some x := by simp
theorem set_mid {α : Type} {μ r : List α} {x y : α} : (μ ++ x :: r).set μ.length y = μ ++ y :: r := by simp
/-- a loop that keeps something -/
theorem for_inv {items : List D} {g : D → Env → Store → Res Env} {body : FS} (J : List D → Env → Store → Prop) {ds : List D} {ρ : Env} {μ : Store} (hJ : J ds ρ μ)
    (h : ∀ d r ρ μ, J (d :: r) ρ μ → ∃ ρ1 μ1 ρ2 μ2, g d ρ μ = .ok ρ1 μ1 ∧ body ρ1 μ1 = .nx ρ2 μ2 ∧ J r ρ2 μ2) :
    ∃ ρ' μ', forL items none g body ds ρ μ = .nx ρ' μ' ∧ J [] ρ' μ' := by
  induction ds generalizing ρ μ with
  | nil => exact ⟨ρ, μ, by simp [forL, srcOk], hJ⟩
  | cons d ds ih =>
    obtain ⟨ρ1, μ1, ρ2, μ2, h1, h2, h3⟩ := h d ds ρ μ hJ
    obtain ⟨ρ', μ', e, j⟩ := ih h3
    exact ⟨ρ', μ', by simp only [forL, srcOk, if_true, h1, rS_ok, h2, e], j⟩

end Fw

set_option Elab.async false
set_option linter.all false
set_option maxRecDepth 100000
set_option autoImplicit false
namespace Fw
open PySem L2 PyProof.Rows
/-! ### a comprehension with two fors -/
theorem Kp.refl' {w : Wd} : Kp w w := ⟨fun _ _ h1 h2 h3 => ⟨h3, h1, h2⟩, fun _ _ h => h⟩
theorem Kp.trans' {w w1 w2 : Wd} (h : Kp w w1) (g : Kp w1 w2) : Kp w w2 := ⟨fun a o h1 h2 h3 => by
    obtain ⟨x, y, z⟩ := h.at_ a o h1 h2 h3
    exact g.at_ a o y z x, fun n a e => g.loc n a (h.loc n a e)⟩
def lcL2 (items : List D) (src : Option Nat) (g : D → Env → Store → Res Env) (ft : FT) (fi1 : FI) (g1 : D → Env → Store → Res Env) (ft1 : FT) (fe : FE) (vs1 : List Nat) (ρ : Env) : List D → Store → List D → Res D
  | [], μ, acc => if srcOk src items μ = true then .ok (.lst acc) μ else .stuck
  | d :: ds, μ, acc => if srcOk src items μ = true then (g d ρ μ).bind fun ρ1 μ1 => (ft ρ1 μ1).bind fun b μ2 =>
      if b = true then (fi1 ρ1 μ2).bind fun it μ3 => (lcL it.1 it.2 g1 ft1 fe (wipeE ρ1 vs1) it.1 μ3 acc).bind fun d μ4 => match d with
        | .lst acc' => lcL2 items src g ft fi1 g1 ft1 fe vs1 ρ ds μ4 acc'
        | _ => .stuck
      else lcL2 items src g ft fi1 g1 ft1 fe vs1 ρ ds μ2 acc
    else .stuck
def eLc2 (vs vs1 : List Nat) (fi : FI) (g : D → Env → Store → Res Env) (ft : FT) (fi1 : FI) (g1 : D → Env → Store → Res Env) (ft1 : FT) (fe : FE) : FE := fun ρ μ => (fi ρ μ).bind fun it μ1 => lcL2 it.1 it.2 g ft fi1 g1 ft1 fe vs1 (wipeE ρ vs) it.1 μ1 []
section
variable {K : PySem.W.Frag} {cls : Nat → Option Addr} {w w1 w' w4 : Wd} {μ : Store}
theorem lc2_ok {wi wi1 : TI} {fi fi1 : FI} {is is1 vs vs1 : List Nat} {g g1 : D → Env → Store → Res Env} {ft ft1 : FT} {fe : FE}
    (h1 : ∀ (σ : L2.St) (R : It → Hp → Prop) (w : Wd) (ρ : Env) (μ : Store), RelS K cls w μ → RelE K cls w ρ σ → PostR K cls w (fun w' it => ∀ J, Wk K cls J w' it.1 it.2 → R J w'.H) (fi ρ μ) → wi σ w.H R)
    (h2 : ∀ (σ : L2.St) (R : It → Hp → Prop) (w : Wd) (ρ : Env) (μ : Store), RelS K cls w μ → RelE K cls w ρ σ → PostR K cls w (fun w' it => ∀ J, Wk K cls J w' it.1 it.2 → R J w'.H) (fi1 ρ μ) → wi1 σ w.H R)
    (hs : is.all (vs.contains ·) = true) (hs1 : is1.all (vs1.contains ·) = true) {σ : L2.St} {Q : VK} {ρ : Env} (S : RelS K cls w μ) (E : RelE K cls w ρ σ) (h : PostR K cls w (fun w' d => ∀ v, RV K cls w' d v → Q v w'.H) (eLc2 vs vs1 fi g ft fi1 g1 ft1 fe ρ μ)) :
    tLc2 wi (TGof K cls is g) (TTof K cls ft) wi1 (TGof K cls is1 g1) (TTof K cls ft1) (TEof K cls fe) vs vs1 σ w.H Q := by
  refine h1 σ _ w ρ μ S E ((PostR.bind h).imp fun w1 it s1 ⟨μ1, S1, q1⟩ J wk => ?_)
  obtain ⟨items, src⟩ := it
  have E1 := E.mono s1.kp
  intro p hp
  refine ⟨fun i m H => m = items.length - i ∧ i ≤ items.length ∧ ∃ (w' : Wd) (μ' : Store) (acc : List D) (us : List V), w'.H = H ∧ w'.B = p :: w1.B ∧ Step w1 ⟨w'.ι, w1.B, w'.H⟩ ∧ RelS K cls w' μ' ∧ H p = some (.lst us) ∧
      RVs K cls w' acc us ∧ PostR K cls w1 (fun w' d => ∀ v, RV K cls w' d v → Q v w'.H) (lcL2 items src g ft fi1 g1 ft1 fe vs1 (wipeE ρ vs) (items.drop i) μ' acc),
    ⟨items.length, by simp, Nat.zero_le _, ⟨w1.ι, p :: w1.B, upd w1.H p (.lst [])⟩, μ1, [], [], rfl, rfl, step_new hp, S1.ban1 hp, upd_same, rfl, by simpa using q1⟩, ?_⟩
  rintro i m H ⟨rfl, hle, w', μ', acc, us, rfl, hB, st, S', hD, racc, q⟩
  have kp : Kp w1 w' := ⟨fun a o hi hb e => ⟨st.keep a o hi e, st.notin e hi, fun z => by
      rw [hB] at z
      rcases List.mem_cons.mp z with e1 | z
      · exact ne_of_none e hp e1
      · exact hb z⟩, fun n a e => st.loc e⟩
  have E' := (E1.mono kp).wipe vs
  by_cases hlt : i < items.length
  · rw [List.drop_eq_getElem_cons hlt] at q
    simp only [lcL2] at q
    split at q
    · rename_i so
      obtain ⟨wd, _⟩ := wk i w' μ' kp S' so
      obtain ⟨go, yld⟩ := wd items[i] (List.getElem?_eq_getElem hlt)
      refine .inr ⟨go, fun H => ∃ (w' : Wd) (μ' : Store) (acc : List D) (us : List V), w'.H = H ∧ w'.B = p :: w1.B ∧ Step w1 ⟨w'.ι, w1.B, w'.H⟩ ∧ RelS K cls w' μ' ∧ H p = some (.lst us) ∧
          RVs K cls w' acc us ∧ PostR K cls w1 (fun w' d => ∀ v, RV K cls w' d v → Q v w'.H) (lcL2 items src g ft fi1 g1 ft1 fe vs1 (wipeE ρ vs) (items.drop (i + 1)) μ' acc), fun H z => ⟨_, by omega, rfl, hlt, z⟩, fun x H2 y => ?_⟩
      obtain ⟨w2, rfl, st2, S2, rx⟩ := yld x H2 y
      refine ⟨w2, wipeE ρ vs, μ', items[i], rfl, S2, E'.mono st2.kp, rx, (PostR.bind0 q).imp fun w3 ρ3 _ ⟨st3, μ3, S3, q3⟩ σ3 E3 off => ⟨wipe_off off hs, w3, ρ3, μ3, rfl, S3, E3, (PostR.bind0 q3).imp fun w4 b _ ⟨st4, μ4, S4, q4⟩ => ?_⟩⟩
      have st14 : Step w' w4 := (st2.trans st3).trans st4
      have stw := st.under st14
      have hpB : p ∈ w'.B := by rw [hB]; exact List.mem_cons_self
      cases b with
      | false =>
        refine iteF ?_
        exact ⟨w4, μ4, acc, us, rfl, st14.ban.trans hB, stw, S4, st14.keep p _ (S'.ban p hpB).1 hD, racc.mono st14.kp, by simpa using q4⟩
      | true =>
        refine iteT ?_
        simp only [if_true] at q4
        refine h2 σ3 _ w4 ρ3 μ4 S4 (E3.mono st4.kp) ((PostR.bind0 q4).imp fun w5 it1 _ ⟨st5, μ5, S5, q5⟩ J1 wk1 => ?_)
        obtain ⟨items1, src1⟩ := it1
        have st15 : Step w' w5 := st14.trans st5
        have E5 : RelE K cls w5 ρ3 σ3 := (E3.mono st4.kp).mono st5.kp
        have hB5 : w5.B = p :: w1.B := st15.ban.trans hB
        refine ⟨fun j k H => k = items1.length - j ∧ j ≤ items1.length ∧ ∃ (w' : Wd) (μ' : Store) (acc : List D) (us : List V), w'.H = H ∧ w'.B = p :: w1.B ∧ Kp w5 w' ∧ Step w1 ⟨w'.ι, w1.B, w'.H⟩ ∧ RelS K cls w' μ' ∧ H p = some (.lst us) ∧
            RVs K cls w' acc us ∧ PostR K cls w1 (fun w' d => ∀ v, RV K cls w' d v → Q v w'.H) ((lcL items1 src1 g1 ft1 fe (wipeE ρ3 vs1) (items1.drop j) μ' acc).bind fun d μ4 => match d with
              | .lst acc' => lcL2 items src g ft fi1 g1 ft1 fe vs1 (wipeE ρ vs) (items.drop (i + 1)) μ4 acc'
              | _ => .stuck),
          ⟨items1.length, by simp, Nat.zero_le _, w5, μ5, acc, us, rfl, hB5, Kp.refl', st.under st15, S5, st15.keep p _ (S'.ban p hpB).1 hD, racc.mono st15.kp, by simpa using q5⟩, ?_⟩
        rintro j k H ⟨rfl, hle1, w6, μ6, acc6, us6, rfl, hB6, kp6, stw6, S6, hD6, racc6, q6⟩
        have hp6 : p ∈ w6.B := by rw [hB6]; exact List.mem_cons_self
        have E6 := (E5.mono kp6).wipe vs1
        by_cases hlt1 : j < items1.length
        · rw [List.drop_eq_getElem_cons hlt1] at q6
          simp only [lcL] at q6
          split at q6
          · rename_i so1
            obtain ⟨wd1, _⟩ := wk1 j w6 μ6 kp6 S6 so1
            obtain ⟨go1, yld1⟩ := wd1 items1[j] (List.getElem?_eq_getElem hlt1)
            refine .inr ⟨go1, fun H => ∃ (w' : Wd) (μ' : Store) (acc : List D) (us : List V), w'.H = H ∧ w'.B = p :: w1.B ∧ Kp w5 w' ∧ Step w1 ⟨w'.ι, w1.B, w'.H⟩ ∧ RelS K cls w' μ' ∧ H p = some (.lst us) ∧
                RVs K cls w' acc us ∧ PostR K cls w1 (fun w' d => ∀ v, RV K cls w' d v → Q v w'.H) ((lcL items1 src1 g1 ft1 fe (wipeE ρ3 vs1) (items1.drop (j + 1)) μ' acc).bind fun d μ4 => match d with
                  | .lst acc' => lcL2 items src g ft fi1 g1 ft1 fe vs1 (wipeE ρ vs) (items.drop (i + 1)) μ4 acc'
                  | _ => .stuck), fun H z => ⟨_, by omega, rfl, hlt1, z⟩, fun x1 H7 y1 => ?_⟩
            obtain ⟨w7, rfl, st7, S7, rx7⟩ := yld1 x1 H7 y1
            have q6' : PostR K cls w1 (fun w' d => ∀ v, RV K cls w' d v → Q v w'.H) ((g1 items1[j] (wipeE ρ3 vs1) μ6).bind fun ρ1 μ1 => (ft1 ρ1 μ1).bind fun b μ2 =>
                if b = true then (fe ρ1 μ2).bind fun y μ3 => if acc6.length < LIM then (lcL items1 src1 g1 ft1 fe (wipeE ρ3 vs1) (items1.drop (j + 1)) μ3 (acc6 ++ [y])).bind fun d μ4 => match d with
                    | .lst acc' => lcL2 items src g ft fi1 g1 ft1 fe vs1 (wipeE ρ vs) (items.drop (i + 1)) μ4 acc'
                    | _ => .stuck
                  else .stuck
                else (lcL items1 src1 g1 ft1 fe (wipeE ρ3 vs1) (items1.drop (j + 1)) μ2 acc6).bind fun d μ4 => match d with
                  | .lst acc' => lcL2 items src g ft fi1 g1 ft1 fe vs1 (wipeE ρ vs) (items.drop (i + 1)) μ4 acc'
                  | _ => .stuck) := by
              cases hg1 : g1 items1[j] (wipeE ρ3 vs1) μ6 with
              | stuck => simpa [hg1] using q6
              | ok ρ1 μ1 =>
                simp only [hg1, Res.bind_ok] at q6 ⊢
                cases hft : ft1 ρ1 μ1 with
                | stuck => simpa [hft] using q6
                | ok b μ2 =>
                  simp only [hft, Res.bind_ok] at q6 ⊢
                  cases b with
                  | false => simpa using q6
                  | true =>
                    simp only [if_true] at q6 ⊢
                    cases hfe : fe ρ1 μ2 with
                    | stuck => simpa [hfe] using q6
                    | ok y μ3 =>
                      simp only [hfe, Res.bind_ok] at q6 ⊢
                      by_cases hl : acc6.length < LIM
                      · simpa [hl] using q6
                      · simpa [hl] using q6
            refine ⟨w7, wipeE ρ3 vs1, μ6, items1[j], rfl, S7, E6.mono st7.kp, rx7, (PostR.bind0 q6').imp fun w8 ρ8 _ ⟨st8, μ8, S8, q8⟩ σ8 E8 off8 => ⟨wipe_off off8 hs1, w8, ρ8, μ8, rfl, S8, E8, (PostR.bind0 q8).imp fun w9 b9 _ ⟨st9, μ9, S9, q9⟩ => ?_⟩⟩
            have st69 : Step w6 w9 := (st7.trans st8).trans st9
            cases b9 with
            | false =>
              refine iteF ?_
              exact ⟨w9, μ9, acc6, us6, rfl, st69.ban.trans hB6, kp6.trans' st69.kp, stw6.under st69, S9, st69.keep p _ (S6.ban p hp6).1 hD6, racc6.mono st69.kp, by simpa using q9⟩
            | true =>
              refine iteT ?_
              simp only [if_true] at q9
              refine ⟨w9, ρ8, μ9, rfl, S9, E8.mono st9.kp, (PostR.bind0 q9).imp fun wa y _ ⟨sta, μa, Sa, qa⟩ v rv => ?_⟩
              have st6a : Step w6 wa := st69.trans sta
              split at qa
              · rename_i hl
                have hBa : wa.B = p :: w1.B := st6a.ban.trans hB6
                have hpa : p ∈ wa.B := by rw [hBa]; exact List.mem_cons_self
                refine ⟨us6, st6a.keep p _ (S6.ban p hp6).1 hD6, by rw [racc6.length]; exact lim_lt hl, ⟨wa.ι, wa.B, upd wa.H p (.lst (us6 ++ [v]))⟩, μa, acc6 ++ [y], us6 ++ [v], rfl, hBa, (kp6.trans' st6a.kp).trans' (kp_bump hpa), (stw6.under st6a).bumped hp, Sa.bump hpa, upd_same, ?_, qa⟩
                exact ((racc6.mono st6a.kp).append (.cons rv .nil)).mono (kp_bump hpa)
              · exact qa.elim
          · exact q6.elim
        · have e : j = items1.length := by omega
          subst e
          rw [List.drop_length] at q6
          simp only [lcL] at q6
          split at q6
          · rename_i so1
            obtain ⟨_, stop⟩ := wk1 items1.length w6 μ6 kp6 S6 so1
            exact .inl ⟨stop (Nat.le_refl _), w6, μ6, acc6, us6, rfl, hB6, stw6, S6, hD6, racc6, q6⟩
          · exact q6.elim
    · exact q.elim
  · have e : i = items.length := by omega
    subst e
    rw [List.drop_length] at q
    simp only [lcL2] at q
    split at q
    · rename_i so
      obtain ⟨_, stop⟩ := wk items.length w' μ' kp S' so
      refine .inl ⟨stop (Nat.le_refl _), q ⟨w'.ι, w1.B, w'.H⟩ st (S'.unban hB) _ ⟨p, us, rfl, ⟨hD, (S'.ban p (by rw [hB]; exact List.mem_cons_self)).1, (S1.free hp).2⟩, racc.unban hB⟩⟩
    · exact q.elim
end
def TIof (K : PySem.W.Frag) (cls : Nat → Option Addr) (f : FI) : TI := fun σ H R => ∃ (w : Wd) (ρ : Env) (μ : Store), w.H = H ∧ RelS K cls w μ ∧ RelE K cls w ρ σ ∧ PostR K cls w (fun w' it => ∀ J, Wk K cls J w' it.1 it.2 → R J w'.H) (f ρ μ)
section
variable {X : Cx} {cls : Nat → Option Addr} {elt tg iter tg1 iter1 : Expr} {ifs ifs1 : List Expr} {scope : Scope} {own : List (Str × Nat)} {vs1 : List Nat} {pos : Pos} {is is1 : List Nat} {fi fi1 : FI} {g g1 : D → Env → Store → Res Env} {ft ft1 : FT} {fe : FE}
theorem SI.pi (h : SI X cls tg iter fi) : PI X tg iter (TIof X.K cls fi) := by
  obtain ⟨t, p, k⟩ := h
  refine ⟨fun pins s σ H R I z => ?_⟩
  obtain ⟨w, ρ, μ, rfl, S, E, q⟩ := z
  exact p.run pins s σ w.H R I (k σ R w ρ μ S E q)
theorem se_lc2 (vs1 : List Nat) (hc : X.calm = true) (hN : X.N.Nodup) (hi : SI X cls tg iter fi) (ok : BlkOk X.N X.env.scope scope own)
    (hg : ∀ (s : Shared) (H : Hp) (C : Addr) (cl : List (Str × Addr)) (fp : List Addr), SG (X.blk s H scope (compEnvC scope cl C X.env) fp) cls tg is g) (ht : ∀ (s : Shared) (H : Hp) (C : Addr) (cl : List (Str × Addr)) (fp : List Addr), STs (X.blk s H scope (compEnvC scope cl C X.env) fp) cls ifs ft)
    (hi1 : ∀ (s : Shared) (H : Hp) (C : Addr) (cl : List (Str × Addr)) (fp : List Addr), SI (X.blk s H scope (compEnvC scope cl C X.env) fp) cls tg1 iter1 fi1)
    (hg1 : ∀ (s : Shared) (H : Hp) (C : Addr) (cl : List (Str × Addr)) (fp : List Addr), SG (X.blk s H scope (compEnvC scope cl C X.env) fp) cls tg1 is1 g1) (ht1 : ∀ (s : Shared) (H : Hp) (C : Addr) (cl : List (Str × Addr)) (fp : List Addr), STs (X.blk s H scope (compEnvC scope cl C X.env) fp) cls ifs1 ft1)
    (he : ∀ (s : Shared) (H : Hp) (C : Addr) (cl : List (Str × Addr)) (fp : List Addr), SE (X.blk s H scope (compEnvC scope cl C X.env) fp) cls elt fe) (hv : vs1.all ((own.map (·.2)).contains ·) = true := by decide) (hs : is.all ((own.map (·.2)).contains ·) = true := by decide) (hs1 : is1.all (vs1.contains ·) = true := by decide)
    (hf : ∀ x, foldedSetIterable iter X.env x = pure x := by intro _; rfl) (hf1 : ∀ env x, foldedSetIterable iter1 env x = pure x := by intro _ _; rfl) :
    SE X cls (.ListComp elt [⟨tg, iter, ifs, 0⟩, ⟨tg1, iter1, ifs1, 0⟩] scope pos) (eLc2 (own.map (·.2)) vs1 fi g ft fi1 g1 ft1 fe) := by
  obtain ⟨t1, p1, h1⟩ := hi
  exact ⟨_, pe_lc2 (g := TGof X.K cls is g) (tt := TTof X.K cls ft) (te := TEof X.K cls fe) (wi1 := TIof X.K cls fi1) (g1 := TGof X.K cls is1 g1) (tt1 := TTof X.K cls ft1) (vs1 := vs1) hc hN p1 ok (fun i hi => by have := List.all_eq_true.mp hv i hi; simpa using this) (fun s H C cl fp => (hg s H C cl fp).pg) ht (fun s H C cl fp => (hi1 s H C cl fp).pi) (fun s H C cl fp => (hg1 s H C cl fp).pg) ht1 (fun s H C cl fp => (he s H C cl fp).pe) hf hf1,
    fun σ Q w ρ μ S E h => lc2_ok h1 (fun σ R w ρ μ S E z => ⟨w, ρ, μ, rfl, S, E, z⟩) hs hs1 S E h⟩
theorem ss_setLc2 (vs1 : List Nat) {i : Nat} {y : Str} {py spos : Pos} (hc : X.calm = true) (hN : X.N.Nodup) (hy : X.N[i]? = some y) (hyl : X.env.scope.names.lookup y = some .local) (hsw : swapsWith (.ListComp elt [⟨tg, iter, ifs, 0⟩, ⟨tg1, iter1, ifs1, 0⟩] scope pos) (some (.Name y py)) spos.line X.env = pure true)
    (hi : SI X cls tg iter fi) (ok : BlkOk X.N X.env.scope scope own)
    (hg : ∀ (s : Shared) (H : Hp) (C : Addr) (cl : List (Str × Addr)) (fp : List Addr), SG (X.blk s H scope (compEnvC scope cl C X.env) fp) cls tg is g) (ht : ∀ (s : Shared) (H : Hp) (C : Addr) (cl : List (Str × Addr)) (fp : List Addr), STs (X.blk s H scope (compEnvC scope cl C X.env) fp) cls ifs ft)
    (hi1 : ∀ (s : Shared) (H : Hp) (C : Addr) (cl : List (Str × Addr)) (fp : List Addr), SI (X.blk s H scope (compEnvC scope cl C X.env) fp) cls tg1 iter1 fi1)
    (hg1 : ∀ (s : Shared) (H : Hp) (C : Addr) (cl : List (Str × Addr)) (fp : List Addr), SG (X.blk s H scope (compEnvC scope cl C X.env) fp) cls tg1 is1 g1) (ht1 : ∀ (s : Shared) (H : Hp) (C : Addr) (cl : List (Str × Addr)) (fp : List Addr), STs (X.blk s H scope (compEnvC scope cl C X.env) fp) cls ifs1 ft1)
    (he : ∀ (s : Shared) (H : Hp) (C : Addr) (cl : List (Str × Addr)) (fp : List Addr), SE (X.blk s H scope (compEnvC scope cl C X.env) fp) cls elt fe) (hv : vs1.all ((own.map (·.2)).contains ·) = true := by decide) (hs : is.all ((own.map (·.2)).contains ·) = true := by decide) (hs1 : is1.all (vs1.contains ·) = true := by decide)
    (hf : ∀ x, foldedSetIterable iter X.env x = pure x := by intro _; rfl) (hf1 : ∀ env x, foldedSetIterable iter1 env x = pure x := by intro _ _; rfl) :
    SS X cls (.Assign [.Name y py] (.ListComp elt [⟨tg, iter, ifs, 0⟩, ⟨tg1, iter1, ifs1, 0⟩] scope pos) spos) (sAsg (gVar i) (eLc2 (own.map (·.2)) vs1 fi g ft fi1 g1 ft1 fe)) := by
  obtain ⟨t1, p1, h1⟩ := hi
  refine ⟨_, ps_setLc2 (g := TGof X.K cls is g) (tt := TTof X.K cls ft) (te := TEof X.K cls fe) (wi1 := TIof X.K cls fi1) (g1 := TGof X.K cls is1 g1) (tt1 := TTof X.K cls ft1) (vs1 := vs1) hc hN hy hyl hsw p1 ok (fun i hi => by have := List.all_eq_true.mp hv i hi; simpa using this) (fun s H C cl fp => (hg s H C cl fp).pg) ht (fun s H C cl fp => (hi1 s H C cl fp).pi) (fun s H C cl fp => (hg1 s H C cl fp).pg) ht1 (fun s H C cl fp => (he s H C cl fp).pe) hf hf1, fun D σ w ρ μ S E h => ?_⟩
  refine lc2_ok (Q := fun x H1 => L2.gName i x σ H1 D.nx) h1 (fun σ R w ρ μ S E z => ⟨w, ρ, μ, rfl, S, E, z⟩) hs hs1 S E ((PostS.bind h).imp fun w1 d s1 ⟨μ1, S1, q1⟩ v r1 => ?_)
  unfold gVar at q1
  split at q1
  · exact q1 w1 _ Step.refl S1 ((E.mono s1.kp).set r1)
  · exact q1.elim
end
end Fw

set_option Elab.async false
set_option linter.all false
set_option maxRecDepth 100000
set_option autoImplicit false
/-! A range that goes down, x -= e. -/
namespace Fw
open PySem L2 PyProof.Rows
section
variable {K : PySem.W.Frag} {cls : Nat → Option Addr} {w : Wd}
theorem wk_rangeC {lo c : Int} {n : Nat} : Wk K cls (Itc lo c n) w ((List.range n).map fun i => .int (lo + (i : Nat) * c)) none := by
  intro i w' μ' k S' so
  refine ⟨fun d hd => ?_, fun hi => ?_⟩
  · rw [List.getElem?_map, Option.map_eq_some_iff] at hd
    obtain ⟨m, hm, rfl⟩ := hd
    obtain ⟨hi, e⟩ := List.getElem?_eq_some_iff.mp hm
    rw [List.length_range] at hi
    rw [List.getElem_range] at e
    subst e
    exact ⟨hi, fun x H2 ⟨e, h2⟩ => ⟨w', e.symm, Step.refl, S', h2⟩⟩
  · rw [List.length_map, List.length_range] at hi
    exact hi
end
section
variable {X : Cx} {cls : Nat → Option Addr} {tg a b c e : Expr} {fa fb fe : FE} {p pos : Pos}
/-- range(a, b, -1) -/
def iDown (fa fb : FE) : FI := fun ρ μ => (fa ρ μ).bind fun d μ1 => (fb ρ μ1).bind fun e μ2 => match d, e with
  | .int i, .int j => if -1000000 ≤ i ∧ i ≤ 1000000 ∧ -1000000 ≤ j ∧ j ≤ 1000000 then .ok ((List.range (i - j).toNat).map fun k => .int (i + (k : Nat) * (-1)), none) μ2 else .stuck
  | _, _ => .stuck
theorem pe_minus1 {j1 p1 p2} : PE X (.UnaryOp .USub (.Constant (.int 1) j1 p1) p2) (tC (.int (-1))) := ⟨fun pins s σ H Q I h => (pe_un un_neg (pe_int (X := X) (i := 1) (j := j1) (pos := p1))).run pins s σ H Q I ⟨1, rfl, h⟩⟩
theorem si_down {j1 p1 p2} (hg : Gl X "range") (hm : X.mg "range" = none) (ha : SE X cls a fa) (hb : SE X cls b fb)
    (hs : starEach [a, b, .UnaryOp .USub (.Constant (.int 1) j1 p1) p2] X.env = [(false, eval a X.env), (false, eval b X.env), (false, eval (.UnaryOp .USub (.Constant (.int 1) j1 p1) p2) X.env)] := by rfl)
    (hs2 : starEach [b, .UnaryOp .USub (.Constant (.int 1) j1 p1) p2] X.env = [(false, eval b X.env), (false, eval (.UnaryOp .USub (.Constant (.int 1) j1 p1) p2) X.env)] := by rfl)
    (hs3 : starEach [.UnaryOp .USub (.Constant (.int 1) j1 p1) p2] X.env = [(false, eval (.UnaryOp .USub (.Constant (.int 1) j1 p1) p2) X.env)] := by rfl) :
    SI X cls tg (.Call (.Name "range" p) [a, b, .UnaryOp .USub (.Constant (.int 1) j1 p1) p2] [] pos) (iDown fa fb) := by
  obtain ⟨t, q1, k⟩ := ha
  obtain ⟨t2, q2, k2⟩ := hb
  refine ⟨_, pi_range3 hg hm (pa_cons q1 (pa_cons q2 (pa_cons pe_minus1 pa_nil hs3) (by rw [hs2, hs3])) (by rw [hs, hs2])) (by rw [hs, hs2]) (by rw [hs2]; rfl), fun σ R w ρ μ S E h => ?_⟩
  refine k σ _ w ρ μ S E ((PostR.bind h).imp fun w1 d s1 ⟨μ1, S1, q1⟩ v r1 => ?_)
  refine k2 σ _ w1 ρ μ1 S1 (E.mono s1.kp) ((PostR.bind q1).imp fun w2 d2 s2 ⟨μ2, S2, q2⟩ v2 r2 => ?_)
  cases d with
  | int i =>
    cases d2 with
    | int j =>
      simp only at q2
      split at q2
      · exact ⟨i, j, -1, (i - j).toNat, by rw [show v = V.int i from r1, show v2 = V.int j from r2], RgC.neg (by omega) (by omega) (by omega) (by omega), q2 w2 Step.refl S2 _ wk_rangeC⟩
      · exact q2.elim
    | _ => exact q2.elim
  | _ => cases d2 <;> exact q2.elim
/-- ints: x -= e -/
def oSubI : D → D → Store → Res D := fun d e μ => match d, e with
  | .int i, .int j => .ok (.int (i - j)) μ
  | _, _ => .stuck
theorem ss_augSub (i : Nat) {x : Str} {pos' : Pos} (hN : X.N.Nodup) (he : SE X cls e fe) (hi : X.N[i]? = some x := by rfl) (hx : Loc X.env.scope x := by first | exact .inl rfl | exact .inr rfl)
    (hf : X.fn x = true ∨ X.env.scope.names.lookup x = some .local := by first | exact .inl rfl | exact .inr rfl) :
    SS X cls (.AugAssign (.Name x pos') .Sub e pos) (sAug i oSubI fe) := by
  obtain ⟨t1, p1, h1⟩ := he
  refine ⟨_, ps_aug hN hi hx p1 ip_sub hf, fun D σ w ρ μ S E h => ?_⟩
  unfold sAug at h
  split at h
  · rename_i d hd
    obtain ⟨v, e1, r⟩ := E.2 i d hd
    refine ⟨v, e1, h1 σ _ w ρ μ S E ((PostS.bind h).imp fun w1 y s1 ⟨μ1, S1, q1⟩ u r1 => ?_)⟩
    have r := r.mono s1.kp
    cases d with
    | int i =>
      cases y with
      | int j =>
        refine ⟨i, j, r, r1, ?_⟩
        simp only [oSubI, rS_ok] at q1
        split at q1
        · exact q1 w1 _ Step.refl S1 ((E.mono s1.kp).set rfl)
        · exact q1.elim
      | _ => exact q1.elim
    | _ => cases y <;> exact q1.elim
  · exact h.elim
end
end Fw

set_option Elab.async false
set_option linter.all false
set_option maxRecDepth 100000
set_option autoImplicit false
/-! sorted(set(xs)) of a list of whole numbers. -/
namespace Fw
open PySem PySem.Spec PyProof.Rows L2
/-- the set that is made first -/
abbrev eS (w : World) : Obj := { cls := .type "set", dict := none, data := .set #[] 0 (.fresh 0 0 (!w.params.followText "set-order")) }
section
variable {P : Program} {w : World} {A : Around} {E : Value → Shared → Prop} {s : Shared}
set_option maxHeartbeats 6000000 in
theorem set_of_list {l : Addr} {items : Array Value} (ns : List Int) {Q : Value → Shared → Prop} (nh : A.handled = none) (hl : s.heap.IsList l items) (hi : IntsAre items.toList ns) (room : ns.length + 1 < scanBound)
    (h : ∀ (h' : Heap) (tk c : Nat), SetR w h' s.heap.objs.size (fun j => decide (j ∈ ns)) c → c ≤ ns.length → (∀ b o, s.heap.get? b = some o → h'.get? b = some o) → Q (.ref s.heap.objs.size) { s with heap := h', toks := tk }) :
    wpAny (model P w) A (call (.type "set") [.ref l]) Q E s := by
  have many : items.size = ns.length := (Array.length_toList (xs := items)) ▸ IntsAre.length hi
  have ⟨c0, t0, mro0⟩ := F.called_set.mro; have made0 := F.called_set.made; have sub0 := F.called_set.sub
  refine wpAny_call (codeAny_of_tree (show wpAny _ _ (callAny (.type "set") _) _ _ _ from wpAny_pure ⟨Code.quiet_builtin _ (by decide +kernel), codeAny_builtin F.entry_type_call ?_⟩))
  rw [Around.under_plain (weight_type_call_type "set" [.ref l] []) rfl]
  have f1 := F.called_set.notType; have f2 := F.called_set.canCreate; have f3 := F.typeCall_set_1 (.ref l)
  repeat any_goals first | assumption | wp_step
  refine codeAny_mono (code_set_led1 (.ref l) (E := E) (Q₁ := fun o z => o = .ref s.heap.objs.size ∧ z = { s with heap := s.heap.push (eS w) }) ⟨rfl, rfl⟩) fun r z hr => ?_
  rcases r with e | fl
  · exact hr
  cases fl with
  | ret o =>
    obtain ⟨rfl, rfl⟩ := hr
    have g0 : (s.heap.push (eS w)).get? s.heap.objs.size = some (eS w) := Heap.get?_push_size _ rfl
    have ty : Shared.TypeIs { s with heap := s.heap.push (eS w) } (.ref s.heap.objs.size) "set" := ⟨_, g0, rfl⟩
    have f4 := F.called_set.init.lookup; have f5 := F.called_set.init.bind (.ref s.heap.objs.size)
    repeat any_goals first | assumption | wp_step
    refine codeAny_mono (codeAny_call_builtin (R := wants (fun r z => r = .none ∧ ∃ h' tk c, z = { s with heap := h', toks := tk } ∧ SetR w h' s.heap.objs.size (fun j => decide (j ∈ ns)) c ∧ c ≤ ns.length ∧
      (∀ b o, s.heap.get? b = some o → h'.get? b = some o)) E) F.called_set.init.plain F.entry_set_init (check_set_init_1 ty ?_)) fun r z hr => ?_
    · obtain ⟨⟨oc, od, ox, os⟩, e0, ec, m, ex⟩ := hl
      simp only at ec ex; subst ec ex
      have e1 : (s.heap.push (eS w)).get? l = some { cls := .type "list", dict := od, data := .seq items m, slots := os } := Heap.get?_push_of_some _ e0
      have f6 := F.sub_list_set; have f7 := F.sub_list_frozenset
      have f8 : (Value.type "list" == Value.type "dict") = false := by decide
      have l1 : (s.heap.push (eS w)).IsList l items := ⟨_, e1, rfl, m, rfl⟩
      unfold Builtin.«set.__init__» noKeywords Builtin.Frozenset.updateFrom
      generalize hIt : pyIter = It0; wp_walk; subst hIt
      have lt := Heap.lt_size e0
      have z1 : (s.heap.push (eS w)).objs.size = s.heap.objs.size + 1 := Heap.size_push ..
      refine wpAny_pyIter_list l1 (wpAny_bind (wpAny_runValue ?_))
      refine set_update_ints ((Walks.list (show A.in1.in1.in1.handled = none by simp [nh]) _ l (show l ≠ (s.heap.push (eS w)).objs.size from fun q => absurd (q.trans z1) (Nat.ne_of_lt (Nat.lt_succ_of_lt lt))) items).toS) s.heap.objs.size
        (show s.heap.objs.size ∉ [(s.heap.push (eS w)).objs.size, l] by
          rw [z1]
          intro z
          rcases List.mem_cons.mp z with z | z
          · exact absurd z (Nat.ne_of_lt (Nat.lt_succ_self _))
          · exact absurd (List.mem_singleton.mp z).symm (Nat.ne_of_lt lt)) ns many room (fun i v hv => ?_) (items.size - 0) 0 _ (by omega) (Nat.zero_le _)
        ⟨⟨_, Heap.get?_push_size _ rfl, rfl, rfl⟩, l1.push _⟩ ⟨0, Nat.le_refl 0, setR_new_at (Heap.get?_push_of_some _ g0)⟩ (fun z c mv hc R => ?_)
      · have lt : i < ns.length := many ▸ (Array.getElem?_eq_some_iff.mp hv).1
        obtain ⟨t, e⟩ := IntsAre.int_at hi i v (by rw [Array.getElem?_toList]; exact hv)
        exact ⟨ns[i], t, List.getElem?_eq_getElem lt, by rw [e, List.getD_eq_getElem?_getD, List.getElem?_eq_getElem lt] <;> rfl⟩
      · obtain ⟨zh, zg, zd, zt, zo⟩ := z
        cases (show zg = s.gens from mv.gens); cases (show zd = s.drawn from mv.drawn); cases (show zo = s.os from mv.os)
        refine show wpAny _ _ _ _ _ _ from wpAny_pure (show wpAny _ _ (ret Value.none) _ _ _ from ?_)
        refine wpAny_pure ⟨rfl, zh, zt, c, rfl, R, by omega, fun b o e => ?_⟩
        have lb := Heap.lt_size e
        refine mv.heap b o (fun q => ?_) (Heap.get?_push_of_some _ (Heap.get?_push_of_some _ e))
        rcases List.mem_cons.mp q with q | q
        · exact absurd q (Nat.ne_of_lt lb)
        · exact absurd ((List.mem_singleton.mp q).trans z1) (Nat.ne_of_lt (Nat.lt_succ_of_lt lb))
    · rcases r with e | fl
      · exact hr
      cases fl with
      | ret r =>
        obtain ⟨rfl, h', tk, c, rfl, R, hc, k⟩ := hr
        repeat any_goals first | assumption | wp_step
        exact h _ _ _ R hc k
      | _ => exact hr.elim
  | _ => exact hr.elim
end
section
variable {X : Cx}
def rSetL (K : PySem.W.Frag) (w : World) : List V → Hp → VK → Prop := fun xs H Q => ∃ (l : Addr) (ns : List Int), xs = [V.ref l] ∧ SqL K H l (ns.map V.int) ∧ ns.length < 64 ∧
  ∀ a n, H a = none → n ≤ ns.length → Q (.ref a) (upd H a (SetO w a (fun j => decide (j ∈ ns)) n))
theorem cr_setL (hc : X.calm = true) : CallR X (.type "set") (rSetL X.K X.w) := by
  intro pins s σ H xs us Q I r h
  obtain ⟨l, ns, rfl, hl, h64, q⟩ := h
  rw [Vals.ref1 r]
  obtain ⟨its, rv, pl, hz⟩ := I.list hl
  refine set_of_list (P := X.prog) (w := X.w) ns (I.ok.hd hc) pl.isList (ints_of_vals rv) (by unfold scanBound; omega) fun h' tk c R hcn k => ?_
  exact ⟨.ref s.heap.objs.size, upd H s.heap.objs.size (SetO X.w s.heap.objs.size (fun j => decide (j ∈ ns)) c), I.laid (t' := tk) k (Nat.le_refl _) (setO_new R), rfl, q _ c (I.hok.fresh (Nat.le_refl _)) hcn⟩
end

/-! ### the members of a list of whole numbers, ascending -/
def insS (x : Int) : List Int → List Int
  | [] => [x]
  | y :: r => if x < y then x :: y :: r else if x = y then y :: r else y :: insS x r
def sset (is : List Int) : List Int := is.foldr insS []
theorem mem_insS {x z : Int} : ∀ {l : List Int}, z ∈ insS x l ↔ z = x ∨ z ∈ l
  | [] => by simp [insS]
  | y :: r => by
    unfold insS
    split
    · simp
    · split
      · rename_i h
        subst h
        simp
      · rw [List.mem_cons, mem_insS, List.mem_cons]
        constructor
        · rintro (h | h | h) <;> simp [h]
        · rintro (h | h | h) <;> simp [h]
theorem asc_insS {x : Int} : ∀ {l : List Int}, l.Pairwise (· < ·) → (insS x l).Pairwise (· < ·)
  | [], _ => List.pairwise_singleton _ _
  | y :: r, h => by
    obtain ⟨h1, h2⟩ := List.pairwise_cons.mp h
    unfold insS
    split
    · rename_i hx
      refine List.pairwise_cons.mpr ⟨fun z hz => ?_, h⟩
      rcases List.mem_cons.mp hz with e | e
      · rw [e]; exact hx
      · have := h1 z e
        omega
    · split
      · exact h
      · refine List.pairwise_cons.mpr ⟨fun z hz => ?_, asc_insS h2⟩
        rcases mem_insS.mp hz with e | e
        · omega
        · exact h1 z e
theorem mem_sset {z : Int} : ∀ {l : List Int}, z ∈ sset l ↔ z ∈ l
  | [] => by simp [sset]
  | y :: r => by
    show z ∈ insS y (sset r) ↔ _
    rw [mem_insS, mem_sset, List.mem_cons]
theorem asc_sset : ∀ {l : List Int}, (sset l).Pairwise (· < ·)
  | [] => List.Pairwise.nil
  | y :: r => asc_insS (asc_sset (l := r))
theorem insS_len {x : Int} : ∀ {l : List Int}, (insS x l).length ≤ l.length + 1
  | [] => by simp [insS]
  | y :: r => by
    unfold insS
    split
    · simp
    · split
      · simp
      · have := insS_len (x := x) (l := r)
        simp only [List.length_cons]
        omega
theorem sset_len : ∀ {l : List Int}, (sset l).length ≤ l.length
  | [] => Nat.le_refl _
  | y :: r => by
    have h1 := insS_len (x := y) (l := sset r)
    have h2 := sset_len (l := r)
    show (insS y (sset r)).length ≤ r.length + 1
    omega
theorem asc_unique : ∀ {l m : List Int}, l.Pairwise (· < ·) → m.Pairwise (· < ·) → (∀ z, z ∈ l ↔ z ∈ m) → l = m
  | [], [], _, _, _ => rfl
  | [], y :: m, _, _, h => absurd ((h y).mpr (List.mem_cons_self ..)) (by simp)
  | x :: l, [], _, _, h => absurd ((h x).mp (List.mem_cons_self ..)) (by simp)
  | x :: l, y :: m, hl, hm, h => by
    obtain ⟨h1, h2⟩ := List.pairwise_cons.mp hl
    obtain ⟨h3, h4⟩ := List.pairwise_cons.mp hm
    have e : x = y := by
      have hx := (h x).mp (List.mem_cons_self ..)
      have hy := (h y).mpr (List.mem_cons_self ..)
      rcases List.mem_cons.mp hx with e | e
      · exact e
      · rcases List.mem_cons.mp hy with e' | e'
        · exact e'.symm
        · have := h3 x e
          have := h1 y e'
          omega
    subst e
    rw [asc_unique h2 h4 fun z => ?_]
    constructor
    · intro hz
      rcases List.mem_cons.mp ((h z).mp (List.mem_cons_of_mem _ hz)) with e | e
      · have := h1 z hz
        omega
      · exact e
    · intro hz
      rcases List.mem_cons.mp ((h z).mpr (List.mem_cons_of_mem _ hz)) with e | e
      · have := h3 z hz
        omega
      · exact e

/-- sorted(set(e)) -/
def eSortSet (fa : FE) : FE := fun ρ μ => (fa ρ μ).bind fun d μ1 => match lintsOf μ1 d with
  | some is => if is.length < 64 then .ok (.lst ((sset is).map .int)) μ1 else .stuck
  | none => .stuck
section
variable {X : Cx} {cls : Nat → Option Addr} {a : Expr} {fa : FE} {p p2 q pos : Pos}
theorem se_sortSet (hc : X.calm = true) (hg : Gl X "sorted") (hm : X.mg "sorted" = none) (hg2 : Gl X "set") (hm2 : X.mg "set" = none) (ha : SE X cls a fa)
    (hs : starEach [a] X.env = [(false, eval a X.env)] := by rfl)
    (hs2 : starEach [.Call (.Name "set" p2) [a] [] q] X.env = [(false, eval (.Call (.Name "set" p2) [a] [] q) X.env)] := by rfl) :
    SE X cls (.Call (.Name "sorted" p) [.Call (.Name "set" p2) [a] [] q] [] pos) (eSortSet fa) := by
  obtain ⟨t1, p1, h1⟩ := ha
  refine ⟨_, pe_callB (cr_sortedSet hc) hg hm (by decide +kernel) (pa_cons (pe_callTy (cr_setL hc) hg2 hm2 (by decide +kernel) (pa_cons p1 pa_nil hs) (by decide +kernel) (by decide +kernel) hs rfl) pa_nil hs2) (by decide +kernel) (by decide +kernel) hs2 rfl, fun σ Q w ρ μ S E h => ?_⟩
  refine h1 σ _ w ρ μ S E ((PostR.bind h).imp fun w1 d s1 ⟨μ1, S1, q1⟩ v r1 => ?_)
  split at q1
  · rename_i is he
    split at q1
    · rename_i hl
      obtain ⟨l, rfl, sq⟩ := lintsOf_at S1 r1 he
      refine ⟨l, is, rfl, sq, hl, fun b n hb hn => ⟨b, _, n, rfl, upd_same, by omega, fun ns c asc mem _ hcn => ?_⟩⟩
      have e : ns = sset is := asc_unique asc asc_sset fun z => by rw [mem, mem_sset, decide_eq_true_eq]
      subst e
      have S2 : RelS X.K cls (w1.up b (SetO X.w b (fun j => decide (j ∈ is)) n)) μ1 := S1.new hb
      have hcn2 : (w1.up b (SetO X.w b (fun j => decide (j ∈ is)) n)).H c = none := hcn
      refine q1 ((w1.up b (SetO X.w b (fun j => decide (j ∈ is)) n)).up c (.lst ((sset is).map V.int))) ((step_new hb).trans (step_new hcn2)) (S2.new hcn2) _ (new_lst S2 hcn2 ?_)
      exact RVs.ints
    · exact q1.elim
  · exact q1.elim
end
end Fw

set_option Elab.async false
set_option linter.all false
set_option maxRecDepth 100000
set_option autoImplicit false
/-! list(text). -/
namespace Fw
open PySem PySem.Spec PyProof.Rows L2
def rLstS : List V → Hp → VK → Prop := fun xs H Q => ∃ x : Str, xs = [V.str x] ∧ x.cps.size ≤ sizeLine ∧ ∀ p, H p = none → Q (.ref p) (upd H p (.lst (x.cps.toList.map fun c => V.str ⟨#[c]⟩)))
theorem vals_signs {x : Str} : ∀ {cs : List Nat} {us : List Value} (k : Nat), x.cps.toList.drop k = cs → us.length = cs.length → (∀ j v, us[j]? = some v → SignAt x (k + j) v) → Vals (cs.map fun c => V.str ⟨#[c]⟩) us
  | [], us, k, _, hl, _ => by
    rw [List.length_eq_zero_iff.mp hl]
    exact .nil
  | c :: cs, [], k, _, hl, _ => by simp at hl
  | c :: cs, u :: us, k, e, hl, h => by
    obtain ⟨c', t, h1, h2⟩ := h 0 u rfl
    have e1 : x.cps[k]? = some c := by
      have : (x.cps.toList.drop k)[0]? = some c := by rw [e]; rfl
      rw [List.getElem?_drop, Nat.add_zero, Array.getElem?_toList] at this
      exact this
    rw [Nat.add_zero, e1] at h1
    cases h1
    refine .cons ⟨t, h2⟩ (vals_signs (k + 1) (by rw [← List.drop_drop, e]; rfl) (by simpa using hl) fun j v hj => ?_)
    have := h (j + 1) v (by simpa using hj)
    rwa [show k + (j + 1) = k + 1 + j from by omega] at this
theorem cr_listS {X : Cx} (hc : X.calm = true) : CallR X (.type "list") rLstS := by
  intro pins s σ H xs us Q I r h
  obtain ⟨x, rfl, hl, q⟩ := h
  cases r with
  | cons r0 r1 =>
    cases r1
    obtain ⟨t, rfl⟩ := r0
    refine call_list_str (I.ok.hd hc) x t (fun h' tk acc' c' k e items => ?_) hl
    have hv : Vals (x.cps.toList.map fun c => V.str ⟨#[c]⟩) acc'.toList := vals_signs 0 rfl (by rw [Array.length_toList, items.1, Array.length_toList]) fun j v hj => by
      rw [Nat.zero_add]
      exact items.2 j v (by rw [← Array.getElem?_toList]; exact hj)
    have hz : (x.cps.toList.map fun c => V.str ⟨#[c]⟩).length ≤ sizeLine := by rw [List.length_map, Array.length_toList]; exact hl
    exact ⟨.ref s.heap.objs.size, _, I.laid (t' := tk) k (Nat.le_refl _) (show ObjOk X.prog X.w _ h' _ (.lst _) from ⟨hz, acc'.toList, c', hv, e⟩), rfl, q _ (I.hok.fresh (Nat.le_refl _))⟩
def cListA : List D → Store → Res D := fun ds μ => match ds with
  | [.str s] => if s.length ≤ LIM then .ok (.lst (s.map fun c => .str [c])) μ else .stuck
  | ds => cList ds μ
theorem rvs_signs {K : PySem.W.Frag} {cls : Nat → Option Addr} {w : Wd} : ∀ {s : List Nat}, RVs K cls w (s.map fun c => .str [c]) (s.map fun c => V.str ⟨#[c]⟩)
  | [] => rfl
  | c :: s => ⟨_, _, rfl, rfl, rvs_signs⟩
section
variable {X : Cx} {cls : Nat → Option Addr} {a : Expr} {fa : FE} {p pos : Pos}
theorem cv_listA (hc : X.calm = true) : CV X cls (.type "list") cListA := by
  obtain ⟨r, c, h0⟩ := cv_list (X := X) (cls := cls)
  refine ⟨_, (cr_listS hc).or c, fun w μ ds xs Q S r0 h => ?_⟩
  unfold cListA at h
  split at h
  · rename_i s
    obtain ⟨x, rfl, rx⟩ := r0.one
    split at h
    · rename_i hl
      refine .inl ⟨⟨s.toArray⟩, congrArg (fun z => [z]) rx, by rw [List.size_toArray]; exact lim_le hl, fun p hp => ?_⟩
      exact h (w.up p (.lst _)) (step_new hp) (S.new hp) _ (new_lst S hp rvs_signs)
    · exact h.elim
  · exact .inr (h0 w μ ds xs Q S r0 h)
theorem se_listTA (hc : X.calm = true) (hg : Gl X "list") (hm : X.mg "list" = none) (ha : SE X cls a fa) (hs : starEach [a] X.env = (false, eval a X.env) :: starEach [] X.env := by rfl) (hpl : (backTo pos (starEach [] X.env)).any (·.1) = false := by rfl) :
    SE X cls (.Call (.Name "list" p) [a] [] pos) (eThaw (eCall cListA (aCons fa aNil))) := by
  obtain ⟨t1, p1, h1⟩ := ha
  refine ⟨_, pe_callTy ((cr_listS hc).or call_list_of) hg hm (by decide +kernel) (pa_cons p1 pa_nil hs) (by decide +kernel) (by decide +kernel) hs hpl, fun σ Q w ρ μ S E h => ?_⟩
  have h : PostR X.K cls w (fun w' d => ∀ v, RV X.K cls w' d v → Q v w'.H) (thaw ((fa ρ μ).bind fun d μ1 => cListA [d] μ1)) := by
    unfold eThaw eCall aCons aNil at h
    cases hf : fa ρ μ with
    | ok d μ1 => rw [hf] at h; exact h
    | stuck => rw [hf] at h; exact h
  refine h1 σ _ w ρ μ S E ((PostR.thaw h).imp fun w1 d s1 ⟨μ1, S1, q1⟩ v r1 => ?_)
  unfold cListA at q1
  split at q1
  · rename_i s e
    cases e
    split at q1
    · rename_i hl
      exact .inl ⟨⟨s.toArray⟩, congrArg (fun z => [z]) r1, by rw [List.size_toArray]; exact lim_le hl, fun p hp => thaw_new S1 rvs_signs q1 hp⟩
    · exact q1.elim
  · simp only [cList] at q1
    split at q1
    · rename_i es hd
      obtain ⟨l, vs, e, h3, h4⟩ := seqOf_at S1 r1 hd
      exact .inr ⟨l, vs, congrArg (fun z => [z]) e, h3, fun p hp => thaw_new S1 h4 q1 hp⟩
    · exact q1.elim
end
end Fw

set_option Elab.async false
set_option linter.all false
set_option maxRecDepth 100000
set_option autoImplicit false
/-! zip of two texts; multiplied in place; sets of longer lists. -/
namespace Fw
open PySem PySem.Spec PyProof.Rows L2
open PySem.Sem (wp)
abbrev AscIt (h : Heap) (a : Addr) (x : Str) (t : Tok) (k : Nat) : Prop := h.IsStrIter a "str_ascii_iterator" x t k
section
variable {P : Program} {w : World} {A : Around} {E : Value → Shared → Prop} {s : Shared}
theorem AscIt.at {h h' : Heap} {a : Addr} {x : Str} {t : Tok} {k : Nat} (y : AscIt h a x t k) (e : ∀ o, h.get? a = some o → h'.get? a = some o) : AscIt h' a x t k := let ⟨o, ho, r⟩ := y; ⟨o, e o ho, r⟩
/-- the next sign -/
theorem sign_item {a : Addr} {x : Str} {t : Tok} {k c : Nat} {Q : Value → Shared → Prop} (y : AscIt s.heap a x t k) (hx : x.cps[k]? = some c)
    (q : ∀ h', AscIt h' a x t (k + 1) → Heap.SameBut a s.heap h' → Q (.str ⟨#[c]⟩ s.toks) { s with heap := h', toks := s.toks + 1 }) : wpAny (model P w) A (Builtin.SmallTypes.nextOf (.ref a)) Q E s := by
  have ⟨o, ho, oc, od⟩ := y
  have ty := Heap.IsStrIter.typeIs y
  unfold Builtin.SmallTypes.nextOf
  refine wpAny_bind (wpAny_callSpecial?_slot (name := Str.ofString "__next__") ty F.slot_str_ascii_iterator_next (wpAny_call_entry F.slot_str_ascii_iterator_next ty F.entry_str_ascii_iterator_next ?_ (F.args_str_ascii_iterator_next_1 _)))
  refine show wpAny _ _ (field (.ref a) 0 >>= _) _ _ s from wpAny_bind (wpAny_field ho od (x := .str x t) rfl (show wpAny _ _ (field (.ref a) 1 >>= _) _ _ s from wpAny_bind (wpAny_field ho od (x := .int k 0) rfl ?_)))
  simp only [hx, Int.toNat_natCast]
  refine wpAny_bind (wpAny_setField ho od (by simp) (wpAny_bind (wpAny_mkStr (wpAny_pure ⟨_, rfl, wpAny_pure (q _ ⟨_, Heap.get?_update_self _ ho (Obj.isFreed_of_fields (Obj.data_mapFields od _)), (Obj.cls_mapFields ..).trans oc, ?_⟩ (Heap.SameBut.update ..))⟩) (by show 1 ≤ sizeLine; decide))))
  rw [Obj.data_mapFields od]; simp [rawInt]
theorem sign_end {a : Addr} {x : Str} {t : Tok} {k : Nat} {Q : Value → Shared → Prop} (nh : A.handled = none) (y : AscIt s.heap a x t k) (hx : x.cps[k]? = none)
    (q : ∀ h' e, Heap.ExtBut a s.heap h' → (∃ o, h'.get? e = some o ∧ o.cls = .type "StopIteration") → E (.ref e) { s with heap := h' }) : wpAny (model P w) A (Builtin.SmallTypes.nextOf (.ref a)) Q E s := by
  have ⟨o, ho, oc, od⟩ := y
  have ty := Heap.IsStrIter.typeIs y
  unfold Builtin.SmallTypes.nextOf
  refine wpAny_bind (wpAny_callSpecial?_slot (name := Str.ofString "__next__") ty F.slot_str_ascii_iterator_next (wpAny_call_entry F.slot_str_ascii_iterator_next ty F.entry_str_ascii_iterator_next ?_ (F.args_str_ascii_iterator_next_1 _)))
  refine show wpAny _ _ (field (.ref a) 0 >>= _) _ _ s from wpAny_bind (wpAny_field ho od (x := .str x t) rfl (show wpAny _ _ (field (.ref a) 1 >>= _) _ _ s from wpAny_bind (wpAny_field ho od (x := .int k 0) rfl ?_)))
  simp only [hx, Int.toNat_natCast]
  refine wpAny_bind (wpAny_rule (wpAny_bind (wpAny_setField ho od (by simp) (wpAny_bind (wpAny_letGo (show wpAny _ _ (newExc (.type "StopIteration") [] >>= _) _ _ _ from wpAny_bind ?_))))))
  simp only [newTuple, newExc]
  refine wpAny_bind (wpAny_newObj_type (wpAny_bind (m := firstArgMember _ _) (wpAny_of_eq (a := Value.none) (by first | rfl | (simp only [firstArgMember]; rfl)) ?_)) (by size_fits))
  refine wpAny_newObj_type ?_ (by size_fits)
  simp only [raiseNew]
  refine wpAny_bind (wpAny_handled ?_); rw [show A.in1.handled = none from nh]
  exact wpAny_bind (wpAny_pure (wpAny_throw (q _ _ (((Heap.SameBut.update ..).extBut.push _).push _) ⟨_, Heap.get?_push_size _ rfl, rfl⟩)))

/-- five places of their own -/
structure Five (z TI TO a b : Addr) : Prop where
  Iz : TI ≠ z
  Oz : TO ≠ z
  az : a ≠ z
  bz : b ≠ z
  IO : TI ≠ TO
  Ia : TI ≠ a
  Ib : TI ≠ b
  Oa : TO ≠ a
  Ob : TO ≠ b
  ab : a ≠ b
theorem five (n : Nat) : Five (n + 4) (n + 2) (n + 3) n (n + 1) := by
  constructor
  all_goals (intro h; have : (_ : Nat) = _ := h; omega)
/-- a zip over two texts, behind so many pairs -/
structure ZS (h : Heap) (z TI TO a b : Addr) (x y : Str) (t u : Tok) (k : Nat) : Prop where
  z : IsZip h z TI TO .none
  I : IsPair h TI (.ref a) (.ref b)
  O : ∃ v v', IsPair h TO v v'
  a : AscIt h a x t k
  b : AscIt h b y u k
theorem zs_item {z TI TO a b : Addr} {x y : Str} {t u : Tok} {k c d : Nat} {Q : Value → Shared → Prop} (D : Five z TI TO a b) (Z : ZS s.heap z TI TO a b x y t u k) (hx : x.cps[k]? = some c) (hy : y.cps[k]? = some d)
    (q : ∀ h' v v', IsZip h' z TI TO (rawInt s.heap.objs.size) → IsPair h' TO v v' → AscIt h' a x t (k + 1) → AscIt h' b y u (k + 1) → IsPair h' s.heap.objs.size (.str ⟨#[c]⟩ s.toks) (.str ⟨#[d]⟩ (s.toks + 1)) → h'.objs.size = s.heap.objs.size + 1 →
      (∀ e o, e ≠ z → e ≠ TO → e ≠ a → e ≠ b → s.heap.get? e = some o → h'.get? e = some o) → Q (.ref s.heap.objs.size) { s with heap := h', toks := s.toks + 1 + 1 }) :
    wpAny (model P w) A (Builtin.«zip.__next__» ⟨[.ref z], []⟩) (fun fin s' => ∃ v, fin = .done (.ret v) ∧ Q v s') E s := by
  obtain ⟨hz, hI, ⟨v0, v1, hO⟩, ha, hb⟩ := Z
  refine show wpAny _ _ (field (.ref z) 2 >>= _) _ _ _ from wpAny_bind (wpAny_field hz rfl (x := .bool false) rfl ?_)
  refine show wpAny _ _ (field (.ref z) 3 >>= _) _ _ _ from wpAny_bind (wpAny_field hz rfl (x := .ref TI) rfl (wpAny_bind (wpAny_seqItems hI rfl ?_)))
  refine show wpAny _ _ (Builtin.SmallTypes.ownedTupleIsFree (.ref z) >>= _) _ _ _ from wpAny_bind ?_
  unfold Builtin.SmallTypes.ownedTupleIsFree; refine wpAny_bind (wpAny_field hz rfl (x := .none) rfl (wpAny_pure ?_)); simp only [if_true]
  refine wpAny_bind (wpAny_rule (wpAny_bind (wpAny_field hz rfl (x := .ref TO) rfl (wpAny_bind (wpAny_setField_rec hz (by simp) fun g1 z1 k1 => ?_)))))
  replace z1 : IsZip g1 z TI TO .ellipsis := z1
  refine wpAny_bind ?_; simp only [List.zipIdx_nil, List.zipIdx_cons, List.forIn_nil, List.forIn_cons]
  refine wpAny_bind (wpAny_bind (wpAny_onRaise (show wpAny _ _ (Builtin.SmallTypes.nextOf (.ref a) >>= _) _ _ _ from wpAny_bind (sign_item (s := { s with heap := g1 }) (Heap.IsStrIter.extBut ha k1.extBut D.az) hx fun g2 a2 k2 => wpAny_pure ?_))))
  have O2 : IsPair g2 TO v0 v1 := k2.extBut _ _ D.Oa (k1.extBut _ _ D.Oz hO)
  refine wpAny_bind (wpAny_seqItems O2 rfl (wpAny_bind (wpAny_updateSeq_pair O2 fun g3 O3 k3 => ?_)))
  replace O3 : IsPair g3 TO (.str ⟨#[c]⟩ s.toks) v1 := O3
  refine wpAny_bind (wpAny_letGo (wpAny_pure (wpAny_bind (wpAny_bind (wpAny_onRaise (show wpAny _ _ (Builtin.SmallTypes.nextOf (.ref b) >>= _) _ _ _ from wpAny_bind ?_))))))
  have b3 : AscIt g3 b y u k := ((Heap.IsStrIter.extBut hb k1.extBut D.bz).extBut k2.extBut D.ab.symm).extBut k3.extBut D.Ob.symm
  refine sign_item (s := { s with heap := g3, toks := s.toks + 1 }) b3 hy fun g4 b4 k4 => wpAny_pure ?_
  have O4 : IsPair g4 TO (.str ⟨#[c]⟩ s.toks) v1 := k4.extBut _ _ D.Ob O3
  refine wpAny_bind (wpAny_seqItems O4 rfl (wpAny_bind (wpAny_updateSeq_pair O4 fun g5 O5 k5 => ?_)))
  replace O5 : IsPair g5 TO (.str ⟨#[c]⟩ s.toks) (.str ⟨#[d]⟩ (s.toks + 1)) := O5
  refine wpAny_bind (wpAny_letGo (wpAny_pure (wpAny_pure (wpAny_bind (wpAny_seqItems O5 rfl (wpAny_bind (wpAny_newTuple ?_)))))))
  have sz : g5.objs.size = s.heap.objs.size := by rw [k5.1, k4.1, k3.1, k2.1, k1.1]
  have z5 : IsZip g5 z TI TO .ellipsis := k5.extBut _ _ D.Oz.symm (k4.extBut _ _ D.bz.symm (k3.extBut _ _ D.Oz.symm (k2.extBut _ _ D.az.symm z1)))
  have kp : ∀ e o, e ≠ z → e ≠ TO → e ≠ a → e ≠ b → s.heap.get? e = some o → g5.get? e = some o := fun e o n1 n2 n3 n4 r => k5.extBut _ _ n2 (k4.extBut _ _ n4 (k3.extBut _ _ n2 (k2.extBut _ _ n3 (k1.extBut _ _ n1 r))))
  have a5 : AscIt g5 a x t (k + 1) := ((Heap.IsStrIter.extBut a2 k3.extBut D.Oa.symm).extBut k4.extBut D.ab).extBut k5.extBut D.Oa.symm
  have b5 : AscIt g5 b y u (k + 1) := Heap.IsStrIter.extBut b4 k5.extBut D.Ob.symm
  have zl : z < g5.objs.size := Heap.lt_size z5
  refine show wpAny _ _ (Builtin.SmallTypes.ownedTupleHandOut (.ref z) (.ref g5.objs.size) >>= _) _ _ _ from wpAny_bind ?_
  unfold Builtin.SmallTypes.ownedTupleHandOut
  have z6 : IsZip (g5.push { cls := .type "tuple", data := .seq #[.str ⟨#[c]⟩ s.toks, .str ⟨#[d]⟩ (s.toks + 1)] }) z TI TO .ellipsis := Heap.get?_push_of_some _ z5
  refine wpAny_bind (wpAny_setField_rec z6 (by simp) fun g7 z7 k7 => ?_)
  replace z7 : IsZip g7 z TI TO (rawInt g5.objs.size) := z7
  refine wpAny_setField_rec z7 (by simp) fun g8 z8 k8 => ?_
  replace z8 : IsZip g8 z TI TO (rawInt g5.objs.size) := z8
  have up : ∀ e o, e ≠ z → g5.get? e = some o → g8.get? e = some o := fun e o n r => k8.extBut _ _ n (k7.extBut _ _ n (Heap.get?_push_of_some _ r))
  have T8 : IsPair g8 g5.objs.size (.str ⟨#[c]⟩ s.toks) (.str ⟨#[d]⟩ (s.toks + 1)) := k8.extBut _ _ (Nat.ne_of_gt zl) (k7.extBut _ _ (Nat.ne_of_gt zl) (Heap.get?_push_size _ rfl))
  have s8 : g8.objs.size = g5.objs.size + 1 := by rw [k8.1, k7.1, Heap.size_push]
  rw [sz] at z8 T8 s8
  refine wpAny_pure ⟨_, rfl, show Q (.ref g5.objs.size) _ from ?_⟩; rw [sz]
  exact q g8 _ _ z8 (up _ _ D.Oz O5) (AscIt.at a5 fun o r => up _ o D.az r) (AscIt.at b5 fun o r => up _ o D.bz r) T8 s8 fun e o n1 n2 n3 n4 r => up e o n1 (kp e o n1 n2 n3 n4 r)
theorem zs_end {z TI TO a b : Addr} {x y : Str} {t u : Tok} {k : Nat} {Q : Fin → Shared → Prop} (nh : A.handled = none) (D : Five z TI TO a b) (Z : ZS s.heap z TI TO a b x y t u k) (he : x.cps[k]? = none ∨ y.cps[k]? = none)
    (q : ∀ h' tk e, (∀ c o, c ≠ z → c ≠ TO → c ≠ a → c ≠ b → s.heap.get? c = some o → h'.get? c = some o) → (∃ o, h'.get? e = some o ∧ o.cls = .type "StopIteration") → E (.ref e) { s with heap := h', toks := tk }) :
    wpAny (model P w) A (Builtin.«zip.__next__» ⟨[.ref z], []⟩) Q E s := by
  obtain ⟨hz, hI, ⟨v0, v1, hO⟩, ha, hb⟩ := Z
  refine show wpAny _ _ (field (.ref z) 2 >>= _) _ _ _ from wpAny_bind (wpAny_field hz rfl (x := .bool false) rfl ?_)
  refine show wpAny _ _ (field (.ref z) 3 >>= _) _ _ _ from wpAny_bind (wpAny_field hz rfl (x := .ref TI) rfl (wpAny_bind (wpAny_seqItems hI rfl ?_)))
  refine show wpAny _ _ (Builtin.SmallTypes.ownedTupleIsFree (.ref z) >>= _) _ _ _ from wpAny_bind ?_
  unfold Builtin.SmallTypes.ownedTupleIsFree; refine wpAny_bind (wpAny_field hz rfl (x := .none) rfl (wpAny_pure ?_)); simp only [if_true]
  refine wpAny_bind (wpAny_rule (wpAny_bind (wpAny_field hz rfl (x := .ref TO) rfl (wpAny_bind (wpAny_setField_rec hz (by simp) fun g1 z1 k1 => ?_)))))
  replace z1 : IsZip g1 z TI TO .ellipsis := z1
  refine wpAny_bind ?_; simp only [List.zipIdx_nil, List.zipIdx_cons, List.forIn_nil, List.forIn_cons]
  refine wpAny_bind (wpAny_bind (wpAny_onRaise (show wpAny _ _ (Builtin.SmallTypes.nextOf (.ref a) >>= _) _ _ _ from wpAny_bind ?_)))
  have a1 : AscIt g1 a x t k := Heap.IsStrIter.extBut ha k1.extBut D.az
  cases hx : x.cps[k]? with
  | none =>
    refine sign_end (s := { s with heap := g1 }) nh a1 hx fun g2 e k2 he => ?_
    obtain ⟨oe, h1, h2⟩ := he
    have z2 : IsZip g2 z TI TO .ellipsis := k2 _ _ D.az.symm z1
    have nz : e ≠ z := fun r => by subst r; rw [z2] at h1; cases h1; simp at h2
    exact wpAny_setField_rec z2 (by simp) fun g3 _ k3 => q g3 s.toks e (fun c o n1 _ n3 _ r => k3.extBut _ _ n1 (k2 _ _ n3 (k1.extBut _ _ n1 r))) ⟨oe, k3.extBut _ _ nz h1, h2⟩
  | some c =>
    have hy : y.cps[k]? = none := he.resolve_left (by rw [hx]; exact nofun)
    refine sign_item (s := { s with heap := g1 }) a1 hx fun g2 a2 k2 => wpAny_pure ?_
    have O2 : IsPair g2 TO v0 v1 := k2.extBut _ _ D.Oa (k1.extBut _ _ D.Oz hO)
    refine wpAny_bind (wpAny_seqItems O2 rfl (wpAny_bind (wpAny_updateSeq_pair O2 fun g3 O3 k3 => ?_)))
    refine wpAny_bind (wpAny_letGo (wpAny_pure (wpAny_bind (wpAny_bind (wpAny_onRaise (show wpAny _ _ (Builtin.SmallTypes.nextOf (.ref b) >>= _) _ _ _ from wpAny_bind ?_))))))
    have b3 : AscIt g3 b y u k := ((Heap.IsStrIter.extBut hb k1.extBut D.bz).extBut k2.extBut D.ab.symm).extBut k3.extBut D.Ob.symm
    refine sign_end (s := { s with heap := g3, toks := s.toks + 1 }) nh b3 hy fun g4 e k4 he => ?_
    obtain ⟨oe, h1, h2⟩ := he
    have z4 : IsZip g4 z TI TO .ellipsis := k4 _ _ D.bz.symm (k3.extBut _ _ D.Oz.symm (k2.extBut _ _ D.az.symm z1))
    have nz : e ≠ z := fun r => by subst r; rw [z4] at h1; cases h1; simp at h2
    exact wpAny_setField_rec z4 (by simp) fun g5 _ k5 => q g5 (s.toks + 1) e (fun c o n1 n2 n3 n4 r => k5.extBut _ _ n1 (k4 _ _ n4 (k3.extBut _ _ n2 (k2.extBut _ _ n3 (k1.extBut _ _ n1 r))))) ⟨oe, k5.extBut _ _ nz h1, h2⟩

theorem zs_next {z TI TO a b : Addr} {x y : Str} {t u : Tok} {k c d : Nat} {Q : Option Value → Shared → Prop} (D : Five z TI TO a b) (Z : ZS s.heap z TI TO a b x y t u k) (hx : x.cps[k]? = some c) (hy : y.cps[k]? = some d)
    (q : ∀ h' v v', IsZip h' z TI TO (rawInt s.heap.objs.size) → IsPair h' TO v v' → AscIt h' a x t (k + 1) → AscIt h' b y u (k + 1) → IsPair h' s.heap.objs.size (.str ⟨#[c]⟩ s.toks) (.str ⟨#[d]⟩ (s.toks + 1)) → h'.objs.size = s.heap.objs.size + 1 →
      (∀ e o, e ≠ z → e ≠ TO → e ≠ a → e ≠ b → s.heap.get? e = some o → h'.get? e = some o) → Q (some (.ref s.heap.objs.size)) { s with heap := h', toks := s.toks + 1 + 1 }) :
    wpAny (model P w) A (pyNext (.ref z)) Q E s := by
  have ty : s.TypeIs (.ref z) "zip" := ⟨_, Z.z, rfl⟩
  unfold pyNext
  exact wpAny_bind (wpAny_attempt (wpAny_callSpecial?_slot (name := Str.ofString "__next__") ty F.slot_zip_next (wpAny_call_entry F.slot_zip_next ty F.entry_zip_next
    (zs_item D Z hx hy fun h' v v' a1 a2 a3 a4 a5 a6 a7 => wpAny_pure (q h' v v' a1 a2 a3 a4 a5 a6 a7)) (F.args_zip_next_1 _))))
theorem zs_stop {z TI TO a b : Addr} {x y : Str} {t u : Tok} {k : Nat} {Q : Option Value → Shared → Prop} (nh : A.handled = none) (D : Five z TI TO a b) (Z : ZS s.heap z TI TO a b x y t u k) (he : x.cps[k]? = none ∨ y.cps[k]? = none)
    (q : ∀ h' tk, (∀ c o, c ≠ z → c ≠ TO → c ≠ a → c ≠ b → s.heap.get? c = some o → h'.get? c = some o) → Q none { s with heap := h', toks := tk }) : wpAny (model P w) A (pyNext (.ref z)) Q E s := by
  have ty : s.TypeIs (.ref z) "zip" := ⟨_, Z.z, rfl⟩
  unfold pyNext
  refine wpAny_bind (wpAny_attempt (wpAny_callSpecial?_slot (name := Str.ofString "__next__") ty F.slot_zip_next (wpAny_call_entry F.slot_zip_next ty F.entry_zip_next (zs_end nh D Z he fun h' tk e kp ⟨o, h1, h2⟩ => ?_) (F.args_zip_next_1 _))))
  exact wpAny_bind (wpAny_isInstance (T := "StopIteration") (b := true) ⟨o, h1, h2⟩ isSubtype_stop (wpAny_pure (q _ tk kp)))
end
/-! ### zip(a, b) -/
abbrev g1 (h : Heap) (x : Str) (t : Tok) : Heap := h.push { cls := .type "str_ascii_iterator", data := .fields #[.str x t, .int 0 0] }
abbrev g2 (h : Heap) (x y : Str) (t u : Tok) : Heap := (g1 h x t).push { cls := .type "str_ascii_iterator", data := .fields #[.str y u, .int 0 0] }
abbrev g3 (h : Heap) (x y : Str) (t u : Tok) : Heap := (g2 h x y t u).push { cls := .type "tuple", data := .seq #[.ref h.objs.size, .ref (g1 h x t).objs.size] }
abbrev g4 (h : Heap) (x y : Str) (t u : Tok) : Heap := (g3 h x y t u).push { cls := .type "tuple", data := .seq #[.none, .none] }
abbrev g5 (h : Heap) (x y : Str) (t u : Tok) : Heap := (g4 h x y t u).push { cls := .type "zip", data := .fields #[.none, .bool false, .bool false, .ref (g2 h x y t u).objs.size, .ref (g3 h x y t u).objs.size] }
set_option maxHeartbeats 4000000 in
theorem zs_new (x y : Str) (t u : Tok) : Meets (Builtin.«zip.__new__» ⟨[.type "zip", .str x t, .str y u], []⟩) (fun _ R s => x.cps.all (· < 128) = true ∧ y.cps.all (· < 128) = true ∧
    R (.ok (.ret (.ref (g4 s.heap x y t u).objs.size))) { s with heap := g5 s.heap x y t u }) :=
  .of_wp fun prog w A R s h => by
    obtain ⟨hp, g, d, tk, os⟩ := s; obtain ⟨h1, h2, h⟩ := h
    have sb := sub_zip
    have i1 := fun (Q : Value → Shared → Prop) (E : Value → Shared → Prop) (A : Around) q => wpAny_pyIter_ascii (prog := prog) (w := w) (A := A) (E := E) (s := ⟨hp, g, d, tk, os⟩) (t := t) (Q := Q) h1 q
    have i2 := fun (Q : Value → Shared → Prop) (E : Value → Shared → Prop) (A : Around) q => wpAny_pyIter_ascii (prog := prog) (w := w) (A := A) (E := E) (s := ⟨g1 hp x t, g, d, tk, os⟩) (t := u) (Q := Q) h2 q
    wp_walk using i1 _ _ _, i2 _ _ _
    exact ⟨_, rfl, h⟩
section
variable {P : Program} {w : World} {A : Around} {E : Value → Shared → Prop} {s : Shared}
theorem zs_call {x y : Str} {t u : Tok} {Q : Value → Shared → Prop} (h1 : x.cps.all (· < 128) = true) (h2 : y.cps.all (· < 128) = true)
    (q : ∀ h', ZS h' (s.heap.objs.size + 4) (s.heap.objs.size + 2) (s.heap.objs.size + 3) s.heap.objs.size (s.heap.objs.size + 1) x y t u 0 → (∀ c o, s.heap.get? c = some o → h'.get? c = some o) → Q (.ref (s.heap.objs.size + 4)) { s with heap := h' }) :
    wpAny (model P w) A (call (.type "zip") [.str x t, .str y u]) Q E s := by
  refine callType_new F.called_zip (by decide) (F.typeCall_zip_2 _ _) (F.newCall_zip_2 _ _) (fun obj => F.args_object_init_3 obj _ _) F.entry_zip_new (zs_new x y t u) ⟨h1, h2, ?_⟩
  have n1 : (g1 s.heap x t).objs.size = s.heap.objs.size + 1 := Heap.size_push ..
  have n2 : (g2 s.heap x y t u).objs.size = s.heap.objs.size + 2 := by rw [Heap.size_push, n1]
  have n3 : (g3 s.heap x y t u).objs.size = s.heap.objs.size + 3 := by rw [Heap.size_push, n2]
  have n4 : (g4 s.heap x y t u).objs.size = s.heap.objs.size + 4 := by rw [Heap.size_push, n3]
  have e5 : (g5 s.heap x y t u).get? (g4 s.heap x y t u).objs.size = some _ := Heap.get?_push_size _ rfl
  have e4 : (g5 s.heap x y t u).get? (g3 s.heap x y t u).objs.size = some _ := Heap.get?_push_of_some _ (Heap.get?_push_size _ rfl)
  have e3 : (g5 s.heap x y t u).get? (g2 s.heap x y t u).objs.size = some _ := Heap.get?_push_of_some _ (Heap.get?_push_of_some _ (Heap.get?_push_size _ rfl))
  have e2 : (g5 s.heap x y t u).get? (g1 s.heap x t).objs.size = some _ := Heap.get?_push_of_some _ (Heap.get?_push_of_some _ (Heap.get?_push_of_some _ (Heap.get?_push_size _ rfl)))
  have e1 : (g5 s.heap x y t u).get? s.heap.objs.size = some _ := Heap.get?_push_of_some _ (Heap.get?_push_of_some _ (Heap.get?_push_of_some _ (Heap.get?_push_of_some _ (Heap.get?_push_size _ rfl))))
  show _ ∧ _
  rw [n2, n3, n4] at e5
  rw [n1, n2] at e3
  rw [n3] at e4
  rw [n1] at e2
  rw [n4]
  exact ⟨⟨_, e5, rfl⟩, q _ ⟨e5, e3, ⟨_, _, e4⟩, ⟨_, e1, rfl, rfl⟩, ⟨_, e2, rfl, rfl⟩⟩ fun c o r => Heap.get?_push_of_some _ (Heap.get?_push_of_some _ (Heap.get?_push_of_some _ (Heap.get?_push_of_some _ (Heap.get?_push_of_some _ r))))⟩
end
/-- the pairs of signs -/
def Itp (x y : Str) : It := ⟨fun k _ => k < x.cps.size ∧ k < y.cps.size, fun k H v H' => ∃ T c d, v = .ref T ∧ H T = none ∧ H' = upd H T (.tup [.str ⟨#[c]⟩, .str ⟨#[d]⟩]) ∧ x.cps[k]? = some c ∧ y.cps[k]? = some d, fun k _ => x.cps.size ≤ k ∨ y.cps.size ≤ k⟩
theorem turn_zs {P : Program} {w : World} {K : PySem.W.Frag} {elts : List Expr} {kk : Nat} {tpos : Pos} {z TI TO a b : Addr} {x y : Str} {t u : Tok} (D : Five z TI TO a b) :
    Turn P w K (.Tuple elts kk tpos) (Itp x y) [z, TI, TO, a, b] z (fun i h => ZS h z TI TO a b x y t u i) where
  mem := by simp
  obj := fun i h Z c hc => by
    obtain ⟨hz, hI, ⟨v, v', hO⟩, ⟨o1, e1, _, d1⟩, ⟨o2, e2, _, d2⟩⟩ := Z
    simp only [List.mem_cons, List.not_mem_nil, or_false] at hc
    rcases hc with r | r | r | r | r
    · exact r ▸ ⟨_, hz, fun v q => nomatch q⟩
    · exact r ▸ ⟨_, hI, fun v q => nomatch q⟩
    · exact r ▸ ⟨_, hO, fun v q => nomatch q⟩
    · exact r ▸ ⟨o1, e1, fun v q => by rw [d1] at q; cases q⟩
    · exact r ▸ ⟨o2, e2, fun v q => by rw [d2] at q; cases q⟩
  keep := fun i h h' Z kp => by
    obtain ⟨hz, hI, ⟨v, v', hO⟩, ha, hb⟩ := Z
    exact ⟨kp z (by simp) _ hz, kp TI (by simp) _ hI, ⟨v, v', kp TO (by simp) _ hO⟩, AscIt.at ha fun o r => kp a (by simp) o r, AscIt.at hb fun o r => kp b (by simp) o r⟩
  item := by
    intro X e1 e2 e3 calm i pins s σ H E I fp Z go
    subst e1 e2 e3
    obtain ⟨gx, gy⟩ := go
    have zl : z < s.heap.objs.size := Heap.lt_size Z.z
    have hx : x.cps[i]? = some x.cps[i] := Array.getElem?_eq_getElem gx
    have hy : y.cps[i]? = some y.cps[i] := Array.getElem?_eq_getElem gy
    generalize x.cps[i] = c at hx
    generalize y.cps[i] = d at hy
    have ZZ := Z
    obtain ⟨hz, hI, ⟨v, v', hO⟩, ha, hb⟩ := Z
    refine zs_next D ZZ hx hy fun h' w1 w2 z' O' a' b' T' sz kp => ⟨_, rfl, wpAny_letOwnedTupleGo_zip (s := { s with heap := h', toks := s.toks + 1 + 1 }) z' fun h2 z2 sb => ?_⟩
    have T2 : h2.get? s.heap.objs.size = some { cls := .type "tuple", data := .seq #[.str ⟨#[c]⟩ s.toks, .str ⟨#[d]⟩ (s.toks + 1)] } := (sb.2 _ (Nat.ne_of_gt zl)).trans T'
    have new : ObjOk X.prog X.w (upd H s.heap.objs.size (.tup [.str ⟨#[c]⟩, .str ⟨#[d]⟩])) h2 s.heap.objs.size (.tup [.str ⟨#[c]⟩, .str ⟨#[d]⟩]) :=
      ⟨by show 2 ≤ sizeLine; decide, [_, _], .cons ⟨_, rfl⟩ (.cons ⟨_, rfl⟩ .nil), ⟨_, T2, rfl, _, rfl⟩⟩
    have J : Inv X pins σ (upd H s.heap.objs.size (.tup [.str ⟨#[c]⟩, .str ⟨#[d]⟩])) { s with heap := h2, toks := s.toks + 1 + 1 } :=
      I.turnedNew (t' := s.toks + 1 + 1) (ch := [z, TI, TO, a, b]) (fun e o ne r => (sb.2 e (fun n => ne (by simp [n]))).trans (kp e o (fun n => ne (by simp [n])) (fun n => ne (by simp [n])) (fun n => ne (by simp [n])) (fun n => ne (by simp [n])) r)) fp (Nat.le_refl _) new
    refine ⟨.ref s.heap.objs.size, _, J, rfl, ⟨_, c, d, rfl, I.hok.fresh (Nat.le_refl _), rfl, hx, hy⟩, ⟨z2, (sb.2 _ D.Iz).trans (kp _ _ D.Iz D.IO D.Ia D.Ib hI), ⟨w1, w2, (sb.2 _ D.Oz).trans O'⟩, AscIt.at a' fun o r => (sb.2 _ D.az).trans r, AscIt.at b' fun o r => (sb.2 _ D.bz).trans r⟩, fun e he => ?_⟩
    have lt : e < s.heap.objs.size := by
      simp only [List.mem_cons, List.not_mem_nil, or_false] at he
      rcases he with r | r | r | r | r
      · exact r ▸ zl
      · exact r ▸ Heap.lt_size hI
      · exact r ▸ Heap.lt_size hO
      · obtain ⟨_, q, _⟩ := ha; exact r ▸ Heap.lt_size q
      · obtain ⟨_, q, _⟩ := hb; exact r ▸ Heap.lt_size q
    rw [upd_ne (Nat.ne_of_lt lt)]
    exact (fp e he).1
  done := by
    intro X e1 e2 e3 calm i pins s σ H E I fp Z go
    subst e1 e2 e3
    refine zs_stop (I.ok.hd calm) D Z (go.imp (fun r => by simpa using r) (fun r => by simpa using r)) fun h' tk kp => ⟨rfl, I.turnedL (t' := tk) (ch := [z, TI, TO, a, b]) (fun e o ne r => ?_) fp⟩
    exact kp e o (fun n => ne (by simp [n])) (fun n => ne (by simp [n])) (fun n => ne (by simp [n])) (fun n => ne (by simp [n])) r
  self := fun A i s Q E Z h => wpAny_pyIter_zip Z.z h
def iZipS (ta : TA) : TI := fun σ H R => ta σ H fun vs H1 => ∃ x y : Str, vs = [.str x, .str y] ∧ x.cps.all (· < 128) = true ∧ y.cps.all (· < 128) = true ∧ R (Itp x y) H1
theorem pi_zipS {X : Cx} {e e2 : Expr} {ta : TA} {p pos tpos : Pos} {elts : List Expr} {kk : Nat} (hg : Gl X "zip") (hm : X.mg "zip" = none) (ha : PA X [e, e2] ta)
    (hs : starEach [e, e2] X.env = (false, eval e X.env) :: starEach [e2] X.env) (hpl : (backTo pos (starEach [e2] X.env)).any (·.1) = false) : PI X (.Tuple elts kk tpos) (.Call (.Name "zip" p) [e, e2] [] pos) (iZipS ta) := by
  refine ⟨fun pins s σ H R I h => Call_ (ld_blt I hg hm PyProof.Rows.boot_zip (PyProof.Rows.callWith_type1 (thn (ha.run pos pins s σ H _ I h) fun us s1 ⟨vs, H1, J, r, x, y, ex, ax, ay, q⟩ => ?_) hs hpl))⟩
  subst ex
  rcases r with _ | ⟨r1, r⟩
  rcases r with _ | ⟨r2, r⟩
  cases r
  obtain ⟨t, rfl⟩ := r1
  obtain ⟨u, rfl⟩ := r2
  refine zs_call ax ay fun h' Z kp => wpAny_pyIter_zip Z.z ?_
  have J2 : Inv X pins σ H1 { s1 with heap := h' } := J.kept (t' := s1.toks) kp
  refine ⟨s1.heap.objs.size + 4, [s1.heap.objs.size + 4, s1.heap.objs.size + 2, s1.heap.objs.size + 3, s1.heap.objs.size, s1.heap.objs.size + 1], _, _, H1, rfl, J2, turn_zs (five s1.heap.objs.size), Z, fun c hc => ?_, q⟩
  have le : s1.heap.objs.size ≤ c := by
    simp only [List.mem_cons, List.not_mem_nil, or_false] at hc
    rcases hc with r | r | r | r | r
    · exact r ▸ Nat.le_add_right _ _
    · exact r ▸ Nat.le_add_right _ _
    · exact r ▸ Nat.le_add_right _ _
    · exact r ▸ Nat.le_refl _
    · exact r ▸ Nat.le_add_right _ _
  exact J.fpOk le (J.hok.fresh le)
/-! ### its reading -/
def zipD (s t : List Nat) : List D := (s.zip t).map fun p => .tup [.str [p.1], .str [p.2]]
def oZip (d e : D) (μ : Store) : Res (List D × Option Nat) := match d, e with
  | .str s, .str t => if (s.all (· < 128) && t.all (· < 128)) = true then .ok (zipD s t, none) μ else .stuck
  | _, _ => .stuck
def iZipD (fa fb : FE) : FI := fun ρ μ => (fa ρ μ).bind fun d μ1 => (fb ρ μ1).bind fun e μ2 => oZip d e μ2
theorem wk_zip {K : PySem.W.Frag} {cls : Nat → Option Addr} {w : Wd} {s t : List Nat} : Wk K cls (Itp ⟨s.toArray⟩ ⟨t.toArray⟩) w (zipD s t) none := by
  intro i w' μ' k S' so
  refine ⟨fun d hd => ?_, fun hi => ?_⟩
  · unfold zipD at hd
    rw [List.getElem?_map, Option.map_eq_some_iff] at hd
    obtain ⟨p, hp, rfl⟩ := hd
    rw [List.getElem?_zip_eq_some] at hp
    obtain ⟨h1, h2⟩ := hp
    refine ⟨⟨by simpa using (List.getElem?_eq_some_iff.mp h1).1, by simpa using (List.getElem?_eq_some_iff.mp h2).1⟩, fun x H2 ⟨T, c, d, e1, e2, e3, e4, e5⟩ => ?_⟩
    have e4 : s.toArray[i]? = some c := e4
    have e5 : t.toArray[i]? = some d := e5
    rw [List.getElem?_toArray, h1] at e4
    rw [List.getElem?_toArray, h2] at e5
    cases e4
    cases e5
    subst e1 e3
    exact ⟨w'.up T (.tup [.str ⟨#[p.1]⟩, .str ⟨#[p.2]⟩]), rfl, step_new e2, S'.new e2, new_tup S' e2 (.cons rfl (.cons rfl .nil))⟩
  · have : (zipD s t).length = min s.length t.length := by simp [zipD]
    rw [this] at hi
    show s.toArray.size ≤ i ∨ t.toArray.size ≤ i
    simp only [List.size_toArray]
    omega
theorem si_zip {X : Cx} {cls : Nat → Option Addr} {e e2 : Expr} {fa fb : FE} {p pos tpos : Pos} {elts : List Expr} {kk : Nat} (hg : Gl X "zip") (hm : X.mg "zip" = none) (ha : SE X cls e fa) (hb : SE X cls e2 fb)
    (hs : starEach [e, e2] X.env = [(false, eval e X.env), (false, eval e2 X.env)] := by rfl) (hs2 : starEach [e2] X.env = [(false, eval e2 X.env)] := by rfl) : SI X cls (.Tuple elts kk tpos) (.Call (.Name "zip" p) [e, e2] [] pos) (iZipD fa fb) := by
  obtain ⟨t, p1, k⟩ := ha
  obtain ⟨t2, p2, k2⟩ := hb
  refine ⟨_, pi_zipS hg hm (pa_cons p1 (pa_cons p2 pa_nil hs2) (by rw [hs, hs2])) (by rw [hs, hs2]) (by rw [hs2]; rfl), fun σ R w ρ μ S E h => ?_⟩
  refine k σ _ w ρ μ S E ((PostR.bind h).imp fun w1 d s1 ⟨μ1, S1, q1⟩ v r1 => ?_)
  refine k2 σ _ w1 ρ μ1 S1 (E.mono s1.kp) ((PostR.bind q1).imp fun w2 d2 s2 ⟨μ2, S2, q2⟩ v2 r2 => ?_)
  have r1 := r1.mono s2.kp
  cases d with
  | str a =>
    cases d2 with
    | str b =>
      simp only [oZip] at q2
      split at q2
      · rename_i hl
        rw [Bool.and_eq_true] at hl
        exact ⟨⟨a.toArray⟩, ⟨b.toArray⟩, by rw [show v = V.str ⟨a.toArray⟩ from r1, show v2 = V.str ⟨b.toArray⟩ from r2], by simpa using hl.1, by simpa using hl.2, q2 w2 Step.refl S2 _ wk_zip⟩
      · exact q2.elim
    | _ => exact q2.elim
  | _ => cases d2 <;> exact q2.elim
/-! ### x *= e -/
def oMulI : D → D → Store → Res D := fun d e μ => match d, e with
  | .int i, .int j => if (Sm i && Sm j) = true then .ok (.int (i * j)) μ else .stuck
  | _, _ => .stuck
/-! ### sorted(set(xs)) of lists that are longer -/
def rSetM (K : PySem.W.Frag) (w : World) : List V → Hp → VK → Prop := fun xs H Q => ∃ (l : Addr) (ns : List Int), xs = [V.ref l] ∧ SqL K H l (ns.map V.int) ∧ ns.length ≤ 1000 ∧
  ∀ a, H a = none → Q (.ref a) (upd H a (SetO w a (fun j => decide (j ∈ ns)) (sset ns).length))
theorem nodup_len : ∀ {l m : List Int}, l.Nodup → m.Nodup → (∀ z, z ∈ l ↔ z ∈ m) → l.length = m.length := fun h1 h2 h => ((List.perm_ext_iff_of_nodup h1 h2).mpr h).length_eq
theorem cr_setM {X : Cx} (hc : X.calm = true) : CallR X (.type "set") (rSetM X.K X.w) := by
  intro pins s σ H xs us Q I r h
  obtain ⟨l, ns, rfl, hl, h64, q⟩ := h
  rw [Vals.ref1 r]
  obtain ⟨its, rv, pl, hz⟩ := I.list hl
  refine set_of_list (P := X.prog) (w := X.w) ns (I.ok.hd hc) pl.isList (ints_of_vals rv) (by unfold scanBound; omega) fun h' tk c R hcn k => ?_
  have hcc : c = (sset ns).length := by
    obtain ⟨o, es, ep, t, _, _, _, _, nd, mem, _, _, hn, _⟩ := R
    have e1 : (es.toList.map keyOf).length = (sset ns).length := nodup_len nd (asc_sset.imp fun h => by omega) fun z => by rw [← mem z, mem_sset, decide_eq_true_eq]
    rw [← e1, List.length_map, Array.length_toList, hn]
  subst hcc
  exact ⟨.ref s.heap.objs.size, upd H s.heap.objs.size (SetO X.w s.heap.objs.size (fun j => decide (j ∈ ns)) (sset ns).length), I.laid (t' := tk) k (Nat.le_refl _) (setO_new R), rfl, q _ (I.hok.fresh (Nat.le_refl _))⟩
def eSortSetM (fa : FE) : FE := fun ρ μ => (fa ρ μ).bind fun d μ1 => match lintsOf μ1 d with
  | some is => if is.length ≤ 1000 ∧ (sset is).length < 64 then .ok (.lst ((sset is).map .int)) μ1 else .stuck
  | none => .stuck
section
variable {X : Cx} {cls : Nat → Option Addr} {a : Expr} {fa fe : FE} {p p2 q pos : Pos}
theorem se_sortSetM (hc : X.calm = true) (hg : Gl X "sorted") (hm : X.mg "sorted" = none) (hg2 : Gl X "set") (hm2 : X.mg "set" = none) (ha : SE X cls a fa)
    (hs : starEach [a] X.env = [(false, eval a X.env)] := by rfl)
    (hs2 : starEach [.Call (.Name "set" p2) [a] [] q] X.env = [(false, eval (.Call (.Name "set" p2) [a] [] q) X.env)] := by rfl) :
    SE X cls (.Call (.Name "sorted" p) [.Call (.Name "set" p2) [a] [] q] [] pos) (eSortSetM fa) := by
  obtain ⟨t1, p1, h1⟩ := ha
  refine ⟨_, pe_callB (cr_sortedSet hc) hg hm (by decide +kernel) (pa_cons (pe_callTy (cr_setM hc) hg2 hm2 (by decide +kernel) (pa_cons p1 pa_nil hs) (by decide +kernel) (by decide +kernel) hs rfl) pa_nil hs2) (by decide +kernel) (by decide +kernel) hs2 rfl, fun σ Q w ρ μ S E h => ?_⟩
  refine h1 σ _ w ρ μ S E ((PostR.bind h).imp fun w1 d s1 ⟨μ1, S1, q1⟩ v r1 => ?_)
  split at q1
  · rename_i is he
    split at q1
    · rename_i hl
      obtain ⟨l, rfl, sq⟩ := lintsOf_at S1 r1 he
      refine ⟨l, is, rfl, sq, hl.1, fun b hb => ⟨b, _, _, rfl, upd_same, hl.2, fun ns c asc mem _ hcn => ?_⟩⟩
      have e : ns = sset is := asc_unique asc asc_sset fun z => by rw [mem, mem_sset, decide_eq_true_eq]
      subst e
      have S2 : RelS X.K cls (w1.up b (SetO X.w b (fun j => decide (j ∈ is)) (sset is).length)) μ1 := S1.new hb
      have hcn2 : (w1.up b (SetO X.w b (fun j => decide (j ∈ is)) (sset is).length)).H c = none := hcn
      refine q1 ((w1.up b (SetO X.w b (fun j => decide (j ∈ is)) (sset is).length)).up c (.lst ((sset is).map V.int))) ((step_new hb).trans (step_new hcn2)) (S2.new hcn2) _ (new_lst S2 hcn2 ?_)
      exact RVs.ints
    · exact q1.elim
  · exact q1.elim
end
end Fw

set_option Elab.async false
set_option linter.all false
set_option maxRecDepth 100000
set_option autoImplicit false
/-! Multiplied in place. -/
namespace Fw
open PySem PySem.Spec PyProof.Rows L2
theorem ip_mulI {X : Cx} : PIp X .Mult (fun x y H Q => ∃ i j, x = .int i ∧ y = .int j ∧ CMulW i j ∧ Q (.int (i * j)) H) := by
  intro pins s σ H x y v u Q I r1 r2 h
  obtain ⟨i, j, e1, e2, hc, q⟩ := h
  subst e1 e2
  obtain ⟨t, rfl⟩ := r1
  obtain ⟨t', rfl⟩ := r2
  exact imul_int ⟨.int _, H, I.tok _, ⟨_, rfl⟩, q⟩ (CMulW.ok hc)
theorem sm_wide {i j : Int} (h : Sm i = true) (h2 : Sm j = true) : CMulW i j := by
  simp only [Sm, Bool.and_eq_true, decide_eq_true_eq] at h h2
  exact wide_mul (a := 64) (b := 64) (by omega) (by omega) (by decide) (by decide) (by decide)
section
variable {X : Cx} {cls : Nat → Option Addr} {e : Expr} {fe : FE} {pos : Pos}
theorem ss_augMul (i : Nat) {x : Str} {pos' : Pos} (hN : X.N.Nodup) (he : SE X cls e fe) (hi : X.N[i]? = some x := by rfl) (hx : Loc X.env.scope x := by first | exact .inl rfl | exact .inr rfl)
    (hf : X.fn x = true ∨ X.env.scope.names.lookup x = some .local := by first | exact .inl rfl | exact .inr rfl) :
    SS X cls (.AugAssign (.Name x pos') .Mult e pos) (sAug i oMulI fe) := by
  obtain ⟨t1, p1, h1⟩ := he
  refine ⟨_, ps_aug hN hi hx p1 ip_mulI hf, fun D σ w ρ μ S E h => ?_⟩
  unfold sAug at h
  split at h
  · rename_i d hd
    obtain ⟨v, e1, r⟩ := E.2 i d hd
    refine ⟨v, e1, h1 σ _ w ρ μ S E ((PostS.bind h).imp fun w1 y s1 ⟨μ1, S1, q1⟩ u r1 => ?_)⟩
    have r := r.mono s1.kp
    cases d with
    | int i =>
      cases y with
      | int j =>
        simp only [oMulI] at q1
        split at q1
        · rename_i hs
          rw [Bool.and_eq_true] at hs
          refine ⟨i, j, r, r1, sm_wide hs.1 hs.2, ?_⟩
          simp only [rS_ok] at q1
          split at q1
          · exact q1 w1 _ Step.refl S1 ((E.mono s1.kp).set rfl)
          · exact q1.elim
        · exact q1.elim
      | _ => exact q1.elim
    | _ => cases y <;> exact q1.elim
  · exact h.elim
end
end Fw

set_option Elab.async false
set_option linter.all false
set_option maxRecDepth 100000
set_option autoImplicit false
/-! reversed(range(n)). -/
namespace Fw
open PySem L2 PyProof.Rows
section
variable {X : Cx} {cls : Nat → Option Addr} {tg a : Expr} {fa : FE} {p p2 pos pos2 : Pos}
def iRevD (fa : FE) : FI := fun ρ μ => (fa ρ μ).bind fun d μ1 => match d with
  | .int j => if -1000000 ≤ j ∧ j ≤ 1000000 then .ok ((List.range j.toNat).map fun k => .int ((j.toNat : Int) - 1 + (k : Nat) * (-1)), none) μ1 else .stuck
  | _ => .stuck
theorem si_rev (hg : Gl X "reversed") (hm : X.mg "reversed" = none) (hg2 : Gl X "range") (hm2 : X.mg "range" = none) (ha : SE X cls a fa)
    (hs : starEach [a] X.env = (false, eval a X.env) :: starEach [] X.env := by rfl)
    (hs2 : starEach [.Call (.Name "range" p2) [a] [] pos2] X.env = (false, eval (.Call (.Name "range" p2) [a] [] pos2) X.env) :: starEach [] X.env := by rfl) :
    SI X cls tg (.Call (.Name "reversed" p) [.Call (.Name "range" p2) [a] [] pos2] [] pos) (iRevD fa) := by
  obtain ⟨t, q, k⟩ := ha
  refine ⟨_, L2.pi_revR hg hm (prg_1 hg2 hm2 q hs) hs2, fun σ R w ρ μ S E h => ?_⟩
  refine k σ _ w ρ μ S E ((PostR.bind h).imp fun w1 d s1 ⟨μ1, S1, q1⟩ v r1 => ?_)
  cases d with
  | int j =>
    simp only at q1
    split at q1
    · rename_i hj
      refine ⟨j, by rw [show v = V.int j from r1], by omega, by omega, by omega, by omega, ?_⟩
      have e1 : (0 : Int) + (((j - 0).toNat : Nat) : Int) - 1 = (j.toNat : Int) - 1 := by omega
      have e2 : (j - 0).toNat = j.toNat := by omega
      rw [e1, e2]
      exact q1 w1 Step.refl S1 _ wk_rangeC
    · exact q1.elim
  | _ => exact q1.elim
end
end Fw

set_option Elab.async false
set_option linter.all false
set_option maxRecDepth 100000
set_option autoImplicit false
namespace K12
open PySem L2 Fw

def B_Negativedd__lendd_ : FS :=
  sRet (eCall cLen (aCons (eFld 0 "figures" (eVar 0)) (aNil)))
def M_Negativedd__lendd_ : List D → Store → Res D := mD 1 B_Negativedd__lendd_
def B_l_taken : FS :=
  sSeq (sIf (tB (eBin oGt (eBin oIx (eVar 0) (eC (.int 3))) (eC (.int 0)))) (
  sSeq (sAsg (gVar 2) (eBin oMod (eCall cInt (aCons (eBin oIx (eVar 0) (eC (.int 3))) (aNil))) (eVar 1))) (
  sSeq (sAsg (gIx (eVar 0) (eC (.int 3))) (eBin oFdv (eBin oIx (eVar 0) (eC (.int 3))) (eVar 1))) (
  sRet (eVar 2)))) (
  sNext)) (
  sSeq (sAsg (gIx (eVar 0) (eC (.int 1))) (eBin oAdd (eBin oIx (eVar 0) (eC (.int 1))) (eC (.int 1)))) (
  sSeq (sIf (tB (eBin oGt (eBin oIx (eVar 0) (eC (.int 1))) (eCall (cLenO 0 M_Negativedd__lendd_) (aCons (eBin oIx (eVar 0) (eC (.int 0))) (aNil))))) (
  sSeq (sAsg (gIx (eVar 0) (eC (.int 2))) (eBin oMod (eCall cInt (aCons (eBin oAdd (eBin oMul (eBin oIx (eVar 0) (eC (.int 2))) (eC (.int 48271))) (eC (.int 11))) (aNil))) (eC (.int 2147483647)))) (
  sRet (eBin oMod (eCall cInt (aCons (eBin oFdv (eBin oIx (eVar 0) (eC (.int 2))) (eC (.int 7))) (aNil))) (eVar 1)))) (
  sNext)) (
  sSeq (sAsg (gVar 3) (eBin oIx (eBin oIx (eVar 0) (eC (.int 0))) (eBin oSub (eBin oIx (eVar 0) (eC (.int 1))) (eC (.int 1))))) (
  sSeq (sAsg (gIx (eVar 0) (eC (.int 2))) (eBin oMod (eCall cInt (aCons (eBin oAdd (eBin oAdd (eBin oMul (eBin oIx (eVar 0) (eC (.int 2))) (eC (.int 48271))) (eVar 3)) (eC (.int 11))) (aNil))) (eC (.int 2147483647)))) (
  sSeq (sAsg (gIx (eVar 0) (eC (.int 3))) (eIf (tB (eBin oGe (eVar 3) (eBin oPow (eC (.int 10)) (eC (.int 18))))) (eBin oFdv (eVar 3) (eVar 1)) (eC (.int 0)))) (
  sRet (eBin oMod (eCall cInt (aCons (eVar 3) (aNil))) (eVar 1))))))))
def M_l_taken : List D → Store → Res D := mD 4 B_l_taken
def B_l_covered : FS :=
  sSeq (sAsg (gVar 2) (eBin oAdd (eC (.int 1)) (eCallD 2 M_l_taken (aCons (eVar 0) (aCons (eC (.int 4)) (aNil)))))) (
  sRet (eCall cTuple (aCons (eLc [3] (iRange1 (eBin oMul (eBin oIx (eVar 1) (eC (.int 0))) (eBin oIx (eVar 1) (eC (.int 1))))) (gVar 3) (tAnd (tB (eBin oEq (eCallD 2 M_l_taken (aCons (eVar 0) (aCons (eVar 2) (aNil)))) (eC (.int 0)))) (tB (eBin oLt (eVar 2) (eC (.int 4))))) (eVar 3)) (aNil))))
def M_l_covered : List D → Store → Res D := mD 4 B_l_covered
def B_l_like : FS :=
  sRet (eBin oEq (eLc [2] (iRange1 (eCall (cLenO 0 M_Negativedd__lendd_) (aCons (eVar 1) (aNil)))) (gVar 2) (tB (eBin (oIn true) (eBin oIx (eVar 0) (eVar 2)) (eTup (aCons (eC (.str (lit "?"))) (aCons (eBin oIx (eVar 1) (eVar 2)) (aNil)))))) (eVar 2)) (eLst (aNil)))
def M_l_like : List D → Store → Res D := mD 3 B_l_like
def B_is_number : FS :=
  sRet (eAnd (eIsi "int" (eVar 0)) (eAnd (eNot (eIsi "bool" (eVar 0))) (eChain oLe oLe (eVar 1) (eVar 0) (eVar 2))))
def M_is_number : List D → Store → Res D := mD 3 B_is_number
def B_wrong_side : FS :=
  sSeq (sIf (tNot (tB (eCallD 3 M_is_number (aCons (eVar 0) (aCons (eC (.int 1)) (aCons (eC (.int 4)) (aNil))))))) (
  sRet (eC (.str (lit "width")))) (
  sNext)) (
  sSeq (sIf (tOr (tNot (tB (eCallD 3 M_is_number (aCons (eVar 1) (aCons (eC (.int 1)) (aCons (eC (.int 4)) (aNil))))))) (tB (eBin oGt (eBin oMul (eVar 0) (eVar 1)) (eC (.int 9))))) (
  sRet (eC (.str (lit "height")))) (
  sNext)) (
  sRet (eC .non)))
def M_wrong_side : List D → Store → Res D := mD 2 B_wrong_side
def B_wrong_part : FS :=
  sSeq (sAsg (gVar 3) (eCallD 2 M_wrong_side (aCons (eVar 0) (aCons (eVar 1) (aNil))))) (
  sSeq (sIf (tB (eBin oNotN (eVar 3) (eC .non))) (
  sRet (eVar 3)) (
  sNext)) (
  sSeq (sIf (tOr (tB (eBin oNe (eCall (cLenO 0 M_Negativedd__lendd_) (aCons (eVar 2) (aNil))) (eBin oMul (eVar 0) (eVar 1)))) (tNot (tB (eCall cAll (aCons (eLc [4] (iOf (eVar 2)) (gVar 4) (fun _ μ => .ok true μ) (eBin (oIn false) (eVar 4) (eC (.str (lit "01234"))))) (aNil)))))) (
  sRet (eC (.str (lit "densities")))) (
  sNext)) (
  sRet (eC .non))))
def M_wrong_part : List D → Store → Res D := mD 5 B_wrong_part
def B_Negativedd__initdd_ : FS :=
  sSeq (sAsg (gVar 4) (eCallD 3 M_wrong_part (aCons (eVar 1) (aCons (eVar 2) (aCons (eVar 3) (aNil)))))) (
  sSeq (sIf (tB (eBin oNotN (eVar 4) (eC .non))) (
  sNever) (
  sNext)) (
  sSeq (sFld 0 "columns" (eVar 0) (eVar 1)) (
  sSeq (sFld 0 "lines" (eVar 0) (eVar 2)) (
  sFld 0 "figures" (eVar 0) (eVar 3)))))
def M_Negativedd__initdd_ : List D → Store → Res D := mD 5 B_Negativedd__initdd_
def B_l_negative : FS :=
  sRet (eMake 0 4 M_Negativedd__initdd_ (aCons (eBin oIx (eVar 0) (eC (.int 0))) (aCons (eBin oIx (eVar 0) (eC (.int 1))) (aCons (eBin oIx (eVar 0) (eC (.int 2))) (aNil)))))
def M_l_negative : List D → Store → Res D := mD 1 B_l_negative
def B_l_tone : FS :=
  sRet (eCall cStr (aCons (eCall (cLenO 0 M_Negativedd__lendd_) (aCons (eLc [2] (iOf (eVar 0)) (gVar 2) (tB (eBin oGe (eVar 1) (eVar 2))) (eVar 2)) (aNil))) (aNil)))
def M_l_tone : List D → Store → Res D := mD 3 B_l_tone
def B_l_print : FS :=
  sRet (eJoin (eC (.str (lit ""))) (eLc [2] (iOf (eVar 1)) (gVar 2) (fun _ μ => .ok true μ) (eCallD 2 M_l_tone (aCons (eVar 0) (aCons (eVar 2) (aNil))))))
def M_l_print : List D → Store → Res D := mD 3 B_l_print
def B_l_mirror : FS :=
  sRet (eBin oSub (eBin oSub (eBin oAdd (eBin oMul (eBin oFdv (eVar 1) (eBin oIx (eVar 0) (eC (.int 0)))) (eBin oIx (eVar 0) (eC (.int 0)))) (eBin oIx (eVar 0) (eC (.int 0)))) (eC (.int 1))) (eBin oMod (eVar 1) (eBin oIx (eVar 0) (eC (.int 0)))))
def M_l_mirror : List D → Store → Res D := mD 2 B_l_mirror
def B_l_ticks : FS :=
  sSeq (sIf (tB (eBin oEq (eBin oIx (eVar 1) (eC (.int 0))) (eC (.str (lit "expose"))))) (
  sRet (eBin oMul (eBin oIx (eVar 1) (eC (.int 1))) (eCall cInt (aCons (eBin (oIn true) (eVar 2) (eBin oIx (eVar 1) (eC (.int 2)))) (aNil))))) (
  sNext)) (
  sRet (eIf (tB (eBin oEq (eBin oIx (eVar 1) (eC (.int 0))) (eC (.str (lit "draw"))))) (eCall cMax2 (aCons (eC (.int 0)) (aCons (eBin oSub (eBin oIx (eVar 1) (eC (.int 1))) (eBin oMul (eBin oIx (eVar 1) (eC (.int 2))) (eBin oMod (eVar 2) (eBin oIx (eVar 0) (eC (.int 0)))))) (aNil)))) (eC (.int 0))))
def M_l_ticks : List D → Store → Res D := mD 3 B_l_ticks
def B_l_weight : FS :=
  sRet (eBin oIx (eLst (aCons (eC (.int 16)) (aCons (eC (.int 8)) (aCons (eC (.int 4)) (aCons (eC (.int 2)) (aCons (eC (.int 1)) (aNil))))))) (eCall cInt (aCons (eVar 0) (aNil))))
def M_l_weight : List D → Store → Res D := mD 1 B_l_weight
def B_l_rows : FS :=
  sSeq (sPar 3 4 (eThaw (eBin oMul (eLst (aCons (eC (.int 0)) (aNil))) (eCall (cLenO 0 M_Negativedd__lendd_) (aCons (eVar 1) (aNil))))) (eC (.bl false))) (
  sSeq (sAsg (gVar 5) (eThaw (eLst (aCons (eCall cTuple (aCons (eVar 3) (aNil))) (aNil))))) (
  sSeq (sFor (iOf (eVar 2)) (gVar 6) (
  sSeq (sAsg (gVar 4) (eBin oNe (eVar 4) (eBin oEq (eBin oIx (eVar 6) (eC (.int 0))) (eC (.str (lit "flip")))))) (
  sSeq (sFor (iRange1 (eCall (cLenO 0 M_Negativedd__lendd_) (aCons (eVar 3) (aNil)))) (gVar 7) (
  sSeq (sAsg (gVar 8) (eBin oIx (eVar 1) (eIf (tB (eVar 4)) (eCallD 2 M_l_mirror (aCons (eVar 0) (aCons (eVar 7) (aNil)))) (eVar 7)))) (
  sAsg (gIx (eVar 3) (eVar 7)) (eBin oAdd (eBin oIx (eVar 3) (eVar 7)) (eBin oMul (eCallD 3 M_l_ticks (aCons (eVar 0) (aCons (eVar 6) (aCons (eVar 7) (aNil))))) (eCallD 1 M_l_weight (aCons (eVar 8) (aNil)))))))) (
  sExpr (eLm oApp (eVar 5) (eCall cTuple (aCons (eVar 3) (aNil)))))))) (
  sRet (eVar 5))))
def M_l_rows : List D → Store → Res D := mDf 9 B_l_rows
def B_l_pick : FS :=
  sRet (eBin oIx (eVar 1) (eCallD 2 M_l_taken (aCons (eVar 0) (aCons (eCall (cLenO 0 M_Negativedd__lendd_) (aCons (eVar 1) (aNil))) (aNil)))))
def M_l_pick : List D → Store → Res D := mD 2 B_l_pick
def B_l_sides : FS :=
  sSeq (sAsg (gVar 1) (eLst (aNil))) (
  sSeq (sFor (iOf (eTup (aCons (eC (.int 1)) (aCons (eC (.int 2)) (aCons (eC (.int 3)) (aCons (eC (.int 4)) (aNil))))))) (gVar 2) (
  sAsg (gVar 1) (eBin oAdd (eVar 1) (eLc [3] (iOf (eTup (aCons (eC (.int 1)) (aCons (eC (.int 2)) (aCons (eC (.int 3)) (aCons (eC (.int 4)) (aNil))))))) (gVar 3) (tB (eBin oLe (eBin oMul (eVar 2) (eVar 3)) (eVar 0))) (eTup (aCons (eVar 2) (aCons (eVar 3) (aNil)))))))) (
  sRet (eVar 1)))
def M_l_sides : List D → Store → Res D := mD 4 B_l_sides
def B_l_scheme : FS :=
  sSeq (sAsg (gVar 2) (eCallD 1 M_l_sides (aCons (eVar 1) (aNil)))) (
  sSeq (sAsg (gTup 2 (gCons (gVar 3) (gCons (gVar 4) (gNil)))) (eCallD 2 M_l_pick (aCons (eVar 0) (aCons (eBin oAdd (eVar 2) (eLc [6] (iOf (eVar 2)) (gVar 6) (tB (eBin oGt (eBin oIx (eVar 6) (eC (.int 0))) (eC (.int 1)))) (eVar 6))) (aNil))))) (
  sSeq (sAsg (gVar 5) (eCallD 2 M_l_pick (aCons (eVar 0) (aCons (eLst (aCons (eC (.str (lit "01234"))) (aCons (eC (.str (lit "01234"))) (aCons (eC (.str (lit "02"))) (aCons (eC (.str (lit "4"))) (aNil)))))) (aNil))))) (
  sRet (eTup (aCons (eVar 3) (aCons (eVar 4) (aCons (eJoin (eC (.str (lit ""))) (eLc [7] (iRange1 (eBin oMul (eVar 3) (eVar 4))) (gVar 7) (fun _ μ => .ok true μ) (eCallD 2 M_l_pick (aCons (eVar 0) (aCons (eVar 5) (aNil)))))) (aNil))))))))
def M_l_scheme : List D → Store → Res D := mD 8 B_l_scheme
def B_l_seen : FS :=
  sRet (eJoin (eC (.str (lit ""))) (eLc [2] (iOf (eVar 1)) (gVar 2) (fun _ μ => .ok true μ) (eCallD 2 M_l_pick (aCons (eVar 0) (aCons (eLst (aCons (eVar 2) (aCons (eVar 2) (aCons (eC (.str (lit "?"))) (aNil))))) (aNil))))))
def M_l_seen : List D → Store → Res D := mD 3 B_l_seen
def B_l_steps : FS :=
  sSeq (sAsg (gVar 2) (eCallD 2 M_l_pick (aCons (eVar 0) (aCons (eLst (aCons (eC (.int 20)) (aCons (eC (.int 100)) (aCons (eC (.int 600)) (aCons (eC (.int 9999)) (aNil)))))) (aNil))))) (
  sRet (eCall cTuple (aCons (eSortSetM (eLc [3] (iRange1 (eBin oAdd (eC (.int 1)) (eCallD 2 M_l_taken (aCons (eVar 0) (aCons (eVar 1) (aNil)))))) (gVar 3) (fun _ μ => .ok true μ) (eBin oAdd (eC (.int 1)) (eCallD 2 M_l_taken (aCons (eVar 0) (aCons (eVar 2) (aNil))))))) (aNil))))
def M_l_steps : List D → Store → Res D := mD 4 B_l_steps
def B_check_number : FS :=
  sIf (tNot (tB (eCallD 3 M_is_number (aCons (eVar 0) (aCons (eVar 1) (aCons (eVar 2) (aNil))))))) (
  sNever) (
  sNext)
def M_check_number : List D → Store → Res D := mD 3 B_check_number
def B_check_figures : FS :=
  sIf (tOr (tNot (tB (eIsi "str" (eVar 0)))) (tOr (tB (eBin oNe (eCall (cLenO 0 M_Negativedd__lendd_) (aCons (eVar 0) (aNil))) (eVar 2))) (tNot (tB (eCall cAll (aCons (eLc [3] (iOf (eVar 0)) (gVar 3) (fun _ μ => .ok true μ) (eBin (oIn false) (eVar 3) (eVar 1))) (aNil))))))) (
  sNever) (
  sNext)
def M_check_figures : List D → Store → Res D := mD 4 B_check_figures
def B_check_seen : FS :=
  sExpr (eCallD 3 M_check_figures (aCons (eVar 0) (aCons (eBin oAdd (eCut (eC (.str (lit "012345"))) (oNone) (oSome (eBin oAdd (eVar 1) (eC (.int 1))))) (eC (.str (lit "?")))) (aCons (eVar 2) (aNil)))))
def M_check_seen : List D → Store → Res D := mD 3 B_check_seen
def B_ascends : FS :=
  sSeq (sFor (iOf (eVar 0)) (gVar 3) (
  sSeq (sIf (tNot (tB (eCallD 3 M_is_number (aCons (eVar 3) (aCons (eVar 1) (aCons (eVar 2) (aNil))))))) (
  sRet (eC (.bl false))) (
  sNext)) (
  sAsg (gVar 1) (eBin oAdd (eVar 3) (eC (.int 1)))))) (
  sRet (eC (.bl true)))
def M_ascends : List D → Store → Res D := mD 4 B_ascends
def B_are_steps : FS :=
  sRet (eAnd (eChain oLe oLe (eC (.int 1)) (eCall (cLenO 0 M_Negativedd__lendd_) (aCons (eVar 0) (aNil))) (eC (.int 5))) (eCallD 3 M_ascends (aCons (eVar 0) (aCons (eC (.int 1)) (aCons (eC (.int 9999)) (aNil))))))
def M_are_steps : List D → Store → Res D := mD 1 B_are_steps
def B_check_steps : FS :=
  sIf (tNot (tB (eCallD 1 M_are_steps (aCons (eVar 0) (aNil))))) (
  sNever) (
  sNext)
def M_check_steps : List D → Store → Res D := mD 1 B_check_steps
def B_Negative_densities : FS :=
  sRet (eFld 0 "figures" (eVar 0))
def M_Negative_densities : List D → Store → Res D := mD 1 B_Negative_densities
def B_tone_of : FS :=
  sRet (eCall (cLenO 0 M_Negativedd__lendd_) (aCons (eLc [2] (iOf (eVar 1)) (gVar 2) (tB (eBin oLe (eVar 2) (eVar 0))) (eVar 2)) (aNil)))
def M_tone_of : List D → Store → Res D := mD 3 B_tone_of
def B_shows : FS :=
  sRet (eOr (eBin oEq (eVar 0) (eC (.str (lit "?")))) (eBin oEq (eCall cInt (aCons (eVar 0) (aNil))) (eCallD 2 M_tone_of (aCons (eVar 1) (aCons (eVar 2) (aNil))))))
def M_shows : List D → Store → Res D := mD 3 B_shows
def B_ways_under_mask : FS :=
  sSeq (sAsg (gVar 4) (eThaw (eLst (aNil)))) (
  sSeq (sFor (iZipD (eProp 0 M_Negative_densities (eVar 0)) (eVar 3)) (gTup 2 (gCons (gVar 5) (gCons (gVar 6) (gNil)))) (
  sSeq (sAsg (gVar 7) (eIf (tB (eCallD 3 M_shows (aCons (eVar 6) (aCons (eC (.int 0)) (aCons (eVar 1) (aNil)))))) (eC (.str (lit "c"))) (eC (.str (lit ""))))) (
  sSeq (sAsg (gVar 8) (eIf (tB (eCallD 3 M_shows (aCons (eVar 6) (aCons (eBin oMul (eVar 2) (eBin oIx (eC (.tup [.int 16, .int 8, .int 4, .int 2, .int 1])) (eCall cInt (aCons (eVar 5) (aNil))))) (aCons (eVar 1) (aNil)))))) (eC (.str (lit "o"))) (eC (.str (lit ""))))) (
  sExpr (eLm oApp (eVar 4) (eBin oAdd (eVar 7) (eVar 8))))))) (
  sRet (eVar 4)))
def M_ways_under_mask : List D → Store → Res D := mDf 9 B_ways_under_mask
def B_mask_ways : FS :=
  sSeq (sExpr (eCallD 1 M_check_steps (aCons (eVar 1) (aNil)))) (
  sSeq (sExpr (eCallD 3 M_check_number (aCons (eVar 2) (aCons (eC (.int 1)) (aCons (eC (.int 99)) (aNil)))))) (
  sSeq (sExpr (eCallD 3 M_check_seen (aCons (eVar 3) (aCons (eCall (cLenO 0 M_Negativedd__lendd_) (aCons (eVar 1) (aNil))) (aCons (eCall (cLenO 0 M_Negativedd__lendd_) (aCons (eVar 0) (aNil))) (aNil)))))) (
  sRet (eCallD 4 M_ways_under_mask (aCons (eVar 0) (aCons (eVar 1) (aCons (eVar 2) (aCons (eVar 3) (aNil)))))))))
def M_mask_ways : List D → Store → Res D := mD 4 B_mask_ways
def B_product : FS :=
  sSeq (sAsg (gVar 1) (eC (.int 1))) (
  sSeq (sFor (iOf (eVar 0)) (gVar 2) (
  sAug 1 oMulI (eVar 2))) (
  sRet (eVar 1)))
def M_product : List D → Store → Res D := mD 3 B_product
def B_mask_count : FS :=
  sRet (eCallD 1 M_product (aCons (eLc [4] (iOf (eCallD 4 M_mask_ways (aCons (eVar 0) (aCons (eVar 1) (aCons (eVar 2) (aCons (eVar 3) (aNil))))))) (gVar 4) (fun _ μ => .ok true μ) (eCall (cLenO 0 M_Negativedd__lendd_) (aCons (eVar 4) (aNil)))) (aNil)))
def M_mask_count : List D → Store → Res D := mD 5 B_mask_count
def B_masks_told : FS :=
  sSeq (sAsg (gVar 4) (eCallD 4 M_mask_ways (aCons (eVar 0) (aCons (eVar 1) (aCons (eVar 2) (aCons (eVar 3) (aNil))))))) (
  sSeq (sIf (tB (eBin (oIn false) (eC (.str (lit ""))) (eVar 4))) (
  sRet (eC .non)) (
  sNext)) (
  sRet (eJoin (eC (.str (lit ""))) (eLc [5] (iOf (eVar 4)) (gVar 5) (fun _ μ => .ok true μ) (eIf (tB (eBin oEq (eCall (cLenO 0 M_Negativedd__lendd_) (aCons (eVar 5) (aNil))) (eC (.int 1)))) (eVar 5) (eC (.str (lit "?"))))))))
def M_masks_told : List D → Store → Res D := mD 6 B_masks_told
def B_Negative_width : FS :=
  sRet (eFld 0 "columns" (eVar 0))
def M_Negative_width : List D → Store → Res D := mD 1 B_Negative_width
def B_is_mask : FS :=
  sRet (eAnd (eIsi "tuple" (eVar 0)) (eCallD 3 M_ascends (aCons (eVar 0) (aCons (eC (.int 0)) (aCons (eBin oSub (eVar 1) (eC (.int 1))) (aNil))))))
def M_is_mask : List D → Store → Res D := mD 2 B_is_mask
def B_is_deed : FS :=
  sSeq (sIf (tB (eBin oEq (eVar 0) (eC (.tup [.str (lit "flip")])))) (
  sRet (eC (.bl true))) (
  sNext)) (
  sSeq (sIf (tOr (tB (eBin oNe (eCall (cLenO 0 M_Negativedd__lendd_) (aCons (eVar 0) (aNil))) (eC (.int 3)))) (tNot (tB (eCallD 3 M_is_number (aCons (eBin oIx (eVar 0) (eC (.int 1))) (aCons (eC (.int 1)) (aCons (eC (.int 99)) (aNil)))))))) (
  sRet (eC (.bl false))) (
  sNext)) (
  sSeq (sIf (tB (eBin oEq (eBin oIx (eVar 0) (eC (.int 0))) (eC (.str (lit "expose"))))) (
  sRet (eCallD 2 M_is_mask (aCons (eBin oIx (eVar 0) (eC (.int 2))) (aCons (eVar 1) (aNil))))) (
  sNext)) (
  sRet (eAnd (eBin oEq (eBin oIx (eVar 0) (eC (.int 0))) (eC (.str (lit "draw")))) (eCallD 3 M_is_number (aCons (eBin oIx (eVar 0) (eC (.int 2))) (aCons (eC (.int 1)) (aCons (eC (.int 99)) (aNil)))))))))
def M_is_deed : List D → Store → Res D := mD 2 B_is_deed
def B_check_recipe : FS :=
  sFor (iEnumD (eVar 0)) (gTup 2 (gCons (gVar 2) (gCons (gVar 3) (gNil)))) (
  sIf (tOr (tB (eBin oEq (eVar 2) (eC (.int 8)))) (tNot (tB (eCallD 2 M_is_deed (aCons (eVar 3) (aCons (eVar 1) (aNil))))))) (
  sNever) (
  sNext))
def M_check_recipe : List D → Store → Res D := mD 4 B_check_recipe
def B_light_by : FS :=
  sSeq (sAsg (gTup 2 (gCons (gVar 3) (gCons (gVar 4) (gNil)))) (eVar 0)) (
  sRet (eBin oAdd (eBin oMul (eVar 3) (eBin oIx (eC (.tup [.int 16, .int 8, .int 4, .int 2, .int 1])) (eVar 1))) (eBin oMul (eVar 4) (eBin oIx (eC (.tup [.int 16, .int 8, .int 4, .int 2, .int 1])) (eVar 2)))))
def M_light_by : List D → Store → Res D := mD 5 B_light_by
def B_mirrored : FS :=
  sSeq (sAsg (gVar 2) (eBin oMod (eVar 0) (eVar 1))) (
  sRet (eBin oSub (eBin oSub (eBin oAdd (eBin oSub (eVar 0) (eVar 2)) (eVar 1)) (eC (.int 1))) (eVar 2)))
def M_mirrored : List D → Store → Res D := mD 3 B_mirrored
def B_ticks_of : FS :=
  sSeq (sIf (tB (eBin oEq (eBin oIx (eVar 0) (eC (.int 0))) (eC (.str (lit "expose"))))) (
  sRet (eIf (tB (eBin (oIn false) (eVar 2) (eBin oIx (eVar 0) (eC (.int 2))))) (eC (.int 0)) (eBin oIx (eVar 0) (eC (.int 1))))) (
  sNext)) (
  sRet (eCall cMax2 (aCons (eC (.int 0)) (aCons (eBin oSub (eBin oIx (eVar 0) (eC (.int 1))) (eBin oMul (eBin oIx (eVar 0) (eC (.int 2))) (eBin oMod (eVar 2) (eVar 1)))) (aNil)))))
def M_ticks_of : List D → Store → Res D := mD 3 B_ticks_of
def B_open_pair : FS :=
  sSeq (sAsg2 (gVar 3) (gVar 4) (eC (.int 0))) (
  sSeq (sAsg (gVar 5) (eC (.bl false))) (
  sSeq (sFor (iOf (eVar 1)) (gVar 6) (
  sIf (tB (eBin oEq (eVar 6) (eC (.tup [.str (lit "flip")])))) (
  sAsg (gVar 5) (eNot (eVar 5))) (
  sIf (tB (eVar 5)) (
  sAug 4 oAddI (eCallD 3 M_ticks_of (aCons (eVar 6) (aCons (eVar 0) (aCons (eVar 2) (aNil)))))) (
  sAug 3 oAddI (eCallD 3 M_ticks_of (aCons (eVar 6) (aCons (eVar 0) (aCons (eVar 2) (aNil))))))))) (
  sRet (eTup (aCons (eVar 3) (aCons (eVar 4) (aNil)))))))
def M_open_pair : List D → Store → Res D := mD 7 B_open_pair
def B_light_of : FS :=
  sSeq (sAsg (gVar 4) (eCallD 2 M_mirrored (aCons (eVar 3) (aCons (eVar 0) (aNil))))) (
  sRet (eCallD 3 M_light_by (aCons (eCallD 3 M_open_pair (aCons (eVar 0) (aCons (eVar 2) (aCons (eVar 3) (aNil))))) (aCons (eCall cInt (aCons (eBin oIx (eVar 1) (eVar 3)) (aNil))) (aCons (eCall cInt (aCons (eBin oIx (eVar 1) (eVar 4)) (aNil))) (aNil))))))
def M_light_of : List D → Store → Res D := mD 5 B_light_of
def B_lights : FS :=
  sSeq (sExpr (eCallD 2 M_check_recipe (aCons (eVar 1) (aCons (eCall (cLenO 0 M_Negativedd__lendd_) (aCons (eVar 0) (aNil))) (aNil))))) (
  sRet (eCall cTuple (aCons (eLc [2] (iRange1 (eCall (cLenO 0 M_Negativedd__lendd_) (aCons (eVar 0) (aNil)))) (gVar 2) (fun _ μ => .ok true μ) (eCallD 4 M_light_of (aCons (eProp 0 M_Negative_width (eVar 0)) (aCons (eProp 0 M_Negative_densities (eVar 0)) (aCons (eVar 1) (aCons (eVar 2) (aNil))))))) (aNil))))
def M_lights : List D → Store → Res D := mD 3 B_lights
def B_printed : FS :=
  sSeq (sExpr (eCallD 1 M_check_steps (aCons (eVar 1) (aNil)))) (
  sRet (eJoin (eC (.str (lit ""))) (eLc [3] (iOf (eCallD 2 M_lights (aCons (eVar 0) (aCons (eVar 2) (aNil))))) (gVar 3) (fun _ μ => .ok true μ) (eCall cStr (aCons (eCallD 2 M_tone_of (aCons (eVar 3) (aCons (eVar 1) (aNil)))) (aNil))))))
def M_printed : List D → Store → Res D := mD 4 B_printed
def B_law : FS :=
  sSeq (sAsg (gVar 1) (eThaw (eLst (aCons (eVar 0) (aCons (eC (.int 0)) (aCons (eC (.int 0)) (aCons (eC (.int 0)) (aNil)))))))) (
  sSeq (sAsg (gVar 2) (eCallD 2 M_l_scheme (aCons (eVar 1) (aCons (eC (.int 6)) (aNil))))) (
  sSeq (sAsg (gTup 4 (gCons (gVar 3) (gCons (gVar 4) (gCons (gVar 5) (gCons (gVar 6) (gNil)))))) (eTup (aCons (eCallD 1 M_l_negative (aCons (eVar 2) (aNil))) (aCons (eCallD 2 M_l_steps (aCons (eVar 1) (aCons (eC (.int 3)) (aNil)))) (aCons (eBin oAdd (eC (.int 1)) (eCallD 2 M_l_taken (aCons (eVar 1) (aCons (eC (.int 99)) (aNil))))) (aCons (eCall (cLenO 0 M_Negativedd__lendd_) (aCons (eBin oIx (eVar 2) (eC (.int 2))) (aNil))) (aNil))))))) (
  sSeq (sAsg (gVar 7) (eCallD 2 M_l_covered (aCons (eVar 1) (aCons (eVar 2) (aNil))))) (
  sSeq (sAsg (gVar 8) (eCallD 2 M_l_seen (aCons (eVar 1) (aCons (eCallD 2 M_l_print (aCons (eVar 4) (aCons (eBin oIx (eCallD 3 M_l_rows (aCons (eVar 2) (aCons (eBin oIx (eVar 2) (eC (.int 2))) (aCons (eTup (aCons (eTup (aCons (eC (.str (lit "expose"))) (aCons (eVar 5) (aCons (eVar 7) (aNil))))) (aNil))) (aNil))))) (eNeg (eC (.int 1)))) (aNil)))) (aNil))))) (
  sSeq (sIf (tB (eBin oEq (eCallD 2 M_l_taken (aCons (eVar 1) (aCons (eC (.int 4)) (aNil)))) (eC (.int 0)))) (
  sSeq (sAsg (gVar 9) (eCallD 2 M_l_taken (aCons (eVar 1) (aCons (eVar 6) (aNil))))) (
  sAsg (gVar 8) (eBin oAdd (eBin oAdd (eCut (eVar 8) (oNone) (oSome (eVar 9))) (eCall cStr (aCons (eCallD 2 M_l_taken (aCons (eVar 1) (aCons (eBin oAdd (eCall (cLenO 0 M_Negativedd__lendd_) (aCons (eVar 4) (aNil))) (eC (.int 1))) (aNil)))) (aNil)))) (eCut (eVar 8) (oSome (eBin oAdd (eVar 9) (eC (.int 1)))) (oNone))))) (
  sNext)) (
  sSeq (sPar 10 11 (eLst (aCons (eTup (aNil)) (aNil))) (eThaw (eLst (aNil)))) (
  sSeq (sFor (iRange1 (eVar 6)) (gVar 12) (
  sAsg (gVar 10) (eBin oAdd (eVar 10) (eLc [13] (iOf (eVar 10)) (gVar 13) (fun _ μ => .ok true μ) (eBin oAdd (eVar 13) (eTup (aCons (eVar 12) (aNil)))))))) (
  sSeq (sFor (iOf (eVar 10)) (gVar 13) (
  sIf (tB (eCallD 2 M_l_like (aCons (eVar 8) (aCons (eCallD 3 M_printed (aCons (eVar 3) (aCons (eVar 4) (aCons (eTup (aCons (eTup (aCons (eC (.str (lit "expose"))) (aCons (eVar 5) (aCons (eVar 13) (aNil))))) (aNil))) (aNil))))) (aNil))))) (
  sExpr (eLm oApp (eVar 11) (eVar 13))) (
  sNext))) (
  sSeq (sAsg (gVar 14) (eThaw (eLst (aNil)))) (
  sSeq (sFor (iRange1 (eVar 6)) (gVar 12) (
  sSeq (sAsg (gVar 15) (eSortSetM (eLc [13] (iOf (eVar 11)) (gVar 13) (fun _ μ => .ok true μ) (eCall cInt (aCons (eBin (oIn false) (eVar 12) (eVar 13)) (aNil)))))) (
  sExpr (eLm oApp (eVar 14) (eIf (tB (eBin oNe (eCall (cLenO 0 M_Negativedd__lendd_) (aCons (eVar 15) (aNil))) (eC (.int 1)))) (eC (.str (lit "?"))) (eBin oIx (eC (.str (lit "oc"))) (eBin oIx (eVar 15) (eC (.int 0))))))))) (
  sSeq (sIf (tB (eBin oNe (eCallD 4 M_masks_told (aCons (eVar 3) (aCons (eVar 4) (aCons (eVar 5) (aCons (eVar 8) (aNil)))))) (eIf (tB (eBin oNe (eVar 11) (eLst (aNil)))) (eJoin (eC (.str (lit ""))) (eVar 14)) (eC .non)))) (
  sRet (eC (.bl false))) (
  sNext)) (
  sRet (eBin oEq (eCallD 4 M_mask_count (aCons (eVar 3) (aCons (eVar 4) (aCons (eVar 5) (aCons (eVar 8) (aNil)))))) (eCall (cLenO 0 M_Negativedd__lendd_) (aCons (eVar 11) (aNil))))))))))))))))
def M_law : List D → Store → Res D := mDf 16 B_law
end K12

set_option Elab.async false
set_option linter.all false
set_option maxRecDepth 100000
set_option autoImplicit false
namespace K12
open PySem L2 Fw

def top (i : Nat) : Stmt := PySem.Challenge.pw_maskedprints_k12_masks_told_by_all_masks.main.body.getD i (.Pass ⟨0, 0, 0, 0⟩)
abbrev s_Negativedd__lendd_ : Stmt := inClass (top 38) 4
abbrev s_l_taken : Stmt := top 51
abbrev s_l_covered : Stmt := top 56
abbrev s_l_like : Stmt := top 65
abbrev s_is_number : Stmt := top 19
abbrev s_wrong_side : Stmt := top 21
abbrev s_wrong_part : Stmt := top 39
abbrev s_Negativedd__initdd_ : Stmt := inClass (top 38) 0
abbrev s_l_negative : Stmt := top 55
abbrev s_l_tone : Stmt := top 62
abbrev s_l_print : Stmt := top 63
abbrev s_l_mirror : Stmt := top 58
abbrev s_l_ticks : Stmt := top 60
abbrev s_l_weight : Stmt := top 59
abbrev s_l_rows : Stmt := top 61
abbrev s_l_pick : Stmt := top 52
abbrev s_l_sides : Stmt := top 53
abbrev s_l_scheme : Stmt := top 54
abbrev s_l_seen : Stmt := top 64
abbrev s_l_steps : Stmt := top 57
abbrev s_check_number : Stmt := top 24
abbrev s_check_figures : Stmt := top 25
abbrev s_check_seen : Stmt := top 26
abbrev s_ascends : Stmt := top 20
abbrev s_are_steps : Stmt := top 22
abbrev s_check_steps : Stmt := top 23
abbrev s_Negative_densities : Stmt := inClass (top 38) 3
abbrev s_tone_of : Stmt := top 35
abbrev s_shows : Stmt := top 47
abbrev s_ways_under_mask : Stmt := top 49
abbrev s_mask_ways : Stmt := top 48
abbrev s_product : Stmt := top 36
abbrev s_mask_count : Stmt := top 46
abbrev s_masks_told : Stmt := top 45
abbrev s_Negative_width : Stmt := inClass (top 38) 1
abbrev s_is_mask : Stmt := top 27
abbrev s_is_deed : Stmt := top 28
abbrev s_check_recipe : Stmt := top 29
abbrev s_light_by : Stmt := top 33
abbrev s_mirrored : Stmt := top 30
abbrev s_ticks_of : Stmt := top 31
abbrev s_open_pair : Stmt := top 32
abbrev s_light_of : Stmt := top 34
abbrev s_lights : Stmt := top 40
abbrev s_printed : Stmt := top 41
abbrev s_law : Stmt := top 66
structure Tx (P : Program) (W : World) (K : PySem.W.Frag) (cls : Nat → Option Addr) (mg : Str → Option Value) (C_Negative : Addr) : Prop where
  n_all : mg "all" = none
  n_bool : mg "bool" = none
  n_enumerate : mg "enumerate" = none
  n_int : mg "int" = none
  n_isinstance : mg "isinstance" = none
  n_len : mg "len" = none
  n_max : mg "max" = none
  n_range : mg "range" = none
  n_set : mg "set" = none
  n_sorted : mg "sorted" = none
  n_str : mg "str" = none
  n_tuple : mg "tuple" = none
  n_zip : mg "zip" = none
  c_COVERED : Gv K cls mg "COVERED" (.str (lit "c"))
  c_DENSITIES : Gv K cls mg "DENSITIES" (.str (lit "01234"))
  c_FLIP : Gv K cls mg "FLIP" (.tup [.str (lit "flip")])
  c_GREATEST_STEP : Gv K cls mg "GREATEST_STEP" (.int 9999)
  c_MOST_CELLS : Gv K cls mg "MOST_CELLS" (.int 9)
  c_MOST_DEEDS : Gv K cls mg "MOST_DEEDS" (.int 8)
  c_MOST_SIDE : Gv K cls mg "MOST_SIDE" (.int 4)
  c_MOST_STEPS : Gv K cls mg "MOST_STEPS" (.int 5)
  c_MOST_TICKS : Gv K cls mg "MOST_TICKS" (.int 99)
  c_TONES : Gv K cls mg "TONES" (.str (lit "012345"))
  c_UNCOVERED : Gv K cls mg "UNCOVERED" (.str (lit "o"))
  c_UNITS : Gv K cls mg "UNITS" (.tup [.int 16, .int 8, .int 4, .int 2, .int 1])
  c_UNSEEN : Gv K cls mg "UNSEEN" (.str (lit "?"))
  k_Negative : Kl1 K cls 0 C_Negative
  m_Negative : mg "Negative" = some (.ref C_Negative)
  f_Negative_columns : NoAttr K C_Negative "columns"
  f_Negative_figures : NoAttr K C_Negative "figures"
  f_Negative_lines : NoAttr K C_Negative "lines"
section
variable {P : Program} {W : World} {K : PySem.W.Frag} {cls : Nat → Option Addr} {mg : Str → Option Value} {base : Heap} {C_Negative : Addr} {f : Addr} {fd : FuncData}
theorem sc_Negativedd__lendd_ : FnScope ["self"] ["self"] (defScope s_Negativedd__lendd_) := ⟨rfl, rfl, rfl, by decide +kernel, rfl, by decide +kernel, by decide +kernel⟩
theorem dm_Negativedd__lendd_ (F : Fun K "__len__" "Negative.__len__" s_Negativedd__lendd_ f fd) (b : Binds K fd ["self"] []) (T : Tx P W K cls mg C_Negative) : Dm P W K cls mg base 1 f 1 M_Negativedd__lendd_ :=
  dm_mk (N := ["self"]) (ps := ["self"]) (g := B_Negativedd__lendd_) F b sc_Negativedd__lendd_ (fun cdv A outer s H E hr => (
  sss_one (ss_ret (se_callB cv_len rfl T.n_len (by decide +kernel) (sa_cons (se_fld T.k_Negative T.f_Negative_figures (se_var 0)) (sa_nil))))))
theorem sc_l_taken : FnScope ["_law_row", "_law_many", "_law_found", "_law_cell"] ["_law_row", "_law_many"] (defScope s_l_taken) := ⟨rfl, rfl, rfl, by decide +kernel, rfl, by decide +kernel, by decide +kernel⟩
theorem df_l_taken (F : Fun K "_law_taken" "_law_taken" s_l_taken f fd) (b : Binds K fd ["_law_row", "_law_many"] []) (hm : mg "_law_taken" = some (.ref f)) (T : Tx P W K cls mg C_Negative) {f_Negativedd__lendd_ : Addr} (g_Negativedd__lendd_ : Dm P W K cls mg base 1 f_Negativedd__lendd_ 1 M_Negativedd__lendd_) (len_at : PySem.W.findIn K (.ref C_Negative) "__len__" = some (some (.ref f_Negativedd__lendd_))) (len_fn : PySem.W.isFn K (.ref f_Negativedd__lendd_) = true) : Df P W K cls mg base 3 "_law_taken" 2 M_l_taken :=
  (df_mk (N := ["_law_row", "_law_many", "_law_found", "_law_cell"]) (ps := ["_law_row", "_law_many"]) (g := B_l_taken) F b hm sc_l_taken (fun cdv A outer s H E hr => (
  sss_cons (ss_if (st_cmp ov_gt (se_ix (se_var 0) (se_int)) (se_int)) (
  sss_cons (ss_set 2 sc_l_taken.nd (se_bin ov_mod (se_callTy cv_int rfl T.n_int (by decide +kernel) (sa_cons (se_ix (se_var 0) (se_int)) (sa_nil))) (se_var 1))) (
  sss_cons (ss_asg (se_bin ov_fdv (se_ix (se_var 0) (se_int)) (se_var 1)) (sg_ix (se_var 0) (se_int))) (
  sss_one (ss_ret (se_var 2))))) (
  sss_nil)) (
  sss_cons (ss_asg (se_bin ov_add (se_ix (se_var 0) (se_int)) (se_int)) (sg_ix (se_var 0) (se_int))) (
  sss_cons (ss_if (st_cmp ov_gt (se_ix (se_var 0) (se_int)) (se_callB (cv_lenO T.k_Negative len_at len_fn g_Negativedd__lendd_ (hr.mono (by decide))) rfl T.n_len (by decide +kernel) (sa_cons (se_ix (se_var 0) (se_int)) (sa_nil)))) (
  sss_cons (ss_asg (se_bin ov_mod (se_callTy cv_int rfl T.n_int (by decide +kernel) (sa_cons (se_bin ov_add (se_bin ov_mul (se_ix (se_var 0) (se_int)) (se_int)) (se_int)) (sa_nil))) (se_int)) (sg_ix (se_var 0) (se_int))) (
  sss_one (ss_ret (se_bin ov_mod (se_callTy cv_int rfl T.n_int (by decide +kernel) (sa_cons (se_bin ov_fdv (se_ix (se_var 0) (se_int)) (se_int)) (sa_nil))) (se_var 1))))) (
  sss_nil)) (
  sss_cons (ss_set 3 sc_l_taken.nd (se_ix (se_ix (se_var 0) (se_int)) (se_bin ov_sub (se_ix (se_var 0) (se_int)) (se_int)))) (
  sss_cons (ss_asg (se_bin ov_mod (se_callTy cv_int rfl T.n_int (by decide +kernel) (sa_cons (se_bin ov_add (se_bin ov_add (se_bin ov_mul (se_ix (se_var 0) (se_int)) (se_int)) (se_var 3)) (se_int)) (sa_nil))) (se_int)) (sg_ix (se_var 0) (se_int))) (
  sss_cons (ss_asg (se_if (st_cmp ov_ge (se_var 3) (se_bin ov_pow (se_int) (se_int))) (se_bin ov_fdv (se_var 3) (se_var 1)) (se_int)) (sg_ix (se_var 0) (se_int))) (
  sss_one (ss_ret (se_bin ov_mod (se_callTy cv_int rfl T.n_int (by decide +kernel) (sa_cons (se_var 3) (sa_nil))) (se_var 1))))))))))))
theorem sc_l_covered : FnScope ["_law_row", "_law_s", "_law_part", "_law_k"] ["_law_row", "_law_s"] (defScope s_l_covered) := ⟨rfl, rfl, rfl, by decide +kernel, rfl, by decide +kernel, by decide +kernel⟩
theorem df_l_covered (F : Fun K "_law_covered" "_law_covered" s_l_covered f fd) (b : Binds K fd ["_law_row", "_law_s"] []) (hm : mg "_law_covered" = some (.ref f)) (T : Tx P W K cls mg C_Negative) (G_l_taken : Df P W K cls mg base 3 "_law_taken" 2 M_l_taken) : Df P W K cls mg base 4 "_law_covered" 2 M_l_covered :=
  (df_mk (N := ["_law_row", "_law_s", "_law_part", "_law_k"]) (ps := ["_law_row", "_law_s"]) (g := B_l_covered) F b hm sc_l_covered (fun cdv A outer s H E hr => (
  sss_cons (ss_set 2 sc_l_covered.nd (se_bin ov_add (se_int) (se_call G_l_taken (hr.mono (by decide)) rfl (sa_cons (se_var 0) (sa_cons (se_int) (sa_nil)))))) (
  sss_one (ss_ret (se_callTy cv_tuple rfl T.n_tuple (by decide +kernel) (sa_cons (se_lc (own := [("_law_k", 3)]) rfl sc_l_covered.nd (si_range1 rfl T.n_range (se_bin ov_mul (se_ix (se_var 1) (se_int)) (se_ix (se_var 1) (se_int)))) (blkOk_by (N := ["_law_row", "_law_s", "_law_part", "_law_k"]) (sc := defScope s_l_covered) (own := [("_law_k", 3)]) (by decide +kernel)) (fun _ _ _ _ _ => sg_var 3 sc_l_covered.nd) (fun _ _ _ _ _ => sts_one (SW.st (sw_and (st_cmp (ov_eq hr.units) (se_call G_l_taken (hr.mono (by decide)) rfl (sa_cons (se_var 0) (sa_cons (se_var 2) (sa_nil)))) (se_int)) (sw_and1 (st_cmp ov_lt (se_var 2) (se_int)))))) (fun _ _ _ _ _ => se_var 3)) (sa_nil))))))))
theorem sc_l_like : FnScope ["_law_seen_here", "_law_tones", "_law_k"] ["_law_seen_here", "_law_tones"] (defScope s_l_like) := ⟨rfl, rfl, rfl, by decide +kernel, rfl, by decide +kernel, by decide +kernel⟩
theorem df_l_like (F : Fun K "_law_like" "_law_like" s_l_like f fd) (b : Binds K fd ["_law_seen_here", "_law_tones"] []) (hm : mg "_law_like" = some (.ref f)) (T : Tx P W K cls mg C_Negative) {f_Negativedd__lendd_ : Addr} (g_Negativedd__lendd_ : Dm P W K cls mg base 1 f_Negativedd__lendd_ 1 M_Negativedd__lendd_) (len_at : PySem.W.findIn K (.ref C_Negative) "__len__" = some (some (.ref f_Negativedd__lendd_))) (len_fn : PySem.W.isFn K (.ref f_Negativedd__lendd_) = true) : Df P W K cls mg base 3 "_law_like" 2 M_l_like :=
  (df_mk (N := ["_law_seen_here", "_law_tones", "_law_k"]) (ps := ["_law_seen_here", "_law_tones"]) (g := B_l_like) F b hm sc_l_like (fun cdv A outer s H E hr => (
  sss_one (ss_ret (se_cmp (ov_eq hr.units) (se_lc (own := [("_law_k", 2)]) rfl sc_l_like.nd (si_range1 rfl T.n_range (se_callB (cv_lenO T.k_Negative len_at len_fn g_Negativedd__lendd_ (hr.mono (by decide))) rfl T.n_len (by decide +kernel) (sa_cons (se_var 1) (sa_nil)))) (blkOk_by (N := ["_law_seen_here", "_law_tones", "_law_k"]) (sc := defScope s_l_like) (own := [("_law_k", 2)]) (by decide +kernel)) (fun _ _ _ _ _ => sg_var 2 sc_l_like.nd) (fun _ _ _ _ _ => sts_one (st_cmp ov_notIn (se_ix (se_var 0) (se_var 2)) (se_tup (sa_cons (se_str) (sa_cons (se_ix (se_var 1) (se_var 2)) (sa_nil)))))) (fun _ _ _ _ _ => se_var 2)) (se_lst (sa_nil)))))))
theorem sc_is_number : FnScope ["value", "least", "most"] ["value", "least", "most"] (defScope s_is_number) := ⟨rfl, rfl, rfl, by decide +kernel, rfl, by decide +kernel, by decide +kernel⟩
theorem df_is_number (F : Fun K "is_number" "is_number" s_is_number f fd) (b : Binds K fd ["value", "least", "most"] []) (hm : mg "is_number" = some (.ref f)) (T : Tx P W K cls mg C_Negative) : Df P W K cls mg base 1 "is_number" 3 M_is_number :=
  (df_mk (N := ["value", "least", "most"]) (ps := ["value", "least", "most"]) (g := B_is_number) F b hm sc_is_number (fun cdv A outer s H E hr => (
  sss_one (ss_ret (se_and (se_isi (T := "int") (se_var 0) rfl T.n_isinstance (by decide +kernel) rfl T.n_int (by decide +kernel)) (se_and (se_not (se_isi (T := "bool") (se_var 0) rfl T.n_isinstance (by decide +kernel) rfl T.n_bool (by decide +kernel))) (se_one (se_chain ov_le ov_le (se_var 1) (se_var 0) (se_var 2)))))))))
theorem sc_wrong_side : FnScope ["width", "height"] ["width", "height"] (defScope s_wrong_side) := ⟨rfl, rfl, rfl, by decide +kernel, rfl, by decide +kernel, by decide +kernel⟩
theorem df_wrong_side (F : Fun K "wrong_side" "wrong_side" s_wrong_side f fd) (b : Binds K fd ["width", "height"] []) (hm : mg "wrong_side" = some (.ref f)) (T : Tx P W K cls mg C_Negative) (G_is_number : Df P W K cls mg base 1 "is_number" 3 M_is_number) : Df P W K cls mg base 2 "wrong_side" 2 M_wrong_side :=
  (df_mk (N := ["width", "height"]) (ps := ["width", "height"]) (g := B_wrong_side) F b hm sc_wrong_side (fun cdv A outer s H E hr => (
  sss_cons (ss_if (st_not (st_val (se_call G_is_number (hr.mono (by decide)) rfl (sa_cons (se_var 0) (sa_cons (se_int) (sa_cons (se_globG rfl T.c_MOST_SIDE) (sa_nil))))))) (
  sss_one (ss_ret (se_str))) (
  sss_nil)) (
  sss_cons (ss_if (SW.st (sw_or (st_not (st_val (se_call G_is_number (hr.mono (by decide)) rfl (sa_cons (se_var 1) (sa_cons (se_int) (sa_cons (se_globG rfl T.c_MOST_SIDE) (sa_nil))))))) (sw_or1 (st_cmp ov_gt (se_bin ov_mul (se_var 0) (se_var 1)) (se_globG rfl T.c_MOST_CELLS))))) (
  sss_one (ss_ret (se_str))) (
  sss_nil)) (
  sss_one (ss_ret (se_non)))))))
theorem sc_wrong_part : FnScope ["width", "height", "densities", "side", "figure"] ["width", "height", "densities"] (defScope s_wrong_part) := ⟨rfl, rfl, rfl, by decide +kernel, rfl, by decide +kernel, by decide +kernel⟩
theorem df_wrong_part (F : Fun K "wrong_part" "wrong_part" s_wrong_part f fd) (b : Binds K fd ["width", "height", "densities"] []) (hm : mg "wrong_part" = some (.ref f)) (T : Tx P W K cls mg C_Negative) (G_wrong_side : Df P W K cls mg base 2 "wrong_side" 2 M_wrong_side) {f_Negativedd__lendd_ : Addr} (g_Negativedd__lendd_ : Dm P W K cls mg base 1 f_Negativedd__lendd_ 1 M_Negativedd__lendd_) (len_at : PySem.W.findIn K (.ref C_Negative) "__len__" = some (some (.ref f_Negativedd__lendd_))) (len_fn : PySem.W.isFn K (.ref f_Negativedd__lendd_) = true) : Df P W K cls mg base 3 "wrong_part" 3 M_wrong_part :=
  (df_mk (N := ["width", "height", "densities", "side", "figure"]) (ps := ["width", "height", "densities"]) (g := B_wrong_part) F b hm sc_wrong_part (fun cdv A outer s H E hr => (
  sss_cons (ss_set 3 sc_wrong_part.nd (se_call G_wrong_side (hr.mono (by decide)) rfl (sa_cons (se_var 0) (sa_cons (se_var 1) (sa_nil))))) (
  sss_cons (ss_if (st_cmp ov_notN (se_var 3) (se_non)) (
  sss_one (ss_ret (se_var 3))) (
  sss_nil)) (
  sss_cons (ss_if (SW.st (sw_or (st_cmp (ov_ne hr.units) (se_callB (cv_lenO T.k_Negative len_at len_fn g_Negativedd__lendd_ (hr.mono (by decide))) rfl T.n_len (by decide +kernel) (sa_cons (se_var 2) (sa_nil))) (se_bin ov_mul (se_var 0) (se_var 1))) (sw_or1 (st_not (st_val (se_callB (cv_all rfl) rfl T.n_all (by decide +kernel) (sa_cons (se_lc (own := [("figure", 4)]) rfl sc_wrong_part.nd (si_of (se_var 2)) (blkOk_by (N := ["width", "height", "densities", "side", "figure"]) (sc := defScope s_wrong_part) (own := [("figure", 4)]) (by decide +kernel)) (fun _ _ _ _ _ => sg_var 4 sc_wrong_part.nd) (fun _ _ _ _ _ => sts_nil) (fun _ _ _ _ _ => se_cmp ov_in (se_var 4) (se_globG rfl T.c_DENSITIES))) (sa_nil)))))))) (
  sss_one (ss_ret (se_str))) (
  sss_nil)) (
  sss_one (ss_ret (se_non))))))))
theorem sc_Negativedd__initdd_ : FnScope ["self", "width", "height", "densities", "part"] ["self", "width", "height", "densities"] (defScope s_Negativedd__initdd_) := ⟨rfl, rfl, rfl, by decide +kernel, rfl, by decide +kernel, by decide +kernel⟩
theorem dm_Negativedd__initdd_ (F : Fun K "__init__" "Negative.__init__" s_Negativedd__initdd_ f fd) (b : Binds K fd ["self", "width", "height", "densities"] []) (T : Tx P W K cls mg C_Negative) (G_wrong_part : Df P W K cls mg base 3 "wrong_part" 3 M_wrong_part) : Dm P W K cls mg base 4 f 4 M_Negativedd__initdd_ :=
  dm_mk (N := ["self", "width", "height", "densities", "part"]) (ps := ["self", "width", "height", "densities"]) (g := B_Negativedd__initdd_) F b sc_Negativedd__initdd_ (fun cdv A outer s H E hr => (
  sss_cons (ss_set 4 sc_Negativedd__initdd_.nd (se_call G_wrong_part (hr.mono (by decide)) rfl (sa_cons (se_var 1) (sa_cons (se_var 2) (sa_cons (se_var 3) (sa_nil)))))) (
  sss_cons (ss_if (st_cmp ov_notN (se_var 4) (se_non)) (
  sss_one (ss_never)) (
  sss_nil)) (
  sss_cons (ss_fld T.k_Negative T.f_Negative_columns (se_var 0) (se_var 1)) (
  sss_cons (ss_fld T.k_Negative T.f_Negative_lines (se_var 0) (se_var 2)) (
  sss_one (ss_fld T.k_Negative T.f_Negative_figures (se_var 0) (se_var 3))))))))
theorem sc_l_negative : FnScope ["_law_s"] ["_law_s"] (defScope s_l_negative) := ⟨rfl, rfl, rfl, by decide +kernel, rfl, by decide +kernel, by decide +kernel⟩
theorem df_l_negative (F : Fun K "_law_negative" "_law_negative" s_l_negative f fd) (b : Binds K fd ["_law_s"] []) (hm : mg "_law_negative" = some (.ref f)) (T : Tx P W K cls mg C_Negative) {f_Negativedd__initdd_ : Addr} (g_Negativedd__initdd_ : Dm P W K cls mg base 4 f_Negativedd__initdd_ 4 M_Negativedd__initdd_) (mk_Negative : Mk K C_Negative f_Negativedd__initdd_) : Df P W K cls mg base 6 "_law_negative" 1 M_l_negative :=
  (df_mk (N := ["_law_s"]) (ps := ["_law_s"]) (g := B_l_negative) F b hm sc_l_negative (fun cdv A outer s H E hr => (
  sss_one (ss_ret (se_make T.k_Negative mk_Negative g_Negativedd__initdd_ (hr.mono (by decide)) rfl T.m_Negative (sa_cons (se_ix (se_var 0) (se_int)) (sa_cons (se_ix (se_var 0) (se_int)) (sa_cons (se_ix (se_var 0) (se_int)) (sa_nil)))))))))
theorem sc_l_tone : FnScope ["_law_steps_here", "_law_light", "_law_step"] ["_law_steps_here", "_law_light"] (defScope s_l_tone) := ⟨rfl, rfl, rfl, by decide +kernel, rfl, by decide +kernel, by decide +kernel⟩
theorem df_l_tone (F : Fun K "_law_tone" "_law_tone" s_l_tone f fd) (b : Binds K fd ["_law_steps_here", "_law_light"] []) (hm : mg "_law_tone" = some (.ref f)) (T : Tx P W K cls mg C_Negative) {f_Negativedd__lendd_ : Addr} (g_Negativedd__lendd_ : Dm P W K cls mg base 1 f_Negativedd__lendd_ 1 M_Negativedd__lendd_) (len_at : PySem.W.findIn K (.ref C_Negative) "__len__" = some (some (.ref f_Negativedd__lendd_))) (len_fn : PySem.W.isFn K (.ref f_Negativedd__lendd_) = true) : Df P W K cls mg base 3 "_law_tone" 2 M_l_tone :=
  (df_mk (N := ["_law_steps_here", "_law_light", "_law_step"]) (ps := ["_law_steps_here", "_law_light"]) (g := B_l_tone) F b hm sc_l_tone (fun cdv A outer s H E hr => (
  sss_one (ss_ret (se_callTy cv_str rfl T.n_str (by decide +kernel) (sa_cons (se_callB (cv_lenO T.k_Negative len_at len_fn g_Negativedd__lendd_ (hr.mono (by decide))) rfl T.n_len (by decide +kernel) (sa_cons (se_lc (own := [("_law_step", 2)]) rfl sc_l_tone.nd (si_of (se_var 0)) (blkOk_by (N := ["_law_steps_here", "_law_light", "_law_step"]) (sc := defScope s_l_tone) (own := [("_law_step", 2)]) (by decide +kernel)) (fun _ _ _ _ _ => sg_var 2 sc_l_tone.nd) (fun _ _ _ _ _ => sts_one (st_cmp ov_ge (se_var 1) (se_var 2))) (fun _ _ _ _ _ => se_var 2)) (sa_nil))) (sa_nil)))))))
theorem sc_l_print : FnScope ["_law_steps_here", "_law_lights_of", "_law_light"] ["_law_steps_here", "_law_lights_of"] (defScope s_l_print) := ⟨rfl, rfl, rfl, by decide +kernel, rfl, by decide +kernel, by decide +kernel⟩
theorem df_l_print (F : Fun K "_law_print" "_law_print" s_l_print f fd) (b : Binds K fd ["_law_steps_here", "_law_lights_of"] []) (hm : mg "_law_print" = some (.ref f)) (T : Tx P W K cls mg C_Negative) (G_l_tone : Df P W K cls mg base 3 "_law_tone" 2 M_l_tone) : Df P W K cls mg base 4 "_law_print" 2 M_l_print :=
  (df_mk (N := ["_law_steps_here", "_law_lights_of", "_law_light"]) (ps := ["_law_steps_here", "_law_lights_of"]) (g := B_l_print) F b hm sc_l_print (fun cdv A outer s H E hr => (
  sss_one (ss_ret (se_join (se_str) (se_lc (own := [("_law_light", 2)]) rfl sc_l_print.nd (si_of (se_var 1)) (blkOk_by (N := ["_law_steps_here", "_law_lights_of", "_law_light"]) (sc := defScope s_l_print) (own := [("_law_light", 2)]) (by decide +kernel)) (fun _ _ _ _ _ => sg_var 2 sc_l_print.nd) (fun _ _ _ _ _ => sts_nil) (fun _ _ _ _ _ => se_call G_l_tone (hr.mono (by decide)) rfl (sa_cons (se_var 0) (sa_cons (se_var 2) (sa_nil))))))))))
theorem sc_l_mirror : FnScope ["_law_s", "_law_cell"] ["_law_s", "_law_cell"] (defScope s_l_mirror) := ⟨rfl, rfl, rfl, by decide +kernel, rfl, by decide +kernel, by decide +kernel⟩
theorem df_l_mirror (F : Fun K "_law_mirror" "_law_mirror" s_l_mirror f fd) (b : Binds K fd ["_law_s", "_law_cell"] []) (hm : mg "_law_mirror" = some (.ref f)) (T : Tx P W K cls mg C_Negative) : Df P W K cls mg base 1 "_law_mirror" 2 M_l_mirror :=
  (df_mk (N := ["_law_s", "_law_cell"]) (ps := ["_law_s", "_law_cell"]) (g := B_l_mirror) F b hm sc_l_mirror (fun cdv A outer s H E hr => (
  sss_one (ss_ret (se_bin ov_sub (se_bin ov_sub (se_bin ov_add (se_bin ov_mul (se_bin ov_fdv (se_var 1) (se_ix (se_var 0) (se_int))) (se_ix (se_var 0) (se_int))) (se_ix (se_var 0) (se_int))) (se_int)) (se_bin ov_mod (se_var 1) (se_ix (se_var 0) (se_int))))))))
theorem sc_l_ticks : FnScope ["_law_s", "_law_deed", "_law_cell"] ["_law_s", "_law_deed", "_law_cell"] (defScope s_l_ticks) := ⟨rfl, rfl, rfl, by decide +kernel, rfl, by decide +kernel, by decide +kernel⟩
theorem df_l_ticks (F : Fun K "_law_ticks" "_law_ticks" s_l_ticks f fd) (b : Binds K fd ["_law_s", "_law_deed", "_law_cell"] []) (hm : mg "_law_ticks" = some (.ref f)) (T : Tx P W K cls mg C_Negative) : Df P W K cls mg base 1 "_law_ticks" 3 M_l_ticks :=
  (df_mk (N := ["_law_s", "_law_deed", "_law_cell"]) (ps := ["_law_s", "_law_deed", "_law_cell"]) (g := B_l_ticks) F b hm sc_l_ticks (fun cdv A outer s H E hr => (
  sss_cons (ss_if (st_cmp (ov_eq hr.units) (se_ix (se_var 1) (se_int)) (se_str)) (
  sss_one (ss_ret (se_bin ov_mul (se_ix (se_var 1) (se_int)) (se_callTy cv_int rfl T.n_int (by decide +kernel) (sa_cons (se_cmp ov_notIn (se_var 2) (se_ix (se_var 1) (se_int))) (sa_nil)))))) (
  sss_nil)) (
  sss_one (ss_ret (se_if (st_cmp (ov_eq hr.units) (se_ix (se_var 1) (se_int)) (se_str)) (se_callB (cv_max2 rfl) rfl T.n_max (by decide +kernel) (sa_cons (se_int) (sa_cons (se_bin ov_sub (se_ix (se_var 1) (se_int)) (se_bin ov_mul (se_ix (se_var 1) (se_int)) (se_bin ov_mod (se_var 2) (se_ix (se_var 0) (se_int))))) (sa_nil)))) (se_int)))))))
theorem sc_l_weight : FnScope ["_law_figure"] ["_law_figure"] (defScope s_l_weight) := ⟨rfl, rfl, rfl, by decide +kernel, rfl, by decide +kernel, by decide +kernel⟩
theorem df_l_weight (F : Fun K "_law_weight" "_law_weight" s_l_weight f fd) (b : Binds K fd ["_law_figure"] []) (hm : mg "_law_weight" = some (.ref f)) (T : Tx P W K cls mg C_Negative) : Df P W K cls mg base 1 "_law_weight" 1 M_l_weight :=
  (df_mk (N := ["_law_figure"]) (ps := ["_law_figure"]) (g := B_l_weight) F b hm sc_l_weight (fun cdv A outer s H E hr => (
  sss_one (ss_ret (se_ix (se_lst (sa_cons (se_int) (sa_cons (se_int) (sa_cons (se_int) (sa_cons (se_int) (sa_cons (se_int) (sa_nil))))))) (se_callTy cv_int rfl T.n_int (by decide +kernel) (sa_cons (se_var 0) (sa_nil))))))))
theorem sc_l_rows : FnScope ["_law_s", "_law_densities", "_law_recipe", "_law_now", "_law_is_over", "_law_rows_here", "_law_deed", "_law_cell", "_law_through"] ["_law_s", "_law_densities", "_law_recipe"] (defScope s_l_rows) := ⟨rfl, rfl, rfl, by decide +kernel, rfl, by decide +kernel, by decide +kernel⟩
theorem df_l_rows (F : Fun K "_law_rows" "_law_rows" s_l_rows f fd) (b : Binds K fd ["_law_s", "_law_densities", "_law_recipe"] []) (hm : mg "_law_rows" = some (.ref f)) (T : Tx P W K cls mg C_Negative) (G_l_mirror : Df P W K cls mg base 1 "_law_mirror" 2 M_l_mirror) (G_l_ticks : Df P W K cls mg base 1 "_law_ticks" 3 M_l_ticks) (G_l_weight : Df P W K cls mg base 1 "_law_weight" 1 M_l_weight) {f_Negativedd__lendd_ : Addr} (g_Negativedd__lendd_ : Dm P W K cls mg base 1 f_Negativedd__lendd_ 1 M_Negativedd__lendd_) (len_at : PySem.W.findIn K (.ref C_Negative) "__len__" = some (some (.ref f_Negativedd__lendd_))) (len_fn : PySem.W.isFn K (.ref f_Negativedd__lendd_) = true) : Df P W K cls mg base 3 "_law_rows" 3 M_l_rows :=
  Df.fin (df_mk (N := ["_law_s", "_law_densities", "_law_recipe", "_law_now", "_law_is_over", "_law_rows_here", "_law_deed", "_law_cell", "_law_through"]) (ps := ["_law_s", "_law_densities", "_law_recipe"]) (g := B_l_rows) F b hm sc_l_rows (fun cdv A outer s H E hr => (
  sss_cons (ss_par 3 4 rfl sc_l_rows.nd (se_repT (se_lst (sa_cons (se_int) (sa_nil))) (se_callB (cv_lenO T.k_Negative len_at len_fn g_Negativedd__lendd_ (hr.mono (by decide))) rfl T.n_len (by decide +kernel) (sa_cons (se_var 1) (sa_nil)))) (se_bl)) (
  sss_cons (ss_set 5 sc_l_rows.nd (se_lstT (sa_cons (se_callTy cv_tuple rfl T.n_tuple (by decide +kernel) (sa_cons (se_var 3) (sa_nil))) (sa_nil)))) (
  sss_cons (ss_for PassesOwn.never rfl (si_of (se_var 2)) (sg_var 6 sc_l_rows.nd) (
  sss_cons (ss_set 4 sc_l_rows.nd (se_cmp (ov_ne hr.units) (se_var 4) (se_cmp (ov_eq hr.units) (se_ix (se_var 6) (se_int)) (se_str)))) (
  sss_cons (ss_for PassesOwn.never rfl (si_range1 rfl T.n_range (se_callB (cv_lenO T.k_Negative len_at len_fn g_Negativedd__lendd_ (hr.mono (by decide))) rfl T.n_len (by decide +kernel) (sa_cons (se_var 3) (sa_nil)))) (sg_var 7 sc_l_rows.nd) (
  sss_cons (ss_set 8 sc_l_rows.nd (se_ix (se_var 1) (se_if (st_val (se_var 4)) (se_call G_l_mirror (hr.mono (by decide)) rfl (sa_cons (se_var 0) (sa_cons (se_var 7) (sa_nil)))) (se_var 7)))) (
  sss_one (ss_asg (se_bin ov_add (se_ix (se_var 3) (se_var 7)) (se_bin ov_mul (se_call G_l_ticks (hr.mono (by decide)) rfl (sa_cons (se_var 0) (sa_cons (se_var 6) (sa_cons (se_var 7) (sa_nil))))) (se_call G_l_weight (hr.mono (by decide)) rfl (sa_cons (se_var 8) (sa_nil))))) (sg_ix (se_var 3) (se_var 7)))))) (
  sss_one (ss_expr (se_lm (se_var 5) (se_callTy cv_tuple rfl T.n_tuple (by decide +kernel) (sa_cons (se_var 3) (sa_nil))) (fun p1 p2 => pe_bm PySem.F.plainAttrs_list PySem.F.slot_list_append PySem.F.type_list_append mt_append p1 p2) (fun S r1 r2 q => app_val S r1 r2 q))))))) (
  sss_one (ss_ret (se_var 5))))))))
theorem sc_l_pick : FnScope ["_law_row", "_law_some"] ["_law_row", "_law_some"] (defScope s_l_pick) := ⟨rfl, rfl, rfl, by decide +kernel, rfl, by decide +kernel, by decide +kernel⟩
theorem df_l_pick (F : Fun K "_law_pick" "_law_pick" s_l_pick f fd) (b : Binds K fd ["_law_row", "_law_some"] []) (hm : mg "_law_pick" = some (.ref f)) (T : Tx P W K cls mg C_Negative) (G_l_taken : Df P W K cls mg base 3 "_law_taken" 2 M_l_taken) {f_Negativedd__lendd_ : Addr} (g_Negativedd__lendd_ : Dm P W K cls mg base 1 f_Negativedd__lendd_ 1 M_Negativedd__lendd_) (len_at : PySem.W.findIn K (.ref C_Negative) "__len__" = some (some (.ref f_Negativedd__lendd_))) (len_fn : PySem.W.isFn K (.ref f_Negativedd__lendd_) = true) : Df P W K cls mg base 4 "_law_pick" 2 M_l_pick :=
  (df_mk (N := ["_law_row", "_law_some"]) (ps := ["_law_row", "_law_some"]) (g := B_l_pick) F b hm sc_l_pick (fun cdv A outer s H E hr => (
  sss_one (ss_ret (se_ix (se_var 1) (se_call G_l_taken (hr.mono (by decide)) rfl (sa_cons (se_var 0) (sa_cons (se_callB (cv_lenO T.k_Negative len_at len_fn g_Negativedd__lendd_ (hr.mono (by decide))) rfl T.n_len (by decide +kernel) (sa_cons (se_var 1) (sa_nil))) (sa_nil)))))))))
theorem sc_l_sides : FnScope ["_law_cells", "_law_found", "_law_w", "_law_h"] ["_law_cells"] (defScope s_l_sides) := ⟨rfl, rfl, rfl, by decide +kernel, rfl, by decide +kernel, by decide +kernel⟩
theorem df_l_sides (F : Fun K "_law_sides" "_law_sides" s_l_sides f fd) (b : Binds K fd ["_law_cells"] []) (hm : mg "_law_sides" = some (.ref f)) (T : Tx P W K cls mg C_Negative) : Df P W K cls mg base 1 "_law_sides" 1 M_l_sides :=
  (df_mk (N := ["_law_cells", "_law_found", "_law_w", "_law_h"]) (ps := ["_law_cells"]) (g := B_l_sides) F b hm sc_l_sides (fun cdv A outer s H E hr => (
  sss_cons (ss_set 1 sc_l_sides.nd (se_lst (sa_nil))) (
  sss_cons (ss_for PassesOwn.never rfl (si_of (se_tup (sa_cons (se_int) (sa_cons (se_int) (sa_cons (se_int) (sa_cons (se_int) (sa_nil))))))) (sg_var 2 sc_l_sides.nd) (
  sss_one (ss_set 1 sc_l_sides.nd (se_bin ov_add (se_var 1) (se_lc (own := [("_law_h", 3)]) rfl sc_l_sides.nd (si_of (se_tup (sa_cons (se_int) (sa_cons (se_int) (sa_cons (se_int) (sa_cons (se_int) (sa_nil))))))) (blkOk_by (N := ["_law_cells", "_law_found", "_law_w", "_law_h"]) (sc := defScope s_l_sides) (own := [("_law_h", 3)]) (by decide +kernel)) (fun _ _ _ _ _ => sg_var 3 sc_l_sides.nd) (fun _ _ _ _ _ => sts_one (st_cmp ov_le (se_bin ov_mul (se_var 2) (se_var 3)) (se_var 0))) (fun _ _ _ _ _ => se_tup (sa_cons (se_var 2) (sa_cons (se_var 3) (sa_nil))))))))) (
  sss_one (ss_ret (se_var 1)))))))
theorem sc_l_scheme : FnScope ["_law_row", "_law_cells", "_law_some", "_law_w", "_law_h", "_law_kinds", "_law_part", "_law_cell"] ["_law_row", "_law_cells"] (defScope s_l_scheme) := ⟨rfl, rfl, rfl, by decide +kernel, rfl, by decide +kernel, by decide +kernel⟩
theorem df_l_scheme (F : Fun K "_law_scheme" "_law_scheme" s_l_scheme f fd) (b : Binds K fd ["_law_row", "_law_cells"] []) (hm : mg "_law_scheme" = some (.ref f)) (T : Tx P W K cls mg C_Negative) (G_l_pick : Df P W K cls mg base 4 "_law_pick" 2 M_l_pick) (G_l_sides : Df P W K cls mg base 1 "_law_sides" 1 M_l_sides) : Df P W K cls mg base 5 "_law_scheme" 2 M_l_scheme :=
  (df_mk (N := ["_law_row", "_law_cells", "_law_some", "_law_w", "_law_h", "_law_kinds", "_law_part", "_law_cell"]) (ps := ["_law_row", "_law_cells"]) (g := B_l_scheme) F b hm sc_l_scheme (fun cdv A outer s H E hr => (
  sss_cons (ss_set 2 sc_l_scheme.nd (se_call G_l_sides (hr.mono (by decide)) rfl (sa_cons (se_var 1) (sa_nil)))) (
  sss_cons (ss_asg (se_call G_l_pick (hr.mono (by decide)) rfl (sa_cons (se_var 0) (sa_cons (se_bin ov_add (se_var 2) (se_lc (own := [("_law_part", 6)]) rfl sc_l_scheme.nd (si_of (se_var 2)) (blkOk_by (N := ["_law_row", "_law_cells", "_law_some", "_law_w", "_law_h", "_law_kinds", "_law_part", "_law_cell"]) (sc := defScope s_l_scheme) (own := [("_law_part", 6)]) (by decide +kernel)) (fun _ _ _ _ _ => sg_var 6 sc_l_scheme.nd) (fun _ _ _ _ _ => sts_one (st_cmp ov_gt (se_ix (se_var 6) (se_int)) (se_int))) (fun _ _ _ _ _ => se_var 6))) (sa_nil)))) (sg_tup rfl (sgs_cons (sg_var 3 sc_l_scheme.nd) (sgs_cons (sg_var 4 sc_l_scheme.nd) (sgs_nil))))) (
  sss_cons (ss_set 5 sc_l_scheme.nd (se_call G_l_pick (hr.mono (by decide)) rfl (sa_cons (se_var 0) (sa_cons (se_lst (sa_cons (se_str) (sa_cons (se_str) (sa_cons (se_str) (sa_cons (se_str) (sa_nil)))))) (sa_nil))))) (
  sss_one (ss_ret (se_tup (sa_cons (se_var 3) (sa_cons (se_var 4) (sa_cons (se_join (se_str) (se_lc (own := [("_law_cell", 7)]) rfl sc_l_scheme.nd (si_range1 rfl T.n_range (se_bin ov_mul (se_var 3) (se_var 4))) (blkOk_by (N := ["_law_row", "_law_cells", "_law_some", "_law_w", "_law_h", "_law_kinds", "_law_part", "_law_cell"]) (sc := defScope s_l_scheme) (own := [("_law_cell", 7)]) (by decide +kernel)) (fun _ _ _ _ _ => sg_var 7 sc_l_scheme.nd) (fun _ _ _ _ _ => sts_nil) (fun _ _ _ _ _ => se_call G_l_pick (hr.mono (by decide)) rfl (sa_cons (se_var 0) (sa_cons (se_var 5) (sa_nil)))))) (sa_nil))))))))))))
theorem sc_l_seen : FnScope ["_law_row", "_law_tones", "_law_tone_here"] ["_law_row", "_law_tones"] (defScope s_l_seen) := ⟨rfl, rfl, rfl, by decide +kernel, rfl, by decide +kernel, by decide +kernel⟩
theorem df_l_seen (F : Fun K "_law_seen" "_law_seen" s_l_seen f fd) (b : Binds K fd ["_law_row", "_law_tones"] []) (hm : mg "_law_seen" = some (.ref f)) (T : Tx P W K cls mg C_Negative) (G_l_pick : Df P W K cls mg base 4 "_law_pick" 2 M_l_pick) : Df P W K cls mg base 5 "_law_seen" 2 M_l_seen :=
  (df_mk (N := ["_law_row", "_law_tones", "_law_tone_here"]) (ps := ["_law_row", "_law_tones"]) (g := B_l_seen) F b hm sc_l_seen (fun cdv A outer s H E hr => (
  sss_one (ss_ret (se_join (se_str) (se_lc (own := [("_law_tone_here", 2)]) rfl sc_l_seen.nd (si_of (se_var 1)) (blkOk_by (N := ["_law_row", "_law_tones", "_law_tone_here"]) (sc := defScope s_l_seen) (own := [("_law_tone_here", 2)]) (by decide +kernel)) (fun _ _ _ _ _ => sg_var 2 sc_l_seen.nd) (fun _ _ _ _ _ => sts_nil) (fun _ _ _ _ _ => se_call G_l_pick (hr.mono (by decide)) rfl (sa_cons (se_var 0) (sa_cons (se_lst (sa_cons (se_var 2) (sa_cons (se_var 2) (sa_cons (se_str) (sa_nil))))) (sa_nil))))))))))
theorem sc_l_steps : FnScope ["_law_row", "_law_most", "_law_top", "_law_k"] ["_law_row", "_law_most"] (defScope s_l_steps) := ⟨rfl, rfl, rfl, by decide +kernel, rfl, by decide +kernel, by decide +kernel⟩
theorem df_l_steps (F : Fun K "_law_steps" "_law_steps" s_l_steps f fd) (b : Binds K fd ["_law_row", "_law_most"] []) (hm : mg "_law_steps" = some (.ref f)) (T : Tx P W K cls mg C_Negative) (G_l_pick : Df P W K cls mg base 4 "_law_pick" 2 M_l_pick) (G_l_taken : Df P W K cls mg base 3 "_law_taken" 2 M_l_taken) : Df P W K cls mg base 5 "_law_steps" 2 M_l_steps :=
  (df_mk (N := ["_law_row", "_law_most", "_law_top", "_law_k"]) (ps := ["_law_row", "_law_most"]) (g := B_l_steps) F b hm sc_l_steps (fun cdv A outer s H E hr => (
  sss_cons (ss_set 2 sc_l_steps.nd (se_call G_l_pick (hr.mono (by decide)) rfl (sa_cons (se_var 0) (sa_cons (se_lst (sa_cons (se_int) (sa_cons (se_int) (sa_cons (se_int) (sa_cons (se_int) (sa_nil)))))) (sa_nil))))) (
  sss_one (ss_ret (se_callTy cv_tuple rfl T.n_tuple (by decide +kernel) (sa_cons (se_sortSetM (by exact rfl) (by exact rfl) T.n_sorted (by exact rfl) T.n_set (se_lc (own := [("_law_k", 3)]) rfl sc_l_steps.nd (si_range1 rfl T.n_range (se_bin ov_add (se_int) (se_call G_l_taken (hr.mono (by decide)) rfl (sa_cons (se_var 0) (sa_cons (se_var 1) (sa_nil)))))) (blkOk_by (N := ["_law_row", "_law_most", "_law_top", "_law_k"]) (sc := defScope s_l_steps) (own := [("_law_k", 3)]) (by decide +kernel)) (fun _ _ _ _ _ => sg_var 3 sc_l_steps.nd) (fun _ _ _ _ _ => sts_nil) (fun _ _ _ _ _ => se_bin ov_add (se_int) (se_call G_l_taken (hr.mono (by decide)) rfl (sa_cons (se_var 0) (sa_cons (se_var 2) (sa_nil))))))) (sa_nil))))))))
theorem sc_check_number : FnScope ["value", "least", "most"] ["value", "least", "most"] (defScope s_check_number) := ⟨rfl, rfl, rfl, by decide +kernel, rfl, by decide +kernel, by decide +kernel⟩
theorem df_check_number (F : Fun K "check_number" "check_number" s_check_number f fd) (b : Binds K fd ["value", "least", "most"] []) (hm : mg "check_number" = some (.ref f)) (T : Tx P W K cls mg C_Negative) (G_is_number : Df P W K cls mg base 1 "is_number" 3 M_is_number) : Df P W K cls mg base 2 "check_number" 3 M_check_number :=
  (df_mk (N := ["value", "least", "most"]) (ps := ["value", "least", "most"]) (g := B_check_number) F b hm sc_check_number (fun cdv A outer s H E hr => (
  sss_one (ss_if (st_not (st_val (se_call G_is_number (hr.mono (by decide)) rfl (sa_cons (se_var 0) (sa_cons (se_var 1) (sa_cons (se_var 2) (sa_nil))))))) (
  sss_one (ss_never)) (
  sss_nil)))))
theorem sc_check_figures : FnScope ["text", "figures", "cells", "figure"] ["text", "figures", "cells"] (defScope s_check_figures) := ⟨rfl, rfl, rfl, by decide +kernel, rfl, by decide +kernel, by decide +kernel⟩
theorem df_check_figures (F : Fun K "check_figures" "check_figures" s_check_figures f fd) (b : Binds K fd ["text", "figures", "cells"] []) (hm : mg "check_figures" = some (.ref f)) (T : Tx P W K cls mg C_Negative) {f_Negativedd__lendd_ : Addr} (g_Negativedd__lendd_ : Dm P W K cls mg base 1 f_Negativedd__lendd_ 1 M_Negativedd__lendd_) (len_at : PySem.W.findIn K (.ref C_Negative) "__len__" = some (some (.ref f_Negativedd__lendd_))) (len_fn : PySem.W.isFn K (.ref f_Negativedd__lendd_) = true) : Df P W K cls mg base 3 "check_figures" 3 M_check_figures :=
  (df_mk (N := ["text", "figures", "cells", "figure"]) (ps := ["text", "figures", "cells"]) (g := B_check_figures) F b hm sc_check_figures (fun cdv A outer s H E hr => (
  sss_one (ss_if (SW.st (sw_or (st_not (st_val (se_isi (T := "str") (se_var 0) rfl T.n_isinstance (by decide +kernel) rfl T.n_str (by decide +kernel)))) (sw_or (st_cmp (ov_ne hr.units) (se_callB (cv_lenO T.k_Negative len_at len_fn g_Negativedd__lendd_ (hr.mono (by decide))) rfl T.n_len (by decide +kernel) (sa_cons (se_var 0) (sa_nil))) (se_var 2)) (sw_or1 (st_not (st_val (se_callB (cv_all rfl) rfl T.n_all (by decide +kernel) (sa_cons (se_lc (own := [("figure", 3)]) rfl sc_check_figures.nd (si_of (se_var 0)) (blkOk_by (N := ["text", "figures", "cells", "figure"]) (sc := defScope s_check_figures) (own := [("figure", 3)]) (by decide +kernel)) (fun _ _ _ _ _ => sg_var 3 sc_check_figures.nd) (fun _ _ _ _ _ => sts_nil) (fun _ _ _ _ _ => se_cmp ov_in (se_var 3) (se_var 1))) (sa_nil))))))))) (
  sss_one (ss_never)) (
  sss_nil)))))
theorem sc_check_seen : FnScope ["tones", "most", "cells"] ["tones", "most", "cells"] (defScope s_check_seen) := ⟨rfl, rfl, rfl, by decide +kernel, rfl, by decide +kernel, by decide +kernel⟩
theorem df_check_seen (F : Fun K "check_seen" "check_seen" s_check_seen f fd) (b : Binds K fd ["tones", "most", "cells"] []) (hm : mg "check_seen" = some (.ref f)) (T : Tx P W K cls mg C_Negative) (G_check_figures : Df P W K cls mg base 3 "check_figures" 3 M_check_figures) : Df P W K cls mg base 4 "check_seen" 3 M_check_seen :=
  (df_mk (N := ["tones", "most", "cells"]) (ps := ["tones", "most", "cells"]) (g := B_check_seen) F b hm sc_check_seen (fun cdv A outer s H E hr => (
  sss_one (ss_expr (se_call G_check_figures (hr.mono (by decide)) rfl (sa_cons (se_var 0) (sa_cons (se_bin ov_add (se_cut (se_globG rfl T.c_TONES) (so_none) (so_some (se_bin ov_add (se_var 1) (se_int)))) (se_globG rfl T.c_UNSEEN)) (sa_cons (se_var 2) (sa_nil)))))))))
theorem sc_ascends : FnScope ["values", "least", "most", "value"] ["values", "least", "most"] (defScope s_ascends) := ⟨rfl, rfl, rfl, by decide +kernel, rfl, by decide +kernel, by decide +kernel⟩
theorem df_ascends (F : Fun K "ascends" "ascends" s_ascends f fd) (b : Binds K fd ["values", "least", "most"] []) (hm : mg "ascends" = some (.ref f)) (T : Tx P W K cls mg C_Negative) (G_is_number : Df P W K cls mg base 1 "is_number" 3 M_is_number) : Df P W K cls mg base 2 "ascends" 3 M_ascends :=
  (df_mk (N := ["values", "least", "most", "value"]) (ps := ["values", "least", "most"]) (g := B_ascends) F b hm sc_ascends (fun cdv A outer s H E hr => (
  sss_cons (ss_for PassesOwn.never rfl (si_of (se_var 0)) (sg_var 3 sc_ascends.nd) (
  sss_cons (ss_if (st_not (st_val (se_call G_is_number (hr.mono (by decide)) rfl (sa_cons (se_var 3) (sa_cons (se_var 1) (sa_cons (se_var 2) (sa_nil))))))) (
  sss_one (ss_ret (se_bl))) (
  sss_nil)) (
  sss_one (ss_set 1 sc_ascends.nd (se_bin ov_add (se_var 3) (se_int)))))) (
  sss_one (ss_ret (se_bl))))))
theorem sc_are_steps : FnScope ["steps"] ["steps"] (defScope s_are_steps) := ⟨rfl, rfl, rfl, by decide +kernel, rfl, by decide +kernel, by decide +kernel⟩
theorem df_are_steps (F : Fun K "are_steps" "are_steps" s_are_steps f fd) (b : Binds K fd ["steps"] []) (hm : mg "are_steps" = some (.ref f)) (T : Tx P W K cls mg C_Negative) (G_ascends : Df P W K cls mg base 2 "ascends" 3 M_ascends) {f_Negativedd__lendd_ : Addr} (g_Negativedd__lendd_ : Dm P W K cls mg base 1 f_Negativedd__lendd_ 1 M_Negativedd__lendd_) (len_at : PySem.W.findIn K (.ref C_Negative) "__len__" = some (some (.ref f_Negativedd__lendd_))) (len_fn : PySem.W.isFn K (.ref f_Negativedd__lendd_) = true) : Df P W K cls mg base 3 "are_steps" 1 M_are_steps :=
  (df_mk (N := ["steps"]) (ps := ["steps"]) (g := B_are_steps) F b hm sc_are_steps (fun cdv A outer s H E hr => (
  sss_one (ss_ret (se_and (se_chain ov_le ov_le (se_int) (se_callB (cv_lenO T.k_Negative len_at len_fn g_Negativedd__lendd_ (hr.mono (by decide))) rfl T.n_len (by decide +kernel) (sa_cons (se_var 0) (sa_nil))) (se_globG rfl T.c_MOST_STEPS)) (se_one (se_call G_ascends (hr.mono (by decide)) rfl (sa_cons (se_var 0) (sa_cons (se_int) (sa_cons (se_globG rfl T.c_GREATEST_STEP) (sa_nil)))))))))))
theorem sc_check_steps : FnScope ["steps"] ["steps"] (defScope s_check_steps) := ⟨rfl, rfl, rfl, by decide +kernel, rfl, by decide +kernel, by decide +kernel⟩
theorem df_check_steps (F : Fun K "check_steps" "check_steps" s_check_steps f fd) (b : Binds K fd ["steps"] []) (hm : mg "check_steps" = some (.ref f)) (T : Tx P W K cls mg C_Negative) (G_are_steps : Df P W K cls mg base 3 "are_steps" 1 M_are_steps) : Df P W K cls mg base 4 "check_steps" 1 M_check_steps :=
  (df_mk (N := ["steps"]) (ps := ["steps"]) (g := B_check_steps) F b hm sc_check_steps (fun cdv A outer s H E hr => (
  sss_one (ss_if (st_not (st_val (se_call G_are_steps (hr.mono (by decide)) rfl (sa_cons (se_var 0) (sa_nil))))) (
  sss_one (ss_never)) (
  sss_nil)))))
theorem sc_Negative_densities : FnScope ["self"] ["self"] (defScope s_Negative_densities) := ⟨rfl, rfl, rfl, by decide +kernel, rfl, by decide +kernel, by decide +kernel⟩
theorem dm_Negative_densities (F : Fun K "densities" "Negative.densities" s_Negative_densities f fd) (b : Binds K fd ["self"] []) (T : Tx P W K cls mg C_Negative) : Dm P W K cls mg base 1 f 1 M_Negative_densities :=
  dm_mk (N := ["self"]) (ps := ["self"]) (g := B_Negative_densities) F b sc_Negative_densities (fun cdv A outer s H E hr => (
  sss_one (ss_ret (se_fld T.k_Negative T.f_Negative_figures (se_var 0)))))
theorem sc_tone_of : FnScope ["light", "steps", "step"] ["light", "steps"] (defScope s_tone_of) := ⟨rfl, rfl, rfl, by decide +kernel, rfl, by decide +kernel, by decide +kernel⟩
theorem df_tone_of (F : Fun K "tone_of" "tone_of" s_tone_of f fd) (b : Binds K fd ["light", "steps"] []) (hm : mg "tone_of" = some (.ref f)) (T : Tx P W K cls mg C_Negative) {f_Negativedd__lendd_ : Addr} (g_Negativedd__lendd_ : Dm P W K cls mg base 1 f_Negativedd__lendd_ 1 M_Negativedd__lendd_) (len_at : PySem.W.findIn K (.ref C_Negative) "__len__" = some (some (.ref f_Negativedd__lendd_))) (len_fn : PySem.W.isFn K (.ref f_Negativedd__lendd_) = true) : Df P W K cls mg base 3 "tone_of" 2 M_tone_of :=
  (df_mk (N := ["light", "steps", "step"]) (ps := ["light", "steps"]) (g := B_tone_of) F b hm sc_tone_of (fun cdv A outer s H E hr => (
  sss_one (ss_ret (se_callB (cv_lenO T.k_Negative len_at len_fn g_Negativedd__lendd_ (hr.mono (by decide))) rfl T.n_len (by decide +kernel) (sa_cons (se_lc (own := [("step", 2)]) rfl sc_tone_of.nd (si_of (se_var 1)) (blkOk_by (N := ["light", "steps", "step"]) (sc := defScope s_tone_of) (own := [("step", 2)]) (by decide +kernel)) (fun _ _ _ _ _ => sg_var 2 sc_tone_of.nd) (fun _ _ _ _ _ => sts_one (st_cmp ov_le (se_var 2) (se_var 0))) (fun _ _ _ _ _ => se_var 2)) (sa_nil)))))))
theorem sc_shows : FnScope ["tone", "light", "steps"] ["tone", "light", "steps"] (defScope s_shows) := ⟨rfl, rfl, rfl, by decide +kernel, rfl, by decide +kernel, by decide +kernel⟩
theorem df_shows (F : Fun K "shows" "shows" s_shows f fd) (b : Binds K fd ["tone", "light", "steps"] []) (hm : mg "shows" = some (.ref f)) (T : Tx P W K cls mg C_Negative) (G_tone_of : Df P W K cls mg base 3 "tone_of" 2 M_tone_of) : Df P W K cls mg base 4 "shows" 3 M_shows :=
  (df_mk (N := ["tone", "light", "steps"]) (ps := ["tone", "light", "steps"]) (g := B_shows) F b hm sc_shows (fun cdv A outer s H E hr => (
  sss_one (ss_ret (se_or (se_cmp (ov_eq hr.units) (se_var 0) (se_globG rfl T.c_UNSEEN)) (se_one (se_cmp (ov_eq hr.units) (se_callTy cv_int rfl T.n_int (by decide +kernel) (sa_cons (se_var 0) (sa_nil))) (se_call G_tone_of (hr.mono (by decide)) rfl (sa_cons (se_var 1) (sa_cons (se_var 2) (sa_nil)))))))))))
theorem sc_ways_under_mask : FnScope ["negative", "steps", "time", "tones", "ways", "figure", "tone", "covered", "uncovered"] ["negative", "steps", "time", "tones"] (defScope s_ways_under_mask) := ⟨rfl, rfl, rfl, by decide +kernel, rfl, by decide +kernel, by decide +kernel⟩
theorem df_ways_under_mask (F : Fun K "ways_under_mask" "ways_under_mask" s_ways_under_mask f fd) (b : Binds K fd ["negative", "steps", "time", "tones"] []) (hm : mg "ways_under_mask" = some (.ref f)) (T : Tx P W K cls mg C_Negative) (G_shows : Df P W K cls mg base 4 "shows" 3 M_shows) {f_Negative_densities : Addr} (g_Negative_densities : Dm P W K cls mg base 1 f_Negative_densities 1 M_Negative_densities) {p_Negative_densities : Addr} (pp_Negative_densities : PropOf K C_Negative "densities" p_Negative_densities f_Negative_densities) : Df P W K cls mg base 5 "ways_under_mask" 4 M_ways_under_mask :=
  Df.fin (df_mk (N := ["negative", "steps", "time", "tones", "ways", "figure", "tone", "covered", "uncovered"]) (ps := ["negative", "steps", "time", "tones"]) (g := B_ways_under_mask) F b hm sc_ways_under_mask (fun cdv A outer s H E hr => (
  sss_cons (ss_set 4 sc_ways_under_mask.nd (se_lstT (sa_nil))) (
  sss_cons (ss_for PassesOwn.never rfl (si_zip rfl T.n_zip (se_prop T.k_Negative pp_Negative_densities g_Negative_densities (hr.mono (by decide)) (se_var 0)) (se_var 3)) (sg_tup rfl (sgs_cons (sg_var 5 sc_ways_under_mask.nd) (sgs_cons (sg_var 6 sc_ways_under_mask.nd) (sgs_nil)))) (
  sss_cons (ss_set 7 sc_ways_under_mask.nd (se_if (st_val (se_call G_shows (hr.mono (by decide)) rfl (sa_cons (se_var 6) (sa_cons (se_int) (sa_cons (se_var 1) (sa_nil)))))) (se_globG rfl T.c_COVERED) (se_str))) (
  sss_cons (ss_set 8 sc_ways_under_mask.nd (se_if (st_val (se_call G_shows (hr.mono (by decide)) rfl (sa_cons (se_var 6) (sa_cons (se_bin ov_mul (se_var 2) (se_ix (se_globG rfl T.c_UNITS) (se_callTy cv_int rfl T.n_int (by decide +kernel) (sa_cons (se_var 5) (sa_nil))))) (sa_cons (se_var 1) (sa_nil)))))) (se_globG rfl T.c_UNCOVERED) (se_str))) (
  sss_one (ss_expr (se_lm (se_var 4) (se_bin ov_add (se_var 7) (se_var 8)) (fun p1 p2 => pe_bm PySem.F.plainAttrs_list PySem.F.slot_list_append PySem.F.type_list_append mt_append p1 p2) (fun S r1 r2 q => app_val S r1 r2 q))))))) (
  sss_one (ss_ret (se_var 4)))))))
theorem sc_mask_ways : FnScope ["negative", "steps", "time", "tones"] ["negative", "steps", "time", "tones"] (defScope s_mask_ways) := ⟨rfl, rfl, rfl, by decide +kernel, rfl, by decide +kernel, by decide +kernel⟩
theorem df_mask_ways (F : Fun K "mask_ways" "mask_ways" s_mask_ways f fd) (b : Binds K fd ["negative", "steps", "time", "tones"] []) (hm : mg "mask_ways" = some (.ref f)) (T : Tx P W K cls mg C_Negative) (G_check_number : Df P W K cls mg base 2 "check_number" 3 M_check_number) (G_check_seen : Df P W K cls mg base 4 "check_seen" 3 M_check_seen) (G_check_steps : Df P W K cls mg base 4 "check_steps" 1 M_check_steps) (G_ways_under_mask : Df P W K cls mg base 5 "ways_under_mask" 4 M_ways_under_mask) {f_Negativedd__lendd_ : Addr} (g_Negativedd__lendd_ : Dm P W K cls mg base 1 f_Negativedd__lendd_ 1 M_Negativedd__lendd_) (len_at : PySem.W.findIn K (.ref C_Negative) "__len__" = some (some (.ref f_Negativedd__lendd_))) (len_fn : PySem.W.isFn K (.ref f_Negativedd__lendd_) = true) : Df P W K cls mg base 6 "mask_ways" 4 M_mask_ways :=
  (df_mk (N := ["negative", "steps", "time", "tones"]) (ps := ["negative", "steps", "time", "tones"]) (g := B_mask_ways) F b hm sc_mask_ways (fun cdv A outer s H E hr => (
  sss_cons (ss_expr (se_call G_check_steps (hr.mono (by decide)) rfl (sa_cons (se_var 1) (sa_nil)))) (
  sss_cons (ss_expr (se_call G_check_number (hr.mono (by decide)) rfl (sa_cons (se_var 2) (sa_cons (se_int) (sa_cons (se_globG rfl T.c_MOST_TICKS) (sa_nil)))))) (
  sss_cons (ss_expr (se_call G_check_seen (hr.mono (by decide)) rfl (sa_cons (se_var 3) (sa_cons (se_callB (cv_lenO T.k_Negative len_at len_fn g_Negativedd__lendd_ (hr.mono (by decide))) rfl T.n_len (by decide +kernel) (sa_cons (se_var 1) (sa_nil))) (sa_cons (se_callB (cv_lenO T.k_Negative len_at len_fn g_Negativedd__lendd_ (hr.mono (by decide))) rfl T.n_len (by decide +kernel) (sa_cons (se_var 0) (sa_nil))) (sa_nil)))))) (
  sss_one (ss_ret (se_call G_ways_under_mask (hr.mono (by decide)) rfl (sa_cons (se_var 0) (sa_cons (se_var 1) (sa_cons (se_var 2) (sa_cons (se_var 3) (sa_nil)))))))))))))
theorem sc_product : FnScope ["numbers", "result", "number"] ["numbers"] (defScope s_product) := ⟨rfl, rfl, rfl, by decide +kernel, rfl, by decide +kernel, by decide +kernel⟩
theorem df_product (F : Fun K "product" "product" s_product f fd) (b : Binds K fd ["numbers"] []) (hm : mg "product" = some (.ref f)) (T : Tx P W K cls mg C_Negative) : Df P W K cls mg base 1 "product" 1 M_product :=
  (df_mk (N := ["numbers", "result", "number"]) (ps := ["numbers"]) (g := B_product) F b hm sc_product (fun cdv A outer s H E hr => (
  sss_cons (ss_set 1 sc_product.nd (se_int)) (
  sss_cons (ss_for PassesOwn.never rfl (si_of (se_var 0)) (sg_var 2 sc_product.nd) (
  sss_one (ss_augMul 1 sc_product.nd (se_var 2)))) (
  sss_one (ss_ret (se_var 1)))))))
theorem sc_mask_count : FnScope ["negative", "steps", "time", "tones", "way"] ["negative", "steps", "time", "tones"] (defScope s_mask_count) := ⟨rfl, rfl, rfl, by decide +kernel, rfl, by decide +kernel, by decide +kernel⟩
theorem df_mask_count (F : Fun K "mask_count" "mask_count" s_mask_count f fd) (b : Binds K fd ["negative", "steps", "time", "tones"] []) (hm : mg "mask_count" = some (.ref f)) (T : Tx P W K cls mg C_Negative) (G_mask_ways : Df P W K cls mg base 6 "mask_ways" 4 M_mask_ways) (G_product : Df P W K cls mg base 1 "product" 1 M_product) {f_Negativedd__lendd_ : Addr} (g_Negativedd__lendd_ : Dm P W K cls mg base 1 f_Negativedd__lendd_ 1 M_Negativedd__lendd_) (len_at : PySem.W.findIn K (.ref C_Negative) "__len__" = some (some (.ref f_Negativedd__lendd_))) (len_fn : PySem.W.isFn K (.ref f_Negativedd__lendd_) = true) : Df P W K cls mg base 7 "mask_count" 4 M_mask_count :=
  (df_mk (N := ["negative", "steps", "time", "tones", "way"]) (ps := ["negative", "steps", "time", "tones"]) (g := B_mask_count) F b hm sc_mask_count (fun cdv A outer s H E hr => (
  sss_one (ss_ret (se_call G_product (hr.mono (by decide)) rfl (sa_cons (se_lc (own := [("way", 4)]) rfl sc_mask_count.nd (si_of (se_call G_mask_ways (hr.mono (by decide)) rfl (sa_cons (se_var 0) (sa_cons (se_var 1) (sa_cons (se_var 2) (sa_cons (se_var 3) (sa_nil))))))) (blkOk_by (N := ["negative", "steps", "time", "tones", "way"]) (sc := defScope s_mask_count) (own := [("way", 4)]) (by decide +kernel)) (fun _ _ _ _ _ => sg_var 4 sc_mask_count.nd) (fun _ _ _ _ _ => sts_nil) (fun _ _ _ _ _ => se_callB (cv_lenO T.k_Negative len_at len_fn g_Negativedd__lendd_ (hr.mono (by decide))) rfl T.n_len (by decide +kernel) (sa_cons (se_var 4) (sa_nil)))) (sa_nil)))))))
theorem sc_masks_told : FnScope ["negative", "steps", "time", "tones", "ways", "way"] ["negative", "steps", "time", "tones"] (defScope s_masks_told) := ⟨rfl, rfl, rfl, by decide +kernel, rfl, by decide +kernel, by decide +kernel⟩
theorem df_masks_told (F : Fun K "masks_told" "masks_told" s_masks_told f fd) (b : Binds K fd ["negative", "steps", "time", "tones"] []) (hm : mg "masks_told" = some (.ref f)) (T : Tx P W K cls mg C_Negative) (G_mask_ways : Df P W K cls mg base 6 "mask_ways" 4 M_mask_ways) {f_Negativedd__lendd_ : Addr} (g_Negativedd__lendd_ : Dm P W K cls mg base 1 f_Negativedd__lendd_ 1 M_Negativedd__lendd_) (len_at : PySem.W.findIn K (.ref C_Negative) "__len__" = some (some (.ref f_Negativedd__lendd_))) (len_fn : PySem.W.isFn K (.ref f_Negativedd__lendd_) = true) : Df P W K cls mg base 7 "masks_told" 4 M_masks_told :=
  (df_mk (N := ["negative", "steps", "time", "tones", "ways", "way"]) (ps := ["negative", "steps", "time", "tones"]) (g := B_masks_told) F b hm sc_masks_told (fun cdv A outer s H E hr => (
  sss_cons (ss_set 4 sc_masks_told.nd (se_call G_mask_ways (hr.mono (by decide)) rfl (sa_cons (se_var 0) (sa_cons (se_var 1) (sa_cons (se_var 2) (sa_cons (se_var 3) (sa_nil))))))) (
  sss_cons (ss_if (st_cmp ov_in (se_str) (se_var 4)) (
  sss_one (ss_ret (se_non))) (
  sss_nil)) (
  sss_one (ss_ret (se_join (se_str) (se_lc (own := [("way", 5)]) rfl sc_masks_told.nd (si_of (se_var 4)) (blkOk_by (N := ["negative", "steps", "time", "tones", "ways", "way"]) (sc := defScope s_masks_told) (own := [("way", 5)]) (by decide +kernel)) (fun _ _ _ _ _ => sg_var 5 sc_masks_told.nd) (fun _ _ _ _ _ => sts_nil) (fun _ _ _ _ _ => se_if (st_cmp (ov_eq hr.units) (se_callB (cv_lenO T.k_Negative len_at len_fn g_Negativedd__lendd_ (hr.mono (by decide))) rfl T.n_len (by decide +kernel) (sa_cons (se_var 5) (sa_nil))) (se_int)) (se_var 5) (se_globG rfl T.c_UNSEEN))))))))))
theorem sc_Negative_width : FnScope ["self"] ["self"] (defScope s_Negative_width) := ⟨rfl, rfl, rfl, by decide +kernel, rfl, by decide +kernel, by decide +kernel⟩
theorem dm_Negative_width (F : Fun K "width" "Negative.width" s_Negative_width f fd) (b : Binds K fd ["self"] []) (T : Tx P W K cls mg C_Negative) : Dm P W K cls mg base 1 f 1 M_Negative_width :=
  dm_mk (N := ["self"]) (ps := ["self"]) (g := B_Negative_width) F b sc_Negative_width (fun cdv A outer s H E hr => (
  sss_one (ss_ret (se_fld T.k_Negative T.f_Negative_columns (se_var 0)))))
theorem sc_is_mask : FnScope ["covered", "cells"] ["covered", "cells"] (defScope s_is_mask) := ⟨rfl, rfl, rfl, by decide +kernel, rfl, by decide +kernel, by decide +kernel⟩
theorem df_is_mask (F : Fun K "is_mask" "is_mask" s_is_mask f fd) (b : Binds K fd ["covered", "cells"] []) (hm : mg "is_mask" = some (.ref f)) (T : Tx P W K cls mg C_Negative) (G_ascends : Df P W K cls mg base 2 "ascends" 3 M_ascends) : Df P W K cls mg base 3 "is_mask" 2 M_is_mask :=
  (df_mk (N := ["covered", "cells"]) (ps := ["covered", "cells"]) (g := B_is_mask) F b hm sc_is_mask (fun cdv A outer s H E hr => (
  sss_one (ss_ret (se_and (se_isi (T := "tuple") (se_var 0) rfl T.n_isinstance (by decide +kernel) rfl T.n_tuple (by decide +kernel)) (se_one (se_call G_ascends (hr.mono (by decide)) rfl (sa_cons (se_var 0) (sa_cons (se_int) (sa_cons (se_bin ov_sub (se_var 1) (se_int)) (sa_nil)))))))))))
theorem sc_is_deed : FnScope ["deed", "cells"] ["deed", "cells"] (defScope s_is_deed) := ⟨rfl, rfl, rfl, by decide +kernel, rfl, by decide +kernel, by decide +kernel⟩
theorem df_is_deed (F : Fun K "is_deed" "is_deed" s_is_deed f fd) (b : Binds K fd ["deed", "cells"] []) (hm : mg "is_deed" = some (.ref f)) (T : Tx P W K cls mg C_Negative) (G_is_mask : Df P W K cls mg base 3 "is_mask" 2 M_is_mask) (G_is_number : Df P W K cls mg base 1 "is_number" 3 M_is_number) {f_Negativedd__lendd_ : Addr} (g_Negativedd__lendd_ : Dm P W K cls mg base 1 f_Negativedd__lendd_ 1 M_Negativedd__lendd_) (len_at : PySem.W.findIn K (.ref C_Negative) "__len__" = some (some (.ref f_Negativedd__lendd_))) (len_fn : PySem.W.isFn K (.ref f_Negativedd__lendd_) = true) : Df P W K cls mg base 4 "is_deed" 2 M_is_deed :=
  (df_mk (N := ["deed", "cells"]) (ps := ["deed", "cells"]) (g := B_is_deed) F b hm sc_is_deed (fun cdv A outer s H E hr => (
  sss_cons (ss_if (st_cmp (ov_eq hr.units) (se_var 0) (se_globG rfl T.c_FLIP)) (
  sss_one (ss_ret (se_bl))) (
  sss_nil)) (
  sss_cons (ss_if (SW.st (sw_or (st_cmp (ov_ne hr.units) (se_callB (cv_lenO T.k_Negative len_at len_fn g_Negativedd__lendd_ (hr.mono (by decide))) rfl T.n_len (by decide +kernel) (sa_cons (se_var 0) (sa_nil))) (se_int)) (sw_or1 (st_not (st_val (se_call G_is_number (hr.mono (by decide)) rfl (sa_cons (se_ix (se_var 0) (se_int)) (sa_cons (se_int) (sa_cons (se_globG rfl T.c_MOST_TICKS) (sa_nil)))))))))) (
  sss_one (ss_ret (se_bl))) (
  sss_nil)) (
  sss_cons (ss_if (st_cmp (ov_eq hr.units) (se_ix (se_var 0) (se_int)) (se_str)) (
  sss_one (ss_ret (se_call G_is_mask (hr.mono (by decide)) rfl (sa_cons (se_ix (se_var 0) (se_int)) (sa_cons (se_var 1) (sa_nil)))))) (
  sss_nil)) (
  sss_one (ss_ret (se_and (se_cmp (ov_eq hr.units) (se_ix (se_var 0) (se_int)) (se_str)) (se_one (se_call G_is_number (hr.mono (by decide)) rfl (sa_cons (se_ix (se_var 0) (se_int)) (sa_cons (se_int) (sa_cons (se_globG rfl T.c_MOST_TICKS) (sa_nil))))))))))))))
theorem sc_check_recipe : FnScope ["recipe", "cells", "index", "deed"] ["recipe", "cells"] (defScope s_check_recipe) := ⟨rfl, rfl, rfl, by decide +kernel, rfl, by decide +kernel, by decide +kernel⟩
theorem df_check_recipe (F : Fun K "check_recipe" "check_recipe" s_check_recipe f fd) (b : Binds K fd ["recipe", "cells"] []) (hm : mg "check_recipe" = some (.ref f)) (T : Tx P W K cls mg C_Negative) (G_is_deed : Df P W K cls mg base 4 "is_deed" 2 M_is_deed) : Df P W K cls mg base 5 "check_recipe" 2 M_check_recipe :=
  (df_mk (N := ["recipe", "cells", "index", "deed"]) (ps := ["recipe", "cells"]) (g := B_check_recipe) F b hm sc_check_recipe (fun cdv A outer s H E hr => (
  sss_one (ss_for PassesOwn.never rfl (si_enum rfl T.n_enumerate (se_var 0)) (sg_tup rfl (sgs_cons (sg_var 2 sc_check_recipe.nd) (sgs_cons (sg_var 3 sc_check_recipe.nd) (sgs_nil)))) (
  sss_one (ss_if (SW.st (sw_or (st_cmp (ov_eq hr.units) (se_var 2) (se_globG rfl T.c_MOST_DEEDS)) (sw_or1 (st_not (st_val (se_call G_is_deed (hr.mono (by decide)) rfl (sa_cons (se_var 3) (sa_cons (se_var 1) (sa_nil))))))))) (
  sss_one (ss_never)) (
  sss_nil)))))))
theorem sc_light_by : FnScope ["ticks", "density", "turned", "straight", "over"] ["ticks", "density", "turned"] (defScope s_light_by) := ⟨rfl, rfl, rfl, by decide +kernel, rfl, by decide +kernel, by decide +kernel⟩
theorem df_light_by (F : Fun K "light_by" "light_by" s_light_by f fd) (b : Binds K fd ["ticks", "density", "turned"] []) (hm : mg "light_by" = some (.ref f)) (T : Tx P W K cls mg C_Negative) : Df P W K cls mg base 1 "light_by" 3 M_light_by :=
  (df_mk (N := ["ticks", "density", "turned", "straight", "over"]) (ps := ["ticks", "density", "turned"]) (g := B_light_by) F b hm sc_light_by (fun cdv A outer s H E hr => (
  sss_cons (ss_asg (se_var 0) (sg_tup rfl (sgs_cons (sg_var 3 sc_light_by.nd) (sgs_cons (sg_var 4 sc_light_by.nd) (sgs_nil))))) (
  sss_one (ss_ret (se_bin ov_add (se_bin ov_mul (se_var 3) (se_ix (se_globG rfl T.c_UNITS) (se_var 1))) (se_bin ov_mul (se_var 4) (se_ix (se_globG rfl T.c_UNITS) (se_var 2)))))))))
theorem sc_mirrored : FnScope ["cell", "width", "column"] ["cell", "width"] (defScope s_mirrored) := ⟨rfl, rfl, rfl, by decide +kernel, rfl, by decide +kernel, by decide +kernel⟩
theorem df_mirrored (F : Fun K "mirrored" "mirrored" s_mirrored f fd) (b : Binds K fd ["cell", "width"] []) (hm : mg "mirrored" = some (.ref f)) (T : Tx P W K cls mg C_Negative) : Df P W K cls mg base 1 "mirrored" 2 M_mirrored :=
  (df_mk (N := ["cell", "width", "column"]) (ps := ["cell", "width"]) (g := B_mirrored) F b hm sc_mirrored (fun cdv A outer s H E hr => (
  sss_cons (ss_set 2 sc_mirrored.nd (se_bin ov_mod (se_var 0) (se_var 1))) (
  sss_one (ss_ret (se_bin ov_sub (se_bin ov_sub (se_bin ov_add (se_bin ov_sub (se_var 0) (se_var 2)) (se_var 1)) (se_int)) (se_var 2)))))))
theorem sc_ticks_of : FnScope ["deed", "width", "cell"] ["deed", "width", "cell"] (defScope s_ticks_of) := ⟨rfl, rfl, rfl, by decide +kernel, rfl, by decide +kernel, by decide +kernel⟩
theorem df_ticks_of (F : Fun K "ticks_of" "ticks_of" s_ticks_of f fd) (b : Binds K fd ["deed", "width", "cell"] []) (hm : mg "ticks_of" = some (.ref f)) (T : Tx P W K cls mg C_Negative) : Df P W K cls mg base 1 "ticks_of" 3 M_ticks_of :=
  (df_mk (N := ["deed", "width", "cell"]) (ps := ["deed", "width", "cell"]) (g := B_ticks_of) F b hm sc_ticks_of (fun cdv A outer s H E hr => (
  sss_cons (ss_if (st_cmp (ov_eq hr.units) (se_ix (se_var 0) (se_int)) (se_str)) (
  sss_one (ss_ret (se_if (st_cmp ov_in (se_var 2) (se_ix (se_var 0) (se_int))) (se_int) (se_ix (se_var 0) (se_int))))) (
  sss_nil)) (
  sss_one (ss_ret (se_callB (cv_max2 rfl) rfl T.n_max (by decide +kernel) (sa_cons (se_int) (sa_cons (se_bin ov_sub (se_ix (se_var 0) (se_int)) (se_bin ov_mul (se_ix (se_var 0) (se_int)) (se_bin ov_mod (se_var 2) (se_var 1)))) (sa_nil)))))))))
theorem sc_open_pair : FnScope ["width", "recipe", "cell", "straight", "over", "is_over", "deed"] ["width", "recipe", "cell"] (defScope s_open_pair) := ⟨rfl, rfl, rfl, by decide +kernel, rfl, by decide +kernel, by decide +kernel⟩
theorem df_open_pair (F : Fun K "open_pair" "open_pair" s_open_pair f fd) (b : Binds K fd ["width", "recipe", "cell"] []) (hm : mg "open_pair" = some (.ref f)) (T : Tx P W K cls mg C_Negative) (G_ticks_of : Df P W K cls mg base 1 "ticks_of" 3 M_ticks_of) : Df P W K cls mg base 2 "open_pair" 3 M_open_pair :=
  (df_mk (N := ["width", "recipe", "cell", "straight", "over", "is_over", "deed"]) (ps := ["width", "recipe", "cell"]) (g := B_open_pair) F b hm sc_open_pair (fun cdv A outer s H E hr => (
  sss_cons (ss_asg2 (se_int) (sg_var 3 sc_open_pair.nd) (sg_var 4 sc_open_pair.nd)) (
  sss_cons (ss_set 5 sc_open_pair.nd (se_bl)) (
  sss_cons (ss_for PassesOwn.never rfl (si_of (se_var 1)) (sg_var 6 sc_open_pair.nd) (
  sss_one (ss_if (st_cmp (ov_eq hr.units) (se_var 6) (se_globG rfl T.c_FLIP)) (
  sss_one (ss_set 5 sc_open_pair.nd (se_not (se_var 5)))) (
  sss_one (ss_if (st_val (se_var 5)) (
  sss_one (ss_augAdd 4 sc_open_pair.nd (se_call G_ticks_of (hr.mono (by decide)) rfl (sa_cons (se_var 6) (sa_cons (se_var 0) (sa_cons (se_var 2) (sa_nil))))))) (
  sss_one (ss_augAdd 3 sc_open_pair.nd (se_call G_ticks_of (hr.mono (by decide)) rfl (sa_cons (se_var 6) (sa_cons (se_var 0) (sa_cons (se_var 2) (sa_nil)))))))))))) (
  sss_one (ss_ret (se_tup (sa_cons (se_var 3) (sa_cons (se_var 4) (sa_nil)))))))))))
theorem sc_light_of : FnScope ["width", "densities", "recipe", "cell", "turned"] ["width", "densities", "recipe", "cell"] (defScope s_light_of) := ⟨rfl, rfl, rfl, by decide +kernel, rfl, by decide +kernel, by decide +kernel⟩
theorem df_light_of (F : Fun K "light_of" "light_of" s_light_of f fd) (b : Binds K fd ["width", "densities", "recipe", "cell"] []) (hm : mg "light_of" = some (.ref f)) (T : Tx P W K cls mg C_Negative) (G_light_by : Df P W K cls mg base 1 "light_by" 3 M_light_by) (G_mirrored : Df P W K cls mg base 1 "mirrored" 2 M_mirrored) (G_open_pair : Df P W K cls mg base 2 "open_pair" 3 M_open_pair) : Df P W K cls mg base 3 "light_of" 4 M_light_of :=
  (df_mk (N := ["width", "densities", "recipe", "cell", "turned"]) (ps := ["width", "densities", "recipe", "cell"]) (g := B_light_of) F b hm sc_light_of (fun cdv A outer s H E hr => (
  sss_cons (ss_set 4 sc_light_of.nd (se_call G_mirrored (hr.mono (by decide)) rfl (sa_cons (se_var 3) (sa_cons (se_var 0) (sa_nil))))) (
  sss_one (ss_ret (se_call G_light_by (hr.mono (by decide)) rfl (sa_cons (se_call G_open_pair (hr.mono (by decide)) rfl (sa_cons (se_var 0) (sa_cons (se_var 2) (sa_cons (se_var 3) (sa_nil))))) (sa_cons (se_callTy cv_int rfl T.n_int (by decide +kernel) (sa_cons (se_ix (se_var 1) (se_var 3)) (sa_nil))) (sa_cons (se_callTy cv_int rfl T.n_int (by decide +kernel) (sa_cons (se_ix (se_var 1) (se_var 4)) (sa_nil))) (sa_nil))))))))))
theorem sc_lights : FnScope ["negative", "recipe", "cell"] ["negative", "recipe"] (defScope s_lights) := ⟨rfl, rfl, rfl, by decide +kernel, rfl, by decide +kernel, by decide +kernel⟩
theorem df_lights (F : Fun K "lights" "lights" s_lights f fd) (b : Binds K fd ["negative", "recipe"] []) (hm : mg "lights" = some (.ref f)) (T : Tx P W K cls mg C_Negative) (G_check_recipe : Df P W K cls mg base 5 "check_recipe" 2 M_check_recipe) (G_light_of : Df P W K cls mg base 3 "light_of" 4 M_light_of) {f_Negativedd__lendd_ : Addr} (g_Negativedd__lendd_ : Dm P W K cls mg base 1 f_Negativedd__lendd_ 1 M_Negativedd__lendd_) (len_at : PySem.W.findIn K (.ref C_Negative) "__len__" = some (some (.ref f_Negativedd__lendd_))) (len_fn : PySem.W.isFn K (.ref f_Negativedd__lendd_) = true) {f_Negative_densities : Addr} (g_Negative_densities : Dm P W K cls mg base 1 f_Negative_densities 1 M_Negative_densities) {p_Negative_densities : Addr} (pp_Negative_densities : PropOf K C_Negative "densities" p_Negative_densities f_Negative_densities) {f_Negative_width : Addr} (g_Negative_width : Dm P W K cls mg base 1 f_Negative_width 1 M_Negative_width) {p_Negative_width : Addr} (pp_Negative_width : PropOf K C_Negative "width" p_Negative_width f_Negative_width) : Df P W K cls mg base 6 "lights" 2 M_lights :=
  (df_mk (N := ["negative", "recipe", "cell"]) (ps := ["negative", "recipe"]) (g := B_lights) F b hm sc_lights (fun cdv A outer s H E hr => (
  sss_cons (ss_expr (se_call G_check_recipe (hr.mono (by decide)) rfl (sa_cons (se_var 1) (sa_cons (se_callB (cv_lenO T.k_Negative len_at len_fn g_Negativedd__lendd_ (hr.mono (by decide))) rfl T.n_len (by decide +kernel) (sa_cons (se_var 0) (sa_nil))) (sa_nil))))) (
  sss_one (ss_ret (se_callTy cv_tuple rfl T.n_tuple (by decide +kernel) (sa_cons (se_lc (own := [("cell", 2)]) rfl sc_lights.nd (si_range1 rfl T.n_range (se_callB (cv_lenO T.k_Negative len_at len_fn g_Negativedd__lendd_ (hr.mono (by decide))) rfl T.n_len (by decide +kernel) (sa_cons (se_var 0) (sa_nil)))) (blkOk_by (N := ["negative", "recipe", "cell"]) (sc := defScope s_lights) (own := [("cell", 2)]) (by decide +kernel)) (fun _ _ _ _ _ => sg_var 2 sc_lights.nd) (fun _ _ _ _ _ => sts_nil) (fun _ _ _ _ _ => se_call G_light_of (hr.mono (by decide)) rfl (sa_cons (se_prop T.k_Negative pp_Negative_width g_Negative_width (hr.mono (by decide)) (se_var 0)) (sa_cons (se_prop T.k_Negative pp_Negative_densities g_Negative_densities (hr.mono (by decide)) (se_var 0)) (sa_cons (se_var 1) (sa_cons (se_var 2) (sa_nil))))))) (sa_nil))))))))
theorem sc_printed : FnScope ["negative", "steps", "recipe", "light"] ["negative", "steps", "recipe"] (defScope s_printed) := ⟨rfl, rfl, rfl, by decide +kernel, rfl, by decide +kernel, by decide +kernel⟩
theorem df_printed (F : Fun K "printed" "printed" s_printed f fd) (b : Binds K fd ["negative", "steps", "recipe"] []) (hm : mg "printed" = some (.ref f)) (T : Tx P W K cls mg C_Negative) (G_check_steps : Df P W K cls mg base 4 "check_steps" 1 M_check_steps) (G_lights : Df P W K cls mg base 6 "lights" 2 M_lights) (G_tone_of : Df P W K cls mg base 3 "tone_of" 2 M_tone_of) : Df P W K cls mg base 7 "printed" 3 M_printed :=
  (df_mk (N := ["negative", "steps", "recipe", "light"]) (ps := ["negative", "steps", "recipe"]) (g := B_printed) F b hm sc_printed (fun cdv A outer s H E hr => (
  sss_cons (ss_expr (se_call G_check_steps (hr.mono (by decide)) rfl (sa_cons (se_var 1) (sa_nil)))) (
  sss_one (ss_ret (se_join (se_str) (se_lc (own := [("light", 3)]) rfl sc_printed.nd (si_of (se_call G_lights (hr.mono (by decide)) rfl (sa_cons (se_var 0) (sa_cons (se_var 2) (sa_nil))))) (blkOk_by (N := ["negative", "steps", "recipe", "light"]) (sc := defScope s_printed) (own := [("light", 3)]) (by decide +kernel)) (fun _ _ _ _ _ => sg_var 3 sc_printed.nd) (fun _ _ _ _ _ => sts_nil) (fun _ _ _ _ _ => se_callTy cv_str rfl T.n_str (by decide +kernel) (sa_cons (se_call G_tone_of (hr.mono (by decide)) rfl (sa_cons (se_var 3) (sa_cons (se_var 1) (sa_nil)))) (sa_nil))))))))))
theorem sc_law : FnScope ["_law_script", "_law_row", "_law_s", "_law_one", "_law_steps_here", "_law_time", "_law_size", "_law_truth", "_law_tones", "_law_at", "_law_every", "_law_good", "_law_k", "_law_some", "_law_due", "_law_marks_of"] ["_law_script"] (defScope s_law) := ⟨rfl, rfl, rfl, by decide +kernel, rfl, by decide +kernel, by decide +kernel⟩
theorem fn_law (F : Fun K "law" "law" s_law f fd) (T : Tx P W K cls mg C_Negative) (G_l_covered : Df P W K cls mg base 4 "_law_covered" 2 M_l_covered) (G_l_like : Df P W K cls mg base 3 "_law_like" 2 M_l_like) (G_l_negative : Df P W K cls mg base 6 "_law_negative" 1 M_l_negative) (G_l_print : Df P W K cls mg base 4 "_law_print" 2 M_l_print) (G_l_rows : Df P W K cls mg base 3 "_law_rows" 3 M_l_rows) (G_l_scheme : Df P W K cls mg base 5 "_law_scheme" 2 M_l_scheme) (G_l_seen : Df P W K cls mg base 5 "_law_seen" 2 M_l_seen) (G_l_steps : Df P W K cls mg base 5 "_law_steps" 2 M_l_steps) (G_l_taken : Df P W K cls mg base 3 "_law_taken" 2 M_l_taken) (G_mask_count : Df P W K cls mg base 7 "mask_count" 4 M_mask_count) (G_masks_told : Df P W K cls mg base 7 "masks_told" 4 M_masks_told) (G_printed : Df P W K cls mg base 7 "printed" 3 M_printed) {f_Negativedd__lendd_ : Addr} (g_Negativedd__lendd_ : Dm P W K cls mg base 1 f_Negativedd__lendd_ 1 M_Negativedd__lendd_) (len_at : PySem.W.findIn K (.ref C_Negative) "__len__" = some (some (.ref f_Negativedd__lendd_))) (len_fn : PySem.W.isFn K (.ref f_Negativedd__lendd_) = true) : FnOk P W K mg base CX0 8 f fd ["_law_script"] (spD K cls M_law 1) :=
  fn_fin (fn_mk (N := ["_law_script", "_law_row", "_law_s", "_law_one", "_law_steps_here", "_law_time", "_law_size", "_law_truth", "_law_tones", "_law_at", "_law_every", "_law_good", "_law_k", "_law_some", "_law_due", "_law_marks_of"]) (ps := ["_law_script"]) (g := B_law) F sc_law (fun cdv A outer s H E hr => (
  sss_cons (ss_set 1 sc_law.nd (se_lstT (sa_cons (se_var 0) (sa_cons (se_int) (sa_cons (se_int) (sa_cons (se_int) (sa_nil))))))) (
  sss_cons (ss_set 2 sc_law.nd (se_call G_l_scheme (hr.mono (by decide)) rfl (sa_cons (se_var 1) (sa_cons (se_int) (sa_nil))))) (
  sss_cons (ss_asg (se_tup (sa_cons (se_call G_l_negative (hr.mono (by decide)) rfl (sa_cons (se_var 2) (sa_nil))) (sa_cons (se_call G_l_steps (hr.mono (by decide)) rfl (sa_cons (se_var 1) (sa_cons (se_int) (sa_nil)))) (sa_cons (se_bin ov_add (se_int) (se_call G_l_taken (hr.mono (by decide)) rfl (sa_cons (se_var 1) (sa_cons (se_int) (sa_nil))))) (sa_cons (se_callB (cv_lenO T.k_Negative len_at len_fn g_Negativedd__lendd_ (hr.mono (by decide))) rfl T.n_len (by decide +kernel) (sa_cons (se_ix (se_var 2) (se_int)) (sa_nil))) (sa_nil)))))) (sg_tup rfl (sgs_cons (sg_var 3 sc_law.nd) (sgs_cons (sg_var 4 sc_law.nd) (sgs_cons (sg_var 5 sc_law.nd) (sgs_cons (sg_var 6 sc_law.nd) (sgs_nil))))))) (
  sss_cons (ss_set 7 sc_law.nd (se_call G_l_covered (hr.mono (by decide)) rfl (sa_cons (se_var 1) (sa_cons (se_var 2) (sa_nil))))) (
  sss_cons (ss_set 8 sc_law.nd (se_call G_l_seen (hr.mono (by decide)) rfl (sa_cons (se_var 1) (sa_cons (se_call G_l_print (hr.mono (by decide)) rfl (sa_cons (se_var 4) (sa_cons (se_ix (se_call G_l_rows (hr.mono (by decide)) rfl (sa_cons (se_var 2) (sa_cons (se_ix (se_var 2) (se_int)) (sa_cons (se_tup (sa_cons (se_tup (sa_cons (se_str) (sa_cons (se_var 5) (sa_cons (se_var 7) (sa_nil))))) (sa_nil))) (sa_nil))))) (se_neg (se_int))) (sa_nil)))) (sa_nil))))) (
  sss_cons (ss_if (st_cmp (ov_eq hr.units) (se_call G_l_taken (hr.mono (by decide)) rfl (sa_cons (se_var 1) (sa_cons (se_int) (sa_nil)))) (se_int)) (
  sss_cons (ss_set 9 sc_law.nd (se_call G_l_taken (hr.mono (by decide)) rfl (sa_cons (se_var 1) (sa_cons (se_var 6) (sa_nil))))) (
  sss_one (ss_set 8 sc_law.nd (se_bin ov_add (se_bin ov_add (se_cut (se_var 8) (so_none) (so_some (se_var 9))) (se_callTy cv_str rfl T.n_str (by decide +kernel) (sa_cons (se_call G_l_taken (hr.mono (by decide)) rfl (sa_cons (se_var 1) (sa_cons (se_bin ov_add (se_callB (cv_lenO T.k_Negative len_at len_fn g_Negativedd__lendd_ (hr.mono (by decide))) rfl T.n_len (by decide +kernel) (sa_cons (se_var 4) (sa_nil))) (se_int)) (sa_nil)))) (sa_nil)))) (se_cut (se_var 8) (so_some (se_bin ov_add (se_var 9) (se_int))) (so_none)))))) (
  sss_nil)) (
  sss_cons (ss_par 10 11 rfl sc_law.nd (se_lst (sa_cons (se_tup (sa_nil)) (sa_nil))) (se_lstT (sa_nil))) (
  sss_cons (ss_for PassesOwn.never rfl (si_range1 rfl T.n_range (se_var 6)) (sg_var 12 sc_law.nd) (
  sss_one (ss_set 10 sc_law.nd (se_bin ov_add (se_var 10) (se_lc (own := [("_law_some", 13)]) rfl sc_law.nd (si_of (se_var 10)) (blkOk_by (N := ["_law_script", "_law_row", "_law_s", "_law_one", "_law_steps_here", "_law_time", "_law_size", "_law_truth", "_law_tones", "_law_at", "_law_every", "_law_good", "_law_k", "_law_some", "_law_due", "_law_marks_of"]) (sc := defScope s_law) (own := [("_law_some", 13)]) (by decide +kernel)) (fun _ _ _ _ _ => sg_var 13 sc_law.nd) (fun _ _ _ _ _ => sts_nil) (fun _ _ _ _ _ => se_bin ov_add (se_var 13) (se_tup (sa_cons (se_var 12) (sa_nil))))))))) (
  sss_cons (ss_for PassesOwn.never rfl (si_of (se_var 10)) (sg_var 13 sc_law.nd) (
  sss_one (ss_if (st_val (se_call G_l_like (hr.mono (by decide)) rfl (sa_cons (se_var 8) (sa_cons (se_call G_printed (hr.mono (by decide)) rfl (sa_cons (se_var 3) (sa_cons (se_var 4) (sa_cons (se_tup (sa_cons (se_tup (sa_cons (se_str) (sa_cons (se_var 5) (sa_cons (se_var 13) (sa_nil))))) (sa_nil))) (sa_nil))))) (sa_nil))))) (
  sss_one (ss_expr (se_lm (se_var 11) (se_var 13) (fun p1 p2 => pe_bm PySem.F.plainAttrs_list PySem.F.slot_list_append PySem.F.type_list_append mt_append p1 p2) (fun S r1 r2 q => app_val S r1 r2 q)))) (
  sss_nil)))) (
  sss_cons (ss_set 14 sc_law.nd (se_lstT (sa_nil))) (
  sss_cons (ss_for PassesOwn.never rfl (si_range1 rfl T.n_range (se_var 6)) (sg_var 12 sc_law.nd) (
  sss_cons (ss_set 15 sc_law.nd (se_sortSetM (by exact rfl) (by exact rfl) T.n_sorted (by exact rfl) T.n_set (se_lc (own := [("_law_some", 13)]) rfl sc_law.nd (si_of (se_var 11)) (blkOk_by (N := ["_law_script", "_law_row", "_law_s", "_law_one", "_law_steps_here", "_law_time", "_law_size", "_law_truth", "_law_tones", "_law_at", "_law_every", "_law_good", "_law_k", "_law_some", "_law_due", "_law_marks_of"]) (sc := defScope s_law) (own := [("_law_some", 13)]) (by decide +kernel)) (fun _ _ _ _ _ => sg_var 13 sc_law.nd) (fun _ _ _ _ _ => sts_nil) (fun _ _ _ _ _ => se_callTy cv_int rfl T.n_int (by decide +kernel) (sa_cons (se_cmp ov_in (se_var 12) (se_var 13)) (sa_nil)))))) (
  sss_one (ss_expr (se_lm (se_var 14) (se_if (st_cmp (ov_ne hr.units) (se_callB (cv_lenO T.k_Negative len_at len_fn g_Negativedd__lendd_ (hr.mono (by decide))) rfl T.n_len (by decide +kernel) (sa_cons (se_var 15) (sa_nil))) (se_int)) (se_str) (se_ix (se_str) (se_ix (se_var 15) (se_int)))) (fun p1 p2 => pe_bm PySem.F.plainAttrs_list PySem.F.slot_list_append PySem.F.type_list_append mt_append p1 p2) (fun S r1 r2 q => app_val S r1 r2 q)))))) (
  sss_cons (ss_if (st_cmp (ov_ne hr.units) (se_call G_masks_told (hr.mono (by decide)) rfl (sa_cons (se_var 3) (sa_cons (se_var 4) (sa_cons (se_var 5) (sa_cons (se_var 8) (sa_nil)))))) (se_if (st_cmp (ov_ne hr.units) (se_var 11) (se_lst (sa_nil))) (se_join (se_str) (se_var 14)) (se_non))) (
  sss_one (ss_ret (se_bl))) (
  sss_nil)) (
  sss_one (ss_ret (se_cmp (ov_eq hr.units) (se_call G_mask_count (hr.mono (by decide)) rfl (sa_cons (se_var 3) (sa_cons (se_var 4) (sa_cons (se_var 5) (sa_cons (se_var 8) (sa_nil)))))) (se_callB (cv_lenO T.k_Negative len_at len_fn g_Negativedd__lendd_ (hr.mono (by decide))) rfl T.n_len (by decide +kernel) (sa_cons (se_var 11) (sa_nil))))))))))))))))))))
end
end K12

set_option Elab.async false
set_option linter.all false
set_option maxRecDepth 100000
set_option autoImplicit false
namespace K12
open PySem L2 Fw
/-! ### the drawn numbers -/
theorem cLenO_ev {F : List D → Store → Res D} {d : D} {μ : Store} (h : insOf 0 μ d = none) : cLenO 0 F [d] μ = cLen [d] μ := by simp [cLenO, h]
/-- the script's row stands at place 0 -/
def Row0 (c : Cell) : Prop := ∃ (ns : List Int) (a b d : Int), ns.length ≤ 63 ∧ c = .lst [.flst ns, .int a, .int b, .int d] ∧ 0 ≤ a
theorem ixN_in {n : Nat} {i : Int} (h : 0 ≤ i) (h2 : i < n) : ixN n i = some i.toNat := by simp [ixN, h, h2]
theorem atI_in {α : Type} {xs : List α} {i : Int} (h : 0 ≤ i) (h2 : i < xs.length) : atI xs i = xs[i.toNat]? := by simp [atI, ixN_in h h2]
theorem oPow18 {μ : Store} : oPow (.int 10) (.int 18) μ = .ok (.int 1000000000000000000) μ := by rfl
theorem taken {c : Cell} {r : Store} {m : Int} (hc : Row0 c) (h0 : 0 < m) (hm : m < 1073741824) : ∃ (k : Int) (c' : Cell), M_l_taken [.loc 0, .int m] (c :: r) = .ok (.int k) (c' :: r) ∧ Row0 c' ∧ 0 ≤ k ∧ k < m := by
  obtain ⟨ns, a, b, d, hn, rfl, ha⟩ := hc
  unfold M_l_taken B_l_taken
  by_cases h : 0 < d
  · refine ⟨d % m, .lst [.flst ns, .int a, .int b, .int (d / m)], ?_, ⟨ns, a, b, _, hn, rfl, ha⟩, Int.emod_nonneg _ (by omega), Int.emod_lt_of_pos _ h0⟩
    simp [oIx, seqOf, ixN, atI, h, oMod_int h0, oFdv_int h0 hm, List.replicate]
  · by_cases h2 : (ns.length : Int) < a + 1
    · refine ⟨(b * 48271 + 11) % 2147483647 / 7 % m, .lst [.flst ns, .int (a + 1), .int ((b * 48271 + 11) % 2147483647), .int d], ?_, ⟨ns, _, _, _, hn, rfl, by omega⟩, Int.emod_nonneg _ (by omega), Int.emod_lt_of_pos _ h0⟩
      simp [oIx, seqOf, ixN, atI, h, oMod_int, oFdv_int, List.replicate, cLenO, insOf, cLen, h2, oMul_int, Sm, h0]
    · have hi : ∃ x, ns[a.toNat]? = some x := by
        rw [List.getElem?_eq_getElem (by omega)]; exact ⟨_, rfl⟩
      obtain ⟨x, hx⟩ := hi
      refine ⟨x % m, .lst [.flst ns, .int (a + 1), .int ((b * 48271 + x + 11) % 2147483647), .int (if 1000000000000000000 ≤ x then x / m else 0)], ?_, ⟨ns, _, _, _, hn, rfl, by omega⟩, Int.emod_nonneg _ (by omega), Int.emod_lt_of_pos _ h0⟩
      have e : atI (ns.map D.int) a = some (.int x) := by
        rw [atI_in (by omega) (by simp; omega)]; simp [hx]
      by_cases h4 : 1000000000000000000 ≤ x
      all_goals simp [oIx, seqOf, ixN, h, oMod_int, oFdv_int h0 hm, List.replicate, cLenO, insOf, cLen, h2, oMul_int, Sm, h0, oPow18, h4, e, show ∀ (a b c d : D) , atI [a, b, c, d] 0 = some a from fun _ _ _ _ => rfl, show ∀ (a b c d : D) , atI [a, b, c, d] 1 = some b from fun _ _ _ _ => rfl, show ∀ (a b c d : D) , atI [a, b, c, d] 2 = some c from fun _ _ _ _ => rfl, show ∀ (a b c d : D) , atI [a, b, c, d] 3 = some d from fun _ _ _ _ => rfl]

theorem pick_lst {c : Cell} {r : Store} {ds : List D} (hc : Row0 c) (hne : ds ≠ []) (hl : ds.length < 1000000) : ∃ (x : D) (c' : Cell), M_l_pick [.loc 0, .lst ds] (c :: r) = .ok x (c' :: r) ∧ Row0 c' ∧ x ∈ ds := by
  have hp : 0 < ds.length := List.length_pos_iff.mpr hne
  obtain ⟨k, c', e, h, h0, h1⟩ := taken (r := r) (m := ds.length) hc (by omega) (by omega)
  have hk : k.toNat < ds.length := by omega
  refine ⟨ds[k.toNat], c', ?_, h, List.getElem_mem hk⟩
  simp [M_l_pick, B_l_pick, cLenO, insOf, cLen, seqOf, e, oIx, atI_in h0 h1, List.getElem?_eq_getElem hk]
theorem pick_str {c : Cell} {r : Store} {s : List Nat} (hc : Row0 c) (hne : s ≠ []) (hl : s.length < 1000000) : ∃ (x : Nat) (c' : Cell), M_l_pick [.loc 0, .str s] (c :: r) = .ok (.str [x]) (c' :: r) ∧ Row0 c' ∧ x ∈ s := by
  have hp : 0 < s.length := List.length_pos_iff.mpr hne
  obtain ⟨k, c', e, h, h0, h1⟩ := taken (r := r) (m := s.length) hc (by omega) (by omega)
  have hk : k.toNat < s.length := by omega
  have hL : s.length ≤ LIM := by show _ ≤ 1000000; omega
  refine ⟨s[k.toNat], c', ?_, h, List.getElem_mem hk⟩
  simp [M_l_pick, B_l_pick, cLenO, insOf, cLen, hL, e, oIx, atI_in h0 h1, List.getElem?_eq_getElem hk]
def pairs : List (Nat × Nat) := [(1,1),(1,2),(1,3),(1,4),(2,1),(2,2),(2,3),(3,1),(3,2),(4,1)]
theorem sides {μ : Store} : M_l_sides [.int 6] μ = .ok (.lst (pairs.map fun p => .tup [.int (p.1 : Nat), .int (p.2 : Nat)])) μ := by rfl
structure Sz (w h n : Nat) : Prop where
  w1 : 1 ≤ w
  w4 : w ≤ 4
  h1 : 1 ≤ h
  h4 : h ≤ 4
  n1 : 1 ≤ n
  n9 : n ≤ 9
  e : w * h = n
theorem mulN {w h n : Nat} (s : Sz w h n) {μ : Store} : oMul (.int (w : Nat)) (.int (h : Nat)) μ = .ok (.int (n : Nat)) μ := by
  rw [oMul_int, ← s.e]
  · simp
  · have := s.w4
    have : Sm (w : Nat) = true := by simp [Sm]; omega
    simp [this]
theorem sz_of {p : Nat × Nat} (h : p ∈ pairs) : Sz p.1 p.2 (p.1 * p.2) := by
  have : ∀ p ∈ pairs, 1 ≤ p.1 ∧ p.1 ≤ 4 ∧ 1 ≤ p.2 ∧ p.2 ≤ 4 ∧ 1 ≤ p.1 * p.2 ∧ p.1 * p.2 ≤ 9 := by decide
  have := this p h
  exact ⟨this.1, this.2.1, this.2.2.1, this.2.2.2.1, this.2.2.2.2.1, this.2.2.2.2.2, rfl⟩

@[simp] theorem l01234 : lit "01234" = [48, 49, 50, 51, 52] := by decide +kernel
@[simp] theorem l02 : lit "02" = [48, 50] := by decide +kernel
@[simp] theorem l4 : lit "4" = [52] := by decide +kernel
@[simp] theorem l0 : lit "0" = [48] := by decide +kernel
@[simp] theorem lE : lit "" = [] := by decide +kernel
def OkT (n : Nat) (T : List Nat) : Prop := T.length = n ∧ ∀ c ∈ T, 48 ≤ c ∧ c ≤ 52
def sD (w h : Nat) (T : List Nat) : D := .tup [.int (w : Nat), .int (h : Nat), .str T]
theorem len_rg {n : Nat} : (rg n).length = n := by simp [rg]
/-- a drawn text of densities -/
theorem text {c : Cell} {r : Store} {items : List D} {v : Nat} {fe : FE} {ρ : Fw.Env} {s : List Nat} {n : Nat} (hn : n ≤ 1000) (hs : s ≠ []) (hs2 : s.length < 1000000) (hs3 : ∀ c ∈ s, 48 ≤ c ∧ c ≤ 52) (hc : Row0 c) (hv : v < ρ.length)
    (hfe : ∀ d c, fe (ρ.set v (some d)) (c :: r) = M_l_pick [.loc 0, .str s] (c :: r)) :
    ∃ T c', lcL items none (gVar v) (fun _ μ => .ok true μ) fe ρ (rg n) (c :: r) [] = .ok (.lst (T.map fun c => .str [c])) (c' :: r) ∧ Row0 c' ∧ OkT n T := by
  obtain ⟨ys, μ', e, ⟨c', rfl, h⟩, f⟩ := lc_all (items := items) (g := gVar v) (ft := fun _ μ => .ok true μ) (fe := fe) (ρ := ρ) (fun μ => ∃ c, μ = c :: r ∧ Row0 c) (fun _ y => ∃ k, y = .str [k] ∧ k ∈ s) (ds := rg n) (acc := []) (μ := c :: r) ⟨c, rfl, hc⟩
    (by
      rintro d - _ ⟨c, rfl, hc⟩
      obtain ⟨x, c', e, h, m⟩ := pick_str (r := r) hc hs hs2
      exact ⟨_, _, by simp only [gVar_ev, if_pos hv]; rfl, _, rfl, .str [x], c' :: r, by rw [hfe, e], ⟨c', rfl, h⟩, x, rfl, m⟩)
    (by rw [len_rg]; show 0 + n ≤ 1000000; omega)
  obtain ⟨T, rfl, hl, hT⟩ := f.map_of (Q := fun c => c ∈ s) (f := fun c => D.str [c]) (fun _ _ ⟨k, e, m⟩ => ⟨k, e, m⟩)
  exact ⟨T, c', e, h, by rw [hl, len_rg], fun c m => hs3 c (hT c m)⟩
theorem scheme {c : Cell} (hc : Row0 c) : ∃ (w h n : Nat) (T : List Nat) (c' : Cell), M_l_scheme [.loc 0, .int 6] [c] = .ok (sD w h T) [c'] ∧ Row0 c' ∧ Sz w h n ∧ OkT n T ∧ n ≤ 6 := by
  obtain ⟨x, c1, e1, h1, m1⟩ := pick_lst (r := []) hc (ds := (pairs.map fun p => .tup [.int (p.1 : Nat), .int (p.2 : Nat)]) ++ ((pairs.filter fun p => decide (1 < p.1)).map fun p => .tup [.int (p.1 : Nat), .int (p.2 : Nat)])) (by simp [pairs]) (by decide)
  obtain ⟨p, hp, rfl⟩ : ∃ p ∈ pairs, x = .tup [.int (p.1 : Nat), .int (p.2 : Nat)] := by
    rcases List.mem_append.mp m1 with m | m
    · obtain ⟨p, hp, rfl⟩ := List.mem_map.mp m
      exact ⟨p, hp, rfl⟩
    · obtain ⟨p, hp, rfl⟩ := List.mem_map.mp m
      exact ⟨p, (List.mem_filter.mp hp).1, rfl⟩
  have hs := sz_of hp
  have h6 : p.1 * p.2 ≤ 6 := by
    have : ∀ p ∈ pairs, p.1 * p.2 ≤ 6 := by decide
    exact this p hp
  obtain ⟨y, c2, e2, h2, m2⟩ := pick_lst (r := []) h1 (ds := [.str [48, 49, 50, 51, 52], .str [48, 49, 50, 51, 52], .str [48, 50], .str [52]]) (by simp) (by decide)
  obtain ⟨s, rfl, hs1, hs2, hs3⟩ : ∃ s, y = .str s ∧ s ≠ [] ∧ s.length < 1000000 ∧ ∀ c ∈ s, 48 ≤ c ∧ c ≤ 52 := by
    simp at m2
    rcases m2 with rfl | rfl | rfl
    all_goals exact ⟨_, rfl, by decide, by decide, by decide⟩
  obtain ⟨T, c3, e3, h3, ok⟩ := text (items := rg (p.1 * p.2)) (v := 7) (ρ := [some (.loc 0), some (.int 6), some (.lst (pairs.map fun p => .tup [.int (p.1 : Nat), .int (p.2 : Nat)])), some (.int (p.1 : Nat)), some (.int (p.2 : Nat)), some (.str s), none, none]) (r := []) (n := p.1 * p.2) (s := s)
    (fe := eCallD 2 M_l_pick (aCons (eVar 0) (aCons (eVar 5) (aNil)))) (by have := hs.n9; omega) hs1 hs2 hs3 h2 (by simp) (fun d c => by simp)
  refine ⟨p.1, p.2, p.1 * p.2, T, c3, ?_, h3, hs, ok, h6⟩
  have hT : T.length ≤ LIM := by rw [ok.1]; have := hs.n9; show _ ≤ 1000000; omega
  have e0 : ∀ (μ : Store) ρ, lcL (pairs.map fun p => D.tup [.int (p.1 : Nat), .int (p.2 : Nat)]) none (gVar 6) (tB (eBin oGt (eBin oIx (eVar 6) (eC (.int 0))) (eC (.int 1)))) (eVar 6) [some (.loc 0), some (.int 6), some (.lst ρ), none, none, none, none, none] (pairs.map fun p => .tup [.int (p.1 : Nat), .int (p.2 : Nat)]) μ [] = .ok (.lst ((pairs.filter fun p => decide (1 < p.1)).map fun p => .tup [.int (p.1 : Nat), .int (p.2 : Nat)])) μ := fun μ ρ => by rfl
  have hL : (26 : Nat) ≤ LIM := by decide
  have e4 : ∀ μ : Store, oAdd (.lst (pairs.map fun p => D.tup [.int (p.1 : Nat), .int (p.2 : Nat)])) (.lst ((pairs.filter fun p => decide (1 < p.1)).map fun p => .tup [.int (p.1 : Nat), .int (p.2 : Nat)])) μ = .ok (.lst ((pairs.map fun p => .tup [.int (p.1 : Nat), .int (p.2 : Nat)]) ++ ((pairs.filter fun p => decide (1 < p.1)).map fun p => .tup [.int (p.1 : Nat), .int (p.2 : Nat)]))) μ := fun μ => by rfl
  have e5 : ∀ μ, rangeR (.int ((p.1 * p.2 : Nat) : Int)) μ = .ok (rg (p.1 * p.2), none) μ := fun μ => rangeR_nat (by have := hs.n9; omega)
  have hL4 : (4 : Nat) ≤ LIM := by decide
  have hL3 : (3 : Nat) ≤ LIM := by decide
  unfold M_l_scheme B_l_scheme
  simp only [mD_ev, sSeq_ev, sAsg_ev, eCallD_ev, eCall_ev, aCons_ev, aNil_ev, eVar_ev, List.map_cons, List.map_nil, List.length_cons, List.length_nil, List.cons_append, List.nil_append, Nat.reduceAdd, Nat.reduceSub, List.reduceReplicate, List.getElem?_cons_zero, List.getElem?_cons_succ, bok, if_true, eC_ev, sok, gVar_ev, List.set_cons_succ, List.set_cons_zero, Nat.reduceLT, eBin_ev, eLc_ev, iOf_ev, oWalk, wipeE, gTup_ev, gCons_ev, gNil_ev, eLst_ev, eTup_ev, eJoin_ev, iRange1_ev, sRet_ev, sIf_ev, tB_ev, tAnd_ev, tOr_ev, tNot_ev, eNot_ev, eAnd_ev, eIf_ev, sNext_ev, sExpr_ev, sPar_ev, sAug_ev, sAsg2_ev, sFor_ev, and_self, eThaw_ev, thaw_ev, sides, e0, e4, e1, l01234, l02, l4, hL4, e2, lE, mulN hs, e5, e3, oJoin_one hT, hL3, sD]
/-- a deed -/
inductive Deed where
  | flip
  | draw (t s : Int)
  | expo (t : Int) (m : List Nat)
@[simp] theorem len_flip : lit "flip" = [102, 108, 105, 112] := by decide +kernel
@[simp] theorem len_draw : lit "draw" = [100, 114, 97, 119] := by decide +kernel
@[simp] theorem len_expo : lit "expose" = [101, 120, 112, 111, 115, 101] := by decide +kernel
def encD : Deed → D
  | .flip => .tup [.str [102, 108, 105, 112]]
  | .draw t s => .tup [.str [100, 114, 97, 119], .int t, .int s]
  | .expo t m => .tup [.str [101, 120, 112, 111, 115, 101], .int t, .tup (m.map fun k => .int (k : Nat))]
def OkD (n : Nat) : Deed → Prop
  | .flip => True
  | .draw t s => 1 ≤ t ∧ t ≤ 99 ∧ 1 ≤ s ∧ s ≤ 99
  | .expo t m => 1 ≤ t ∧ t ≤ 99 ∧ m.Sublist (List.range n)
theorem sD0 {w h : Nat} {T : List Nat} {μ : Store} : oIx (sD w h T) (.int 0) μ = .ok (.int (w : Nat)) μ := (rfl)
theorem sD1 {w h : Nat} {T : List Nat} {μ : Store} : oIx (sD w h T) (.int 1) μ = .ok (.int (h : Nat)) μ := (rfl)
theorem covered {c : Cell} {r : Store} {w h n : Nat} {T : List Nat} (hs : Sz w h n) (hc : Row0 c) : ∃ (m : List Nat) (c' : Cell), M_l_covered [.loc 0, sD w h T] (c :: r) = .ok (.tup (m.map fun k => .int (k : Nat))) (c' :: r) ∧ Row0 c' ∧ m.Sublist (List.range n) := by
  obtain ⟨k, c1, e1, h1, k0, k4⟩ := taken (r := r) (m := 4) hc (by omega) (by omega)
  obtain ⟨ys, zs, μ', e, ⟨c', rfl, h'⟩, sb, f⟩ := lc_st (items := rg n) (g := gVar 3) (ft := (tAnd (tB (eBin oEq (eCallD 2 M_l_taken (aCons (eVar 0) (aCons (eVar 2) (aNil)))) (eC (.int 0)))) (tB (eBin oLt (eVar 2) (eC (.int 4)))))) (fe := eVar 3)
    (ρ := [some (.loc 0), some (sD w h T), some (.int (1 + k)), none]) (fun μ => ∃ c, μ = c :: r ∧ Row0 c) (fun d y => d = y) (ds := rg n) (acc := []) (μ := c1 :: r) ⟨c1, rfl, h1⟩
    (by
      rintro d - _ ⟨c, rfl, hc⟩
      obtain ⟨j, c', e, h, _, _⟩ := taken (r := r) (m := 1 + k) hc (by omega) (by omega)
      by_cases hj : j = 0
      · exact ⟨_, _, rfl, decide (1 + k < 4), c' :: r, by subst hj; simp only [mD_ev, sSeq_ev, sAsg_ev, eCallD_ev, eCall_ev, aCons_ev, aNil_ev, eVar_ev, List.map_cons, List.map_nil, List.length_cons, List.length_nil, List.cons_append, List.nil_append, Nat.reduceAdd, Nat.reduceSub, List.reduceReplicate, List.getElem?_cons_zero, List.getElem?_cons_succ, bok, if_true, eC_ev, sok, gVar_ev, List.set_cons_succ, List.set_cons_zero, Nat.reduceLT, eBin_ev, eLc_ev, iOf_ev, oWalk, wipeE, gTup_ev, gCons_ev, gNil_ev, eLst_ev, eTup_ev, eJoin_ev, iRange1_ev, sRet_ev, sIf_ev, tB_ev, tAnd_ev, tOr_ev, tNot_ev, eNot_ev, eAnd_ev, eIf_ev, sNext_ev, sExpr_ev, sPar_ev, sAug_ev, sAsg2_ev, sFor_ev, and_self, eThaw_ev, thaw_ev, e, oEq_int, decide_true, oLt_int], fun _ => ⟨c', rfl, h⟩, fun _ => ⟨d, c' :: r, by simp only [mD_ev, sSeq_ev, sAsg_ev, eCallD_ev, eCall_ev, aCons_ev, aNil_ev, eVar_ev, List.map_cons, List.map_nil, List.length_cons, List.length_nil, List.cons_append, List.nil_append, Nat.reduceAdd, Nat.reduceSub, List.reduceReplicate, List.getElem?_cons_zero, List.getElem?_cons_succ, bok, if_true, eC_ev, sok, gVar_ev, List.set_cons_succ, List.set_cons_zero, Nat.reduceLT, eBin_ev, eLc_ev, iOf_ev, oWalk, wipeE, gTup_ev, gCons_ev, gNil_ev, eLst_ev, eTup_ev, eJoin_ev, iRange1_ev, sRet_ev, sIf_ev, tB_ev, tAnd_ev, tOr_ev, tNot_ev, eNot_ev, eAnd_ev, eIf_ev, sNext_ev, sExpr_ev, sPar_ev, sAug_ev, sAsg2_ev, sFor_ev, and_self, eThaw_ev, thaw_ev], ⟨c', rfl, h⟩, rfl⟩⟩
      · exact ⟨_, _, rfl, false, c' :: r, by simp only [mD_ev, sSeq_ev, sAsg_ev, eCallD_ev, eCall_ev, aCons_ev, aNil_ev, eVar_ev, List.map_cons, List.map_nil, List.length_cons, List.length_nil, List.cons_append, List.nil_append, Nat.reduceAdd, Nat.reduceSub, List.reduceReplicate, List.getElem?_cons_zero, List.getElem?_cons_succ, bok, if_true, eC_ev, sok, gVar_ev, List.set_cons_succ, List.set_cons_zero, Nat.reduceLT, eBin_ev, eLc_ev, iOf_ev, oWalk, wipeE, gTup_ev, gCons_ev, gNil_ev, eLst_ev, eTup_ev, eJoin_ev, iRange1_ev, sRet_ev, sIf_ev, tB_ev, tAnd_ev, tOr_ev, tNot_ev, eNot_ev, eAnd_ev, eIf_ev, sNext_ev, sExpr_ev, sPar_ev, sAug_ev, sAsg2_ev, sFor_ev, and_self, eThaw_ev, thaw_ev, e, oEq_int, hj, decide_false, Bool.false_eq_true, if_false], fun _ => ⟨c', rfl, h⟩, fun hh => nomatch hh⟩)
    (by rw [len_rg]; have := hs.n9; show 0 + n ≤ 1000000; omega)
  have : ys = zs := by
    clear e sb
    induction f with
    | nil => rfl
    | cons h _ ih => rw [h, ih]
  subst this
  obtain ⟨m, hm, rfl⟩ := List.sublist_map_iff.mp sb
  refine ⟨m, c', ?_, h', hm⟩
  have e5 : ∀ μ, rangeR (.int (n : Int)) μ = .ok (rg n, none) μ := fun μ => rangeR_nat (by have := hs.n9; omega)
  unfold M_l_covered B_l_covered
  simp only [mD_ev, sSeq_ev, sAsg_ev, eCallD_ev, eCall_ev, aCons_ev, aNil_ev, eVar_ev, List.map_cons, List.map_nil, List.length_cons, List.length_nil, List.cons_append, List.nil_append, Nat.reduceAdd, Nat.reduceSub, List.reduceReplicate, List.getElem?_cons_zero, List.getElem?_cons_succ, bok, if_true, eC_ev, sok, gVar_ev, List.set_cons_succ, List.set_cons_zero, Nat.reduceLT, eBin_ev, eLc_ev, iOf_ev, oWalk, wipeE, gTup_ev, gCons_ev, gNil_ev, eLst_ev, eTup_ev, eJoin_ev, iRange1_ev, sRet_ev, sIf_ev, tB_ev, tAnd_ev, tOr_ev, tNot_ev, eNot_ev, eAnd_ev, eIf_ev, sNext_ev, sExpr_ev, sPar_ev, sAug_ev, sAsg2_ev, sFor_ev, and_self, eThaw_ev, thaw_ev, e1, oAdd_int, sD0, sD1, mulN hs, e5, e, cTuple, seqOf]
end K12


set_option Elab.async false
set_option linter.all false
set_option maxRecDepth 100000
set_option autoImplicit false
namespace K12
open PySem L2 Fw
/-! ### times -/
def isF : Deed → Bool
  | .flip => true
  | _ => false
def tk (w c : Nat) : Deed → Int
  | .flip => 0
  | .draw t s => if t - s * ((c % w : Nat) : Int) > 0 then t - s * ((c % w : Nat) : Int) else 0
  | .expo t m => if c ∈ m then 0 else t
def stp (w c : Nat) (q : Bool × Int × Int) (d : Deed) : Bool × Int × Int :=
  if (q.1 != isF d) = true then (true, q.2.1, q.2.2 + tk w c d) else (false, q.2.1 + tk w c d, q.2.2)
def op (w : Nat) (R : List Deed) (c : Nat) : Bool × Int × Int := R.foldl (stp w c) (false, 0, 0)
theorem oEq_str {a b : List Nat} {μ : Store} (ha : (a.all (· < 0x110000)) = true := by decide) (hb : (b.all (· < 0x110000)) = true := by decide) : oEq (.str a) (.str b) μ = .ok (.bl (decide (a = b))) μ := by
  rw [oEq_pl (k := 0) (j := 0) (by simpa [rd, pl] using ha) (by simpa [rd, pl] using hb)]; simp [rd]
theorem enc0 {d : Deed} {μ : Store} : oIx (encD d) (.int 0) μ = .ok (.str (match d with | .flip => [102, 108, 105, 112] | .draw _ _ => [100, 114, 97, 119] | .expo _ _ => [101, 120, 112, 111, 115, 101])) μ := by
  cases d <;> rfl
theorem inD_nat {c : Nat} {m : List Nat} : inD (.int c) (m.map fun k => .int (k : Nat)) = decide (c ∈ m) := by
  induction m with
  | nil => simp [inD]
  | cons a m ih =>
    have e : inD (.int c) ((a :: m).map fun k => .int (k : Nat)) = (((a : Int) == (c : Int)) || inD (.int c) (m.map fun k => .int (k : Nat))) := rfl
    rw [e, ih, Bool.eq_iff_iff]
    simp only [Bool.or_eq_true, beq_iff_eq, decide_eq_true_eq, List.mem_cons]
    constructor
    · rintro (h | h)
      · exact .inl (by omega)
      · exact .inr h
    · rintro (h | h)
      · exact .inl (by omega)
      · exact .inr h
theorem oIn_nat {c : Nat} {m : List Nat} {neg : Bool} {μ : Store} : oIn neg (.int c) (.tup (m.map fun k => .int (k : Nat))) μ = .ok (.bl (if neg then !decide (c ∈ m) else decide (c ∈ m))) μ := by
  have h : (m.map fun k => D.int (k : Nat)).all flatD = true := by simp [flatD]
  simp only [oIn, seqOf, h, flatD, Bool.and_self, if_true, inD_nat]
theorem sm_nat {i : Nat} (h : i < 1000) : Sm (i : Int) = true := by simp [Sm]; omega
theorem mod_lt' {w h n c : Nat} (hs : Sz w h n) : c % w < 1000 := by have := Nat.mod_lt c (show w > 0 from hs.w1); have := hs.w4; omega
theorem oMod_nat {w h n c : Nat} (hs : Sz w h n) {μ : Store} : oMod (.int (c : Nat)) (.int (w : Nat)) μ = .ok (.int ((c % w : Nat) : Int)) μ := by
  rw [oMod_int (by have := hs.w1; omega)]; simp
theorem d1 {t s : Int} {μ : Store} : oIx (encD (.draw t s)) (.int 1) μ = .ok (.int t) μ := (rfl)
theorem d2 {t s : Int} {μ : Store} : oIx (encD (.draw t s)) (.int 2) μ = .ok (.int s) μ := (rfl)
theorem x1 {t : Int} {m : List Nat} {μ : Store} : oIx (encD (.expo t m)) (.int 1) μ = .ok (.int t) μ := (rfl)
theorem x2 {t : Int} {m : List Nat} {μ : Store} : oIx (encD (.expo t m)) (.int 2) μ = .ok (.tup (m.map fun k => .int (k : Nat))) μ := (rfl)
theorem oMul_sm {a : Int} {i : Nat} (h : i < 1000) {μ : Store} : oMul (.int a) (.int (i : Nat)) μ = .ok (.int (a * i)) μ := oMul_int (by simp [sm_nat h])
theorem ticks_of {w h n c : Nat} (hs : Sz w h n) {d : Deed} (hd : isF d = false) {μ : Store} : M_ticks_of [encD d, .int w, .int c] μ = .ok (.int (tk w c d)) μ := by
  unfold M_ticks_of B_ticks_of
  cases d with
  | flip => simp [isF] at hd
  | draw t s =>
    have e1 : ∀ μ, oEq (.str [100, 114, 97, 119]) (.str [101, 120, 112, 111, 115, 101]) μ = .ok (.bl false) μ := fun μ => by rw [oEq_str]; rfl
    simp only [mD_ev, sSeq_ev, sAsg_ev, eCallD_ev, eCall_ev, aCons_ev, aNil_ev, eVar_ev, List.map_cons, List.map_nil, List.length_cons, List.length_nil, List.cons_append, List.nil_append, Nat.reduceAdd, Nat.reduceSub, List.reduceReplicate, List.getElem?_cons_zero, List.getElem?_cons_succ, bok, if_true, eC_ev, sok, gVar_ev, List.set_cons_succ, List.set_cons_zero, Nat.reduceLT, eBin_ev, eLc_ev, iOf_ev, oWalk, wipeE, gTup_ev, gCons_ev, gNil_ev, eLst_ev, eTup_ev, eJoin_ev, iRange1_ev, sRet_ev, sIf_ev, tB_ev, tAnd_ev, tOr_ev, tNot_ev, eNot_ev, eAnd_ev, eIf_ev, sNext_ev, sExpr_ev, sPar_ev, sAug_ev, sAsg2_ev, sFor_ev, and_self, eThaw_ev, thaw_ev, enc0, len_expo, e1, Bool.false_eq_true, if_false, d1, d2, oMod_nat hs, oMul_sm (mod_lt' hs), oSub_int, cMax2_ev, tk]
  | expo t m =>
    have e1 : ∀ μ, oEq (.str [101, 120, 112, 111, 115, 101]) (.str [101, 120, 112, 111, 115, 101]) μ = .ok (.bl true) μ := fun μ => by rw [oEq_str]; rfl
    by_cases hm : c ∈ m
    all_goals simp only [mD_ev, sSeq_ev, sAsg_ev, eCallD_ev, eCall_ev, aCons_ev, aNil_ev, eVar_ev, List.map_cons, List.map_nil, List.length_cons, List.length_nil, List.cons_append, List.nil_append, Nat.reduceAdd, Nat.reduceSub, List.reduceReplicate, List.getElem?_cons_zero, List.getElem?_cons_succ, bok, if_true, eC_ev, sok, gVar_ev, List.set_cons_succ, List.set_cons_zero, Nat.reduceLT, eBin_ev, eLc_ev, iOf_ev, oWalk, wipeE, gTup_ev, gCons_ev, gNil_ev, eLst_ev, eTup_ev, eJoin_ev, iRange1_ev, sRet_ev, sIf_ev, tB_ev, tAnd_ev, tOr_ev, tNot_ev, eNot_ev, eAnd_ev, eIf_ev, sNext_ev, sExpr_ev, sPar_ev, sAug_ev, sAsg2_ev, sFor_ev, and_self, eThaw_ev, thaw_ev, enc0, len_expo, e1, x1, x2, oIn_nat, Bool.false_eq_true, if_false, hm, decide_true, decide_false, tk]
theorem l_ticks {w h n c : Nat} {T : List Nat} (hs : Sz w h n) {d : Deed} {μ : Store} : M_l_ticks [sD w h T, encD d, .int c] μ = .ok (.int (tk w c d)) μ := by
  unfold M_l_ticks B_l_ticks
  cases d with
  | flip =>
    have e1 : ∀ μ, oEq (.str [102, 108, 105, 112]) (.str [101, 120, 112, 111, 115, 101]) μ = .ok (.bl false) μ := fun μ => by rw [oEq_str]; rfl
    have e2 : ∀ μ, oEq (.str [102, 108, 105, 112]) (.str [100, 114, 97, 119]) μ = .ok (.bl false) μ := fun μ => by rw [oEq_str]; rfl
    simp only [mD_ev, sSeq_ev, sAsg_ev, eCallD_ev, eCall_ev, aCons_ev, aNil_ev, eVar_ev, List.map_cons, List.map_nil, List.length_cons, List.length_nil, List.cons_append, List.nil_append, Nat.reduceAdd, Nat.reduceSub, List.reduceReplicate, List.getElem?_cons_zero, List.getElem?_cons_succ, bok, if_true, eC_ev, sok, gVar_ev, List.set_cons_succ, List.set_cons_zero, Nat.reduceLT, eBin_ev, eLc_ev, iOf_ev, oWalk, wipeE, gTup_ev, gCons_ev, gNil_ev, eLst_ev, eTup_ev, eJoin_ev, iRange1_ev, sRet_ev, sIf_ev, tB_ev, tAnd_ev, tOr_ev, tNot_ev, eNot_ev, eAnd_ev, eIf_ev, sNext_ev, sExpr_ev, sPar_ev, sAug_ev, sAsg2_ev, sFor_ev, and_self, eThaw_ev, thaw_ev, enc0, len_expo, len_draw, e1, e2, Bool.false_eq_true, if_false, tk]
  | draw t s =>
    have e1 : ∀ μ, oEq (.str [100, 114, 97, 119]) (.str [101, 120, 112, 111, 115, 101]) μ = .ok (.bl false) μ := fun μ => by rw [oEq_str]; rfl
    have e2 : ∀ μ, oEq (.str [100, 114, 97, 119]) (.str [100, 114, 97, 119]) μ = .ok (.bl true) μ := fun μ => by rw [oEq_str]; rfl
    simp only [mD_ev, sSeq_ev, sAsg_ev, eCallD_ev, eCall_ev, aCons_ev, aNil_ev, eVar_ev, List.map_cons, List.map_nil, List.length_cons, List.length_nil, List.cons_append, List.nil_append, Nat.reduceAdd, Nat.reduceSub, List.reduceReplicate, List.getElem?_cons_zero, List.getElem?_cons_succ, bok, if_true, eC_ev, sok, gVar_ev, List.set_cons_succ, List.set_cons_zero, Nat.reduceLT, eBin_ev, eLc_ev, iOf_ev, oWalk, wipeE, gTup_ev, gCons_ev, gNil_ev, eLst_ev, eTup_ev, eJoin_ev, iRange1_ev, sRet_ev, sIf_ev, tB_ev, tAnd_ev, tOr_ev, tNot_ev, eNot_ev, eAnd_ev, eIf_ev, sNext_ev, sExpr_ev, sPar_ev, sAug_ev, sAsg2_ev, sFor_ev, and_self, eThaw_ev, thaw_ev, enc0, len_expo, len_draw, e1, e2, Bool.false_eq_true, if_false, d1, d2, sD0, oMod_nat hs, oMul_sm (mod_lt' hs), oSub_int, cMax2_ev, tk]
  | expo t m =>
    have e1 : ∀ μ, oEq (.str [101, 120, 112, 111, 115, 101]) (.str [101, 120, 112, 111, 115, 101]) μ = .ok (.bl true) μ := fun μ => by rw [oEq_str]; rfl
    have m0 : ∀ μ, oMul (.int t) (.int 0) μ = .ok (.int (t * 0)) μ := fun μ => oMul_sm (i := 0) (by omega)
    have m1 : ∀ μ, oMul (.int t) (.int 1) μ = .ok (.int (t * 1)) μ := fun μ => oMul_sm (i := 1) (by omega)
    by_cases hm : c ∈ m
    all_goals simp only [mD_ev, sSeq_ev, sAsg_ev, eCallD_ev, eCall_ev, aCons_ev, aNil_ev, eVar_ev, List.map_cons, List.map_nil, List.length_cons, List.length_nil, List.cons_append, List.nil_append, Nat.reduceAdd, Nat.reduceSub, List.reduceReplicate, List.getElem?_cons_zero, List.getElem?_cons_succ, bok, if_true, eC_ev, sok, gVar_ev, List.set_cons_succ, List.set_cons_zero, Nat.reduceLT, eBin_ev, eLc_ev, iOf_ev, oWalk, wipeE, gTup_ev, gCons_ev, gNil_ev, eLst_ev, eTup_ev, eJoin_ev, iRange1_ev, sRet_ev, sIf_ev, tB_ev, tAnd_ev, tOr_ev, tNot_ev, eNot_ev, eAnd_ev, eIf_ev, sNext_ev, sExpr_ev, sPar_ev, sAug_ev, sAsg2_ev, sFor_ev, and_self, eThaw_ev, thaw_ev, enc0, len_expo, e1, x1, x2, oIn_nat, Bool.false_eq_true, if_false, hm, decide_true, decide_false, tk, cInt_bl, Bool.not_true, Bool.not_false, m0, m1, Int.mul_zero, Int.mul_one]
theorem pl_enc {n : Nat} {d : Deed} : pl 2 (encD d) = true := by
  cases d with
  | flip => rfl
  | draw t s => rfl
  | expo t m =>
    have : pls 0 (m.map fun k => D.int (k : Nat)) = true := pls_iff.mpr (by simp [pl])
    simp [pl, pls, encD, this]
theorem isFlip {d : Deed} {μ : Store} : oEq (encD d) (.tup [.str (lit "flip")]) μ = .ok (.bl (isF d)) μ := by
  have h2 : pl 2 (rd μ (.tup [.str (lit "flip")])) = true := by rw [len_flip]; rfl
  have h1 : rd μ (encD d) = encD d := by cases d <;> rfl
  rw [oEq_pl (k := 2) (j := 2) (by rw [h1]; exact pl_enc (n := 0)) h2, h1, len_flip]
  cases d <;> simp [encD, rd, isF]
theorem isFlip0 {d : Deed} {μ : Store} : oEq (.str (match d with | .flip => [102, 108, 105, 112] | .draw _ _ => [100, 114, 97, 119] | .expo _ _ => [101, 120, 112, 111, 115, 101])) (.str [102, 108, 105, 112]) μ = .ok (.bl (isF d)) μ := by
  have a1 : oEq (.str [102, 108, 105, 112]) (.str [102, 108, 105, 112]) μ = .ok (.bl true) μ := by rw [oEq_str]; rfl
  have a2 : oEq (.str [100, 114, 97, 119]) (.str [102, 108, 105, 112]) μ = .ok (.bl false) μ := by rw [oEq_str]; rfl
  have a3 : oEq (.str [101, 120, 112, 111, 115, 101]) (.str [102, 108, 105, 112]) μ = .ok (.bl false) μ := by rw [oEq_str]; rfl
  cases d
  · exact a1
  · exact a2
  · exact a3
theorem open_in {w h n c : Nat} (hs : Sz w h n) {items : List D} {r : D} {μ : Store} : ∀ (R : List Deed) (q : Bool × Int × Int) (x : Option D), ∃ x', forL items none (gVar 6) (sIf (tB (eBin oEq (eVar 6) (eC (.tup [.str (lit "flip")])))) (
  sAsg (gVar 5) (eNot (eVar 5))) (
  sIf (tB (eVar 5)) (
  sAug 4 oAddI (eCallD 3 M_ticks_of (aCons (eVar 6) (aCons (eVar 0) (aCons (eVar 2) (aNil)))))) (
  sAug 3 oAddI (eCallD 3 M_ticks_of (aCons (eVar 6) (aCons (eVar 0) (aCons (eVar 2) (aNil)))))))) (R.map encD) [some (.int w), some r, some (.int c), some (.int q.2.1), some (.int q.2.2), some (.bl q.1), x] μ =
   .nx [some (.int w), some r, some (.int c), some (.int (R.foldl (stp w c) q).2.1), some (.int (R.foldl (stp w c) q).2.2), some (.bl (R.foldl (stp w c) q).1), x'] μ
  | [], q, x => ⟨x, by rw [List.map_nil, for_nil]; rfl⟩
  | d :: R, (b, s, o), x => by
    obtain ⟨x', e⟩ := open_in hs (items := items) (r := r) (μ := μ) R (stp w c (b, s, o) d) (some (encD d))
    refine ⟨x', ?_⟩
    rw [List.foldl_cons, ← e]
    cases hd : isF d with
    | true =>
      obtain rfl : d = .flip := by cases d <;> simp [isF] at hd ⊢
      rw [List.map_cons, for_cons]
      cases b
      all_goals
        simp only [mD_ev, sSeq_ev, sAsg_ev, eCallD_ev, eCall_ev, aCons_ev, aNil_ev, eVar_ev, List.map_cons, List.map_nil, List.length_cons, List.length_nil, List.cons_append, List.nil_append, Nat.reduceAdd, Nat.reduceSub, List.reduceReplicate, List.getElem?_cons_zero, List.getElem?_cons_succ, bok, if_true, eC_ev, sok, gVar_ev, List.set_cons_succ, List.set_cons_zero, Nat.reduceLT, eBin_ev, eLc_ev, iOf_ev, oWalk, wipeE, gTup_ev, gCons_ev, gNil_ev, eLst_ev, eTup_ev, eJoin_ev, iRange1_ev, sRet_ev, sIf_ev, tB_ev, tAnd_ev, tOr_ev, tNot_ev, eNot_ev, eAnd_ev, eIf_ev, sNext_ev, sExpr_ev, sPar_ev, sAug_ev, sAsg2_ev, sFor_ev, and_self, eThaw_ev, thaw_ev, isFlip, isF, Bool.not_true, Bool.not_false]
        simp only [stp, isF, tk, bne_self_eq_false, Bool.false_eq_true, if_false, if_true, Int.add_zero, show (false != true) = true from rfl]
    | false =>
      rw [List.map_cons, for_cons]
      cases b
      all_goals
        simp only [mD_ev, sSeq_ev, sAsg_ev, eCallD_ev, eCall_ev, aCons_ev, aNil_ev, eVar_ev, List.map_cons, List.map_nil, List.length_cons, List.length_nil, List.cons_append, List.nil_append, Nat.reduceAdd, Nat.reduceSub, List.reduceReplicate, List.getElem?_cons_zero, List.getElem?_cons_succ, bok, if_true, eC_ev, sok, gVar_ev, List.set_cons_succ, List.set_cons_zero, Nat.reduceLT, eBin_ev, eLc_ev, iOf_ev, oWalk, wipeE, gTup_ev, gCons_ev, gNil_ev, eLst_ev, eTup_ev, eJoin_ev, iRange1_ev, sRet_ev, sIf_ev, tB_ev, tAnd_ev, tOr_ev, tNot_ev, eNot_ev, eAnd_ev, eIf_ev, sNext_ev, sExpr_ev, sPar_ev, sAug_ev, sAsg2_ev, sFor_ev, and_self, eThaw_ev, thaw_ev, isFlip, hd, Bool.false_eq_true, if_false, ticks_of hs hd, oAddI_int]
        simp only [stp, hd, bne_self_eq_false, Bool.false_eq_true, if_false, if_true, show (true != false) = true from rfl]
theorem open_pair {w h n c : Nat} (hs : Sz w h n) {R : List Deed} {μ : Store} : M_open_pair [.int w, .tup (R.map encD), .int c] μ = .ok (.tup [.int (op w R c).2.1, .int (op w R c).2.2]) μ := by
  obtain ⟨x', e⟩ := open_in (c := c) hs (items := R.map encD) (r := .tup (R.map encD)) (μ := μ) R (false, 0, 0) none
  have hL2 : (2 : Nat) ≤ LIM := by decide
  unfold M_open_pair B_open_pair
  simp only [mD_ev, sSeq_ev, sAsg_ev, eCallD_ev, eCall_ev, aCons_ev, aNil_ev, eVar_ev, List.map_cons, List.map_nil, List.length_cons, List.length_nil, List.cons_append, List.nil_append, Nat.reduceAdd, Nat.reduceSub, List.reduceReplicate, List.getElem?_cons_zero, List.getElem?_cons_succ, bok, if_true, eC_ev, sok, gVar_ev, List.set_cons_succ, List.set_cons_zero, Nat.reduceLT, eBin_ev, eLc_ev, iOf_ev, oWalk, wipeE, gTup_ev, gCons_ev, gNil_ev, eLst_ev, eTup_ev, eJoin_ev, iRange1_ev, sRet_ev, sIf_ev, tB_ev, tAnd_ev, tOr_ev, tNot_ev, eNot_ev, eAnd_ev, eIf_ev, sNext_ev, sExpr_ev, sPar_ev, sAug_ev, sAsg2_ev, sFor_ev, and_self, eThaw_ev, thaw_ev, e, hL2]
  rfl
end K12


set_option Elab.async false
set_option linter.all false
set_option maxRecDepth 100000
set_option autoImplicit false
namespace K12
open PySem L2 Fw
def mir (w c : Nat) : Nat := c / w * w + w - 1 - c % w
theorem mir_lt {w h n c : Nat} (hs : Sz w h n) (hc : c < n) : mir w c < n := by
  obtain ⟨w1, w4, h1, h4, _, _, e⟩ := hs
  obtain rfl | rfl | rfl | rfl : w = 1 ∨ w = 2 ∨ w = 3 ∨ w = 4 := by omega
  all_goals unfold mir; omega
theorem mir_mir {w h n c : Nat} (hs : Sz w h n) (hc : c < n) : mir w (mir w c) = c := by
  obtain ⟨w1, w4, h1, h4, _, _, e⟩ := hs
  obtain rfl | rfl | rfl | rfl : w = 1 ∨ w = 2 ∨ w = 3 ∨ w = 4 := by omega
  all_goals unfold mir; omega
theorem mirrored {w h n c : Nat} (hs : Sz w h n) {μ : Store} : M_mirrored [.int (c : Nat), .int (w : Nat)] μ = .ok (.int ((mir w c : Nat) : Int)) μ := by
  unfold M_mirrored B_mirrored
  simp only [mD_ev, sSeq_ev, sAsg_ev, eCallD_ev, eCall_ev, aCons_ev, aNil_ev, eVar_ev, List.map_cons, List.map_nil, List.length_cons, List.length_nil, List.cons_append, List.nil_append, Nat.reduceAdd, Nat.reduceSub, List.reduceReplicate, List.getElem?_cons_zero, List.getElem?_cons_succ, bok, if_true, eC_ev, sok, gVar_ev, List.set_cons_succ, List.set_cons_zero, Nat.reduceLT, eBin_ev, eLc_ev, iOf_ev, oWalk, wipeE, gTup_ev, gCons_ev, gNil_ev, eLst_ev, eTup_ev, eJoin_ev, iRange1_ev, sRet_ev, sIf_ev, tB_ev, tAnd_ev, tOr_ev, tNot_ev, eNot_ev, eAnd_ev, eIf_ev, sNext_ev, sExpr_ev, sPar_ev, sAug_ev, sAsg2_ev, sFor_ev, and_self, eThaw_ev, thaw_ev, oMod_nat hs, oSub_int, oAdd_int]
  congr 2
  obtain ⟨w1, w4, h1, h4, _, _, e⟩ := hs
  obtain rfl | rfl | rfl | rfl : w = 1 ∨ w = 2 ∨ w = 3 ∨ w = 4 := by omega
  all_goals unfold mir; omega
theorem l_mirror {w h n c : Nat} {T : List Nat} (hs : Sz w h n) {μ : Store} : M_l_mirror [sD w h T, .int (c : Nat)] μ = .ok (.int ((mir w c : Nat) : Int)) μ := by
  have e1 : ∀ μ, oFdv (.int (c : Nat)) (.int (w : Nat)) μ = .ok (.int ((c : Int) / (w : Int))) μ := fun μ => oFdv_int (by have := hs.w1; omega) (by have := hs.w4; omega)
  have e2 : ∀ (a : Int) μ, oMul (.int a) (.int (w : Nat)) μ = .ok (.int (a * (w : Int))) μ := fun a μ => oMul_sm (by have := hs.w4; omega)
  unfold M_l_mirror B_l_mirror
  simp only [mD_ev, sSeq_ev, sAsg_ev, eCallD_ev, eCall_ev, aCons_ev, aNil_ev, eVar_ev, List.map_cons, List.map_nil, List.length_cons, List.length_nil, List.cons_append, List.nil_append, Nat.reduceAdd, Nat.reduceSub, List.reduceReplicate, List.getElem?_cons_zero, List.getElem?_cons_succ, bok, if_true, eC_ev, sok, gVar_ev, List.set_cons_succ, List.set_cons_zero, Nat.reduceLT, eBin_ev, eLc_ev, iOf_ev, oWalk, wipeE, gTup_ev, gCons_ev, gNil_ev, eLst_ev, eTup_ev, eJoin_ev, iRange1_ev, sRet_ev, sIf_ev, tB_ev, tAnd_ev, tOr_ev, tNot_ev, eNot_ev, eAnd_ev, eIf_ev, sNext_ev, sExpr_ev, sPar_ev, sAug_ev, sAsg2_ev, sFor_ev, and_self, eThaw_ev, thaw_ev, sD0, oMod_nat hs, oSub_int, oAdd_int, e1, e2]
  congr 2
  obtain ⟨w1, w4, h1, h4, _, _, e⟩ := hs
  obtain rfl | rfl | rfl | rfl : w = 1 ∨ w = 2 ∨ w = 3 ∨ w = 4 := by omega
  all_goals unfold mir; omega
def wt (ch : Nat) : Int := if ch = 48 then 16 else if ch = 49 then 8 else if ch = 50 then 4 else if ch = 51 then 2 else 1
def W (T : List Nat) (c : Nat) : Int := wt (T.getD c 48)
theorem int_ch {ch : Nat} (h : 48 ≤ ch ∧ ch ≤ 52) {μ : Store} : cInt [.str [ch]] μ = .ok (.int ((ch : Int) - 48)) μ := by
  have e : PySem.intText? ⟨[ch].toArray⟩ = some ((ch : Int) - 48) := by
    obtain rfl | rfl | rfl | rfl | rfl : ch = 48 ∨ ch = 49 ∨ ch = 50 ∨ ch = 51 ∨ ch = 52 := by omega
    all_goals decide +kernel
  simp only [cInt, e]; rfl
theorem at5 {ch : Nat} (h : 48 ≤ ch ∧ ch ≤ 52) {μ : Store} : oIx (.tup [.int 16, .int 8, .int 4, .int 2, .int 1]) (.int ((ch : Int) - 48)) μ = .ok (.int (wt ch)) μ := by
  obtain rfl | rfl | rfl | rfl | rfl : ch = 48 ∨ ch = 49 ∨ ch = 50 ∨ ch = 51 ∨ ch = 52 := by omega
  all_goals rfl
theorem at5l {ch : Nat} (h : 48 ≤ ch ∧ ch ≤ 52) {μ : Store} : oIx (.lst [.int 16, .int 8, .int 4, .int 2, .int 1]) (.int ((ch : Int) - 48)) μ = .ok (.int (wt ch)) μ := by
  obtain rfl | rfl | rfl | rfl | rfl : ch = 48 ∨ ch = 49 ∨ ch = 50 ∨ ch = 51 ∨ ch = 52 := by omega
  all_goals rfl
theorem sm_wt {ch : Nat} : Sm (wt ch) = true := by
  unfold wt Sm
  repeat' split
  all_goals decide
theorem ch_ok {n : Nat} {T : List Nat} (ok : OkT n T) {c : Nat} (hc : c < n) : 48 ≤ T.getD c 48 ∧ T.getD c 48 ≤ 52 := by
  have hl : c < T.length := by rw [ok.1]; exact hc
  rw [List.getD_eq_getElem?_getD, List.getElem?_eq_getElem hl]
  exact ok.2 _ (List.getElem_mem hl)
theorem atT {w h n : Nat} (hs : Sz w h n) {T : List Nat} (ok : OkT n T) {c : Nat} (hc : c < n) {μ : Store} : oIx (.str T) (.int (c : Nat)) μ = .ok (.str [T.getD c 48]) μ := by
  have hl : c < T.length := by rw [ok.1]; exact hc
  have hL : T.length ≤ LIM := by rw [ok.1]; have := hs.n9; show _ ≤ 1000000; omega
  have e : atI T (c : Nat) = some (T.getD c 48) := by
    rw [atI_in (by omega) (by omega), Int.toNat_natCast, List.getElem?_eq_getElem hl, List.getD_eq_getElem?_getD, List.getElem?_eq_getElem hl]; rfl
  simp only [oIx, hL, if_true, e]
theorem weight {ch : Nat} (h : 48 ≤ ch ∧ ch ≤ 52) {μ : Store} : M_l_weight [.str [ch]] μ = .ok (.int (wt ch)) μ := by
  have hL5 : (5 : Nat) ≤ LIM := by decide
  unfold M_l_weight B_l_weight
  simp only [mD_ev, sSeq_ev, sAsg_ev, eCallD_ev, eCall_ev, aCons_ev, aNil_ev, eVar_ev, List.map_cons, List.map_nil, List.length_cons, List.length_nil, List.cons_append, List.nil_append, Nat.reduceAdd, Nat.reduceSub, List.reduceReplicate, List.getElem?_cons_zero, List.getElem?_cons_succ, bok, if_true, eC_ev, sok, gVar_ev, List.set_cons_succ, List.set_cons_zero, Nat.reduceLT, eBin_ev, eLc_ev, iOf_ev, oWalk, wipeE, gTup_ev, gCons_ev, gNil_ev, eLst_ev, eTup_ev, eJoin_ev, iRange1_ev, sRet_ev, sIf_ev, tB_ev, tAnd_ev, tOr_ev, tNot_ev, eNot_ev, eAnd_ev, eIf_ev, sNext_ev, sExpr_ev, sPar_ev, sAug_ev, sAsg2_ev, sFor_ev, and_self, eThaw_ev, thaw_ev, hL5, int_ch h, at5l h]
theorem mul_wt {a : Int} {ch : Nat} {μ : Store} : oMul (.int a) (.int (wt ch)) μ = .ok (.int (a * wt ch)) μ := oMul_int (by rw [sm_wt]; simp)
def lt (w : Nat) (T : List Nat) (R : List Deed) (c : Nat) : Int := (op w R c).2.1 * W T c + (op w R c).2.2 * W T (mir w c)
theorem light_by {a b : Int} {c d : Nat} (hc : 48 ≤ c ∧ c ≤ 52) (hd : 48 ≤ d ∧ d ≤ 52) {μ : Store} : M_light_by [.tup [.int a, .int b], .int ((c : Int) - 48), .int ((d : Int) - 48)] μ = .ok (.int (a * wt c + b * wt d)) μ := by
  unfold M_light_by B_light_by
  simp only [mD_ev, sSeq_ev, sAsg_ev, eCallD_ev, eCall_ev, aCons_ev, aNil_ev, eVar_ev, List.map_cons, List.map_nil, List.length_cons, List.length_nil, List.cons_append, List.nil_append, Nat.reduceAdd, Nat.reduceSub, List.reduceReplicate, List.getElem?_cons_zero, List.getElem?_cons_succ, bok, if_true, eC_ev, sok, gVar_ev, List.set_cons_succ, List.set_cons_zero, Nat.reduceLT, eBin_ev, eLc_ev, iOf_ev, oWalk, wipeE, gTup_ev, gCons_ev, gNil_ev, eLst_ev, eTup_ev, eJoin_ev, iRange1_ev, sRet_ev, sIf_ev, tB_ev, tAnd_ev, tOr_ev, tNot_ev, eNot_ev, eAnd_ev, eIf_ev, sNext_ev, sExpr_ev, sPar_ev, sAug_ev, sAsg2_ev, sFor_ev, and_self, eThaw_ev, thaw_ev, at5 hc, at5 hd, mul_wt, oAdd_int]
theorem light_of {w h n c : Nat} (hs : Sz w h n) (hc : c < n) {T : List Nat} (ok : OkT n T) {R : List Deed} {μ : Store} : M_light_of [.int (w : Nat), .str T, .tup (R.map encD), .int (c : Nat)] μ = .ok (.int (lt w T R c)) μ := by
  have hm := mir_lt hs hc
  unfold M_light_of B_light_of
  simp only [mD_ev, sSeq_ev, sAsg_ev, eCallD_ev, eCall_ev, aCons_ev, aNil_ev, eVar_ev, List.map_cons, List.map_nil, List.length_cons, List.length_nil, List.cons_append, List.nil_append, Nat.reduceAdd, Nat.reduceSub, List.reduceReplicate, List.getElem?_cons_zero, List.getElem?_cons_succ, bok, if_true, eC_ev, sok, gVar_ev, List.set_cons_succ, List.set_cons_zero, Nat.reduceLT, eBin_ev, eLc_ev, iOf_ev, oWalk, wipeE, gTup_ev, gCons_ev, gNil_ev, eLst_ev, eTup_ev, eJoin_ev, iRange1_ev, sRet_ev, sIf_ev, tB_ev, tAnd_ev, tOr_ev, tNot_ev, eNot_ev, eAnd_ev, eIf_ev, sNext_ev, sExpr_ev, sPar_ev, sAug_ev, sAsg2_ev, sFor_ev, and_self, eThaw_ev, thaw_ev, open_pair hs, mirrored hs, atT hs ok hc, atT hs ok hm, int_ch (ch_ok ok hc), int_ch (ch_ok ok hm), light_by (ch_ok ok hc) (ch_ok ok hm)]
  rfl
/-! ### recipes are as asked -/
theorem is_number {v a b : Int} {μ : Store} : M_is_number [.int v, .int a, .int b] μ = .ok (.bl (decide (a ≤ v) && decide (v ≤ b))) μ := by
  have e1 : ∀ (ρ : Fw.Env) μ, eIsi "int" (eVar 0) (some (.int v) :: ρ) μ = .ok (.bl true) μ := fun ρ μ => by rfl
  have e2 : ∀ (ρ : Fw.Env) μ, eIsi "bool" (eVar 0) (some (.int v) :: ρ) μ = .ok (.bl false) μ := fun ρ μ => by rfl
  unfold M_is_number B_is_number
  by_cases h : a ≤ v
  all_goals simp only [mD_ev, sSeq_ev, sAsg_ev, eCallD_ev, eCall_ev, aCons_ev, aNil_ev, eVar_ev, List.map_cons, List.map_nil, List.length_cons, List.length_nil, List.cons_append, List.nil_append, Nat.reduceAdd, Nat.reduceSub, List.reduceReplicate, List.getElem?_cons_zero, List.getElem?_cons_succ, bok, if_true, eC_ev, sok, gVar_ev, List.set_cons_succ, List.set_cons_zero, Nat.reduceLT, eBin_ev, eLc_ev, iOf_ev, oWalk, wipeE, gTup_ev, gCons_ev, gNil_ev, eLst_ev, eTup_ev, eJoin_ev, iRange1_ev, sRet_ev, sIf_ev, tB_ev, tAnd_ev, tOr_ev, tNot_ev, eNot_ev, eAnd_ev, eIf_ev, sNext_ev, sExpr_ev, sPar_ev, sAug_ev, sAsg2_ev, sFor_ev, and_self, eThaw_ev, thaw_ev, e1, e2, Bool.not_false, eChain_ev, oLe_int, h, decide_true, decide_false, Bool.false_eq_true, if_false, Bool.true_and, Bool.false_and]
theorem asc_in {vs : D} {n : Nat} {items : List D} {μ : Store} : ∀ (m : List Nat) (l : Nat) (x : Option D), m.Pairwise (· < ·) → (∀ k ∈ m, l ≤ k ∧ k < n) → ∃ l' x', forL items none (gVar 3) (
  sSeq (sIf (tNot (tB (eCallD 3 M_is_number (aCons (eVar 3) (aCons (eVar 1) (aCons (eVar 2) (aNil))))))) (
  sRet (eC (.bl false))) (
  sNext)) (
  sAsg (gVar 1) (eBin oAdd (eVar 3) (eC (.int 1))))) (m.map fun k => .int (k : Nat)) [some vs, some (.int (l : Nat)), some (.int ((n : Int) - 1)), x] μ = .nx [some vs, some (.int l'), some (.int ((n : Int) - 1)), x'] μ
  | [], l, x, _, _ => ⟨l, x, by rw [List.map_nil, for_nil]⟩
  | k :: m, l, x, hp, hk => by
    obtain ⟨hp1, hp2⟩ := List.pairwise_cons.mp hp
    obtain ⟨l', x', e⟩ := asc_in (vs := vs) (n := n) (items := items) (μ := μ) m (k + 1) (some (.int (k : Nat))) hp2 (fun j hj => ⟨hp1 j hj, (hk j (by simp [hj])).2⟩)
    have h1 := hk k (by simp)
    refine ⟨l', x', ?_⟩
    rw [List.map_cons, for_cons]
    simp only [mD_ev, sSeq_ev, sAsg_ev, eCallD_ev, eCall_ev, aCons_ev, aNil_ev, eVar_ev, List.map_cons, List.map_nil, List.length_cons, List.length_nil, List.cons_append, List.nil_append, Nat.reduceAdd, Nat.reduceSub, List.reduceReplicate, List.getElem?_cons_zero, List.getElem?_cons_succ, bok, if_true, eC_ev, sok, gVar_ev, List.set_cons_succ, List.set_cons_zero, Nat.reduceLT, eBin_ev, eLc_ev, iOf_ev, oWalk, wipeE, gTup_ev, gCons_ev, gNil_ev, eLst_ev, eTup_ev, eJoin_ev, iRange1_ev, sRet_ev, sIf_ev, tB_ev, tAnd_ev, tOr_ev, tNot_ev, eNot_ev, eAnd_ev, eIf_ev, sNext_ev, sExpr_ev, sPar_ev, sAug_ev, sAsg2_ev, sFor_ev, and_self, eThaw_ev, thaw_ev, is_number, show ((l : Int) ≤ (k : Nat)) from by omega, show (((k : Nat) : Int) ≤ (n : Int) - 1) from by omega, decide_true, Bool.and_self, Bool.not_true, Bool.false_eq_true, if_false, oAdd_int]
    exact e
theorem is_mask {m : List Nat} {n : Nat} (hm : m.Sublist (List.range n)) {μ : Store} : M_is_mask [.tup (m.map fun k => .int (k : Nat)), .int (n : Nat)] μ = .ok (.bl true) μ := by
  have e1 : ∀ (ρ : Fw.Env) μ, eIsi "tuple" (eVar 0) (some (.tup (m.map fun k => .int (k : Nat))) :: ρ) μ = .ok (.bl true) μ := fun ρ μ => by rfl
  obtain ⟨l', x', e⟩ := asc_in (vs := .tup (m.map fun k => .int (k : Nat))) (n := n) (items := m.map fun k => .int (k : Nat)) (μ := μ) m 0 none (List.pairwise_lt_range.sublist hm) (fun k hk => ⟨by omega, List.mem_range.mp (hm.subset hk)⟩)
  have e2 : M_ascends [.tup (m.map fun k => .int (k : Nat)), .int 0, .int ((n : Int) - 1)] μ = .ok (.bl true) μ := by
    unfold M_ascends B_ascends
    simp only [Int.ofNat_zero, Int.natCast_zero] at e
    simp only [mD_ev, sSeq_ev, sAsg_ev, eCallD_ev, eCall_ev, aCons_ev, aNil_ev, eVar_ev, List.map_cons, List.map_nil, List.length_cons, List.length_nil, List.cons_append, List.nil_append, Nat.reduceAdd, Nat.reduceSub, List.reduceReplicate, List.getElem?_cons_zero, List.getElem?_cons_succ, bok, if_true, eC_ev, sok, gVar_ev, List.set_cons_succ, List.set_cons_zero, Nat.reduceLT, eBin_ev, eLc_ev, iOf_ev, oWalk, wipeE, gTup_ev, gCons_ev, gNil_ev, eLst_ev, eTup_ev, eJoin_ev, iRange1_ev, sRet_ev, sIf_ev, tB_ev, tAnd_ev, tOr_ev, tNot_ev, eNot_ev, eAnd_ev, eIf_ev, sNext_ev, sExpr_ev, sPar_ev, sAug_ev, sAsg2_ev, sFor_ev, and_self, eThaw_ev, thaw_ev, e]
  unfold M_is_mask B_is_mask
  simp only [mD_ev, sSeq_ev, sAsg_ev, eCallD_ev, eCall_ev, aCons_ev, aNil_ev, eVar_ev, List.map_cons, List.map_nil, List.length_cons, List.length_nil, List.cons_append, List.nil_append, Nat.reduceAdd, Nat.reduceSub, List.reduceReplicate, List.getElem?_cons_zero, List.getElem?_cons_succ, bok, if_true, eC_ev, sok, gVar_ev, List.set_cons_succ, List.set_cons_zero, Nat.reduceLT, eBin_ev, eLc_ev, iOf_ev, oWalk, wipeE, gTup_ev, gCons_ev, gNil_ev, eLst_ev, eTup_ev, eJoin_ev, iRange1_ev, sRet_ev, sIf_ev, tB_ev, tAnd_ev, tOr_ev, tNot_ev, eNot_ev, eAnd_ev, eIf_ev, sNext_ev, sExpr_ev, sPar_ev, sAug_ev, sAsg2_ev, sFor_ev, and_self, eThaw_ev, thaw_ev, e1, oSub_int, e2]
theorem is_deed {d : Deed} {n : Nat} (hd : OkD n d) {μ : Store} : M_is_deed [encD d, .int (n : Nat)] μ = .ok (.bl true) μ := by
  unfold M_is_deed B_is_deed
  cases d with
  | flip => simp only [mD_ev, sSeq_ev, sAsg_ev, eCallD_ev, eCall_ev, aCons_ev, aNil_ev, eVar_ev, List.map_cons, List.map_nil, List.length_cons, List.length_nil, List.cons_append, List.nil_append, Nat.reduceAdd, Nat.reduceSub, List.reduceReplicate, List.getElem?_cons_zero, List.getElem?_cons_succ, bok, if_true, eC_ev, sok, gVar_ev, List.set_cons_succ, List.set_cons_zero, Nat.reduceLT, eBin_ev, eLc_ev, iOf_ev, oWalk, wipeE, gTup_ev, gCons_ev, gNil_ev, eLst_ev, eTup_ev, eJoin_ev, iRange1_ev, sRet_ev, sIf_ev, tB_ev, tAnd_ev, tOr_ev, tNot_ev, eNot_ev, eAnd_ev, eIf_ev, sNext_ev, sExpr_ev, sPar_ev, sAug_ev, sAsg2_ev, sFor_ev, and_self, eThaw_ev, thaw_ev, isFlip, isF]
  | draw t s =>
    have e0 : ∀ μ, cLenO 0 M_Negativedd__lendd_ [encD (.draw t s)] μ = .ok (.int 3) μ := fun μ => by rfl
    have e1 : ∀ μ, oEq (.str [100, 114, 97, 119]) (.str [101, 120, 112, 111, 115, 101]) μ = .ok (.bl false) μ := fun μ => by rw [oEq_str]; rfl
    have e2 : ∀ μ, oEq (.str [100, 114, 97, 119]) (.str [100, 114, 97, 119]) μ = .ok (.bl true) μ := fun μ => by rw [oEq_str]; rfl
    obtain ⟨a1, a2, a3, a4⟩ := hd
    simp only [mD_ev, sSeq_ev, sAsg_ev, eCallD_ev, eCall_ev, aCons_ev, aNil_ev, eVar_ev, List.map_cons, List.map_nil, List.length_cons, List.length_nil, List.cons_append, List.nil_append, Nat.reduceAdd, Nat.reduceSub, List.reduceReplicate, List.getElem?_cons_zero, List.getElem?_cons_succ, bok, if_true, eC_ev, sok, gVar_ev, List.set_cons_succ, List.set_cons_zero, Nat.reduceLT, eBin_ev, eLc_ev, iOf_ev, oWalk, wipeE, gTup_ev, gCons_ev, gNil_ev, eLst_ev, eTup_ev, eJoin_ev, iRange1_ev, sRet_ev, sIf_ev, tB_ev, tAnd_ev, tOr_ev, tNot_ev, eNot_ev, eAnd_ev, eIf_ev, sNext_ev, sExpr_ev, sPar_ev, sAug_ev, sAsg2_ev, sFor_ev, and_self, eThaw_ev, thaw_ev, isFlip, isF, e0, oNe_int, decide_true, Bool.not_true, Bool.false_eq_true, if_false, d1, d2, is_number, a1, a2, a3, a4, Bool.and_self, enc0, len_expo, len_draw, e1, e2]
  | expo t m =>
    have e0 : ∀ μ, cLenO 0 M_Negativedd__lendd_ [encD (.expo t m)] μ = .ok (.int 3) μ := fun μ => by rfl
    have e1 : ∀ μ, oEq (.str [101, 120, 112, 111, 115, 101]) (.str [101, 120, 112, 111, 115, 101]) μ = .ok (.bl true) μ := fun μ => by rw [oEq_str]; rfl
    obtain ⟨a1, a2, a3⟩ := hd
    simp only [mD_ev, sSeq_ev, sAsg_ev, eCallD_ev, eCall_ev, aCons_ev, aNil_ev, eVar_ev, List.map_cons, List.map_nil, List.length_cons, List.length_nil, List.cons_append, List.nil_append, Nat.reduceAdd, Nat.reduceSub, List.reduceReplicate, List.getElem?_cons_zero, List.getElem?_cons_succ, bok, if_true, eC_ev, sok, gVar_ev, List.set_cons_succ, List.set_cons_zero, Nat.reduceLT, eBin_ev, eLc_ev, iOf_ev, oWalk, wipeE, gTup_ev, gCons_ev, gNil_ev, eLst_ev, eTup_ev, eJoin_ev, iRange1_ev, sRet_ev, sIf_ev, tB_ev, tAnd_ev, tOr_ev, tNot_ev, eNot_ev, eAnd_ev, eIf_ev, sNext_ev, sExpr_ev, sPar_ev, sAug_ev, sAsg2_ev, sFor_ev, and_self, eThaw_ev, thaw_ev, isFlip, isF, e0, oNe_int, decide_true, Bool.not_true, Bool.false_eq_true, if_false, x1, x2, is_number, a1, a2, Bool.and_self, enc0, len_expo, e1, is_mask a3]
theorem chk_in {n : Nat} {items : List D} {r : D} {μ : Store} : ∀ (R : List Deed) (i : Nat) (x y : Option D), i + R.length ≤ 8 → (∀ d ∈ R, OkD n d) → ∃ x' y', forL items none (gTup 2 (gCons (gVar 2) (gCons (gVar 3) (gNil)))) (
  sIf (tOr (tB (eBin oEq (eVar 2) (eC (.int 8)))) (tNot (tB (eCallD 2 M_is_deed (aCons (eVar 3) (aCons (eVar 1) (aNil))))))) (
  sNever) (
  sNext)) (((R.map encD).zipIdx i).map fun p => .tup [.int (p.2 : Nat), p.1]) [some r, some (.int (n : Nat)), x, y] μ = .nx [some r, some (.int (n : Nat)), x', y'] μ
  | [], i, x, y, _, _ => ⟨x, y, by rw [List.map_nil, List.zipIdx_nil, List.map_nil, for_nil]⟩
  | d :: R, i, x, y, hl, hd => by
    simp only [List.length_cons] at hl
    obtain ⟨x', y', e⟩ := chk_in (n := n) (items := items) (r := r) (μ := μ) R (i + 1) (some (.int (i : Nat))) (some (encD d)) (by omega) (fun d h => hd d (by simp [h]))
    refine ⟨x', y', ?_⟩
    rw [List.map_cons, List.zipIdx_cons, List.map_cons, for_cons]
    simp only [mD_ev, sSeq_ev, sAsg_ev, eCallD_ev, eCall_ev, aCons_ev, aNil_ev, eVar_ev, List.map_cons, List.map_nil, List.length_cons, List.length_nil, List.cons_append, List.nil_append, Nat.reduceAdd, Nat.reduceSub, List.reduceReplicate, List.getElem?_cons_zero, List.getElem?_cons_succ, bok, if_true, eC_ev, sok, gVar_ev, List.set_cons_succ, List.set_cons_zero, Nat.reduceLT, eBin_ev, eLc_ev, iOf_ev, oWalk, wipeE, gTup_ev, gCons_ev, gNil_ev, eLst_ev, eTup_ev, eJoin_ev, iRange1_ev, sRet_ev, sIf_ev, tB_ev, tAnd_ev, tOr_ev, tNot_ev, eNot_ev, eAnd_ev, eIf_ev, sNext_ev, sExpr_ev, sPar_ev, sAug_ev, sAsg2_ev, sFor_ev, and_self, eThaw_ev, thaw_ev, oEq_int, show ¬ ((i : Int) = 8) from by omega, decide_false, Bool.false_eq_true, if_false, is_deed (hd d (by simp)), Bool.not_true]
    exact e
theorem check_recipe {R : List Deed} {n : Nat} (hl : R.length ≤ 8) (hd : ∀ d ∈ R, OkD n d) {μ : Store} : M_check_recipe [.tup (R.map encD), .int (n : Nat)] μ = .ok .non μ := by
  obtain ⟨x', y', e⟩ := chk_in (n := n) (items := enumD (R.map encD)) (r := .tup (R.map encD)) (μ := μ) R 0 none none (by omega) hd
  unfold M_check_recipe B_check_recipe
  simp only [mD_ev, sSeq_ev, sAsg_ev, eCallD_ev, eCall_ev, aCons_ev, aNil_ev, eVar_ev, List.map_cons, List.map_nil, List.length_cons, List.length_nil, List.cons_append, List.nil_append, Nat.reduceAdd, Nat.reduceSub, List.reduceReplicate, List.getElem?_cons_zero, List.getElem?_cons_succ, bok, if_true, eC_ev, sok, gVar_ev, List.set_cons_succ, List.set_cons_zero, Nat.reduceLT, eBin_ev, eLc_ev, iOf_ev, oWalk, wipeE, gTup_ev, gCons_ev, gNil_ev, eLst_ev, eTup_ev, eJoin_ev, iRange1_ev, sRet_ev, sIf_ev, tB_ev, tAnd_ev, tOr_ev, tNot_ev, eNot_ev, eAnd_ev, eIf_ev, sNext_ev, sExpr_ev, sPar_ev, sAug_ev, sAsg2_ev, sFor_ev, and_self, eThaw_ev, thaw_ev, iEnumD_ev, oEnum]
  rw [show forL (enumD (R.map encD)) none _ _ (enumD (R.map encD)) _ μ = _ from e]
end K12


set_option Elab.async false
set_option linter.all false
set_option maxRecDepth 100000
set_option autoImplicit false
namespace K12
open PySem L2 Fw
/-! ### the program's functions -/
theorem wrong_side {w h n : Nat} (hs : Sz w h n) {μ : Store} : M_wrong_side [.int (w : Nat), .int (h : Nat)] μ = .ok .non μ := by
  have := hs.w1
  have := hs.w4
  have := hs.h1
  have := hs.h4
  have := hs.n9
  unfold M_wrong_side B_wrong_side
  simp only [mD_ev, sSeq_ev, sAsg_ev, eCallD_ev, eCall_ev, aCons_ev, aNil_ev, eVar_ev, List.map_cons, List.map_nil, List.length_cons, List.length_nil, List.cons_append, List.nil_append, Nat.reduceAdd, Nat.reduceSub, List.reduceReplicate, List.getElem?_cons_zero, List.getElem?_cons_succ, bok, if_true, eC_ev, sok, gVar_ev, List.set_cons_succ, List.set_cons_zero, Nat.reduceLT, eBin_ev, eLc_ev, iOf_ev, oWalk, wipeE, gTup_ev, gCons_ev, gNil_ev, eLst_ev, eTup_ev, eJoin_ev, iRange1_ev, sRet_ev, sIf_ev, tB_ev, tAnd_ev, tOr_ev, tNot_ev, eNot_ev, eAnd_ev, eIf_ev, sNext_ev, sExpr_ev, sPar_ev, sAug_ev, sAsg2_ev, sFor_ev, and_self, eThaw_ev, thaw_ev, is_number, show (1 : Int) ≤ (w : Nat) from by omega, show ((w : Nat) : Int) ≤ 4 from by omega, show (1 : Int) ≤ (h : Nat) from by omega, show ((h : Nat) : Int) ≤ 4 from by omega, decide_true, Bool.and_self, Bool.not_true, Bool.false_eq_true, if_false, mulN hs, oGt_int, show ¬ (9 : Int) < (n : Nat) from by omega, decide_false]
theorem range_n {w h n : Nat} (hs : Sz w h n) {μ : Store} : rangeR (.int (n : Nat)) μ = .ok (rg n, none) μ := rangeR_nat (by have := hs.n9; omega)
theorem lc_range {n : Nat} {items : List D} {v : Nat} {fe : FE} {ρ : Fw.Env} {μ : Store} {f : Nat → D} (hn : n ≤ 1000000) (hv : v < ρ.length) (h : ∀ c < n, fe (ρ.set v (some (.int (c : Nat)))) μ = .ok (f c) μ) :
    lcL items none (gVar v) (fun _ μ => .ok true μ) fe ρ (rg n) μ [] = .ok (.lst ((List.range n).map f)) μ := by
  have := lc_pure (items := items) (g := gVar v) (ft := fun _ μ => .ok true μ) (fe := fe) (ρ := ρ) (μ := μ) (fun _ => true) (fun d => match d with | .int i => f i.toNat | _ => .non) (ds := rg n) (acc := [])
    (by
      intro d hd
      obtain ⟨c, hc, rfl⟩ := List.mem_map.mp hd
      refine ⟨_, by rw [gVar_ev, if_pos hv], rfl, fun _ => ?_⟩
      rw [h c (List.mem_range.mp hc)]; simp)
    (by rw [len_rg]; exact (Nat.zero_add n).symm ▸ hn)
  rw [this]
  have e : (rg n).filter (fun _ => true) = rg n := List.filter_eq_self.mpr (fun _ _ => rfl)
  rw [e]
  simp [rg, Function.comp_def]
def neg (w h : Nat) (T : List Nat) : D := .obj 0 ["columns", "lines", "figures"] [.int (w : Nat), .int (h : Nat), .str T]
theorem ins_neg {w h : Nat} {T : List Nat} {μ : Store} : insOf 0 μ (neg w h T) = some ((["columns", "lines", "figures"] : List Str), ([.int (w : Nat), .int (h : Nat), .str T] : List D)) := (rfl)
theorem fig {w h : Nat} {T : List Nat} : ((["columns", "lines", "figures"] : List Str).zip [D.int (w : Nat), D.int (h : Nat), D.str T]).lookup ("figures" : Str) = some (.str T) := by rfl
theorem col {w h : Nat} {T : List Nat} : ((["columns", "lines", "figures"] : List Str).zip [D.int (w : Nat), D.int (h : Nat), D.str T]).lookup ("columns" : Str) = some (.int (w : Nat)) := by rfl
theorem lenT {n : Nat} {T : List Nat} (ok : OkT n T) (h : n ≤ 9) {μ : Store} : cLen [.str T] μ = .ok (.int (n : Nat)) μ := by
  have hL : T.length ≤ LIM := by rw [ok.1]; show _ ≤ 1000000; omega
  rw [ok.1] at hL
  simp only [cLen, ok.1, hL, if_true]
theorem len_neg {w h n : Nat} (hs : Sz w h n) {T : List Nat} (ok : OkT n T) {μ : Store} : cLenO 0 M_Negativedd__lendd_ [neg w h T] μ = .ok (.int (n : Nat)) μ := by
  have := hs.n9
  have e : M_Negativedd__lendd_ [neg w h T] μ = .ok (.int (n : Nat)) μ := by
    unfold M_Negativedd__lendd_ B_Negativedd__lendd_
    simp only [mD_ev, sSeq_ev, sAsg_ev, eCallD_ev, eCall_ev, aCons_ev, aNil_ev, eVar_ev, List.map_cons, List.map_nil, List.length_cons, List.length_nil, List.cons_append, List.nil_append, Nat.reduceAdd, Nat.reduceSub, List.reduceReplicate, List.getElem?_cons_zero, List.getElem?_cons_succ, bok, if_true, eC_ev, sok, gVar_ev, List.set_cons_succ, List.set_cons_zero, Nat.reduceLT, eBin_ev, eLc_ev, iOf_ev, oWalk, wipeE, gTup_ev, gCons_ev, gNil_ev, eLst_ev, eTup_ev, eJoin_ev, iRange1_ev, sRet_ev, sIf_ev, tB_ev, tAnd_ev, tOr_ev, tNot_ev, eNot_ev, eAnd_ev, eIf_ev, sNext_ev, sExpr_ev, sPar_ev, sAug_ev, sAsg2_ev, sFor_ev, and_self, eThaw_ev, thaw_ev, eFld_ev, ins_neg, fig, lenT ok hs.n9]
  have h2 : (0 : Int) ≤ (n : Nat) ∧ ((n : Nat) : Int) < 1000000 := by omega
  simp only [cLenO, ins_neg, e, bok, h2, and_self, if_true]
theorem lights {w h n : Nat} (hs : Sz w h n) {T : List Nat} (ok : OkT n T) {R : List Deed} (hl : R.length ≤ 8) (hd : ∀ d ∈ R, OkD n d) {μ : Store} :
    M_lights [neg w h T, .tup (R.map encD)] μ = .ok (.tup ((List.range n).map fun c => .int (lt w T R c))) μ := by
  have e1 : ∀ μ, M_Negative_width [neg w h T] μ = .ok (.int (w : Nat)) μ := fun μ => by
    unfold M_Negative_width B_Negative_width
    simp only [mD_ev, sSeq_ev, sAsg_ev, eCallD_ev, eCall_ev, aCons_ev, aNil_ev, eVar_ev, List.map_cons, List.map_nil, List.length_cons, List.length_nil, List.cons_append, List.nil_append, Nat.reduceAdd, Nat.reduceSub, List.reduceReplicate, List.getElem?_cons_zero, List.getElem?_cons_succ, bok, if_true, eC_ev, sok, gVar_ev, List.set_cons_succ, List.set_cons_zero, Nat.reduceLT, eBin_ev, eLc_ev, iOf_ev, oWalk, wipeE, gTup_ev, gCons_ev, gNil_ev, eLst_ev, eTup_ev, eJoin_ev, iRange1_ev, sRet_ev, sIf_ev, tB_ev, tAnd_ev, tOr_ev, tNot_ev, eNot_ev, eAnd_ev, eIf_ev, sNext_ev, sExpr_ev, sPar_ev, sAug_ev, sAsg2_ev, sFor_ev, and_self, eThaw_ev, thaw_ev, eFld_ev, ins_neg, col]
  have e2 : ∀ μ, M_Negative_densities [neg w h T] μ = .ok (.str T) μ := fun μ => by
    unfold M_Negative_densities B_Negative_densities
    simp only [mD_ev, sSeq_ev, sAsg_ev, eCallD_ev, eCall_ev, aCons_ev, aNil_ev, eVar_ev, List.map_cons, List.map_nil, List.length_cons, List.length_nil, List.cons_append, List.nil_append, Nat.reduceAdd, Nat.reduceSub, List.reduceReplicate, List.getElem?_cons_zero, List.getElem?_cons_succ, bok, if_true, eC_ev, sok, gVar_ev, List.set_cons_succ, List.set_cons_zero, Nat.reduceLT, eBin_ev, eLc_ev, iOf_ev, oWalk, wipeE, gTup_ev, gCons_ev, gNil_ev, eLst_ev, eTup_ev, eJoin_ev, iRange1_ev, sRet_ev, sIf_ev, tB_ev, tAnd_ev, tOr_ev, tNot_ev, eNot_ev, eAnd_ev, eIf_ev, sNext_ev, sExpr_ev, sPar_ev, sAug_ev, sAsg2_ev, sFor_ev, and_self, eThaw_ev, thaw_ev, eFld_ev, ins_neg, fig]
  have e := lc_range (items := rg n) (v := 2) (fe := eCallD 4 M_light_of (aCons (eProp 0 M_Negative_width (eVar 0)) (aCons (eProp 0 M_Negative_densities (eVar 0)) (aCons (eVar 1) (aCons (eVar 2) (aNil)))))) (ρ := [some (neg w h T), some (.tup (R.map encD)), none]) (μ := μ) (n := n) (f := fun c => .int (lt w T R c))
    (by have := hs.n9; omega) (by simp) (fun c hc => by simp only [mD_ev, sSeq_ev, sAsg_ev, eCallD_ev, eCall_ev, aCons_ev, aNil_ev, eVar_ev, List.map_cons, List.map_nil, List.length_cons, List.length_nil, List.cons_append, List.nil_append, Nat.reduceAdd, Nat.reduceSub, List.reduceReplicate, List.getElem?_cons_zero, List.getElem?_cons_succ, bok, if_true, eC_ev, sok, gVar_ev, List.set_cons_succ, List.set_cons_zero, Nat.reduceLT, eBin_ev, eLc_ev, iOf_ev, oWalk, wipeE, gTup_ev, gCons_ev, gNil_ev, eLst_ev, eTup_ev, eJoin_ev, iRange1_ev, sRet_ev, sIf_ev, tB_ev, tAnd_ev, tOr_ev, tNot_ev, eNot_ev, eAnd_ev, eIf_ev, sNext_ev, sExpr_ev, sPar_ev, sAug_ev, sAsg2_ev, sFor_ev, and_self, eThaw_ev, thaw_ev, eProp_ev, ins_neg, e1, e2, light_of hs hc ok])
  unfold M_lights B_lights
  simp only [mD_ev, sSeq_ev, sAsg_ev, eCallD_ev, eCall_ev, aCons_ev, aNil_ev, eVar_ev, List.map_cons, List.map_nil, List.length_cons, List.length_nil, List.cons_append, List.nil_append, Nat.reduceAdd, Nat.reduceSub, List.reduceReplicate, List.getElem?_cons_zero, List.getElem?_cons_succ, bok, if_true, eC_ev, sok, gVar_ev, List.set_cons_succ, List.set_cons_zero, Nat.reduceLT, eBin_ev, eLc_ev, iOf_ev, oWalk, wipeE, gTup_ev, gCons_ev, gNil_ev, eLst_ev, eTup_ev, eJoin_ev, iRange1_ev, sRet_ev, sIf_ev, tB_ev, tAnd_ev, tOr_ev, tNot_ev, eNot_ev, eAnd_ev, eIf_ev, sNext_ev, sExpr_ev, sPar_ev, sAug_ev, sAsg2_ev, sFor_ev, and_self, eThaw_ev, thaw_ev, len_neg hs ok, check_recipe hl hd, range_n hs, e, cTuple, seqOf]
theorem blsAll : ∀ {T : List Nat} {p : Nat → Bool}, (∀ c ∈ T, p c = true) → blsOf (T.map fun c => D.bl (p c)) = some (T.map p) ∧ (T.map p).all id = true
  | [], p, _ => ⟨rfl, rfl⟩
  | c :: T, p, h => by
    have := blsAll (T := T) (p := p) (fun c hc => h c (by simp [hc]))
    simp [blsOf, this.1, h c (by simp)]
    simpa using this.2
theorem lc_map {items : List D} {v : Nat} {fe : FE} {ρ : Fw.Env} {μ : Store} {ds : List D} {f : D → D} (hn : ds.length ≤ 1000000) (hv : v < ρ.length) (h : ∀ d ∈ ds, fe (ρ.set v (some d)) μ = .ok (f d) μ) :
    lcL items none (gVar v) (fun _ μ => .ok true μ) fe ρ ds μ [] = .ok (.lst (ds.map f)) μ := by
  have := lc_pure (items := items) (g := gVar v) (ft := fun _ μ => .ok true μ) (fe := fe) (ρ := ρ) (μ := μ) (fun _ => true) f (ds := ds) (acc := [])
    (fun d hd => ⟨_, by rw [gVar_ev, if_pos hv], rfl, fun _ => h d hd⟩)
    (by exact (Nat.zero_add _).symm ▸ hn)
  rw [this]
  have e : ds.filter (fun _ => true) = ds := List.filter_eq_self.mpr (fun _ _ => rfl)
  rw [e]; rfl
theorem wrong_part {w h n : Nat} (hs : Sz w h n) {T : List Nat} (ok : OkT n T) {μ : Store} : M_wrong_part [.int (w : Nat), .int (h : Nat), .str T] μ = .ok .non μ := by
  have e := lc_map (items := T.map fun c => D.str [c]) (v := 4) (fe := eBin (oIn false) (eVar 4) (eC (.str (lit "01234")))) (ρ := [some (.int (w : Nat)), some (.int (h : Nat)), some (.str T), some .non, none]) (μ := μ) (ds := T.map fun c => D.str [c]) (f := fun _ => .bl true)
    (by have := ok.1; have := hs.n9; simp; omega) (by simp) (fun d hd => by
      obtain ⟨c, hc, rfl⟩ := List.mem_map.mp hd
      have := ok.2 c hc
      have : c ∈ [48, 49, 50, 51, 52] := by simp; omega
      simp only [mD_ev, sSeq_ev, sAsg_ev, eCallD_ev, eCall_ev, aCons_ev, aNil_ev, eVar_ev, List.map_cons, List.map_nil, List.length_cons, List.length_nil, List.cons_append, List.nil_append, Nat.reduceAdd, Nat.reduceSub, List.reduceReplicate, List.getElem?_cons_zero, List.getElem?_cons_succ, bok, if_true, eC_ev, sok, gVar_ev, List.set_cons_succ, List.set_cons_zero, Nat.reduceLT, eBin_ev, eLc_ev, iOf_ev, oWalk, wipeE, gTup_ev, gCons_ev, gNil_ev, eLst_ev, eTup_ev, eJoin_ev, iRange1_ev, sRet_ev, sIf_ev, tB_ev, tAnd_ev, tOr_ev, tNot_ev, eNot_ev, eAnd_ev, eIf_ev, sNext_ev, sExpr_ev, sPar_ev, sAug_ev, sAsg2_ev, sFor_ev, and_self, eThaw_ev, thaw_ev, l01234]
      simp only [oIn, this, decide_true, Bool.false_eq_true, if_false])
  have e3 : ∀ μ, cAll [.lst ((T.map fun c => D.str [c]).map fun _ => D.bl true)] μ = .ok (.bl true) μ := fun μ => by
    have := blsAll (T := T) (p := fun _ => true) (fun _ _ => rfl)
    simp only [List.map_map, Function.comp_def, cAll, lstOf, this]
  have e4 : ∀ μ, cLenO 0 M_Negativedd__lendd_ [.str T] μ = .ok (.int (n : Nat)) μ := fun μ => by
    rw [cLenO_ev rfl]; exact lenT ok hs.n9
  unfold M_wrong_part B_wrong_part
  simp only [mD_ev, sSeq_ev, sAsg_ev, eCallD_ev, eCall_ev, aCons_ev, aNil_ev, eVar_ev, List.map_cons, List.map_nil, List.length_cons, List.length_nil, List.cons_append, List.nil_append, Nat.reduceAdd, Nat.reduceSub, List.reduceReplicate, List.getElem?_cons_zero, List.getElem?_cons_succ, bok, if_true, eC_ev, sok, gVar_ev, List.set_cons_succ, List.set_cons_zero, Nat.reduceLT, eBin_ev, eLc_ev, iOf_ev, oWalk, wipeE, gTup_ev, gCons_ev, gNil_ev, eLst_ev, eTup_ev, eJoin_ev, iRange1_ev, sRet_ev, sIf_ev, tB_ev, tAnd_ev, tOr_ev, tNot_ev, eNot_ev, eAnd_ev, eIf_ev, sNext_ev, sExpr_ev, sPar_ev, sAug_ev, sAsg2_ev, sFor_ev, and_self, eThaw_ev, thaw_ev, wrong_side hs, oNotN_ev, D.isNon, Bool.not_true, Bool.false_eq_true, if_false, e4, mulN hs, oNe_int, decide_true, e, e3]
theorem make {w h n : Nat} (hs : Sz w h n) {T : List Nat} (ok : OkT n T) {ρ : Fw.Env} {μ : Store} {fs : FA} (hμ : μ.all (lowC μ.length) = true) (hf : fs ρ μ = .ok [.int (w : Nat), .int (h : Nat), .str T] μ) :
    eMake 0 4 M_Negativedd__initdd_ fs ρ μ = .ok (neg w h T) μ := by
  have e : M_Negativedd__initdd_ [.loc μ.length, .int (w : Nat), .int (h : Nat), .str T] (μ ++ [.ins 0 [] []]) = .ok .non (μ ++ [.ins 0 ["columns", "lines", "figures"] [.int (w : Nat), .int (h : Nat), .str T]]) := by
    have p1 : ∀ e, putNs ("columns" : Str) [] = (["columns"] : List Str) ∧ putXs (α := D) ("columns" : Str) e [] [] = [e] := fun e => ⟨rfl, rfl⟩
    have p2 : ∀ a e, putNs ("lines" : Str) ["columns"] = (["columns", "lines"] : List Str) ∧ putXs (α := D) ("lines" : Str) e ["columns"] [a] = [a, e] := fun a e => ⟨rfl, rfl⟩
    have p3 : ∀ a b e, putNs ("figures" : Str) ["columns", "lines"] = (["columns", "lines", "figures"] : List Str) ∧ putXs (α := D) ("figures" : Str) e ["columns", "lines"] [a, b] = [a, b, e] := fun a b e => ⟨rfl, rfl⟩
    unfold M_Negativedd__initdd_ B_Negativedd__initdd_
    simp only [mD_ev, sSeq_ev, sAsg_ev, eCallD_ev, eCall_ev, aCons_ev, aNil_ev, eVar_ev, List.map_cons, List.map_nil, List.length_cons, List.length_nil, List.cons_append, List.nil_append, Nat.reduceAdd, Nat.reduceSub, List.reduceReplicate, List.getElem?_cons_zero, List.getElem?_cons_succ, bok, if_true, eC_ev, sok, gVar_ev, List.set_cons_succ, List.set_cons_zero, Nat.reduceLT, eBin_ev, eLc_ev, iOf_ev, oWalk, wipeE, gTup_ev, gCons_ev, gNil_ev, eLst_ev, eTup_ev, eJoin_ev, iRange1_ev, sRet_ev, sIf_ev, tB_ev, tAnd_ev, tOr_ev, tNot_ev, eNot_ev, eAnd_ev, eIf_ev, sNext_ev, sExpr_ev, sPar_ev, sAug_ev, sAsg2_ev, sFor_ev, and_self, eThaw_ev, thaw_ev, wrong_part hs ok, oNotN_ev, D.isNon, Bool.not_true, Bool.false_eq_true, if_false, sFld_ev, getElem?_mid, set_mid, (p1 .non).1, (p1 _).2, (p2 .non .non).1, (p2 _ _).2, (p3 .non .non .non).1, (p3 _ _ _).2, true_and]
  rw [eMake_ev, hf]
  have t : (μ ++ [Cell.ins 0 ["columns", "lines", "figures"] [D.int (w : Nat), D.int (h : Nat), D.str T]]).take μ.length = μ := by simp
  simp only [mD_ev, sSeq_ev, sAsg_ev, eCallD_ev, eCall_ev, aCons_ev, aNil_ev, eVar_ev, List.map_cons, List.map_nil, List.length_cons, List.length_nil, List.cons_append, List.nil_append, Nat.reduceAdd, Nat.reduceSub, List.reduceReplicate, List.getElem?_cons_zero, List.getElem?_cons_succ, bok, if_true, eC_ev, sok, gVar_ev, List.set_cons_succ, List.set_cons_zero, Nat.reduceLT, eBin_ev, eLc_ev, iOf_ev, oWalk, wipeE, gTup_ev, gCons_ev, gNil_ev, eLst_ev, eTup_ev, eJoin_ev, iRange1_ev, sRet_ev, sIf_ev, tB_ev, tAnd_ev, tOr_ev, tNot_ev, eNot_ev, eAnd_ev, eIf_ev, sNext_ev, sExpr_ev, sPar_ev, sAug_ev, sAsg2_ev, sFor_ev, and_self, eThaw_ev, thaw_ev, e, getElem?_mid, t, hμ, lows, low, Bool.and_self, decide_true, List.length_append]
  rfl
end K12


set_option Elab.async false
set_option linter.all false
set_option maxRecDepth 100000
set_option autoImplicit false
namespace K12
open PySem L2 Fw
/-! ### places -/
section
variable {μ r l : Store} {a b c : Cell} {ds : List D}
theorem g0 : (μ ++ a :: r)[μ.length]? = some a := by simp
theorem s0 : (μ ++ a :: r).set μ.length c = μ ++ c :: r := by simp
theorem g1 : (μ ++ a :: b :: r)[μ.length + 1]? = some b := by simp
theorem s1 : (μ ++ a :: b :: r).set (μ.length + 1) c = μ ++ a :: c :: r := by simp
theorem isL0 : isL (μ ++ .lst ds :: r) (.loc μ.length) = true := by simp [isL]
theorem isL02 : isL ((μ ++ .lst ds :: r) ++ l) (.loc μ.length) = true := by simp [isL]
theorem isL1 : isL (μ ++ a :: .lst ds :: r) (.loc (μ.length + 1)) = true := by simp [isL]
theorem app0 {e : D} (h : ds.length < LIM) : oApp (.loc μ.length) e (μ ++ .lst ds :: r) = .ok .non (μ ++ .lst (ds ++ [e]) :: r) := by simp [oApp, h]
theorem app02 {e : D} (h : ds.length < LIM) : oApp (.loc μ.length) e ((μ ++ .lst ds :: r) ++ l) = .ok .non (μ ++ .lst (ds ++ [e]) :: (r ++ l)) := by simp [oApp, h]
theorem app1 {e : D} (h : ds.length < LIM) : oApp (.loc (μ.length + 1)) e (μ ++ a :: .lst ds :: r) = .ok .non (μ ++ a :: .lst (ds ++ [e]) :: r) := by simp [oApp, h]
theorem tup0 : cTuple [.loc μ.length] (μ ++ .lst ds :: r) = .ok (.tup ds) (μ ++ .lst ds :: r) := by simp [cTuple, seqOf]
theorem ix0 {i : Int} {d : D} (h : atI ds i = some d) : oIx (.loc μ.length) (.int i) (μ ++ .lst ds :: r) = .ok d (μ ++ .lst ds :: r) := by simp [oIx, seqOf, h]
end
theorem lows_of {n : Nat} {ds : List D} (h : ∀ d ∈ ds, low n d = true) : lows n ds = true := by
  induction ds with
  | nil => rfl
  | cons d ds ih => simp [lows, h d (by simp), ih (fun d m => h d (by simp [m]))]
theorem fin_tup {μ r : Store} {ds : List D} (h : lows μ.length ds = true) (hμ : μ.all (lowC μ.length) = true) : Fw.fin μ.length (.ok (.tup ds) (μ ++ r)) = .ok (.tup ds) μ := by
  simp only [Fw.fin, low, h, List.take_left', hμ, Bool.and_self, if_true]
theorem fin_loc {μ r : Store} {ds : List D} {k : Nat} (hk : (μ ++ r)[μ.length + k]? = some (.lst ds)) (h : lows μ.length ds = true) (hμ : μ.all (lowC μ.length) = true) : Fw.fin μ.length (.ok (.loc (μ.length + k)) (μ ++ r)) = .ok (.lst ds) μ := by
  simp only [Fw.fin, show ¬ (μ.length + k < μ.length) from by omega, if_false, hk, h, List.take_left', hμ, Bool.and_self, if_true]
/-! ### the law's own times -/
theorem times_in {w h n c : Nat} {T : List Nat} (hs : Sz w h n) {items : List D} {r f : D} {σ : Store} : ∀ (R : List Deed) (q : Bool × Int × Int) (x : Option D), ∃ x', forL items none (gVar 6) (
  sSeq (sAsg (gVar 5) (eBin oNe (eVar 5) (eBin oEq (eBin oIx (eVar 6) (eC (.int 0))) (eC (.str (lit "flip")))))) (
  sAsg (gIx (eVar 4) (eCall cInt (aCons (eVar 5) (aNil)))) (eBin oAdd (eBin oIx (eVar 4) (eCall cInt (aCons (eVar 5) (aNil)))) (eCallD 3 M_l_ticks (aCons (eVar 0) (aCons (eVar 6) (aCons (eVar 3) (aNil)))))))) (R.map encD)
   [some (sD w h T), some r, some f, some (.int c), some (.loc σ.length), some (.bl q.1), x] (σ ++ [.lst [.int q.2.1, .int q.2.2]]) =
   .nx [some (sD w h T), some r, some f, some (.int c), some (.loc σ.length), some (.bl (R.foldl (stp w c) q).1), x'] (σ ++ [.lst [.int (R.foldl (stp w c) q).2.1, .int (R.foldl (stp w c) q).2.2]])
  | [], q, x => ⟨x, by rw [List.map_nil, for_nil]; rfl⟩
  | d :: R, (b, s, o), x => by
    obtain ⟨x', e⟩ := times_in hs (items := items) (r := r) (f := f) (σ := σ) (T := T) R (stp w c (b, s, o) d) (some (encD d))
    refine ⟨x', ?_⟩
    rw [List.foldl_cons, ← e, List.map_cons, for_cons]
    have i0 : ∀ a b : Int, oIx (.loc σ.length) (.int 0) (σ ++ [.lst [.int a, .int b]]) = .ok (.int a) (σ ++ [.lst [.int a, .int b]]) := fun a b => ix0 rfl
    have i1 : ∀ a b : Int, oIx (.loc σ.length) (.int 1) (σ ++ [.lst [.int a, .int b]]) = .ok (.int b) (σ ++ [.lst [.int a, .int b]]) := fun a b => ix0 rfl
    have j0 : ixN 2 0 = some 0 := rfl
    have j1 : ixN 2 1 = some 1 := rfl
    cases hb : (b != isF d)
    all_goals
      simp only [mD_ev, sSeq_ev, sAsg_ev, eCallD_ev, eCall_ev, aCons_ev, aNil_ev, eVar_ev, List.map_cons, List.map_nil, List.length_cons, List.length_nil, List.cons_append, List.nil_append, Nat.reduceAdd, Nat.reduceSub, List.reduceReplicate, List.getElem?_cons_zero, List.getElem?_cons_succ, bok, if_true, eC_ev, sok, gVar_ev, List.set_cons_succ, List.set_cons_zero, Nat.reduceLT, eBin_ev, eLc_ev, iOf_ev, oWalk, wipeE, gTup_ev, gCons_ev, gNil_ev, eLst_ev, eTup_ev, eJoin_ev, iRange1_ev, sRet_ev, sIf_ev, tB_ev, tAnd_ev, tOr_ev, tNot_ev, eNot_ev, eAnd_ev, eIf_ev, sNext_ev, sExpr_ev, sPar_ev, sAug_ev, sAsg2_ev, sFor_ev, and_self, eThaw_ev, thaw_ev, enc0, len_flip, isFlip0, oNe_bl, hb, cInt_bl, Bool.false_eq_true, if_false, i0, i1, l_ticks hs, oAdd_int, gIx_ev, g0, j0, j1, s0]
      simp only [stp, hb, Bool.false_eq_true, if_false, if_true]
def pr (w : Nat) (R : List Deed) (c : Nat) : D := .tup [.int (op w R c).2.1, .int (op w R c).2.2]
theorem times_out {w h n : Nat} {T : List Nat} (hs : Sz w h n) {items : List D} {R : List Deed} {μ : Store} : ∀ (L : List Nat) (fs : List D) (junk : Store) (x3 x4 x5 x6 : Option D), fs.length + L.length ≤ 1000 → ∃ y3 y4 y5 y6 junk', forL items none (gVar 3) (
  sSeq (sPar 4 5 (eThaw (eLst (aCons (eC (.int 0)) (aCons (eC (.int 0)) (aNil))))) (eC (.bl false))) (
  sSeq (sFor (iOf (eVar 1)) (gVar 6) (
  sSeq (sAsg (gVar 5) (eBin oNe (eVar 5) (eBin oEq (eBin oIx (eVar 6) (eC (.int 0))) (eC (.str (lit "flip")))))) (
  sAsg (gIx (eVar 4) (eCall cInt (aCons (eVar 5) (aNil)))) (eBin oAdd (eBin oIx (eVar 4) (eCall cInt (aCons (eVar 5) (aNil)))) (eCallD 3 M_l_ticks (aCons (eVar 0) (aCons (eVar 6) (aCons (eVar 3) (aNil))))))))) (
  sExpr (eLm oApp (eVar 2) (eCall cTuple (aCons (eVar 4) (aNil))))))) (L.map fun c => .int (c : Nat)) [some (sD w h T), some (.tup (R.map encD)), some (.loc μ.length), x3, x4, x5, x6] (μ ++ .lst fs :: junk) =
    .nx [some (sD w h T), some (.tup (R.map encD)), some (.loc μ.length), y3, y4, y5, y6] (μ ++ .lst (fs ++ L.map (pr w R)) :: junk')
  | [], fs, junk, x3, x4, x5, x6, _ => ⟨x3, x4, x5, x6, junk, by rw [List.map_nil, for_nil, List.map_nil, List.append_nil]⟩
  | c :: L, fs, junk, x3, x4, x5, x6, hl => by
    simp only [List.length_cons] at hl
    obtain ⟨x', e1⟩ := times_in (c := c) hs (items := R.map encD) (r := .tup (R.map encD)) (f := .loc μ.length) (σ := μ ++ .lst fs :: junk) (T := T) R (false, 0, 0) x6
    obtain ⟨y3, y4, y5, y6, junk', e⟩ := times_out hs (items := items) (R := R) (μ := μ) (T := T) L (fs ++ [pr w R c]) (junk ++ [.lst [.int (op w R c).2.1, .int (op w R c).2.2]]) (some (.int c)) (some (.loc (μ ++ .lst fs :: junk).length)) (some (.bl (op w R c).1)) x' (by simp; omega)
    refine ⟨y3, y4, y5, y6, junk', ?_⟩
    have hL2 : (2 : Nat) ≤ LIM := by decide
    have hf : fs.length < LIM := by show _ < 1000000; omega
    rw [List.map_cons, List.map_cons, show fs ++ pr w R c :: List.map (pr w R) L = fs ++ [pr w R c] ++ List.map (pr w R) L from by simp, ← e, for_cons]
    simp only [mD_ev, sSeq_ev, sAsg_ev, eCallD_ev, eCall_ev, aCons_ev, aNil_ev, eVar_ev, List.map_cons, List.map_nil, List.length_cons, List.length_nil, List.cons_append, List.nil_append, Nat.reduceAdd, Nat.reduceSub, List.reduceReplicate, List.getElem?_cons_zero, List.getElem?_cons_succ, bok, if_true, eC_ev, sok, gVar_ev, List.set_cons_succ, List.set_cons_zero, Nat.reduceLT, eBin_ev, eLc_ev, iOf_ev, oWalk, wipeE, gTup_ev, gCons_ev, gNil_ev, eLst_ev, eTup_ev, eJoin_ev, iRange1_ev, sRet_ev, sIf_ev, tB_ev, tAnd_ev, tOr_ev, tNot_ev, eNot_ev, eAnd_ev, eIf_ev, sNext_ev, sExpr_ev, sPar_ev, sAug_ev, sAsg2_ev, sFor_ev, and_self, eThaw_ev, thaw_ev, hL2, e1, eLm_ev, isL02, tup0, app02 hf]
    rfl
end K12


set_option Elab.async false
set_option linter.all false
set_option maxRecDepth 100000
set_option autoImplicit false
namespace K12
open PySem L2 Fw
/-! ### needless, as the program finds it -/
def way (w : Nat) (R : List Deed) (c : Nat) : D := if mir w c = c then .tup [.int ((op w R c).2.1 + (op w R c).2.2), .int 0] else pr w R c
theorem ways_in {w h n : Nat} (hs : Sz w h n) {items : List D} {R : List Deed} {μ : Store} : ∀ (L : List Nat) (fs : List D) (x4 x5 x6 : Option D), fs.length + L.length ≤ 1000 → ∃ y4 y5 y6, forL items none (gVar 4) (
  sSeq (sAsg (gTup 2 (gCons (gVar 5) (gCons (gVar 6) (gNil)))) (eCallD 3 M_open_pair (aCons (eVar 0) (aCons (eVar 2) (aCons (eVar 4) (aNil)))))) (
  sSeq (sIf (tB (eBin oEq (eCallD 2 M_mirrored (aCons (eVar 4) (aCons (eVar 0) (aNil)))) (eVar 4))) (
  sPar 5 6 (eBin oAdd (eVar 5) (eVar 6)) (eC (.int 0))) (
  sNext)) (
  sExpr (eLm oApp (eVar 3) (eTup (aCons (eVar 5) (aCons (eVar 6) (aNil)))))))) (L.map fun c => .int (c : Nat)) [some (.int (w : Nat)), some (.int (h : Nat)), some (.tup (R.map encD)), some (.loc μ.length), x4, x5, x6] (μ ++ [.lst fs]) =
    .nx [some (.int (w : Nat)), some (.int (h : Nat)), some (.tup (R.map encD)), some (.loc μ.length), y4, y5, y6] (μ ++ [.lst (fs ++ L.map (way w R))])
  | [], fs, x4, x5, x6, _ => ⟨x4, x5, x6, by rw [List.map_nil, for_nil, List.map_nil, List.append_nil]⟩
  | c :: L, fs, x4, x5, x6, hl => by
    simp only [List.length_cons] at hl
    have hL2 : (2 : Nat) ≤ LIM := by decide
    have hf : fs.length < LIM := by show _ < 1000000; omega
    have ce : ∀ a : Nat, decide ((a : Int) = (c : Int)) = decide (a = c) := fun a => by
      rw [Bool.eq_iff_iff]; simp only [decide_eq_true_eq]; omega
    by_cases hm : mir w c = c
    · obtain ⟨y4, y5, y6, e⟩ := ways_in hs (items := items) (R := R) (μ := μ) L (fs ++ [way w R c]) (some (.int c)) (some (.int ((op w R c).2.1 + (op w R c).2.2))) (some (.int 0)) (by simp; omega)
      refine ⟨y4, y5, y6, ?_⟩
      rw [List.map_cons, List.map_cons, show fs ++ way w R c :: List.map (way w R) L = fs ++ [way w R c] ++ List.map (way w R) L from by simp, ← e, for_cons]
      simp only [mD_ev, sSeq_ev, sAsg_ev, eCallD_ev, eCall_ev, aCons_ev, aNil_ev, eVar_ev, List.map_cons, List.map_nil, List.length_cons, List.length_nil, List.cons_append, List.nil_append, Nat.reduceAdd, Nat.reduceSub, List.reduceReplicate, List.getElem?_cons_zero, List.getElem?_cons_succ, bok, if_true, eC_ev, sok, gVar_ev, List.set_cons_succ, List.set_cons_zero, Nat.reduceLT, eBin_ev, eLc_ev, iOf_ev, oWalk, wipeE, gTup_ev, gCons_ev, gNil_ev, eLst_ev, eTup_ev, eJoin_ev, iRange1_ev, sRet_ev, sIf_ev, tB_ev, tAnd_ev, tOr_ev, tNot_ev, eNot_ev, eAnd_ev, eIf_ev, sNext_ev, sExpr_ev, sPar_ev, sAug_ev, sAsg2_ev, sFor_ev, and_self, eThaw_ev, thaw_ev, open_pair hs, mirrored hs, oEq_int, ce, hm, decide_true, oAdd_int, eLm_ev, isL0, hL2, app0 hf]
      rw [way, if_pos hm]
    · obtain ⟨y4, y5, y6, e⟩ := ways_in hs (items := items) (R := R) (μ := μ) L (fs ++ [way w R c]) (some (.int c)) (some (.int (op w R c).2.1)) (some (.int (op w R c).2.2)) (by simp; omega)
      refine ⟨y4, y5, y6, ?_⟩
      rw [List.map_cons, List.map_cons, show fs ++ way w R c :: List.map (way w R) L = fs ++ [way w R c] ++ List.map (way w R) L from by simp, ← e, for_cons]
      simp only [mD_ev, sSeq_ev, sAsg_ev, eCallD_ev, eCall_ev, aCons_ev, aNil_ev, eVar_ev, List.map_cons, List.map_nil, List.length_cons, List.length_nil, List.cons_append, List.nil_append, Nat.reduceAdd, Nat.reduceSub, List.reduceReplicate, List.getElem?_cons_zero, List.getElem?_cons_succ, bok, if_true, eC_ev, sok, gVar_ev, List.set_cons_succ, List.set_cons_zero, Nat.reduceLT, eBin_ev, eLc_ev, iOf_ev, oWalk, wipeE, gTup_ev, gCons_ev, gNil_ev, eLst_ev, eTup_ev, eJoin_ev, iRange1_ev, sRet_ev, sIf_ev, tB_ev, tAnd_ev, tOr_ev, tNot_ev, eNot_ev, eAnd_ev, eIf_ev, sNext_ev, sExpr_ev, sPar_ev, sAug_ev, sAsg2_ev, sFor_ev, and_self, eThaw_ev, thaw_ev, open_pair hs, mirrored hs, oEq_int, ce, hm, decide_false, Bool.false_eq_true, if_false, oAdd_int, eLm_ev, isL0, hL2, app0 hf]
      rw [way, if_neg hm]; rfl
def ways (w n : Nat) (R : List Deed) : List D := (List.range n).map (way w R)
theorem low_way {w c k : Nat} {R : List Deed} : low k (way w R c) = true := by
  unfold way; split <;> rfl
def cut (R : List Deed) (i : Nat) : List Deed := R.take i ++ R.drop (i + 1)
theorem cut_lo {R : List Deed} {i : Nat} (hi : i < R.length) {μ : Store} : oCut (.tup (R.map encD)) none (some (i : Int)) μ = .ok (.tup ((R.take i).map encD)) μ := by
  simp only [oCut, cutD, HT.sIx_none, HT.sIx_nat, List.length_map, List.drop_zero, Nat.sub_zero, Nat.min_eq_left (Nat.le_of_lt hi), List.map_take]
theorem cut_hi {R : List Deed} {i : Nat} (hi : i < R.length) {μ : Store} : oCut (.tup (R.map encD)) (some ((i : Int) + 1)) none μ = .ok (.tup ((R.drop (i + 1)).map encD)) μ := by
  have e : ((i : Int) + 1) = ((i + 1 : Nat) : Int) := by simp
  have e2 : min (i + 1) R.length = i + 1 := Nat.min_eq_left hi
  simp only [oCut, cutD, e, HT.sIx_none, HT.sIx_nat, List.length_map, e2, List.map_drop]
  congr 2
  exact List.take_of_length_le (by simp)
theorem cut_add {R : List Deed} {i : Nat} (hl : R.length ≤ 8) {μ : Store} : oAdd (.tup ((R.take i).map encD)) (.tup ((R.drop (i + 1)).map encD)) μ = .ok (.tup ((cut R i).map encD)) μ := by
  have : ((R.take i).map encD).length + ((R.drop (i + 1)).map encD).length ≤ LIM := by
    show _ ≤ 1000000
    simp only [List.length_map, List.length_take, List.length_drop]; omega
  simp only [oAdd, this, if_true, cut, List.map_append]
theorem pl_ways {w n : Nat} {R : List Deed} : pl 2 (.lst (ways w n R)) = true := by
  have : pls 1 (ways w n R) = true := pls_iff.mpr (by
    intro d hd
    obtain ⟨c, _, rfl⟩ := List.mem_map.mp hd
    unfold way pr; split <;> rfl)
  simpa [pl] using this
theorem eq_ways {w n : Nat} {R S : List Deed} {μ : Store} : oEq (.lst (ways w n R)) (.lst (ways w n S)) μ = .ok (.bl (decide (ways w n R = ways w n S))) μ := by
  rw [oEq_pl (k := 2) (j := 2) (show pl 2 (rd μ (.lst (ways w n R))) = true from pl_ways) (show pl 2 (rd μ (.lst (ways w n S))) = true from pl_ways)]
  simp [rd]
theorem lenR {R : List Deed} {μ : Store} : cLenO 0 M_Negativedd__lendd_ [.tup (R.map encD)] μ = .ok (.int (R.length : Nat)) μ := by
  rw [cLenO_ev rfl]; simp [cLen, seqOf]
def idle (w n : Nat) (R : List Deed) (i : Nat) : Bool := decide (ways w n (cut R i) = ways w n R)
mutual
theorem low_mono {n m : Nat} (h : n ≤ m) : ∀ {d : D}, low n d = true → low m d = true
  | .loc k, e => by simp only [low, decide_eq_true_eq] at e ⊢; omega
  | .tup ds, e => by simp only [low] at e ⊢; exact lows_mono h e
  | .lst ds, e => by simp only [low] at e ⊢; exact lows_mono h e
  | .obj _ _ ds, e => by simp only [low] at e ⊢; exact lows_mono h e
  | .non, _ => rfl
  | .bl _, _ => rfl
  | .int _, _ => rfl
  | .str _, _ => rfl
  | .flst _, _ => rfl
theorem lows_mono {n m : Nat} (h : n ≤ m) : ∀ {ds : List D}, lows n ds = true → lows m ds = true
  | [], _ => rfl
  | d :: ds, e => by
    simp only [lows, Bool.and_eq_true] at e ⊢
    exact ⟨low_mono h e.1, lows_mono h e.2⟩
end
theorem lowC_mono {n m : Nat} (h : n ≤ m) {c : Cell} (e : lowC n c = true) : lowC m c = true := by
  cases c with
  | lst ds => exact lows_mono h e
  | ins _ _ ds => exact lows_mono h e
end K12


set_option Elab.async false
set_option linter.all false
set_option maxRecDepth 100000
set_option autoImplicit false
namespace K12
open PySem L2 Fw
def rowOf (n : Nat) (f : Nat → Int) : List D := (List.range n).map fun c => .int (f c)
theorem len_row {n : Nat} {f : Nat → Int} : (rowOf n f).length = n := by simp [rowOf]
theorem set_row {n k : Nat} {f : Nat → Int} {x : Int} : (rowOf n f).set k (.int x) = rowOf n (fun c => if c = k then x else f c) := by
  apply List.ext_getElem?
  intro i
  rw [List.getElem?_set]
  simp only [rowOf, List.length_map, List.length_range, List.getElem?_map, List.getElem?_range]
  by_cases hk : k = i
  · subst hk
    by_cases hn : k < n <;> simp [hn]
  · rw [if_neg hk]
    by_cases hn : i < n
    · simp [hn, show ¬ i = k from fun e => hk e.symm]
    · simp [hn]
theorem at_row {n k : Nat} {f : Nat → Int} (h : k < n) : atI (rowOf n f) (k : Nat) = some (.int (f k)) := by
  rw [atI_in (by omega) (by rw [len_row]; omega), Int.toNat_natCast]
  simp [rowOf, h]
theorem row_congr {n : Nat} {f g : Nat → Int} (h : ∀ c < n, f c = g c) : rowOf n f = rowOf n g := by
  unfold rowOf
  exact List.map_congr_left fun c hc => by rw [h c (List.mem_range.mp hc)]
def add (w : Nat) (T : List Nat) (b : Bool) (d : Deed) (c : Nat) : Int := tk w c d * W T (if b = true then mir w c else c)
theorem cells_in {w h n : Nat} {S T : List Nat} (hs : Sz w h n) (ok : OkT n T) {items : List D} {r : D} {b : Bool} {d : Deed} {rows : List D} {μ : Store} : ∀ (L : List Nat) (f : Nat → Int) (x7 x8 : Option D), L.Nodup → (∀ c ∈ L, c < n) → ∃ y7 y8, forL items none (gVar 7) (
  sSeq (sAsg (gVar 8) (eBin oIx (eVar 1) (eIf (tB (eVar 4)) (eCallD 2 M_l_mirror (aCons (eVar 0) (aCons (eVar 7) (aNil)))) (eVar 7)))) (
  sAsg (gIx (eVar 3) (eVar 7)) (eBin oAdd (eBin oIx (eVar 3) (eVar 7)) (eBin oMul (eCallD 3 M_l_ticks (aCons (eVar 0) (aCons (eVar 6) (aCons (eVar 7) (aNil))))) (eCallD 1 M_l_weight (aCons (eVar 8) (aNil))))))) (L.map fun c => .int (c : Nat))
   [some (sD w h S), some (.str T), some r, some (.loc μ.length), some (.bl b), some (.loc (μ.length + 1)), some (encD d), x7, x8] (μ ++ [.lst (rowOf n f), .lst rows]) =
   .nx [some (sD w h S), some (.str T), some r, some (.loc μ.length), some (.bl b), some (.loc (μ.length + 1)), some (encD d), y7, y8] (μ ++ [.lst (rowOf n fun c => if c ∈ L then f c + add w T b d c else f c), .lst rows])
  | [], f, x7, x8, _, _ => ⟨x7, x8, by rw [List.map_nil, for_nil]; simp⟩
  | k :: L, f, x7, x8, hn, hk => by
    obtain ⟨hn1, hn2⟩ := List.nodup_cons.mp hn
    have hkk := hk k (by simp)
    have hm := mir_lt hs hkk
    obtain ⟨y7, y8, e⟩ := cells_in hs ok (S := S) (items := items) (r := r) (b := b) (d := d) (rows := rows) (μ := μ) L (fun c => if c = k then f k + add w T b d k else f c) (some (.int k)) (some (.str [T.getD (if b = true then mir w k else k) 48])) hn2 (fun c h => hk c (by simp [h]))
    refine ⟨y7, y8, ?_⟩
    have ee : (rowOf n fun c => if c ∈ L then (if c = k then f k + add w T b d k else f c) + add w T b d c else (if c = k then f k + add w T b d k else f c)) = rowOf n fun c => if c ∈ k :: L then f c + add w T b d c else f c := by
      apply row_congr
      intro c _
      by_cases h1 : c = k
      · subst h1; simp [hn1]
      · simp [h1]
    rw [ee] at e
    rw [List.map_cons, ← e, for_cons]
    have i1 : ixN (rowOf n f).length (k : Nat) = some k := by rw [len_row, ixN_in (by omega) (by omega), Int.toNat_natCast]
    cases b
    · simp only [mD_ev, sSeq_ev, sAsg_ev, eCallD_ev, eCall_ev, aCons_ev, aNil_ev, eVar_ev, List.map_cons, List.map_nil, List.length_cons, List.length_nil, List.cons_append, List.nil_append, Nat.reduceAdd, Nat.reduceSub, List.reduceReplicate, List.getElem?_cons_zero, List.getElem?_cons_succ, bok, if_true, eC_ev, sok, gVar_ev, List.set_cons_succ, List.set_cons_zero, Nat.reduceLT, eBin_ev, eLc_ev, iOf_ev, oWalk, wipeE, gTup_ev, gCons_ev, gNil_ev, eLst_ev, eTup_ev, eJoin_ev, iRange1_ev, sRet_ev, sIf_ev, tB_ev, tAnd_ev, tOr_ev, tNot_ev, eNot_ev, eAnd_ev, eIf_ev, sNext_ev, sExpr_ev, sPar_ev, sAug_ev, sAsg2_ev, sFor_ev, and_self, eThaw_ev, thaw_ev, Bool.false_eq_true, if_false, atT hs ok hkk, ix0 (at_row hkk), l_ticks hs, weight (ch_ok ok hkk), mul_wt, oAdd_int, gIx_ev, g0, i1, s0, set_row]
      simp only [add, Bool.false_eq_true, if_false, W]
    · simp only [mD_ev, sSeq_ev, sAsg_ev, eCallD_ev, eCall_ev, aCons_ev, aNil_ev, eVar_ev, List.map_cons, List.map_nil, List.length_cons, List.length_nil, List.cons_append, List.nil_append, Nat.reduceAdd, Nat.reduceSub, List.reduceReplicate, List.getElem?_cons_zero, List.getElem?_cons_succ, bok, if_true, eC_ev, sok, gVar_ev, List.set_cons_succ, List.set_cons_zero, Nat.reduceLT, eBin_ev, eLc_ev, iOf_ev, oWalk, wipeE, gTup_ev, gCons_ev, gNil_ev, eLst_ev, eTup_ev, eJoin_ev, iRange1_ev, sRet_ev, sIf_ev, tB_ev, tAnd_ev, tOr_ev, tNot_ev, eNot_ev, eAnd_ev, eIf_ev, sNext_ev, sExpr_ev, sPar_ev, sAug_ev, sAsg2_ev, sFor_ev, and_self, eThaw_ev, thaw_ev, l_mirror hs, atT hs ok hm, ix0 (at_row hkk), l_ticks hs, weight (ch_ok ok hm), mul_wt, oAdd_int, gIx_ev, g0, i1, s0, set_row]
      simp only [add, if_true, W]
def val (w : Nat) (T : List Nat) (c : Nat) (q : Bool × Int × Int) : Int := q.2.1 * W T c + q.2.2 * W T (mir w c)
theorem val_stp {w c : Nat} {T : List Nat} {q : Bool × Int × Int} {d : Deed} : val w T c (stp w c q d) = val w T c q + add w T (q.1 != isF d) d c := by
  unfold stp add val
  cases hb : (q.1 != isF d)
  · simp only [Bool.false_eq_true, if_false, Int.add_mul]; omega
  · simp only [if_true, Int.add_mul]; omega
theorem b_stp {w c : Nat} {q : Bool × Int × Int} {d : Deed} : (stp w c q d).1 = (q.1 != isF d) := by
  unfold stp
  cases hb : (q.1 != isF d) <;> simp
theorem rows_out {w h n : Nat} {S T : List Nat} (hs : Sz w h n) (ok : OkT n T) {items : List D} {r : D} {μ : Store} : ∀ (R : List Deed) (b : Bool) (Q : Nat → Bool × Int × Int) (pre : List D) (x6 x7 x8 : Option D), (∀ c, (Q c).1 = b) → pre.length + R.length ≤ 1000 → ∃ b' y6 y7 y8 pre', forL items none (gVar 6) (
  sSeq (sAsg (gVar 4) (eBin oNe (eVar 4) (eBin oEq (eBin oIx (eVar 6) (eC (.int 0))) (eC (.str (lit "flip")))))) (
  sSeq (sFor (iRange1 (eCall (cLenO 0 M_Negativedd__lendd_) (aCons (eVar 3) (aNil)))) (gVar 7) (
  sSeq (sAsg (gVar 8) (eBin oIx (eVar 1) (eIf (tB (eVar 4)) (eCallD 2 M_l_mirror (aCons (eVar 0) (aCons (eVar 7) (aNil)))) (eVar 7)))) (
  sAsg (gIx (eVar 3) (eVar 7)) (eBin oAdd (eBin oIx (eVar 3) (eVar 7)) (eBin oMul (eCallD 3 M_l_ticks (aCons (eVar 0) (aCons (eVar 6) (aCons (eVar 7) (aNil))))) (eCallD 1 M_l_weight (aCons (eVar 8) (aNil)))))))) (
  sExpr (eLm oApp (eVar 5) (eCall cTuple (aCons (eVar 3) (aNil))))))) (R.map encD)
   [some (sD w h S), some (.str T), some r, some (.loc μ.length), some (.bl b), some (.loc (μ.length + 1)), x6, x7, x8] (μ ++ [.lst (rowOf n fun c => val w T c (Q c)), .lst (pre ++ [.tup (rowOf n fun c => val w T c (Q c))])]) =
   .nx [some (sD w h S), some (.str T), some r, some (.loc μ.length), some (.bl b'), some (.loc (μ.length + 1)), y6, y7, y8] (μ ++ [.lst (rowOf n fun c => val w T c (R.foldl (stp w c) (Q c))), .lst (pre' ++ [.tup (rowOf n fun c => val w T c (R.foldl (stp w c) (Q c)))])]) ∧ (∀ d ∈ pre', d ∈ pre ∨ ∃ f, d = .tup (rowOf n f))
  | [], b, Q, pre, x6, x7, x8, _, _ => ⟨b, x6, x7, x8, pre, by rw [List.map_nil, for_nil]; rfl, fun d h => .inl h⟩
  | d :: R, b, Q, pre, x6, x7, x8, hQ, hl => by
    simp only [List.length_cons] at hl
    have h9 := hs.n9
    obtain ⟨y7, y8, e1⟩ := cells_in hs ok (S := S) (items := rg n) (r := r) (b := b != isF d) (d := d) (rows := pre ++ [.tup (rowOf n fun c => val w T c (Q c))]) (μ := μ) (List.range n) (fun c => val w T c (Q c)) x7 x8 List.nodup_range (fun c h => List.mem_range.mp h)
    have ee : (rowOf n fun c => if c ∈ List.range n then val w T c (Q c) + add w T (b != isF d) d c else val w T c (Q c)) = rowOf n fun c => val w T c (stp w c (Q c) d) := by
      apply row_congr
      intro c hc
      rw [if_pos (List.mem_range.mpr hc), val_stp, hQ]
    rw [ee] at e1
    obtain ⟨b', y6, z7, z8, pre', e, hp⟩ := rows_out hs ok (S := S) (items := items) (r := r) (μ := μ) R (b != isF d) (fun c => stp w c (Q c) d) (pre ++ [.tup (rowOf n fun c => val w T c (Q c))]) (some (encD d)) y7 y8 (fun c => by rw [b_stp, hQ]) (by simp; omega)
    refine ⟨b', y6, z7, z8, pre', ?_, fun d' h => ?_⟩
    · simp only [List.foldl_cons]
      rw [← e, List.map_cons, for_cons]
      have hlen : ∀ (f : Nat → Int) (l : Store), cLenO 0 M_Negativedd__lendd_ [.loc μ.length] (μ ++ .lst (rowOf n f) :: l) = .ok (.int (n : Nat)) (μ ++ .lst (rowOf n f) :: l) := fun f l => by
        rw [cLenO_ev (by simp [insOf])]; simp [cLen, seqOf, len_row]
      have hf : (pre ++ [D.tup (rowOf n fun c => val w T c (Q c))]).length < LIM := by rw [List.length_append]; show pre.length + 1 < 1000000; omega
      have e1' := e1
      rw [show (List.range n).map (fun c => D.int (c : Nat)) = rg n from rfl] at e1'
      simp only [mD_ev, sSeq_ev, sAsg_ev, eCallD_ev, eCall_ev, aCons_ev, aNil_ev, eVar_ev, List.map_cons, List.map_nil, List.length_cons, List.length_nil, List.cons_append, List.nil_append, Nat.reduceAdd, Nat.reduceSub, List.reduceReplicate, List.getElem?_cons_zero, List.getElem?_cons_succ, bok, if_true, eC_ev, sok, gVar_ev, List.set_cons_succ, List.set_cons_zero, Nat.reduceLT, eBin_ev, eLc_ev, iOf_ev, oWalk, wipeE, gTup_ev, gCons_ev, gNil_ev, eLst_ev, eTup_ev, eJoin_ev, iRange1_ev, sRet_ev, sIf_ev, tB_ev, tAnd_ev, tOr_ev, tNot_ev, eNot_ev, eAnd_ev, eIf_ev, sNext_ev, sExpr_ev, sPar_ev, sAug_ev, sAsg2_ev, sFor_ev, and_self, eThaw_ev, thaw_ev, enc0, len_flip, isFlip0, oNe_bl, hlen, range_n hs, e1', eLm_ev, isL1, tup0, app1 hf]
    · rcases hp d' h with h | h
      · rcases List.mem_append.mp h with h | h
        · exact .inl h
        · exact .inr ⟨_, by simpa using h⟩
      · exact .inr h
theorem rep0 {n : Nat} : (List.replicate n [D.int 0]).flatten = rowOf n fun _ => 0 := by
  simp [rowOf, List.map_const']
theorem l_rows {w h n : Nat} {S T : List Nat} (hs : Sz w h n) (ok : OkT n T) {R : List Deed} (hl : R.length ≤ 8) {μ : Store} (hμ : μ.all (lowC μ.length) = true) :
    ∃ pre, M_l_rows [sD w h S, .str T, .tup (R.map encD)] μ = .ok (.lst (pre ++ [.tup (rowOf n fun c => lt w T R c)])) μ := by
  have h9 := hs.n9
  obtain ⟨b', y6, y7, y8, pre, e, hp⟩ := rows_out hs ok (S := S) (items := R.map encD) (r := .tup (R.map encD)) (μ := μ) R false (fun _ => (false, 0, 0)) [] none none none (fun _ => rfl) (by simp; omega)
  refine ⟨pre, ?_⟩
  have z : (rowOf n fun c => val w T c (false, 0, 0)) = rowOf n fun _ => 0 := row_congr fun c _ => by simp [val]
  rw [z, List.nil_append] at e
  have hL1 : (1 : Nat) ≤ LIM := by decide
  have e4 : ∀ μ, cLenO 0 M_Negativedd__lendd_ [.str T] μ = .ok (.int (n : Nat)) μ := fun μ => by
    rw [cLenO_ev rfl]; exact lenT ok h9
  have e5 : ∀ μ, oMul (.lst [.int 0]) (.int (n : Nat)) μ = .ok (.lst (rowOf n fun _ => 0)) μ := fun μ => by
    have h1 : ((n : Nat) : Int) ≤ 1000 ∧ (-1000 : Int) ≤ (n : Nat) ∧ ([D.int 0] : List D).length ≤ 1000 := ⟨by omega, by omega, by simp⟩
    simp only [oMul, lstOf, h1, and_self, if_true, Int.toNat_natCast, rep0]
  have l1 : ∀ x : Cell, (μ ++ [x]).length = μ.length + 1 := fun x => by simp
  have a2 : ∀ x y : Cell, (μ ++ [x]) ++ [y] = μ ++ [x, y] := fun x y => by simp
  have e1 : mD 9 B_l_rows [sD w h S, .str T, .tup (R.map encD)] μ = .ok (.loc (μ.length + 1)) (μ ++ [.lst (rowOf n fun c => lt w T R c), .lst (pre ++ [.tup (rowOf n fun c => lt w T R c)])]) := by
    unfold B_l_rows
    simp only [mD_ev, sSeq_ev, sAsg_ev, eCallD_ev, eCall_ev, aCons_ev, aNil_ev, eVar_ev, List.map_cons, List.map_nil, List.length_cons, List.length_nil, List.cons_append, List.nil_append, Nat.reduceAdd, Nat.reduceSub, List.reduceReplicate, List.getElem?_cons_zero, List.getElem?_cons_succ, bok, if_true, eC_ev, sok, gVar_ev, List.set_cons_succ, List.set_cons_zero, Nat.reduceLT, eBin_ev, eLc_ev, iOf_ev, oWalk, wipeE, gTup_ev, gCons_ev, gNil_ev, eLst_ev, eTup_ev, eJoin_ev, iRange1_ev, sRet_ev, sIf_ev, tB_ev, tAnd_ev, tOr_ev, tNot_ev, eNot_ev, eAnd_ev, eIf_ev, sNext_ev, sExpr_ev, sPar_ev, sAug_ev, sAsg2_ev, sFor_ev, and_self, eThaw_ev, thaw_ev, hL1, e4, e5, tup0, l1, a2]
    rw [e]
    simp only [mD_ev, sSeq_ev, sAsg_ev, eCallD_ev, eCall_ev, aCons_ev, aNil_ev, eVar_ev, List.map_cons, List.map_nil, List.length_cons, List.length_nil, List.cons_append, List.nil_append, Nat.reduceAdd, Nat.reduceSub, List.reduceReplicate, List.getElem?_cons_zero, List.getElem?_cons_succ, bok, if_true, eC_ev, sok, gVar_ev, List.set_cons_succ, List.set_cons_zero, Nat.reduceLT, eBin_ev, eLc_ev, iOf_ev, oWalk, wipeE, gTup_ev, gCons_ev, gNil_ev, eLst_ev, eTup_ev, eJoin_ev, iRange1_ev, sRet_ev, sIf_ev, tB_ev, tAnd_ev, tOr_ev, tNot_ev, eNot_ev, eAnd_ev, eIf_ev, sNext_ev, sExpr_ev, sPar_ev, sAug_ev, sAsg2_ev, sFor_ev, and_self, eThaw_ev, thaw_ev]
    rfl
  unfold M_l_rows
  rw [mDf_ev, e1]
  refine fin_loc (by simp) (lows_of ?_) hμ
  have hlow : ∀ f, low μ.length (.tup (rowOf n f)) = true := fun f => by
    simp only [low]
    exact lows_of (by intro d hd; obtain ⟨c, _, rfl⟩ := List.mem_map.mp hd; rfl)
  intro d hd
  rcases List.mem_append.mp hd with hd | hd
  · rcases hp d hd with h | ⟨f, rfl⟩
    · simp at h
    · exact hlow f
  · obtain rfl : d = _ := by simpa using hd
    exact hlow _
theorem last {α : Type} {pre : List α} {x : α} : atI (pre ++ [x]) (-1) = some x := by
  have h1 : ixN (pre ++ [x]).length (-1) = some pre.length := by
    unfold ixN
    rw [if_neg (by omega), if_pos (by simp; omega)]
    congr 1
    simp; omega
  simp only [atI, h1, Option.bind_some]
  simp
theorem pl_row {n : Nat} {f : Nat → Int} : pl 1 (.tup (rowOf n f)) = true := by
  have : pls 0 (rowOf n f) = true := pls_iff.mpr (by intro d hd; obtain ⟨c, _, rfl⟩ := List.mem_map.mp hd; rfl)
  simpa [pl] using this
theorem ne_row {n : Nat} {f g : Nat → Int} {μ : Store} : oNe (.tup (rowOf n f)) (.tup (rowOf n g)) μ = .ok (.bl (!decide (rowOf n f = rowOf n g))) μ := by
  rw [oNe_pl (k := 1) (j := 1) (show pl 1 (rd μ (.tup (rowOf n f))) = true from pl_row) (show pl 1 (rd μ (.tup (rowOf n g))) = true from pl_row)]
  simp [rd]
end K12


set_option Elab.async false
set_option linter.all false
set_option maxRecDepth 100000
set_option autoImplicit false
namespace K12
open PySem L2 Fw

/-! ### steps and tones -/
abbrev nI (L : List Nat) : List D := L.map fun k => .int (k : Nat)
structure OkS (S : List Nat) : Prop where
  ne : 1 ≤ S.length
  le : S.length ≤ 5
  asc : S.Pairwise (· < ·)
  rg : ∀ a ∈ S, 1 ≤ a ∧ a ≤ 9999
theorem intsOf_int : ∀ (L : List Int), intsOf (L.map D.int) = some L
  | [] => rfl
  | i :: L => by simp [intsOf, intsOf_int L]
theorem steps_of {is : List Int} (h : ∀ a ∈ is, 1 ≤ a ∧ a ≤ 9999) (hne : 1 ≤ is.length) (hl : is.length ≤ 5) : ∃ S, OkS S ∧ (sset is).map D.int = nI S := by
  have hm : ∀ a ∈ sset is, 1 ≤ a ∧ a ≤ 9999 := fun a ha => h a (mem_sset.mp ha)
  refine ⟨(sset is).map Int.toNat, ⟨?_, ?_, ?_, ?_⟩, ?_⟩
  · rw [List.length_map]
    cases is with
    | nil => simp at hne
    | cons a r =>
      have : a ∈ sset (a :: r) := mem_sset.mpr (List.mem_cons_self ..)
      exact List.length_pos_of_mem this
  · rw [List.length_map]
    exact Nat.le_trans sset_len hl
  · rw [List.pairwise_map]
    refine List.Pairwise.imp_of_mem (fun {a b} ha hb hab => ?_) (asc_sset (l := is))
    have := hm a ha
    have := hm b hb
    omega
  · intro a ha
    obtain ⟨b, hb, rfl⟩ := List.mem_map.mp ha
    have := hm b hb
    omega
  · rw [nI, List.map_map]
    refine List.map_congr_left fun a ha => ?_
    have := hm a ha
    show D.int a = D.int ((a.toNat : Nat) : Int)
    rw [Int.toNat_of_nonneg (by omega)]
theorem sortSetM_ev {fa : FE} {ρ : Fw.Env} {μ : Store} : eSortSetM fa ρ μ = (fa ρ μ).bind fun d μ1 => match lintsOf μ1 d with
  | some is => if is.length ≤ 1000 ∧ (sset is).length < 64 then .ok (.lst ((sset is).map .int)) μ1 else .stuck
  | none => .stuck := (rfl)
theorem steps {c : Cell} {r : Store} {m : Nat} (h1 : 1 ≤ m) (h5 : m ≤ 5) (hc : Row0 c) : ∃ (S : List Nat) (c' : Cell), M_l_steps [.loc 0, .int (m : Nat)] (c :: r) = .ok (.tup (nI S)) (c' :: r) ∧ Row0 c' ∧ OkS S := by
  obtain ⟨x, c1, e1, hc1, m1⟩ := pick_lst (r := r) (ds := [.int 20, .int 100, .int 600, .int 9999]) hc (by simp) (by simp)
  obtain ⟨top, rfl, t1, t2⟩ : ∃ top : Int, x = .int top ∧ 1 ≤ top ∧ top ≤ 9999 := by
    simp only [List.mem_cons, List.not_mem_nil, or_false] at m1
    rcases m1 with rfl | rfl | rfl | rfl <;> exact ⟨_, rfl, by decide, by decide⟩
  obtain ⟨k, c2, e2, hc2, k0, k1⟩ := taken (r := r) (m := (m : Nat)) hc1 (by omega) (by omega)
  obtain ⟨kn, hk⟩ : ∃ kn : Nat, 1 + k = (kn : Nat) := ⟨(1 + k).toNat, by omega⟩
  obtain ⟨ys, μ', e, ⟨c', rfl, h⟩, f⟩ := lc_all (items := rg kn) (g := gVar 3) (ft := fun _ μ => .ok true μ) (fe := eBin oAdd (eC (.int 1)) (eCallD 2 M_l_taken (aCons (eVar 0) (aCons (eVar 2) (aNil)))))
    (ρ := [some (.loc 0), some (.int (m : Nat)), some (.int top), none]) (fun μ => ∃ c, μ = c :: r ∧ Row0 c) (fun _ y => ∃ i, y = .int i ∧ (1 ≤ i ∧ i ≤ 9999)) (ds := rg kn) (acc := []) (μ := c2 :: r) ⟨c2, rfl, hc2⟩
    (by
      rintro d - _ ⟨c, rfl, hc⟩
      obtain ⟨i, c', e, h, i0, i1⟩ := taken (r := r) (m := top) hc (by omega) (by omega)
      exact ⟨_, _, rfl, _, rfl, .int (1 + i), c' :: r, by simp only [mD_ev, sSeq_ev, sAsg_ev, eCallD_ev, eCall_ev, aCons_ev, aNil_ev, eVar_ev, List.map_cons, List.map_nil, List.length_cons, List.length_nil, List.cons_append, List.nil_append, Nat.reduceAdd, Nat.reduceSub, List.reduceReplicate, List.getElem?_cons_zero, List.getElem?_cons_succ, bok, if_true, eC_ev, sok, gVar_ev, List.set_cons_succ, List.set_cons_zero, Nat.reduceLT, eBin_ev, eLc_ev, iOf_ev, oWalk, wipeE, gTup_ev, gCons_ev, gNil_ev, eLst_ev, eTup_ev, eJoin_ev, iRange1_ev, sRet_ev, sIf_ev, tB_ev, tAnd_ev, tOr_ev, tNot_ev, eNot_ev, eAnd_ev, eIf_ev, sNext_ev, sExpr_ev, sPar_ev, sAug_ev, sAsg2_ev, sFor_ev, and_self, eThaw_ev, thaw_ev, e, oAdd_int], ⟨c', rfl, h⟩, 1 + i, rfl, by omega, by omega⟩)
    (by rw [len_rg]; show 0 + kn ≤ 1000000; omega)
  obtain ⟨is, rfl, hl, hI⟩ := f.map_of (Q := fun i => 1 ≤ i ∧ i ≤ 9999) (f := D.int) (fun _ _ ⟨k, e, m⟩ => ⟨k, e, m⟩)
  rw [len_rg] at hl
  obtain ⟨S, ok, hS⟩ := steps_of hI (by omega) (by omega)
  refine ⟨S, c', ?_, h, ok⟩
  have hr : ∀ μ, rangeR (.int (kn : Nat)) μ = .ok (rg kn, none) μ := fun μ => rangeR_nat (by omega)
  have hL4 : (4 : Nat) ≤ LIM := by decide
  have li : ∀ μ, lintsOf μ (.lst (is.map D.int)) = some is := fun μ => by
    simp only [lintsOf, lstOf, intsOf_int]
  have h64 : is.length ≤ 1000 ∧ (sset is).length < 64 := ⟨by omega, by have := sset_len (l := is); omega⟩
  have ct : ∀ μ, cTuple [.lst (nI S)] μ = .ok (.tup (nI S)) μ := fun μ => rfl
  rw [List.nil_append] at e
  unfold M_l_steps B_l_steps
  simp only [mD_ev, sSeq_ev, sAsg_ev, eCallD_ev, eCall_ev, aCons_ev, aNil_ev, eVar_ev, List.map_cons, List.map_nil, List.length_cons, List.length_nil, List.cons_append, List.nil_append, Nat.reduceAdd, Nat.reduceSub, List.reduceReplicate, List.getElem?_cons_zero, List.getElem?_cons_succ, bok, if_true, eC_ev, sok, gVar_ev, List.set_cons_succ, List.set_cons_zero, Nat.reduceLT, eBin_ev, eLc_ev, iOf_ev, oWalk, wipeE, gTup_ev, gCons_ev, gNil_ev, eLst_ev, eTup_ev, eJoin_ev, iRange1_ev, sRet_ev, sIf_ev, tB_ev, tAnd_ev, tOr_ev, tNot_ev, eNot_ev, eAnd_ev, eIf_ev, sNext_ev, sExpr_ev, sPar_ev, sAug_ev, sAsg2_ev, sFor_ev, and_self, eThaw_ev, thaw_ev, hL4, e1, sortSetM_ev, e2, oAdd_int, hk, hr, e, li, if_pos h64]
  rw [hS, ct]
  simp only [mD_ev, sSeq_ev, sAsg_ev, eCallD_ev, eCall_ev, aCons_ev, aNil_ev, eVar_ev, List.map_cons, List.map_nil, List.length_cons, List.length_nil, List.cons_append, List.nil_append, Nat.reduceAdd, Nat.reduceSub, List.reduceReplicate, List.getElem?_cons_zero, List.getElem?_cons_succ, bok, if_true, eC_ev, sok, gVar_ev, List.set_cons_succ, List.set_cons_zero, Nat.reduceLT, eBin_ev, eLc_ev, iOf_ev, oWalk, wipeE, gTup_ev, gCons_ev, gNil_ev, eLst_ev, eTup_ev, eJoin_ev, iRange1_ev, sRet_ev, sIf_ev, tB_ev, tAnd_ev, tOr_ev, tNot_ev, eNot_ev, eAnd_ev, eIf_ev, sNext_ev, sExpr_ev, sPar_ev, sAug_ev, sAsg2_ev, sFor_ev, and_self, eThaw_ev, thaw_ev]
theorem check_number {v a b : Int} {μ : Store} (h : a ≤ v) (h2 : v ≤ b) : M_check_number [.int v, .int a, .int b] μ = .ok .non μ := by
  unfold M_check_number B_check_number
  simp only [mD_ev, sSeq_ev, sAsg_ev, eCallD_ev, eCall_ev, aCons_ev, aNil_ev, eVar_ev, List.map_cons, List.map_nil, List.length_cons, List.length_nil, List.cons_append, List.nil_append, Nat.reduceAdd, Nat.reduceSub, List.reduceReplicate, List.getElem?_cons_zero, List.getElem?_cons_succ, bok, if_true, eC_ev, sok, gVar_ev, List.set_cons_succ, List.set_cons_zero, Nat.reduceLT, eBin_ev, eLc_ev, iOf_ev, oWalk, wipeE, gTup_ev, gCons_ev, gNil_ev, eLst_ev, eTup_ev, eJoin_ev, iRange1_ev, sRet_ev, sIf_ev, tB_ev, tAnd_ev, tOr_ev, tNot_ev, eNot_ev, eAnd_ev, eIf_ev, sNext_ev, sExpr_ev, sPar_ev, sAug_ev, sAsg2_ev, sFor_ev, and_self, eThaw_ev, thaw_ev, is_number, h, h2, decide_true, Bool.and_self, Bool.not_true, Bool.false_eq_true, if_false]
theorem check_steps {S : List Nat} (ok : OkS S) {μ : Store} : M_check_steps [.tup (nI S)] μ = .ok .non μ := by
  obtain ⟨l', x', e⟩ := asc_in (vs := .tup (nI S)) (n := 10000) (items := nI S) (μ := μ) S 1 none ok.asc (fun k hk => by have := ok.rg k hk; omega)
  have e2 : M_ascends [.tup (nI S), .int 1, .int 9999] μ = .ok (.bl true) μ := by
    rw [show ((1 : Nat) : Int) = 1 from rfl, show ((10000 : Nat) : Int) - 1 = 9999 from rfl] at e
    change forL (nI S) none _ _ (nI S) _ _ = _ at e
    unfold M_ascends B_ascends
    generalize hz : nI S = zz at *
    simp only [mD_ev, sSeq_ev, sAsg_ev, eCallD_ev, eCall_ev, aCons_ev, aNil_ev, eVar_ev, List.map_cons, List.map_nil, List.length_cons, List.length_nil, List.cons_append, List.nil_append, Nat.reduceAdd, Nat.reduceSub, List.reduceReplicate, List.getElem?_cons_zero, List.getElem?_cons_succ, bok, if_true, eC_ev, sok, gVar_ev, List.set_cons_succ, List.set_cons_zero, Nat.reduceLT, eBin_ev, eLc_ev, iOf_ev, oWalk, wipeE, gTup_ev, gCons_ev, gNil_ev, eLst_ev, eTup_ev, eJoin_ev, iRange1_ev, sRet_ev, sIf_ev, tB_ev, tAnd_ev, tOr_ev, tNot_ev, eNot_ev, eAnd_ev, eIf_ev, sNext_ev, sExpr_ev, sPar_ev, sAug_ev, sAsg2_ev, sFor_ev, and_self, eThaw_ev, thaw_ev, e]
  have e3 : ∀ μ, cLenO 0 M_Negativedd__lendd_ [.tup (nI S)] μ = .ok (.int (S.length : Nat)) μ := fun μ => by
    rw [cLenO_ev rfl]
    simp [cLen, seqOf]
  have h1 : (1 : Int) ≤ (S.length : Nat) := by have := ok.ne; omega
  have h5 : ((S.length : Nat) : Int) ≤ 5 := by have := ok.le; omega
  have e4 : M_are_steps [.tup (nI S)] μ = .ok (.bl true) μ := by
    unfold M_are_steps B_are_steps
    generalize hz : nI S = zz at *
    simp only [mD_ev, sSeq_ev, sAsg_ev, eCallD_ev, eCall_ev, aCons_ev, aNil_ev, eVar_ev, List.map_cons, List.map_nil, List.length_cons, List.length_nil, List.cons_append, List.nil_append, Nat.reduceAdd, Nat.reduceSub, List.reduceReplicate, List.getElem?_cons_zero, List.getElem?_cons_succ, bok, if_true, eC_ev, sok, gVar_ev, List.set_cons_succ, List.set_cons_zero, Nat.reduceLT, eBin_ev, eLc_ev, iOf_ev, oWalk, wipeE, gTup_ev, gCons_ev, gNil_ev, eLst_ev, eTup_ev, eJoin_ev, iRange1_ev, sRet_ev, sIf_ev, tB_ev, tAnd_ev, tOr_ev, tNot_ev, eNot_ev, eAnd_ev, eIf_ev, sNext_ev, sExpr_ev, sPar_ev, sAug_ev, sAsg2_ev, sFor_ev, and_self, eThaw_ev, thaw_ev, eChain_ev, e3, oLe_int, h1, h5, decide_true, e2]
  unfold M_check_steps B_check_steps
  generalize hz : nI S = zz at *
  simp only [mD_ev, sSeq_ev, sAsg_ev, eCallD_ev, eCall_ev, aCons_ev, aNil_ev, eVar_ev, List.map_cons, List.map_nil, List.length_cons, List.length_nil, List.cons_append, List.nil_append, Nat.reduceAdd, Nat.reduceSub, List.reduceReplicate, List.getElem?_cons_zero, List.getElem?_cons_succ, bok, if_true, eC_ev, sok, gVar_ev, List.set_cons_succ, List.set_cons_zero, Nat.reduceLT, eBin_ev, eLc_ev, iOf_ev, oWalk, wipeE, gTup_ev, gCons_ev, gNil_ev, eLst_ev, eTup_ev, eJoin_ev, iRange1_ev, sRet_ev, sIf_ev, tB_ev, tAnd_ev, tOr_ev, tNot_ev, eNot_ev, eAnd_ev, eIf_ev, sNext_ev, sExpr_ev, sPar_ev, sAug_ev, sAsg2_ev, sFor_ev, and_self, eThaw_ev, thaw_ev, e4, Bool.not_true, Bool.false_eq_true, if_false]
def tn (S : List Nat) (L : Int) : Nat := (S.filter fun s : Nat => decide ((s : Int) ≤ L)).length
theorem tn_le {S : List Nat} {L : Int} : tn S L ≤ S.length := List.length_filter_le _ _
theorem tn_iff {L : Int} : ∀ {S : List Nat} {i : Nat}, S.Pairwise (· < ·) → i < S.length → (i + 1 ≤ tn S L ↔ (S.getD i 0 : Int) ≤ L)
  | [], i, _, h => by simp at h
  | x :: r, i, hp, hi => by
    obtain ⟨h1, h2⟩ := List.pairwise_cons.mp hp
    by_cases hx : (x : Int) ≤ L
    · have e : tn (x :: r) L = tn r L + 1 := by simp [tn, List.filter_cons, hx]
      rw [e]
      cases i with
      | zero => simp [hx]
      | succ i =>
        have := tn_iff (L := L) (S := r) (i := i) h2 (by simpa using hi)
        simp only [List.getD_cons_succ]
        omega
    · have e : tn (x :: r) L = 0 := by
        have : r.filter (fun s : Nat => decide ((s : Int) ≤ L)) = [] := List.filter_eq_nil_iff.mpr fun a ha => by
          have := h1 a ha
          simp only [decide_eq_true_eq]
          omega
        simp [tn, List.filter_cons, hx, this]
      rw [e]
      cases i with
      | zero => simp [hx]
      | succ i =>
        have hm : r.getD i 0 ∈ r := by
          have : i < r.length := by simpa using hi
          rw [List.getD_eq_getElem?_getD, List.getElem?_eq_getElem this]
          exact List.getElem_mem this
        have := h1 _ hm
        simp only [List.getD_cons_succ]
        omega
theorem str9 {k : Nat} (h : k < 10) {μ : Store} : cStr [.int (k : Nat)] μ = .ok (.str [48 + k]) μ := by
  have : ∀ k, k < 10 → ((k : Nat) : Int).natAbs.log2 < 1920 ∧ strI (k : Nat) = [48 + k] := by decide +kernel
  have := this k h
  simp only [cStr, this.1, if_true, this.2]
theorem int9 {k : Nat} (h : k < 10) {μ : Store} : cInt [.str [48 + k]] μ = .ok (.int (k : Nat)) μ := by
  have : ∀ k, k < 10 → PySem.intText? ⟨[48 + k].toArray⟩ = some ((k : Nat) : Int) := by decide +kernel
  have e := this k h
  simp only [cInt, e]
  rfl
theorem lc_filter {items : List D} {v : Nat} {ft : FT} {ρ : Fw.Env} {μ : Store} {S : List Nat} (p : Nat → Bool) (hn : S.length ≤ 1000000) (hv : v < ρ.length)
    (h : ∀ s ∈ S, ft (ρ.set v (some (.int (s : Nat)))) μ = .ok (p s) μ) : lcL items none (gVar v) ft (eVar v) ρ (nI S) μ [] = .ok (.lst (nI (S.filter p))) μ := by
  have := lc_pure (items := items) (g := gVar v) (ft := ft) (fe := eVar v) (ρ := ρ) (μ := μ) (fun d => match d with | .int i => p i.toNat | _ => false) (fun d => d) (ds := nI S) (acc := [])
    (by
      intro d hd
      obtain ⟨i, hi, rfl⟩ := List.mem_map.mp hd
      refine ⟨_, by rw [gVar_ev, if_pos hv], by rw [h i hi]; simp, fun _ => ?_⟩
      rw [eVar_ev, List.getElem?_set_self hv])
    (by simp; exact hn)
  rw [this, List.map_id', List.nil_append, nI, List.filter_map]
  congr 1
theorem tone_of {S : List Nat} (ok : OkS S) {L : Int} {μ : Store} : M_tone_of [.int L, .tup (nI S)] μ = .ok (.int (tn S L : Nat)) μ := by
  have e := lc_filter (items := nI S) (v := 2) (ft := tB (eBin oLe (eVar 2) (eVar 0))) (ρ := [some (.int L), some (.tup (nI S)), none]) (μ := μ) (S := S) (fun s : Nat => decide ((s : Int) ≤ L)) (by have := ok.le; omega) (by simp) (fun s hs => by simp only [mD_ev, sSeq_ev, sAsg_ev, eCallD_ev, eCall_ev, aCons_ev, aNil_ev, eVar_ev, List.map_cons, List.map_nil, List.length_cons, List.length_nil, List.cons_append, List.nil_append, Nat.reduceAdd, Nat.reduceSub, List.reduceReplicate, List.getElem?_cons_zero, List.getElem?_cons_succ, bok, if_true, eC_ev, sok, gVar_ev, List.set_cons_succ, List.set_cons_zero, Nat.reduceLT, eBin_ev, eLc_ev, iOf_ev, oWalk, wipeE, gTup_ev, gCons_ev, gNil_ev, eLst_ev, eTup_ev, eJoin_ev, iRange1_ev, sRet_ev, sIf_ev, tB_ev, tAnd_ev, tOr_ev, tNot_ev, eNot_ev, eAnd_ev, eIf_ev, sNext_ev, sExpr_ev, sPar_ev, sAug_ev, sAsg2_ev, sFor_ev, and_self, eThaw_ev, thaw_ev, oLe_int])
  have e3 : ∀ μ, cLenO 0 M_Negativedd__lendd_ [.lst (nI (S.filter fun s : Nat => decide ((s : Int) ≤ L)))] μ = .ok (.int (tn S L : Nat)) μ := fun μ => by
    rw [cLenO_ev rfl]
    simp [cLen, seqOf, tn]
  unfold M_tone_of B_tone_of
  generalize hz : nI (S.filter fun s : Nat => decide ((s : Int) ≤ L)) = zz at *
  generalize hy : nI S = yy at *
  simp only [mD_ev, sSeq_ev, sAsg_ev, eCallD_ev, eCall_ev, aCons_ev, aNil_ev, eVar_ev, List.map_cons, List.map_nil, List.length_cons, List.length_nil, List.cons_append, List.nil_append, Nat.reduceAdd, Nat.reduceSub, List.reduceReplicate, List.getElem?_cons_zero, List.getElem?_cons_succ, bok, if_true, eC_ev, sok, gVar_ev, List.set_cons_succ, List.set_cons_zero, Nat.reduceLT, eBin_ev, eLc_ev, iOf_ev, oWalk, wipeE, gTup_ev, gCons_ev, gNil_ev, eLst_ev, eTup_ev, eJoin_ev, iRange1_ev, sRet_ev, sIf_ev, tB_ev, tAnd_ev, tOr_ev, tNot_ev, eNot_ev, eAnd_ev, eIf_ev, sNext_ev, sExpr_ev, sPar_ev, sAug_ev, sAsg2_ev, sFor_ev, and_self, eThaw_ev, thaw_ev, e, e3]
theorem l_tone {S : List Nat} (ok : OkS S) {L : Int} {μ : Store} : M_l_tone [.tup (nI S), .int L] μ = .ok (.str [48 + tn S L]) μ := by
  have e := lc_filter (items := nI S) (v := 2) (ft := tB (eBin oGe (eVar 1) (eVar 2))) (ρ := [some (.tup (nI S)), some (.int L), none]) (μ := μ) (S := S) (fun s : Nat => decide ((s : Int) ≤ L)) (by have := ok.le; omega) (by simp) (fun s hs => by simp only [mD_ev, sSeq_ev, sAsg_ev, eCallD_ev, eCall_ev, aCons_ev, aNil_ev, eVar_ev, List.map_cons, List.map_nil, List.length_cons, List.length_nil, List.cons_append, List.nil_append, Nat.reduceAdd, Nat.reduceSub, List.reduceReplicate, List.getElem?_cons_zero, List.getElem?_cons_succ, bok, if_true, eC_ev, sok, gVar_ev, List.set_cons_succ, List.set_cons_zero, Nat.reduceLT, eBin_ev, eLc_ev, iOf_ev, oWalk, wipeE, gTup_ev, gCons_ev, gNil_ev, eLst_ev, eTup_ev, eJoin_ev, iRange1_ev, sRet_ev, sIf_ev, tB_ev, tAnd_ev, tOr_ev, tNot_ev, eNot_ev, eAnd_ev, eIf_ev, sNext_ev, sExpr_ev, sPar_ev, sAug_ev, sAsg2_ev, sFor_ev, and_self, eThaw_ev, thaw_ev, oGe_int])
  have e3 : ∀ μ, cLenO 0 M_Negativedd__lendd_ [.lst (nI (S.filter fun s : Nat => decide ((s : Int) ≤ L)))] μ = .ok (.int (tn S L : Nat)) μ := fun μ => by
    rw [cLenO_ev rfl]
    simp [cLen, seqOf, tn]
  have h10 : tn S L < 10 := by have := tn_le (S := S) (L := L); have := ok.le; omega
  unfold M_l_tone B_l_tone
  generalize hz : nI (S.filter fun s : Nat => decide ((s : Int) ≤ L)) = zz at *
  generalize hy : nI S = yy at *
  simp only [mD_ev, sSeq_ev, sAsg_ev, eCallD_ev, eCall_ev, aCons_ev, aNil_ev, eVar_ev, List.map_cons, List.map_nil, List.length_cons, List.length_nil, List.cons_append, List.nil_append, Nat.reduceAdd, Nat.reduceSub, List.reduceReplicate, List.getElem?_cons_zero, List.getElem?_cons_succ, bok, if_true, eC_ev, sok, gVar_ev, List.set_cons_succ, List.set_cons_zero, Nat.reduceLT, eBin_ev, eLc_ev, iOf_ev, oWalk, wipeE, gTup_ev, gCons_ev, gNil_ev, eLst_ev, eTup_ev, eJoin_ev, iRange1_ev, sRet_ev, sIf_ev, tB_ev, tAnd_ev, tOr_ev, tNot_ev, eNot_ev, eAnd_ev, eIf_ev, sNext_ev, sExpr_ev, sPar_ev, sAug_ev, sAsg2_ev, sFor_ev, and_self, eThaw_ev, thaw_ev, e, e3, str9 h10]
theorem printed {w h n : Nat} (hs : Sz w h n) {T : List Nat} (okT : OkT n T) {S : List Nat} (ok : OkS S) {R : List Deed} (hl : R.length ≤ 8) (hd : ∀ d ∈ R, OkD n d) {μ : Store} :
    M_printed [neg w h T, .tup (nI S), .tup (R.map encD)] μ = .ok (.str ((List.range n).map fun c => 48 + tn S (lt w T R c))) μ := by
  have h9 := hs.n9
  have e := lc_map (items := (List.range n).map fun c => D.int (lt w T R c)) (v := 3) (fe := eCall cStr (aCons (eCallD 2 M_tone_of (aCons (eVar 3) (aCons (eVar 1) (aNil)))) (aNil))) (ρ := [some (neg w h T), some (.tup (nI S)), some (.tup (R.map encD)), none]) (μ := μ)
    (ds := (List.range n).map fun c => D.int (lt w T R c)) (f := fun d => match d with | .int L => .str [48 + tn S L] | _ => .non) (by simp; omega) (by simp)
    (fun d hd => by
      obtain ⟨c, hc, rfl⟩ := List.mem_map.mp hd
      have h10 : tn S (lt w T R c) < 10 := by have := tn_le (S := S) (L := lt w T R c); have := ok.le; omega
      have t := fun μ => tone_of ok (L := lt w T R c) (μ := μ)
      generalize hy : nI S = yy at *
      simp only [mD_ev, sSeq_ev, sAsg_ev, eCallD_ev, eCall_ev, aCons_ev, aNil_ev, eVar_ev, List.map_cons, List.map_nil, List.length_cons, List.length_nil, List.cons_append, List.nil_append, Nat.reduceAdd, Nat.reduceSub, List.reduceReplicate, List.getElem?_cons_zero, List.getElem?_cons_succ, bok, if_true, eC_ev, sok, gVar_ev, List.set_cons_succ, List.set_cons_zero, Nat.reduceLT, eBin_ev, eLc_ev, iOf_ev, oWalk, wipeE, gTup_ev, gCons_ev, gNil_ev, eLst_ev, eTup_ev, eJoin_ev, iRange1_ev, sRet_ev, sIf_ev, tB_ev, tAnd_ev, tOr_ev, tNot_ev, eNot_ev, eAnd_ev, eIf_ev, sNext_ev, sExpr_ev, sPar_ev, sAug_ev, sAsg2_ev, sFor_ev, and_self, eThaw_ev, thaw_ev, t, str9 h10])
  have e2 : (((List.range n).map fun c => D.int (lt w T R c)).map fun d => match d with | .int L => D.str [48 + tn S L] | _ => .non) = ((List.range n).map fun c => 48 + tn S (lt w T R c)).map fun c => .str [c] := by
    rw [List.map_map, List.map_map]
    rfl
  rw [e2] at e
  have hT : ((List.range n).map fun c => 48 + tn S (lt w T R c)).length ≤ LIM := by simp; show _ ≤ 1000000; omega
  have li := fun μ => lights hs okT hl hd (μ := μ)
  have cs := fun μ => check_steps ok (μ := μ)
  have jo := fun μ => oJoin_one hT (μ := μ)
  generalize ((List.range n).map fun c => 48 + tn S (lt w T R c)) = tt at *
  generalize ((List.range n).map fun c => D.int (lt w T R c)) = dd at *
  generalize (tt.map fun c => D.str [c]) = cc at *
  generalize hy : nI S = yy at *
  generalize R.map encD = rr at *
  unfold M_printed B_printed
  simp only [mD_ev, sSeq_ev, sAsg_ev, eCallD_ev, eCall_ev, aCons_ev, aNil_ev, eVar_ev, List.map_cons, List.map_nil, List.length_cons, List.length_nil, List.cons_append, List.nil_append, Nat.reduceAdd, Nat.reduceSub, List.reduceReplicate, List.getElem?_cons_zero, List.getElem?_cons_succ, bok, if_true, eC_ev, sok, gVar_ev, List.set_cons_succ, List.set_cons_zero, Nat.reduceLT, eBin_ev, eLc_ev, iOf_ev, oWalk, wipeE, gTup_ev, gCons_ev, gNil_ev, eLst_ev, eTup_ev, eJoin_ev, iRange1_ev, sRet_ev, sIf_ev, tB_ev, tAnd_ev, tOr_ev, tNot_ev, eNot_ev, eAnd_ev, eIf_ev, sNext_ev, sExpr_ev, sPar_ev, sAug_ev, sAsg2_ev, sFor_ev, and_self, eThaw_ev, thaw_ev, cs, li, e, lE, jo]
end K12


set_option Elab.async false
set_option linter.all false
set_option maxRecDepth 100000
set_option autoImplicit false
namespace K12
open PySem L2 Fw

/-! ### mixed texts -/
abbrev cS (L : List Nat) : List D := L.map fun c => .str [c]
theorem erase_map {α β : Type} {f : α → β} : ∀ {L : List α} {j : Nat}, (L.map f).eraseIdx j = (L.eraseIdx j).map f
  | [], _ => rfl
  | a :: L, 0 => rfl
  | a :: L, j + 1 => by simp [List.eraseIdx_cons_succ, erase_map (L := L) (j := j)]
theorem pl_cS {L : List Nat} (h : ∀ c ∈ L, c < 1000) : pl 1 (.lst (cS L)) = true := by
  have : pls 0 (cS L) = true := pls_iff.mpr (by
    intro d hd
    obtain ⟨c, hc, rfl⟩ := List.mem_map.mp hd
    have := h c hc
    simp [pl]
    omega)
  simpa [pl] using this
theorem mixed_in {Q : Nat → Prop} (hQ : ∀ c, Q c → c < 1000) {t : D} : ∀ (m : Nat) (L F : List Nat) (c : Cell), L.length < m → L.length + F.length ≤ 100 → Row0 c → (∀ d ∈ L, Q d) → (∀ d ∈ F, Q d) → ∃ (F' : List Nat) (c' : Cell), whileL (tB (eBin oNe (eVar 2) (eLst (aNil)))) (
  sExpr (eLm oApp (eVar 3) (eLm oPopAt (eVar 2) (eCallD 2 M_l_taken (aCons (eVar 0) (aCons (eCall (cLenO 0 M_Negativedd__lendd_) (aCons (eVar 2) (aNil))) (aNil))))))) m [some (.loc 0), some t, some (.loc 1), some (.loc 2)] [c, .lst (cS L), .lst (cS F)] = .nx [some (.loc 0), some t, some (.loc 1), some (.loc 2)] [c', .lst [], .lst (cS F')] ∧ Row0 c' ∧ (∀ d ∈ F', Q d) ∧ F'.length = L.length + F.length
  | 0, L, F, c, h, _, _, _, _ => absurd h (by omega)
  | m + 1, L, F, c, h, hl, hc, hL, hF => by
    have hL0 : (0 : Nat) ≤ LIM := Nat.zero_le _
    have e1 : tB (eBin oNe (eVar 2) (eLst (aNil))) [some (.loc 0), some t, some (.loc 1), some (.loc 2)] [c, .lst (cS L), .lst (cS F)] = .ok (!decide (L = [])) [c, .lst (cS L), .lst (cS F)] := by
      have : oNe (.loc 1) (.lst []) [c, .lst (cS L), .lst (cS F)] = .ok (.bl (!decide (L = []))) [c, .lst (cS L), .lst (cS F)] := by
        rw [oNe_pl (k := 1) (j := 1) (show pl 1 (rd [c, .lst (cS L), .lst (cS F)] (.loc 1)) = true from pl_cS fun d hd => hQ d (hL d hd)) rfl]
        congr 3
        show decide (D.lst (cS L) = D.lst []) = decide (L = [])
        rw [Bool.eq_iff_iff]; simp
      generalize cS L = ll at *
      generalize cS F = ff at *
      simp only [mD_ev, sSeq_ev, sAsg_ev, eCallD_ev, eCall_ev, aCons_ev, aNil_ev, eVar_ev, List.map_cons, List.map_nil, List.length_cons, List.length_nil, List.cons_append, List.nil_append, Nat.reduceAdd, Nat.reduceSub, List.reduceReplicate, List.getElem?_cons_zero, List.getElem?_cons_succ, bok, if_true, eC_ev, sok, gVar_ev, List.set_cons_succ, List.set_cons_zero, Nat.reduceLT, eBin_ev, eLc_ev, iOf_ev, oWalk, wipeE, gTup_ev, gCons_ev, gNil_ev, eLst_ev, eTup_ev, eJoin_ev, iRange1_ev, sRet_ev, sIf_ev, tB_ev, tAnd_ev, tOr_ev, tNot_ev, eNot_ev, eAnd_ev, eIf_ev, sNext_ev, sExpr_ev, sPar_ev, sAug_ev, sAsg2_ev, sFor_ev, and_self, eThaw_ev, thaw_ev, hL0, this]
    rw [whileL, e1, sok]
    cases L with
    | nil => exact ⟨F, c, by simp, hc, hF, by simp⟩
    | cons d0 L0 =>
      obtain ⟨k, c1, e2, h1, k0, k1⟩ := taken (r := [.lst (cS (d0 :: L0)), .lst (cS F)]) (m := ((d0 :: L0).length : Nat)) hc (by simp only [List.length_cons]; omega) (by simp only [List.length_cons] at hl ⊢; omega)
      obtain ⟨j, rfl⟩ := Int.eq_ofNat_of_zero_le k0
      have hj : j < (d0 :: L0).length := by omega
      have e3 : oPopAt (.loc 1) (.int (j : Nat)) [c1, .lst (cS (d0 :: L0)), .lst (cS F)] = .ok (.str [(d0 :: L0)[j]]) [c1, .lst (cS ((d0 :: L0).eraseIdx j)), .lst (cS F)] := by
        have a1 : (0 : Int) ≤ (j : Nat) ∧ ((j : Nat) : Int) ≤ (LIM : Nat) := ⟨by omega, by show _ ≤ ((1000000 : Nat) : Int); omega⟩
        have a2 : (cS (d0 :: L0))[j]? = some (.str [(d0 :: L0)[j]]) := by rw [List.getElem?_map, List.getElem?_eq_getElem hj]; rfl
        have a3 : (cS (d0 :: L0)).eraseIdx j = cS ((d0 :: L0).eraseIdx j) := erase_map
        simp only [oPopAt, List.getElem?_cons_succ, List.getElem?_cons_zero, Int.toNat_natCast, a1, and_self, if_true, a2, a3, List.set_cons_succ, List.set_cons_zero]
      have hle : ((d0 :: L0).eraseIdx j).length + 1 = (d0 :: L0).length := by rw [List.length_eraseIdx_of_lt hj]; simp
      obtain ⟨F', c', e, h', hF', hlen⟩ := mixed_in hQ (t := t) m ((d0 :: L0).eraseIdx j) (F ++ [(d0 :: L0)[j]]) c1 (by omega) (by simp only [List.length_append, List.length_cons, List.length_nil] at hl hle ⊢; omega) h1 (fun d hd => hL d (List.mem_of_mem_eraseIdx hd)) (fun d hd => by
        rcases List.mem_append.mp hd with hd | hd
        · exact hF d hd
        · obtain rfl : d = _ := by simpa using hd
          exact hL _ (List.getElem_mem hj))
      refine ⟨F', c', ?_, h', hF', by rw [hlen]; simp only [List.length_append, List.length_cons, List.length_nil] at hle ⊢; omega⟩
      have hf : (cS F).length < LIM := by rw [List.length_map]; show _ < 1000000; omega
      have e4 : oApp (.loc 2) (.str [(d0 :: L0)[j]]) [c1, .lst (cS ((d0 :: L0).eraseIdx j)), .lst (cS F)] = .ok .non [c1, .lst (cS ((d0 :: L0).eraseIdx j)), .lst (cS (F ++ [(d0 :: L0)[j]]))] := by
        simp only [oApp, List.getElem?_cons_succ, List.getElem?_cons_zero, hf, if_true, List.set_cons_succ, List.set_cons_zero, List.map_append, List.map_cons, List.map_nil]
      have e5 : cLenO 0 M_Negativedd__lendd_ [.loc 1] [c, .lst (cS (d0 :: L0)), .lst (cS F)] = .ok (.int ((d0 :: L0).length : Nat)) [c, .lst (cS (d0 :: L0)), .lst (cS F)] := by
        rw [cLenO_ev rfl]
        simp [cLen, seqOf]
      have i1 : ∀ (a : Cell) (b : List D) (x : List D), isL [a, .lst x, .lst b] (.loc 1) = true := fun a b x => rfl
      have i2 : ∀ (a : Cell) (b : List D) (x : List D), isL [a, .lst x, .lst b] (.loc 2) = true := fun a b x => rfl
      have e6 : sExpr (eLm oApp (eVar 3) (eLm oPopAt (eVar 2) (eCallD 2 M_l_taken (aCons (eVar 0) (aCons (eCall (cLenO 0 M_Negativedd__lendd_) (aCons (eVar 2) (aNil))) (aNil)))))) [some (.loc 0), some t, some (.loc 1), some (.loc 2)] [c, .lst (cS (d0 :: L0)), .lst (cS F)] = .nx [some (.loc 0), some t, some (.loc 1), some (.loc 2)] [c1, .lst (cS ((d0 :: L0).eraseIdx j)), .lst (cS (F ++ [(d0 :: L0)[j]]))] := by
        simp only [sExpr_ev, eLm_ev, eVar_ev, List.getElem?_cons_succ, List.getElem?_cons_zero, bok, i2, i1, if_true, eCallD_ev, aCons_ev, aNil_ev, eCall_ev, e5, List.length_cons, List.length_nil, Nat.reduceAdd]
        simp only [List.length_cons] at e2
        rw [e2]
        simp only [bok, e3, e4, sok]
      rw [if_pos (by simp), e6]
      exact e
/-! ### goals -/
structure OkG (n m : Nat) (G : List Nat) : Prop where
  len : G.length = n
  ch : ∀ c ∈ G, 48 ≤ c ∧ c ≤ 48 + m
theorem l_print {n : Nat} (h9 : n ≤ 9) {S : List Nat} (ok : OkS S) {f : Nat → Int} {μ : Store} : M_l_print [.tup (nI S), .tup (rowOf n f)] μ = .ok (.str ((List.range n).map fun c => 48 + tn S (f c))) μ := by
  have lt := fun (L : Int) μ => l_tone ok (L := L) (μ := μ)
  have e := lc_map (items := rowOf n f) (v := 2) (fe := eCallD 2 M_l_tone (aCons (eVar 0) (aCons (eVar 2) (aNil)))) (ρ := [some (.tup (nI S)), some (.tup (rowOf n f)), none]) (μ := μ) (ds := rowOf n f) (f := fun d => match d with | .int L => .str [48 + tn S L] | _ => .non) (by rw [len_row]; omega) (by simp)
    (fun d hd => by
      obtain ⟨c, hc, rfl⟩ := List.mem_map.mp hd
      generalize hy : nI S = yy at *
      simp only [mD_ev, sSeq_ev, sAsg_ev, eCallD_ev, eCall_ev, aCons_ev, aNil_ev, eVar_ev, List.map_cons, List.map_nil, List.length_cons, List.length_nil, List.cons_append, List.nil_append, Nat.reduceAdd, Nat.reduceSub, List.reduceReplicate, List.getElem?_cons_zero, List.getElem?_cons_succ, bok, if_true, eC_ev, sok, gVar_ev, List.set_cons_succ, List.set_cons_zero, Nat.reduceLT, eBin_ev, eLc_ev, iOf_ev, oWalk, wipeE, gTup_ev, gCons_ev, gNil_ev, eLst_ev, eTup_ev, eJoin_ev, iRange1_ev, sRet_ev, sIf_ev, tB_ev, tAnd_ev, tOr_ev, tNot_ev, eNot_ev, eAnd_ev, eIf_ev, sNext_ev, sExpr_ev, sPar_ev, sAug_ev, sAsg2_ev, sFor_ev, and_self, eThaw_ev, thaw_ev, lt])
  have e2 : ((rowOf n f).map fun d => match d with | .int L => D.str [48 + tn S L] | _ => .non) = ((List.range n).map fun c => 48 + tn S (f c)).map fun c => .str [c] := by
    rw [rowOf, List.map_map, List.map_map]
    rfl
  rw [e2] at e
  have hT : ((List.range n).map fun c => 48 + tn S (f c)).length ≤ LIM := by simp; show _ ≤ 1000000; omega
  have jo := fun μ => oJoin_one hT (μ := μ)
  generalize ((List.range n).map fun c => 48 + tn S (f c)) = tt at *
  generalize (tt.map fun c => D.str [c]) = cc at *
  generalize rowOf n f = rr at *
  generalize hy : nI S = yy at *
  unfold M_l_print B_l_print
  simp only [mD_ev, sSeq_ev, sAsg_ev, eCallD_ev, eCall_ev, aCons_ev, aNil_ev, eVar_ev, List.map_cons, List.map_nil, List.length_cons, List.length_nil, List.cons_append, List.nil_append, Nat.reduceAdd, Nat.reduceSub, List.reduceReplicate, List.getElem?_cons_zero, List.getElem?_cons_succ, bok, if_true, eC_ev, sok, gVar_ev, List.set_cons_succ, List.set_cons_zero, Nat.reduceLT, eBin_ev, eLc_ev, iOf_ev, oWalk, wipeE, gTup_ev, gCons_ev, gNil_ev, eLst_ev, eTup_ev, eJoin_ev, iRange1_ev, sRet_ev, sIf_ev, tB_ev, tAnd_ev, tOr_ev, tNot_ev, eNot_ev, eAnd_ev, eIf_ev, sNext_ev, sExpr_ev, sPar_ev, sAug_ev, sAsg2_ev, sFor_ev, and_self, eThaw_ev, thaw_ev, e, lE, jo]
theorem okG_print {n : Nat} {S : List Nat} {f : Nat → Int} : OkG n S.length ((List.range n).map fun c => 48 + tn S (f c)) := ⟨by simp, fun c hc => by
  obtain ⟨d, _, rfl⟩ := List.mem_map.mp hc
  have := tn_le (S := S) (L := f d)
  show 48 ≤ 48 + tn S (f d) ∧ 48 + tn S (f d) ≤ 48 + S.length
  omega⟩
theorem eq_G {n m : Nat} (hm : m ≤ 5) {A B : List Nat} (ha : OkG n m A) (hb : OkG n m B) {μ : Store} : oEq (.str A) (.str B) μ = .ok (.bl (decide (A = B))) μ :=
  oEq_str (by simp; intro c hc; have := ha.ch c hc; omega) (by simp; intro c hc; have := hb.ch c hc; omega)
theorem cut_tones {m : Nat} (h1 : 1 ≤ m) (h5 : m ≤ 5) {μ : Store} : oCut (.str [48, 49, 50, 51, 52, 53]) none (some ((m : Int) + 1)) μ = .ok (.str ((List.range (m + 1)).map fun i => 48 + i)) μ := by
  obtain rfl | rfl | rfl | rfl | rfl : m = 1 ∨ m = 2 ∨ m = 3 ∨ m = 4 ∨ m = 5 := by omega
  all_goals rfl
@[simp] theorem l012345 : lit "012345" = [48, 49, 50, 51, 52, 53] := by decide +kernel
/-! ### the draws -/
abbrev tD (q : Nat × Nat) : D := .tup [.int (q.1 : Nat), .int (q.2 : Nat)]
abbrev pr2 (w n : Nat) (T S : List Nat) (t p : Nat) : List Nat := (List.range n).map fun c => 48 + tn S (lt w T [Deed.draw (t : Nat) (p : Nat)] c)
def hits (w n : Nat) (T S G : List Nat) (t : Nat) (ps : List Nat) : List (Nat × Nat) := (ps.filter fun p => decide (pr2 w n T S t p = G)).map fun p => (t, p)
def r20 : List Nat := List.range' 1 20
theorem r20_in : ∀ p ∈ r20, 1 ≤ p ∧ p ≤ 20 := by decide
def all (w n : Nat) (T S G : List Nat) : List Nat → List (Nat × Nat)
  | [] => []
  | t :: ts => hits w n T S G t r20 ++ all w n T S G ts
theorem hits_len {w n : Nat} {T S G : List Nat} {t : Nat} {ps : List Nat} : (hits w n T S G t ps).length ≤ ps.length := by
  unfold hits
  rw [List.length_map]
  exact List.length_filter_le _ _
theorem low_tD {k : Nat} {H : List (Nat × Nat)} : lows k (H.map tD) = true := lows_of (by intro d hd; obtain ⟨q, _, rfl⟩ := List.mem_map.mp hd; rfl)
theorem closed1 {c : Cell} (hc : Row0 c) {k : Nat} : lowC k c = true := by
  obtain ⟨ns, a, b, d, _, rfl, _⟩ := hc
  rfl
theorem draw_enc {t p : Nat} : D.tup ([Deed.draw (t : Nat) (p : Nat)].map encD) = .tup [.tup [.str [100, 114, 97, 119], .int (t : Nat), .int (p : Nat)]] := rfl
end K12


set_option Elab.async false
set_option linter.all false
set_option maxRecDepth 100000
set_option autoImplicit false
namespace K12
open PySem L2 Fw

/-! ### what was seen -/
structure OkV (n m : Nat) (V : List Nat) : Prop where
  len : V.length = n
  ch : ∀ c ∈ V, c = 63 ∨ (48 ≤ c ∧ c ≤ 48 + m)
@[simp] theorem lq : lit "?" = [63] := by decide +kernel
@[simp] theorem l_c : lit "c" = [99] := by decide +kernel
@[simp] theorem l_o : lit "o" = [111] := by decide +kernel
@[simp] theorem l_oc : lit "oc" = [111, 99] := by decide +kernel
theorem l_seen {c : Cell} {r : Store} {n m : Nat} {G : List Nat} (h9 : n ≤ 9) (hc : Row0 c) (ok : OkG n m G) : ∃ (V : List Nat) (c' : Cell), M_l_seen [.loc 0, .str G] (c :: r) = .ok (.str V) (c' :: r) ∧ Row0 c' ∧ OkV n m V := by
  have hL3 : (3 : Nat) ≤ LIM := by decide
  obtain ⟨ys, μ', e, ⟨c', rfl, h⟩, f⟩ := lc_all (items := cS G) (g := gVar 2) (ft := fun _ μ => .ok true μ) (fe := eCallD 2 M_l_pick (aCons (eVar 0) (aCons (eLst (aCons (eVar 2) (aCons (eVar 2) (aCons (eC (.str (lit "?"))) (aNil))))) (aNil))))
    (ρ := [some (.loc 0), some (.str G), none]) (fun μ => ∃ c, μ = c :: r ∧ Row0 c) (fun _ y => ∃ k, y = .str [k] ∧ (k = 63 ∨ (48 ≤ k ∧ k ≤ 48 + m))) (ds := cS G) (acc := []) (μ := c :: r) ⟨c, rfl, hc⟩
    (by
      rintro d hd _ ⟨c, rfl, hc⟩
      obtain ⟨g, hg, rfl⟩ := List.mem_map.mp hd
      obtain ⟨x, c', e, h, hm⟩ := pick_lst (r := r) (ds := [.str [g], .str [g], .str [63]]) hc (by simp) (by simp)
      have hx : ∃ k, x = .str [k] ∧ (k = 63 ∨ (48 ≤ k ∧ k ≤ 48 + m)) := by
        simp only [List.mem_cons, List.not_mem_nil, or_false] at hm
        rcases hm with rfl | rfl | rfl
        · exact ⟨g, rfl, .inr (ok.ch g hg)⟩
        · exact ⟨g, rfl, .inr (ok.ch g hg)⟩
        · exact ⟨63, rfl, .inl rfl⟩
      exact ⟨_, _, rfl, _, rfl, x, c' :: r, by simp only [mD_ev, sSeq_ev, sAsg_ev, eCallD_ev, eCall_ev, aCons_ev, aNil_ev, eVar_ev, List.map_cons, List.map_nil, List.length_cons, List.length_nil, List.cons_append, List.nil_append, Nat.reduceAdd, Nat.reduceSub, List.reduceReplicate, List.getElem?_cons_zero, List.getElem?_cons_succ, bok, if_true, eC_ev, sok, gVar_ev, List.set_cons_succ, List.set_cons_zero, Nat.reduceLT, eBin_ev, eLc_ev, iOf_ev, oWalk, wipeE, gTup_ev, gCons_ev, gNil_ev, eLst_ev, eTup_ev, eJoin_ev, iRange1_ev, sRet_ev, sIf_ev, tB_ev, tAnd_ev, tOr_ev, tNot_ev, eNot_ev, eAnd_ev, eIf_ev, sNext_ev, sExpr_ev, sPar_ev, sAug_ev, sAsg2_ev, sFor_ev, and_self, eThaw_ev, thaw_ev, hL3, lq, e], ⟨c', rfl, h⟩, hx⟩)
    (by simp; rw [ok.len]; show _ ≤ 1000000; omega)
  obtain ⟨V, rfl, hl, hV⟩ := f.map_of (Q := fun k => k = 63 ∨ (48 ≤ k ∧ k ≤ 48 + m)) (f := fun c => D.str [c]) (fun _ _ ⟨k, e, m⟩ => ⟨k, e, m⟩)
  rw [List.length_map, ok.len] at hl
  have okV : OkV n m V := ⟨hl, hV⟩
  refine ⟨V, c', ?_, h, okV⟩
  have hL : V.length ≤ LIM := by rw [hl]; show _ ≤ 1000000; omega
  have jo := fun μ => oJoin_one hL (μ := μ)
  rw [List.nil_append] at e
  have ow : ∀ μ, oWalk (.str G) μ = .ok (cS G, none) μ := fun μ => rfl
  generalize (V.map fun c => D.str [c]) = vv at *
  generalize cS G = gg at *
  unfold M_l_seen B_l_seen
  simp only [mD_ev, sRet_ev, eJoin_ev, eC_ev, bok, eLc_ev, iOf_ev, eVar_ev, List.map_cons, List.map_nil, List.length_cons, List.length_nil, Nat.reduceAdd, Nat.reduceSub, List.reduceReplicate, List.cons_append, List.nil_append, List.getElem?_cons_zero, List.getElem?_cons_succ, ow, wipeE, List.set_cons_succ, List.set_cons_zero, e, lE, jo, sok]
def sh (S : List Nat) (v : Nat) (L : Int) : Bool := decide (v = 63) || decide (v = 48 + tn S L)
theorem shows {S : List Nat} (ok : OkS S) {v : Nat} (hv : v = 63 ∨ (48 ≤ v ∧ v ≤ 57)) {L : Int} {μ : Store} : M_shows [.str [v], .int L, .tup (nI S)] μ = .ok (.bl (sh S v L)) μ := by
  have e1 : ∀ μ, oEq (.str [v]) (.str [63]) μ = .ok (.bl (decide (v = 63))) μ := fun μ => by
    rw [oEq_str (by simp; omega) (by decide)]
    congr 2
    rw [Bool.eq_iff_iff]
    simp
  have t := fun μ => tone_of ok (L := L) (μ := μ)
  unfold M_shows B_shows
  by_cases h : v = 63
  · have e2 : ∀ μ, oEq (.str [v]) (.str [63]) μ = .ok (.bl true) μ := fun μ => by rw [e1, decide_eq_true h]
    have hs : sh S v L = true := by simp [sh, h]
    rw [hs]
    generalize nI S = zz at *
    simp only [mD_ev, sSeq_ev, sAsg_ev, eCallD_ev, eCall_ev, aCons_ev, aNil_ev, eVar_ev, List.map_cons, List.map_nil, List.length_cons, List.length_nil, List.cons_append, List.nil_append, Nat.reduceAdd, Nat.reduceSub, List.reduceReplicate, List.getElem?_cons_zero, List.getElem?_cons_succ, bok, if_true, eC_ev, sok, gVar_ev, List.set_cons_succ, List.set_cons_zero, Nat.reduceLT, eBin_ev, eLc_ev, iOf_ev, oWalk, wipeE, gTup_ev, gCons_ev, gNil_ev, eLst_ev, eTup_ev, eJoin_ev, iRange1_ev, sRet_ev, sIf_ev, tB_ev, tAnd_ev, tOr_ev, tNot_ev, eNot_ev, eAnd_ev, eIf_ev, sNext_ev, sExpr_ev, sPar_ev, sAug_ev, sAsg2_ev, sFor_ev, and_self, eThaw_ev, thaw_ev, eOr_ev, lq, e2]
  · have e2 : ∀ μ, oEq (.str [v]) (.str [63]) μ = .ok (.bl false) μ := fun μ => by rw [e1, decide_eq_false h]
    obtain ⟨k, rfl⟩ : ∃ k, v = 48 + k := ⟨v - 48, by omega⟩
    have i9 := fun μ => int9 (k := k) (by omega) (μ := μ)
    have hs : sh S (48 + k) L = decide (((k : Nat) : Int) = (tn S L : Nat)) := by
      rw [sh, decide_eq_false h, Bool.false_or, Bool.eq_iff_iff]
      simp only [decide_eq_true_eq]
      omega
    rw [hs]
    generalize nI S = zz at *
    simp only [mD_ev, sSeq_ev, sAsg_ev, eCallD_ev, eCall_ev, aCons_ev, aNil_ev, eVar_ev, List.map_cons, List.map_nil, List.length_cons, List.length_nil, List.cons_append, List.nil_append, Nat.reduceAdd, Nat.reduceSub, List.reduceReplicate, List.getElem?_cons_zero, List.getElem?_cons_succ, bok, if_true, eC_ev, sok, gVar_ev, List.set_cons_succ, List.set_cons_zero, Nat.reduceLT, eBin_ev, eLc_ev, iOf_ev, oWalk, wipeE, gTup_ev, gCons_ev, gNil_ev, eLst_ev, eTup_ev, eJoin_ev, iRange1_ev, sRet_ev, sIf_ev, tB_ev, tAnd_ev, tOr_ev, tNot_ev, eNot_ev, eAnd_ev, eIf_ev, sNext_ev, sExpr_ev, sPar_ev, sAug_ev, sAsg2_ev, sFor_ev, and_self, eThaw_ev, thaw_ev, eOr_ev, lq, e2, Bool.false_eq_true, if_false, i9, t, oEq_int]
theorem check_seen {n m : Nat} (h1 : 1 ≤ m) (h5 : m ≤ 5) (h9 : n ≤ 9) {V : List Nat} (ok : OkV n m V) {μ : Store} : M_check_seen [.str V, .int (m : Nat), .int (n : Nat)] μ = .ok .non μ := by
  have hG2 : n ≤ LIM := by show _ ≤ 1000000; omega
  have lG : ∀ μ, cLenO 0 M_Negativedd__lendd_ [.str V] μ = .ok (.int (n : Nat)) μ := fun μ => by
    rw [cLenO_ev rfl]
    simp only [cLen, ok.len, hG2, if_true]
  have e := lc_map (items := V.map fun c => D.str [c]) (v := 3) (fe := eBin (oIn false) (eVar 3) (eVar 1)) (ρ := [some (.str V), some (.str (((List.range (m + 1)).map fun i => 48 + i) ++ [63])), some (.int (n : Nat)), none]) (μ := μ) (ds := V.map fun c => D.str [c]) (f := fun _ => .bl true)
    (by simp; rw [ok.len]; omega) (by simp) (fun d hd => by
      obtain ⟨c, hc, rfl⟩ := List.mem_map.mp hd
      have hh := ok.ch c hc
      have : c ∈ ((List.range (m + 1)).map fun i => 48 + i) ++ [63] := by
        rcases hh with rfl | hh
        · simp
        · exact List.mem_append_left _ (List.mem_map.mpr ⟨c - 48, List.mem_range.mpr (by omega), by omega⟩)
      generalize ((List.range (m + 1)).map fun i => 48 + i) ++ [63] = tt at *
      simp only [mD_ev, sSeq_ev, sAsg_ev, eCallD_ev, eCall_ev, aCons_ev, aNil_ev, eVar_ev, List.map_cons, List.map_nil, List.length_cons, List.length_nil, List.cons_append, List.nil_append, Nat.reduceAdd, Nat.reduceSub, List.reduceReplicate, List.getElem?_cons_zero, List.getElem?_cons_succ, bok, if_true, eC_ev, sok, gVar_ev, List.set_cons_succ, List.set_cons_zero, Nat.reduceLT, eBin_ev, eLc_ev, iOf_ev, oWalk, wipeE, gTup_ev, gCons_ev, gNil_ev, eLst_ev, eTup_ev, eJoin_ev, iRange1_ev, sRet_ev, sIf_ev, tB_ev, tAnd_ev, tOr_ev, tNot_ev, eNot_ev, eAnd_ev, eIf_ev, sNext_ev, sExpr_ev, sPar_ev, sAug_ev, sAsg2_ev, sFor_ev, and_self, eThaw_ev, thaw_ev]
      simp only [oIn, this, decide_true, Bool.false_eq_true, if_false])
  have e3 : ∀ μ, cAll [.lst ((V.map fun c => D.str [c]).map fun _ => D.bl true)] μ = .ok (.bl true) μ := fun μ => by
    have := blsAll (T := V) (p := fun _ => true) (fun _ _ => rfl)
    simp only [List.map_map, Function.comp_def, cAll, lstOf, this]
  have e4 : ∀ (ρ : Fw.Env) μ, eIsi "str" (eVar 0) (some (.str V) :: ρ) μ = .ok (.bl true) μ := fun ρ μ => by rfl
  have ct := fun μ => cut_tones h1 h5 (μ := μ)
  have ad : ∀ μ, oAdd (.str ((List.range (m + 1)).map fun i => 48 + i)) (.str [63]) μ = .ok (.str (((List.range (m + 1)).map fun i => 48 + i) ++ [63])) μ := fun μ => by
    have : ((List.range (m + 1)).map fun i => 48 + i).length + [63].length ≤ LIM := by simp; show _ ≤ 1000000; omega
    simp only [oAdd, this, if_true]
  have cf : M_check_figures [.str V, .str (((List.range (m + 1)).map fun i => 48 + i) ++ [63]), .int (n : Nat)] μ = .ok .non μ := by
    generalize hz : (V.map fun c => D.str [c]) = gg at *
    generalize (gg.map fun _ => D.bl true) = bb at *
    generalize ((List.range (m + 1)).map fun i => 48 + i) ++ [63] = tt at *
    have ow : ∀ μ, oWalk (.str V) μ = .ok (gg, none) μ := fun μ => by rw [← hz]; rfl
    unfold M_check_figures B_check_figures
    simp only [mD_ev, sIf_ev, tOr_ev, tNot_ev, tB_ev, e4, List.map_cons, List.map_nil, List.length_cons, List.length_nil, Nat.reduceAdd, Nat.reduceSub, List.reduceReplicate, List.cons_append, List.nil_append, bok, Bool.not_true, Bool.false_eq_true, if_false, eBin_ev, eCall_ev, aCons_ev, aNil_ev, eVar_ev, List.getElem?_cons_zero, List.getElem?_cons_succ, lG, oNe_int, decide_true, eLc_ev, iOf_ev, ow, wipeE, List.set_cons_succ, List.set_cons_zero, e, e3, sok, sNext_ev]
  generalize (((List.range (m + 1)).map fun i => 48 + i) ++ [63]) = t2 at *
  unfold M_check_seen B_check_seen
  simp only [mD_ev, sSeq_ev, sAsg_ev, eCallD_ev, eCall_ev, aCons_ev, aNil_ev, eVar_ev, List.map_cons, List.map_nil, List.length_cons, List.length_nil, List.cons_append, List.nil_append, Nat.reduceAdd, Nat.reduceSub, List.reduceReplicate, List.getElem?_cons_zero, List.getElem?_cons_succ, bok, if_true, eC_ev, sok, gVar_ev, List.set_cons_succ, List.set_cons_zero, Nat.reduceLT, eBin_ev, eLc_ev, iOf_ev, oWalk, wipeE, gTup_ev, gCons_ev, gNil_ev, eLst_ev, eTup_ev, eJoin_ev, iRange1_ev, sRet_ev, sIf_ev, tB_ev, tAnd_ev, tOr_ev, tNot_ev, eNot_ev, eAnd_ev, eIf_ev, sNext_ev, sExpr_ev, sPar_ev, sAug_ev, sAsg2_ev, sFor_ev, and_self, eThaw_ev, thaw_ev, l012345, lq, eCut_ev, oNone_ev, oSome_ev, oAdd_int, ct, ad, cf]
/-! ### the ways of each cell -/
abbrev zD (p : Nat × Nat) : D := .tup [.str [p.1], .str [p.2]]
def cA (S : List Nat) (p : Nat × Nat) : Bool := sh S p.2 0
def cB (S : List Nat) (t : Nat) (p : Nat × Nat) : Bool := sh S p.2 ((t : Int) * wt p.1)
def wayP (S : List Nat) (t : Nat) (p : Nat × Nat) : List Nat := (if cA S p = true then [99] else []) ++ (if cB S t p = true then [111] else [])
structure OkZ (Z : List (Nat × Nat)) : Prop where
  d : ∀ p ∈ Z, 48 ≤ p.1 ∧ p.1 ≤ 52
  v : ∀ p ∈ Z, p.2 = 63 ∨ (48 ≤ p.2 ∧ p.2 ≤ 57)
def sL (W : List (List Nat)) : List D := W.map D.str
theorem mways_in {S : List Nat} (ok : OkS S) {t : Nat} {p0 p3 : Option D} {c b d : Cell} {items : List D} : ∀ (Z : List (Nat × Nat)) (acc : List (List Nat)) (x5 x6 x7 x8 : Option D), OkZ Z → acc.length + Z.length ≤ 1000 → ∃ y5 y6 y7 y8, forL items none (gTup 2 (gCons (gVar 5) (gCons (gVar 6) (gNil)))) (   sSeq (sAsg (gVar 7) (eIf (tB (eCallD 3 M_shows (aCons (eVar 6) (aCons (eC (.int 0)) (aCons (eVar 1) (aNil)))))) (eC (.str (lit "c"))) (eC (.str (lit ""))))) (   sSeq (sAsg (gVar 8) (eIf (tB (eCallD 3 M_shows (aCons (eVar 6) (aCons (eBin oMul (eVar 2) (eBin oIx (eC (.tup [.int 16, .int 8, .int 4, .int 2, .int 1])) (eCall cInt (aCons (eVar 5) (aNil))))) (aCons (eVar 1) (aNil)))))) (eC (.str (lit "o"))) (eC (.str (lit ""))))) (   sExpr (eLm oApp (eVar 4) (eBin oAdd (eVar 7) (eVar 8)))))) (Z.map zD) [p0, some (.tup (nI S)), some (.int (t : Nat)), p3, some (.loc 3), x5, x6, x7, x8] [c, b, d, .lst (sL acc)] = .nx [p0, some (.tup (nI S)), some (.int (t : Nat)), p3, some (.loc 3), y5, y6, y7, y8] [c, b, d, .lst (sL (acc ++ Z.map (wayP S t)))]
  | [], acc, x5, x6, x7, x8, _, _ => ⟨x5, x6, x7, x8, by rw [List.map_nil, for_nil]; simp⟩
  | p :: Z, acc, x5, x6, x7, x8, hz, hl => by
    simp only [List.length_cons] at hl
    have w1 := hz.d p (by simp)
    have w2 := hz.v p (by simp)
    obtain ⟨y5, y6, y7, y8, e⟩ := mways_in ok (t := t) (p0 := p0) (p3 := p3) (c := c) (b := b) (d := d) (items := items) Z (acc ++ [wayP S t p]) (some (.str [p.1])) (some (.str [p.2])) (some (.str (if cA S p = true then [99] else []))) (some (.str (if cB S t p = true then [111] else []))) ⟨fun q m => hz.d q (by simp [m]), fun q m => hz.v q (by simp [m])⟩ (by simp; omega)
    refine ⟨y5, y6, y7, y8, ?_⟩
    have s0 := fun μ => shows ok w2 (L := 0) (μ := μ)
    have s1 := fun μ => shows ok w2 (L := (t : Int) * wt p.1) (μ := μ)
    have ic := fun μ => int_ch w1 (μ := μ)
    have a5 := fun μ => at5 w1 (μ := μ)
    have q0 : (sAsg (gVar 7) (eIf (tB (eCallD 3 M_shows (aCons (eVar 6) (aCons (eC (.int 0)) (aCons (eVar 1) (aNil)))))) (eC (.str (lit "c"))) (eC (.str (lit ""))))) [p0, some (.tup (nI S)), some (.int (t : Nat)), p3, some (.loc 3), some (.str [p.1]), some (.str [p.2]), x7, x8] [c, b, d, .lst (sL acc)] = .nx [p0, some (.tup (nI S)), some (.int (t : Nat)), p3, some (.loc 3), some (.str [p.1]), some (.str [p.2]), some (.str (if cA S p = true then [99] else [])), x8] [c, b, d, .lst (sL acc)] := by
      have s0' : ∀ μ, M_shows [.str [p.2], .int 0, .tup (nI S)] μ = .ok (.bl (cA S p)) μ := s0
      generalize sL acc = aa at *
      generalize nI S = zz at *
      cases h : cA S p
      all_goals rw [h] at s0'
      all_goals simp only [mD_ev, sSeq_ev, sAsg_ev, eCallD_ev, eCall_ev, aCons_ev, aNil_ev, eVar_ev, List.map_cons, List.map_nil, List.length_cons, List.length_nil, List.cons_append, List.nil_append, Nat.reduceAdd, Nat.reduceSub, List.reduceReplicate, List.getElem?_cons_zero, List.getElem?_cons_succ, bok, if_true, eC_ev, sok, gVar_ev, List.set_cons_succ, List.set_cons_zero, Nat.reduceLT, eBin_ev, eLc_ev, iOf_ev, oWalk, wipeE, gTup_ev, gCons_ev, gNil_ev, eLst_ev, eTup_ev, eJoin_ev, iRange1_ev, sRet_ev, sIf_ev, tB_ev, tAnd_ev, tOr_ev, tNot_ev, eNot_ev, eAnd_ev, eIf_ev, sNext_ev, sExpr_ev, sPar_ev, sAug_ev, sAsg2_ev, sFor_ev, and_self, eThaw_ev, thaw_ev, s0', l_c, lE, Bool.false_eq_true, if_false]
    have q1 : (sAsg (gVar 8) (eIf (tB (eCallD 3 M_shows (aCons (eVar 6) (aCons (eBin oMul (eVar 2) (eBin oIx (eC (.tup [.int 16, .int 8, .int 4, .int 2, .int 1])) (eCall cInt (aCons (eVar 5) (aNil))))) (aCons (eVar 1) (aNil)))))) (eC (.str (lit "o"))) (eC (.str (lit ""))))) [p0, some (.tup (nI S)), some (.int (t : Nat)), p3, some (.loc 3), some (.str [p.1]), some (.str [p.2]), some (.str (if cA S p = true then [99] else [])), x8] [c, b, d, .lst (sL acc)] = .nx [p0, some (.tup (nI S)), some (.int (t : Nat)), p3, some (.loc 3), some (.str [p.1]), some (.str [p.2]), some (.str (if cA S p = true then [99] else [])), some (.str (if cB S t p = true then [111] else []))] [c, b, d, .lst (sL acc)] := by
      have s1' : ∀ μ, M_shows [.str [p.2], .int ((t : Int) * wt p.1), .tup (nI S)] μ = .ok (.bl (cB S t p)) μ := s1
      have mw : ∀ μ, oMul (.int (t : Nat)) (.int (wt p.1)) μ = .ok (.int ((t : Int) * wt p.1)) μ := fun μ => mul_wt
      generalize sL acc = aa at *
      generalize nI S = zz at *
      generalize (if cA S p = true then [99] else []) = cc at *
      cases h : cB S t p
      all_goals rw [h] at s1'
      all_goals simp only [mD_ev, sSeq_ev, sAsg_ev, eCallD_ev, eCall_ev, aCons_ev, aNil_ev, eVar_ev, List.map_cons, List.map_nil, List.length_cons, List.length_nil, List.cons_append, List.nil_append, Nat.reduceAdd, Nat.reduceSub, List.reduceReplicate, List.getElem?_cons_zero, List.getElem?_cons_succ, bok, if_true, eC_ev, sok, gVar_ev, List.set_cons_succ, List.set_cons_zero, Nat.reduceLT, eBin_ev, eLc_ev, iOf_ev, oWalk, wipeE, gTup_ev, gCons_ev, gNil_ev, eLst_ev, eTup_ev, eJoin_ev, iRange1_ev, sRet_ev, sIf_ev, tB_ev, tAnd_ev, tOr_ev, tNot_ev, eNot_ev, eAnd_ev, eIf_ev, sNext_ev, sExpr_ev, sPar_ev, sAug_ev, sAsg2_ev, sFor_ev, and_self, eThaw_ev, thaw_ev, ic, a5, mw, s1', l_o, lE, Bool.false_eq_true, if_false]
    have q2 : (sExpr (eLm oApp (eVar 4) (eBin oAdd (eVar 7) (eVar 8)))) [p0, some (.tup (nI S)), some (.int (t : Nat)), p3, some (.loc 3), some (.str [p.1]), some (.str [p.2]), some (.str (if cA S p = true then [99] else [])), some (.str (if cB S t p = true then [111] else []))] [c, b, d, .lst (sL acc)] = .nx [p0, some (.tup (nI S)), some (.int (t : Nat)), p3, some (.loc 3), some (.str [p.1]), some (.str [p.2]), some (.str (if cA S p = true then [99] else [])), some (.str (if cB S t p = true then [111] else []))] [c, b, d, .lst (sL (acc ++ [wayP S t p]))] := by
      have ad : ∀ μ, oAdd (.str (if cA S p = true then [99] else [])) (.str (if cB S t p = true then [111] else [])) μ = .ok (.str (wayP S t p)) μ := fun μ => by
        have : (if cA S p = true then [99] else []).length + (if cB S t p = true then [111] else []).length ≤ LIM := by
          have h1 : (if cA S p = true then [99] else []).length ≤ 1 := by split <;> simp
          have h2 : (if cB S t p = true then [111] else []).length ≤ 1 := by split <;> simp
          show _ ≤ 1000000
          omega
        simp only [oAdd, this, if_true, wayP]
      have hf : (sL acc).length < LIM := by rw [sL, List.length_map]; show _ < 1000000; omega
      have ap : oApp (.loc 3) (.str (wayP S t p)) [c, b, d, .lst (sL acc)] = .ok .non [c, b, d, .lst (sL (acc ++ [wayP S t p]))] := by
        simp only [oApp, List.getElem?_cons_succ, List.getElem?_cons_zero, hf, if_true, List.set_cons_succ, List.set_cons_zero]
        simp only [sL, List.map_append, List.map_cons, List.map_nil]
      have i3 : ∀ x, isL [c, b, d, .lst x] (.loc 3) = true := fun x => rfl
      generalize (if cA S p = true then [99] else []) = c1 at *
      generalize (if cB S t p = true then [111] else []) = c2 at *
      generalize sL (acc ++ [wayP S t p]) = a2 at *
      generalize sL acc = a1 at *
      generalize nI S = zz at *
      generalize wayP S t p = ww at *
      simp only [mD_ev, sSeq_ev, sAsg_ev, eCallD_ev, eCall_ev, aCons_ev, aNil_ev, eVar_ev, List.map_cons, List.map_nil, List.length_cons, List.length_nil, List.cons_append, List.nil_append, Nat.reduceAdd, Nat.reduceSub, List.reduceReplicate, List.getElem?_cons_zero, List.getElem?_cons_succ, bok, if_true, eC_ev, sok, gVar_ev, List.set_cons_succ, List.set_cons_zero, Nat.reduceLT, eBin_ev, eLc_ev, iOf_ev, oWalk, wipeE, gTup_ev, gCons_ev, gNil_ev, eLst_ev, eTup_ev, eJoin_ev, iRange1_ev, sRet_ev, sIf_ev, tB_ev, tAnd_ev, tOr_ev, tNot_ev, eNot_ev, eAnd_ev, eIf_ev, sNext_ev, sExpr_ev, sPar_ev, sAug_ev, sAsg2_ev, sFor_ev, and_self, eThaw_ev, thaw_ev, eLm_ev, i3, ad, ap]
    rw [List.append_assoc, List.cons_append, List.nil_append] at e
    rw [List.map_cons, List.map_cons, for_cons]
    simp only [zD, gTup_ev, gCons_ev, gNil_ev, gVar_ev, List.length_cons, List.length_nil, Nat.reduceAdd, Nat.reduceLT, if_true, bok, sok, List.set_cons_succ, List.set_cons_zero, sSeq_ev, q0, q1, q2]
    exact e
theorem zip_ok {n m : Nat} (hm : m ≤ 5) {T V : List Nat} (okT : OkT n T) (okV : OkV n m V) : OkZ (T.zip V) := ⟨fun p hp => okT.2 _ (List.of_mem_zip hp).1, fun p hp => by
  have := okV.ch _ (List.of_mem_zip hp).2
  omega⟩
theorem neg_dens {w h : Nat} {T : List Nat} {μ : Store} : M_Negative_densities [neg w h T] μ = .ok (.str T) μ := by
  unfold M_Negative_densities B_Negative_densities
  simp only [mD_ev, sSeq_ev, sAsg_ev, eCallD_ev, eCall_ev, aCons_ev, aNil_ev, eVar_ev, List.map_cons, List.map_nil, List.length_cons, List.length_nil, List.cons_append, List.nil_append, Nat.reduceAdd, Nat.reduceSub, List.reduceReplicate, List.getElem?_cons_zero, List.getElem?_cons_succ, bok, if_true, eC_ev, sok, gVar_ev, List.set_cons_succ, List.set_cons_zero, Nat.reduceLT, eBin_ev, eLc_ev, iOf_ev, oWalk, wipeE, gTup_ev, gCons_ev, gNil_ev, eLst_ev, eTup_ev, eJoin_ev, iRange1_ev, sRet_ev, sIf_ev, tB_ev, tAnd_ev, tOr_ev, tNot_ev, eNot_ev, eAnd_ev, eIf_ev, sNext_ev, sExpr_ev, sPar_ev, sAug_ev, sAsg2_ev, sFor_ev, and_self, eThaw_ev, thaw_ev, eFld_ev, ins_neg, fig]
theorem ways_under {w h n t : Nat} (hs : Sz w h n) {T V S : List Nat} (okT : OkT n T) (ok : OkS S) (okV : OkV n S.length V) (ht : 1 ≤ t ∧ t ≤ 99) {c b d : Cell} (hc : lowC 3 c = true) (hb : lowC 3 b = true) (hd : lowC 3 d = true) :
    M_ways_under_mask [neg w h T, .tup (nI S), .int (t : Nat), .str V] [c, b, d] = .ok (.lst (sL ((T.zip V).map (wayP S t)))) [c, b, d] := by
  have h9 := hs.n9
  obtain ⟨y5, y6, y7, y8, e⟩ := mways_in ok (t := t) (p0 := some (neg w h T)) (p3 := some (.str V)) (c := c) (b := b) (d := d) (items := (T.zip V).map zD) (T.zip V) [] none none none none (zip_ok ok.le okT okV) (by have := okT.1; simp; omega)
  rw [List.nil_append] at e
  have cs := fun μ => check_steps ok (μ := μ)
  have cn : ∀ μ, M_check_number [.int (t : Nat), .int 1, .int 99] μ = .ok .non μ := fun μ => check_number (by omega) (by omega)
  have cv := fun μ => check_seen ok.ne ok.le h9 okV (μ := μ)
  have ls : ∀ μ, cLenO 0 M_Negativedd__lendd_ [.tup (nI S)] μ = .ok (.int (S.length : Nat)) μ := fun μ => by
    rw [cLenO_ev rfl]
    simp [cLen, seqOf]
  have ln := fun μ => len_neg hs okT (μ := μ)
  have hL0 : (0 : Nat) ≤ LIM := by decide
  have ez : ∀ μ, oZip (.str T) (.str V) μ = .ok ((T.zip V).map zD, none) μ := fun μ => by
    have h1 : (T.all (· < 128) && V.all (· < 128)) = true := by
      rw [Bool.and_eq_true, List.all_eq_true, List.all_eq_true]
      refine ⟨fun x hx => ?_, fun x hx => ?_⟩
      · have := okT.2 x hx
        simp; omega
      · have := okV.ch x hx
        have := ok.le
        simp; omega
    simp only [oZip, h1, if_true, zipD]
  have dn := fun μ => neg_dens (w := w) (h := h) (T := T) (μ := μ)
  have ins := fun μ => ins_neg (w := w) (h := h) (T := T) (μ := μ)
  have q3 : (sAsg (gVar 4) (eThaw (eLst (aNil)))) [some (neg w h T), some (.tup (nI S)), some (.int (t : Nat)), some (.str V), none, none, none, none, none] [c, b, d] = .nx [some (neg w h T), some (.tup (nI S)), some (.int (t : Nat)), some (.str V), some (.loc 3), none, none, none, none] [c, b, d, .lst (sL [])] := by
    generalize nI S = zz at *
    simp only [mD_ev, sSeq_ev, sAsg_ev, eCallD_ev, eCall_ev, aCons_ev, aNil_ev, eVar_ev, List.map_cons, List.map_nil, List.length_cons, List.length_nil, List.cons_append, List.nil_append, Nat.reduceAdd, Nat.reduceSub, List.reduceReplicate, List.getElem?_cons_zero, List.getElem?_cons_succ, bok, if_true, eC_ev, sok, gVar_ev, List.set_cons_succ, List.set_cons_zero, Nat.reduceLT, eBin_ev, eLc_ev, iOf_ev, oWalk, wipeE, gTup_ev, gCons_ev, gNil_ev, eLst_ev, eTup_ev, eJoin_ev, iRange1_ev, sRet_ev, sIf_ev, tB_ev, tAnd_ev, tOr_ev, tNot_ev, eNot_ev, eAnd_ev, eIf_ev, sNext_ev, sExpr_ev, sPar_ev, sAug_ev, sAsg2_ev, sFor_ev, and_self, eThaw_ev, thaw_ev, hL0]
    rfl
  have q4 : (sFor (iZipD (eProp 0 M_Negative_densities (eVar 0)) (eVar 3)) (gTup 2 (gCons (gVar 5) (gCons (gVar 6) (gNil)))) (   sSeq (sAsg (gVar 7) (eIf (tB (eCallD 3 M_shows (aCons (eVar 6) (aCons (eC (.int 0)) (aCons (eVar 1) (aNil)))))) (eC (.str (lit "c"))) (eC (.str (lit ""))))) (   sSeq (sAsg (gVar 8) (eIf (tB (eCallD 3 M_shows (aCons (eVar 6) (aCons (eBin oMul (eVar 2) (eBin oIx (eC (.tup [.int 16, .int 8, .int 4, .int 2, .int 1])) (eCall cInt (aCons (eVar 5) (aNil))))) (aCons (eVar 1) (aNil)))))) (eC (.str (lit "o"))) (eC (.str (lit ""))))) (   sExpr (eLm oApp (eVar 4) (eBin oAdd (eVar 7) (eVar 8))))))) [some (neg w h T), some (.tup (nI S)), some (.int (t : Nat)), some (.str V), some (.loc 3), none, none, none, none] [c, b, d, .lst (sL [])] = .nx [some (neg w h T), some (.tup (nI S)), some (.int (t : Nat)), some (.str V), some (.loc 3), y5, y6, y7, y8] [c, b, d, .lst (sL ((T.zip V).map (wayP S t)))] := by
    have it : (iZipD (eProp 0 M_Negative_densities (eVar 0)) (eVar 3)) [some (neg w h T), some (.tup (nI S)), some (.int (t : Nat)), some (.str V), some (.loc 3), none, none, none, none] [c, b, d, .lst (sL [])] = .ok ((T.zip V).map zD, none) [c, b, d, .lst (sL [])] := by
      generalize (T.zip V).map zD = tz at *
      generalize nI S = zz at *
      show (eProp 0 M_Negative_densities (eVar 0) _ _).bind _ = _
      simp only [mD_ev, sSeq_ev, sAsg_ev, eCallD_ev, eCall_ev, aCons_ev, aNil_ev, eVar_ev, List.map_cons, List.map_nil, List.length_cons, List.length_nil, List.cons_append, List.nil_append, Nat.reduceAdd, Nat.reduceSub, List.reduceReplicate, List.getElem?_cons_zero, List.getElem?_cons_succ, bok, if_true, eC_ev, sok, gVar_ev, List.set_cons_succ, List.set_cons_zero, Nat.reduceLT, eBin_ev, eLc_ev, iOf_ev, oWalk, wipeE, gTup_ev, gCons_ev, gNil_ev, eLst_ev, eTup_ev, eJoin_ev, iRange1_ev, sRet_ev, sIf_ev, tB_ev, tAnd_ev, tOr_ev, tNot_ev, eNot_ev, eAnd_ev, eIf_ev, sNext_ev, sExpr_ev, sPar_ev, sAug_ev, sAsg2_ev, sFor_ev, and_self, eThaw_ev, thaw_ev, eProp_ev, ins, dn, ez]
    rw [sFor_ev, it, sok]
    exact e
  have e2 : mD 9 B_ways_under_mask [neg w h T, .tup (nI S), .int (t : Nat), .str V] [c, b, d] = .ok (.loc 3) [c, b, d, .lst (sL ((T.zip V).map (wayP S t)))] := by
    unfold B_ways_under_mask
    rw [mD_ev, show ([neg w h T, .tup (nI S), .int (t : Nat), .str V].map some ++ List.replicate (9 - [neg w h T, .tup (nI S), .int (t : Nat), .str V].length) none) = [some (neg w h T), some (.tup (nI S)), some (.int (t : Nat)), some (.str V), none, none, none, none, none] from rfl]
    simp only [sSeq_ev, q3, q4]
    generalize sL ((T.zip V).map (wayP S t)) = aa at *
    generalize nI S = zz at *
    simp only [mD_ev, sSeq_ev, sAsg_ev, eCallD_ev, eCall_ev, aCons_ev, aNil_ev, eVar_ev, List.map_cons, List.map_nil, List.length_cons, List.length_nil, List.cons_append, List.nil_append, Nat.reduceAdd, Nat.reduceSub, List.reduceReplicate, List.getElem?_cons_zero, List.getElem?_cons_succ, bok, if_true, eC_ev, sok, gVar_ev, List.set_cons_succ, List.set_cons_zero, Nat.reduceLT, eBin_ev, eLc_ev, iOf_ev, oWalk, wipeE, gTup_ev, gCons_ev, gNil_ev, eLst_ev, eTup_ev, eJoin_ev, iRange1_ev, sRet_ev, sIf_ev, tB_ev, tAnd_ev, tOr_ev, tNot_ev, eNot_ev, eAnd_ev, eIf_ev, sNext_ev, sExpr_ev, sPar_ev, sAug_ev, sAsg2_ev, sFor_ev, and_self, eThaw_ev, thaw_ev]
  unfold M_ways_under_mask
  rw [mDf_ev, e2]
  have h1 : lows 3 (sL ((T.zip V).map (wayP S t))) = true := lows_of (by intro d hd; obtain ⟨q, _, rfl⟩ := List.mem_map.mp hd; rfl)
  simp [Fw.fin, h1, hc, hb, hd]
theorem mask_ways {w h n t : Nat} (hs : Sz w h n) {T V S : List Nat} (okT : OkT n T) (ok : OkS S) (okV : OkV n S.length V) (ht : 1 ≤ t ∧ t ≤ 99) {c b d : Cell} (hc : lowC 3 c = true) (hb : lowC 3 b = true) (hd : lowC 3 d = true) :
    M_mask_ways [neg w h T, .tup (nI S), .int (t : Nat), .str V] [c, b, d] = .ok (.lst (sL ((T.zip V).map (wayP S t)))) [c, b, d] := by
  have cs := fun μ => check_steps ok (μ := μ)
  have cn : ∀ μ, M_check_number [.int (t : Nat), .int 1, .int 99] μ = .ok .non μ := fun μ => check_number (by omega) (by omega)
  have cv := fun μ => check_seen ok.ne ok.le hs.n9 okV (μ := μ)
  have ls : ∀ μ, cLenO 0 M_Negativedd__lendd_ [.tup (nI S)] μ = .ok (.int (S.length : Nat)) μ := fun μ => by
    rw [cLenO_ev rfl]
    simp [cLen, seqOf]
  have ln := fun μ => len_neg hs okT (μ := μ)
  have wu := ways_under hs okT ok okV ht hc hb hd
  unfold M_mask_ways B_mask_ways
  generalize nI S = zz at *
  generalize sL ((T.zip V).map (wayP S t)) = aa at *
  simp only [mD_ev, sSeq_ev, sAsg_ev, eCallD_ev, eCall_ev, aCons_ev, aNil_ev, eVar_ev, List.map_cons, List.map_nil, List.length_cons, List.length_nil, List.cons_append, List.nil_append, Nat.reduceAdd, Nat.reduceSub, List.reduceReplicate, List.getElem?_cons_zero, List.getElem?_cons_succ, bok, if_true, eC_ev, sok, gVar_ev, List.set_cons_succ, List.set_cons_zero, Nat.reduceLT, eBin_ev, eLc_ev, iOf_ev, oWalk, wipeE, gTup_ev, gCons_ev, gNil_ev, eLst_ev, eTup_ev, eJoin_ev, iRange1_ev, sRet_ev, sIf_ev, tB_ev, tAnd_ev, tOr_ev, tNot_ev, eNot_ev, eAnd_ev, eIf_ev, sNext_ev, sExpr_ev, sPar_ev, sAug_ev, sAsg2_ev, sFor_ev, and_self, eThaw_ev, thaw_ev, cs, cn, ls, ln, cv, wu]
theorem sm_le {a : Int} (h : -1000000 ≤ a) (h2 : a ≤ 1000000) : Sm a = true := by
  simp [Sm]; omega
def prd : List Nat → Nat
  | [] => 1
  | x :: r => x * prd r
theorem prd_mul {a b : Nat} {μ : Store} (ha : a ≤ 1000) (hb : b ≤ 1000) : oMulI (.int (a : Nat)) (.int (b : Nat)) μ = .ok (.int ((a * b : Nat) : Int)) μ := by
  have h1 : Sm ((a : Nat) : Int) = true := sm_le (by omega) (by omega)
  have h2 : Sm ((b : Nat) : Int) = true := sm_le (by omega) (by omega)
  simp only [oMulI, h1, h2, Bool.and_self, if_true, Int.natCast_mul]
theorem prod_in {p0 : Option D} {items : List D} {μ : Store} (L : List Nat) : ∀ (acc : Nat) (x : Option D), (∀ a ∈ L, a ≤ 2) → acc * 2 ^ L.length ≤ 1000 → ∃ y, forL items none (gVar 2) (   sAug 1 oMulI (eVar 2)) (nI L) [p0, some (.int (acc : Nat)), x] μ = .nx [p0, some (.int (acc * prd L : Nat)), y] μ := by
  induction L with
  | nil => exact fun acc x _ _ => ⟨x, by rw [nI, List.map_nil, for_nil, prd, Nat.mul_one]⟩
  | cons a L ih =>
    intro acc x ha hb
    have a2 := ha a (by simp)
    have h1 : acc * a * 2 ^ L.length ≤ acc * 2 ^ (L.length + 1) := by
      rw [Nat.pow_succ, Nat.mul_assoc, Nat.mul_comm (2 ^ L.length) 2]
      exact Nat.mul_le_mul_left _ (Nat.mul_le_mul_right _ a2)
    have h0 : acc ≤ 1000 := Nat.le_trans (Nat.le_mul_of_pos_right _ Nat.one_le_two_pow) hb
    obtain ⟨y, e⟩ := ih (acc * a) (some (.int (a : Nat))) (fun q m => ha q (List.mem_cons_of_mem _ m)) (Nat.le_trans h1 hb)
    refine ⟨y, ?_⟩
    have mu := fun μ => prd_mul (a := acc) (b := a) h0 (by omega) (μ := μ)
    have st : (   sAug 1 oMulI (eVar 2)) [p0, some (.int (acc : Nat)), some (.int (a : Nat))] μ = .nx [p0, some (.int ((acc * a : Nat) : Int)), some (.int (a : Nat))] μ := by
      simp only [sAug_ev, eVar_ev, List.getElem?_cons_succ, List.getElem?_cons_zero, sok, mu, List.length_cons, List.length_nil, Nat.reduceAdd, Nat.reduceLT, if_true, List.set_cons_succ, List.set_cons_zero]
    have pe : prd (a :: L) = a * prd L := rfl
    rw [pe, ← Nat.mul_assoc]
    rw [nI, List.map_cons, for_cons]
    simp only [gVar_ev, List.length_cons, List.length_nil, Nat.reduceAdd, Nat.reduceLT, if_true, sok, List.set_cons_succ, List.set_cons_zero, st]
    exact e
theorem product {L : List Nat} (h : ∀ a ∈ L, a ≤ 2) (hl : L.length ≤ 9) {μ : Store} : M_product [.lst (nI L)] μ = .ok (.int (prd L : Nat)) μ := by
  obtain ⟨y, e⟩ := prod_in (p0 := some (.lst (nI L))) (items := nI L) (μ := μ) L 1 none h (by
    have : 2 ^ L.length ≤ 2 ^ 9 := Nat.pow_le_pow_right (by decide) hl
    omega)
  rw [Nat.one_mul, show ((1 : Nat) : Int) = 1 from rfl] at e
  generalize nI L = zz at *
  unfold M_product B_product
  simp only [mD_ev, sSeq_ev, sAsg_ev, eCallD_ev, eCall_ev, aCons_ev, aNil_ev, eVar_ev, List.map_cons, List.map_nil, List.length_cons, List.length_nil, List.cons_append, List.nil_append, Nat.reduceAdd, Nat.reduceSub, List.reduceReplicate, List.getElem?_cons_zero, List.getElem?_cons_succ, bok, if_true, eC_ev, sok, gVar_ev, List.set_cons_succ, List.set_cons_zero, Nat.reduceLT, eBin_ev, eLc_ev, iOf_ev, oWalk, wipeE, gTup_ev, gCons_ev, gNil_ev, eLst_ev, eTup_ev, eJoin_ev, iRange1_ev, sRet_ev, sIf_ev, tB_ev, tAnd_ev, tOr_ev, tNot_ev, eNot_ev, eAnd_ev, eIf_ev, sNext_ev, sExpr_ev, sPar_ev, sAug_ev, sAsg2_ev, sFor_ev, and_self, eThaw_ev, thaw_ev, e]
def mark (a b : Bool) : Nat := if (a && b) = true then 63 else if a = true then 99 else if b = true then 111 else 63
theorem way_len {S : List Nat} {t : Nat} {p : Nat × Nat} : (wayP S t p).length = (cA S p).toNat + (cB S t p).toNat := by
  unfold wayP
  cases cA S p <;> cases cB S t p <;> rfl
theorem mask_count {w h n t : Nat} (hs : Sz w h n) {T V S : List Nat} (okT : OkT n T) (ok : OkS S) (okV : OkV n S.length V) (ht : 1 ≤ t ∧ t ≤ 99) {c b d : Cell} (hc : lowC 3 c = true) (hb : lowC 3 b = true) (hd : lowC 3 d = true) :
    M_mask_count [neg w h T, .tup (nI S), .int (t : Nat), .str V] [c, b, d] = .ok (.int (prd ((T.zip V).map fun p => (cA S p).toNat + (cB S t p).toNat) : Nat)) [c, b, d] := by
  have mw := mask_ways hs okT ok okV ht hc hb hd
  have hz : (T.zip V).length ≤ 9 := by have := okT.1; have := hs.n9; simp; omega
  have e := lc_map (items := sL ((T.zip V).map (wayP S t))) (v := 4) (fe := eCall (cLenO 0 M_Negativedd__lendd_) (aCons (eVar 4) (aNil))) (ρ := [some (neg w h T), some (.tup (nI S)), some (.int (t : Nat)), some (.str V), none]) (μ := [c, b, d]) (ds := sL ((T.zip V).map (wayP S t))) (f := fun d => match d with | .str x => .int (x.length : Nat) | _ => .non)
    (by rw [sL, List.length_map, List.length_map]; omega) (by simp) (fun d hd => by
      obtain ⟨x, hx, rfl⟩ := List.mem_map.mp hd
      obtain ⟨p, hp, rfl⟩ := List.mem_map.mp hx
      have hl : (wayP S t p).length ≤ LIM := by rw [way_len]; have := Bool.toNat_le (cA S p); have := Bool.toNat_le (cB S t p); show _ ≤ 1000000; omega
      have lw : ∀ μ, cLenO 0 M_Negativedd__lendd_ [.str (wayP S t p)] μ = .ok (.int ((wayP S t p).length : Nat)) μ := fun μ => by
        rw [cLenO_ev rfl]
        simp only [cLen, hl, if_true]
      generalize wayP S t p = ww at *
      simp only [mD_ev, sSeq_ev, sAsg_ev, eCallD_ev, eCall_ev, aCons_ev, aNil_ev, eVar_ev, List.map_cons, List.map_nil, List.length_cons, List.length_nil, List.cons_append, List.nil_append, Nat.reduceAdd, Nat.reduceSub, List.reduceReplicate, List.getElem?_cons_zero, List.getElem?_cons_succ, bok, if_true, eC_ev, sok, gVar_ev, List.set_cons_succ, List.set_cons_zero, Nat.reduceLT, eBin_ev, eLc_ev, iOf_ev, oWalk, wipeE, gTup_ev, gCons_ev, gNil_ev, eLst_ev, eTup_ev, eJoin_ev, iRange1_ev, sRet_ev, sIf_ev, tB_ev, tAnd_ev, tOr_ev, tNot_ev, eNot_ev, eAnd_ev, eIf_ev, sNext_ev, sExpr_ev, sPar_ev, sAug_ev, sAsg2_ev, sFor_ev, and_self, eThaw_ev, thaw_ev, lw])
  have e2 : ((sL ((T.zip V).map (wayP S t))).map fun d => match d with | .str x => D.int (x.length : Nat) | _ => .non) = nI ((T.zip V).map fun p => (cA S p).toNat + (cB S t p).toNat) := by
    rw [sL, nI, List.map_map, List.map_map, List.map_map]
    refine List.map_congr_left fun p _ => ?_
    show D.int ((wayP S t p).length : Nat) = _
    rw [way_len]
    rfl
  rw [e2] at e
  have pr := fun μ => product (L := (T.zip V).map fun p => (cA S p).toNat + (cB S t p).toNat) (fun a ha => by
    obtain ⟨p, _, rfl⟩ := List.mem_map.mp ha
    have := Bool.toNat_le (cA S p)
    have := Bool.toNat_le (cB S t p)
    omega) (by rw [List.length_map]; exact hz) (μ := μ)
  generalize nI ((T.zip V).map fun p => (cA S p).toNat + (cB S t p).toNat) = nn at *
  generalize sL ((T.zip V).map (wayP S t)) = ss at *
  generalize nI S = zz at *
  unfold M_mask_count B_mask_count
  simp only [mD_ev, sSeq_ev, sAsg_ev, eCallD_ev, eCall_ev, aCons_ev, aNil_ev, eVar_ev, List.map_cons, List.map_nil, List.length_cons, List.length_nil, List.cons_append, List.nil_append, Nat.reduceAdd, Nat.reduceSub, List.reduceReplicate, List.getElem?_cons_zero, List.getElem?_cons_succ, bok, if_true, eC_ev, sok, gVar_ev, List.set_cons_succ, List.set_cons_zero, Nat.reduceLT, eBin_ev, eLc_ev, iOf_ev, oWalk, wipeE, gTup_ev, gCons_ev, gNil_ev, eLst_ev, eTup_ev, eJoin_ev, iRange1_ev, sRet_ev, sIf_ev, tB_ev, tAnd_ev, tOr_ev, tNot_ev, eNot_ev, eAnd_ev, eIf_ev, sNext_ev, sExpr_ev, sPar_ev, sAug_ev, sAsg2_ev, sFor_ev, and_self, eThaw_ev, thaw_ev, mw, e, pr]
theorem in_strs {W : List (List Nat)} {μ : Store} : oIn false (.str []) (.lst (sL W)) μ = .ok (.bl (decide ([] ∈ W))) μ := by
  have h1 : (sL W).all flatD = true := List.all_eq_true.mpr fun d hd => by
    obtain ⟨x, _, rfl⟩ := List.mem_map.mp hd
    rfl
  have h2 : inD (.str []) (sL W) = decide ([] ∈ W) := by
    rw [Bool.eq_iff_iff, decide_eq_true_eq]
    simp only [inD, List.any_eq_true]
    constructor
    · rintro ⟨d, hd, e⟩
      obtain ⟨x, hx, rfl⟩ := List.mem_map.mp hd
      have : x = [] := by simpa [eqDf] using e
      exact this ▸ hx
    · intro h
      exact ⟨.str [], List.mem_map.mpr ⟨[], h, rfl⟩, by rfl⟩
  simp [oIn, seqOf, flatD, h1, h2]
theorem masks_told {w h n t : Nat} (hs : Sz w h n) {T V S : List Nat} (okT : OkT n T) (ok : OkS S) (okV : OkV n S.length V) (ht : 1 ≤ t ∧ t ≤ 99) {c b d : Cell} (hc : lowC 3 c = true) (hb : lowC 3 b = true) (hd : lowC 3 d = true) :
    M_masks_told [neg w h T, .tup (nI S), .int (t : Nat), .str V] [c, b, d] = .ok (if [] ∈ (T.zip V).map (wayP S t) then .non else .str ((T.zip V).map fun p => mark (cA S p) (cB S t p))) [c, b, d] := by
  have mw := mask_ways hs okT ok okV ht hc hb hd
  have hz : (T.zip V).length ≤ 9 := by have := okT.1; have := hs.n9; simp; omega
  have e := lc_map (items := sL ((T.zip V).map (wayP S t))) (v := 5) (fe := (eIf (tB (eBin oEq (eCall (cLenO 0 M_Negativedd__lendd_) (aCons (eVar 5) (aNil))) (eC (.int 1)))) (eVar 5) (eC (.str (lit "?"))))) (ρ := [some (neg w h T), some (.tup (nI S)), some (.int (t : Nat)), some (.str V), some (.lst (sL ((T.zip V).map (wayP S t)))), none]) (μ := [c, b, d]) (ds := sL ((T.zip V).map (wayP S t))) (f := fun d => match d with | .str x => .str (if x.length = 1 then x else [63]) | _ => .non)
    (by rw [sL, List.length_map, List.length_map]; omega) (by simp) (fun d hd => by
      obtain ⟨x, hx, rfl⟩ := List.mem_map.mp hd
      obtain ⟨p, hp, rfl⟩ := List.mem_map.mp hx
      have hl : (wayP S t p).length ≤ LIM := by rw [way_len]; have := Bool.toNat_le (cA S p); have := Bool.toNat_le (cB S t p); show _ ≤ 1000000; omega
      have lw : ∀ μ, cLenO 0 M_Negativedd__lendd_ [.str (wayP S t p)] μ = .ok (.int ((wayP S t p).length : Nat)) μ := fun μ => by
        rw [cLenO_ev rfl]
        simp only [cLen, hl, if_true]
      generalize sL ((T.zip V).map (wayP S t)) = ss at *
      generalize wayP S t p = ww at *
      by_cases h1 : ww.length = 1
      · have h2 : ((ww.length : Nat) : Int) = 1 := by omega
        have z : ∀ μ, oEq (.int (ww.length : Nat)) (.int 1) μ = .ok (.bl true) μ := fun μ => by rw [oEq_int, decide_eq_true h2]
        simp only [if_pos h1]
        simp only [mD_ev, sSeq_ev, sAsg_ev, eCallD_ev, eCall_ev, aCons_ev, aNil_ev, eVar_ev, List.map_cons, List.map_nil, List.length_cons, List.length_nil, List.cons_append, List.nil_append, Nat.reduceAdd, Nat.reduceSub, List.reduceReplicate, List.getElem?_cons_zero, List.getElem?_cons_succ, bok, if_true, eC_ev, sok, gVar_ev, List.set_cons_succ, List.set_cons_zero, Nat.reduceLT, eBin_ev, eLc_ev, iOf_ev, oWalk, wipeE, gTup_ev, gCons_ev, gNil_ev, eLst_ev, eTup_ev, eJoin_ev, iRange1_ev, sRet_ev, sIf_ev, tB_ev, tAnd_ev, tOr_ev, tNot_ev, eNot_ev, eAnd_ev, eIf_ev, sNext_ev, sExpr_ev, sPar_ev, sAug_ev, sAsg2_ev, sFor_ev, and_self, eThaw_ev, thaw_ev, lw, z]
      · have h2 : ¬ ((ww.length : Nat) : Int) = 1 := by omega
        have z : ∀ μ, oEq (.int (ww.length : Nat)) (.int 1) μ = .ok (.bl false) μ := fun μ => by rw [oEq_int, decide_eq_false h2]
        simp only [if_neg h1]
        simp only [mD_ev, sSeq_ev, sAsg_ev, eCallD_ev, eCall_ev, aCons_ev, aNil_ev, eVar_ev, List.map_cons, List.map_nil, List.length_cons, List.length_nil, List.cons_append, List.nil_append, Nat.reduceAdd, Nat.reduceSub, List.reduceReplicate, List.getElem?_cons_zero, List.getElem?_cons_succ, bok, if_true, eC_ev, sok, gVar_ev, List.set_cons_succ, List.set_cons_zero, Nat.reduceLT, eBin_ev, eLc_ev, iOf_ev, oWalk, wipeE, gTup_ev, gCons_ev, gNil_ev, eLst_ev, eTup_ev, eJoin_ev, iRange1_ev, sRet_ev, sIf_ev, tB_ev, tAnd_ev, tOr_ev, tNot_ev, eNot_ev, eAnd_ev, eIf_ev, sNext_ev, sExpr_ev, sPar_ev, sAug_ev, sAsg2_ev, sFor_ev, and_self, eThaw_ev, thaw_ev, lw, z, Bool.false_eq_true, if_false, lq])
  have e2 : ((sL ((T.zip V).map (wayP S t))).map fun d => match d with | .str x => D.str (if x.length = 1 then x else [63]) | _ => .non) = ((T.zip V).map fun p => mark (cA S p) (cB S t p)).map fun c => .str [c] := by
    rw [sL, List.map_map, List.map_map, List.map_map]
    refine List.map_congr_left fun p _ => ?_
    show D.str (if (wayP S t p).length = 1 then wayP S t p else [63]) = .str [mark (cA S p) (cB S t p)]
    unfold wayP mark
    cases cA S p <;> cases cB S t p <;> rfl
  rw [e2] at e
  have hL : ((T.zip V).map fun p => mark (cA S p) (cB S t p)).length ≤ LIM := by rw [List.length_map]; show _ ≤ 1000000; omega
  have jo := fun μ => oJoin_one hL (μ := μ)
  have it := fun μ => in_strs (W := (T.zip V).map (wayP S t)) (μ := μ)
  generalize ((T.zip V).map fun p => mark (cA S p) (cB S t p)) = mm at *
  generalize (mm.map fun c => D.str [c]) = m2 at *
  generalize (T.zip V).map (wayP S t) = ww at *
  generalize sL ww = ss at *
  generalize nI S = zz at *
  unfold M_masks_told B_masks_told
  by_cases h : [] ∈ ww
  · rw [if_pos h]
    have it2 : ∀ μ, oIn false (.str []) (.lst ss) μ = .ok (.bl true) μ := fun μ => by rw [it, decide_eq_true h]
    simp only [mD_ev, sSeq_ev, sAsg_ev, eCallD_ev, eCall_ev, aCons_ev, aNil_ev, eVar_ev, List.map_cons, List.map_nil, List.length_cons, List.length_nil, List.cons_append, List.nil_append, Nat.reduceAdd, Nat.reduceSub, List.reduceReplicate, List.getElem?_cons_zero, List.getElem?_cons_succ, bok, if_true, eC_ev, sok, gVar_ev, List.set_cons_succ, List.set_cons_zero, Nat.reduceLT, eBin_ev, eLc_ev, iOf_ev, oWalk, wipeE, gTup_ev, gCons_ev, gNil_ev, eLst_ev, eTup_ev, eJoin_ev, iRange1_ev, sRet_ev, sIf_ev, tB_ev, tAnd_ev, tOr_ev, tNot_ev, eNot_ev, eAnd_ev, eIf_ev, sNext_ev, sExpr_ev, sPar_ev, sAug_ev, sAsg2_ev, sFor_ev, and_self, eThaw_ev, thaw_ev, mw, lE, it2]
  · rw [if_neg h]
    have it2 : ∀ μ, oIn false (.str []) (.lst ss) μ = .ok (.bl false) μ := fun μ => by rw [it, decide_eq_false h]
    simp only [mD_ev, sSeq_ev, sAsg_ev, eCallD_ev, eCall_ev, aCons_ev, aNil_ev, eVar_ev, List.map_cons, List.map_nil, List.length_cons, List.length_nil, List.cons_append, List.nil_append, Nat.reduceAdd, Nat.reduceSub, List.reduceReplicate, List.getElem?_cons_zero, List.getElem?_cons_succ, bok, if_true, eC_ev, sok, gVar_ev, List.set_cons_succ, List.set_cons_zero, Nat.reduceLT, eBin_ev, eLc_ev, iOf_ev, oWalk, wipeE, gTup_ev, gCons_ev, gNil_ev, eLst_ev, eTup_ev, eJoin_ev, iRange1_ev, sRet_ev, sIf_ev, tB_ev, tAnd_ev, tOr_ev, tNot_ev, eNot_ev, eAnd_ev, eIf_ev, sNext_ev, sExpr_ev, sPar_ev, sAug_ev, sAsg2_ev, sFor_ev, and_self, eThaw_ev, thaw_ev, mw, lE, it2, Bool.false_eq_true, if_false, e, jo]
end K12

set_option Elab.async false
set_option linter.all false
set_option maxRecDepth 100000
set_option autoImplicit false
namespace K12
open PySem L2 Fw

/-! ### all masks -/
def evy : Nat → List (List Nat)
  | 0 => [[]]
  | k + 1 => evy k ++ (evy k).map fun m => m ++ [k]
theorem evy_sub : ∀ {n : Nat} {m : List Nat}, m ∈ evy n → m.Sublist (List.range n)
  | 0, m, h => by
    obtain rfl : m = [] := by simpa [evy] using h
    exact List.nil_sublist _
  | n + 1, m, h => by
    rw [List.range_succ]
    rcases List.mem_append.mp h with h | h
    · exact (evy_sub h).trans (List.sublist_append_left _ _)
    · obtain ⟨m', h', rfl⟩ := List.mem_map.mp h
      exact (evy_sub h').append (List.Sublist.refl _)
theorem evy_lt {n : Nat} {m : List Nat} (h : m ∈ evy n) {k : Nat} (hk : k ∈ m) : k < n := List.mem_range.mp ((evy_sub h).subset hk)
theorem evy_len : ∀ n, (evy n).length = 2 ^ n
  | 0 => rfl
  | n + 1 => by simp [evy, evy_len n, Nat.pow_succ]; omega
def okm (a b : Nat → Bool) (n : Nat) (m : List Nat) : Bool := (List.range n).all fun k => if k ∈ m then a k else b k
theorem okm_succ {a b : Nat → Bool} {n : Nat} {m : List Nat} : okm a b (n + 1) m = (okm a b n m && (if n ∈ m then a n else b n)) := by
  simp [okm, List.range_succ]
def gd (a b : Nat → Bool) : Nat → List (List Nat)
  | 0 => [[]]
  | n + 1 => (if b n = true then gd a b n else []) ++ (if a n = true then (gd a b n).map (fun m => m ++ [n]) else [])
theorem filter_gd {a b : Nat → Bool} : ∀ n, (evy n).filter (okm a b n) = gd a b n
  | 0 => rfl
  | n + 1 => by
    have e1 : (evy n).filter (okm a b (n + 1)) = if b n = true then gd a b n else [] := by
      have : (evy n).filter (okm a b (n + 1)) = (evy n).filter (fun m => okm a b n m && b n) := List.filter_congr fun m hm => by
        have hn : ¬ n ∈ m := fun h => by have := evy_lt hm h; omega
        rw [okm_succ, if_neg hn]
      rw [this]
      cases hb : b n
      · simp
      · simp [filter_gd n]
    have e2 : ((evy n).map fun m => m ++ [n]).filter (okm a b (n + 1)) = if a n = true then (gd a b n).map (fun m => m ++ [n]) else [] := by
      rw [List.filter_map]
      have : (evy n).filter (okm a b (n + 1) ∘ fun m => m ++ [n]) = (evy n).filter (fun m => okm a b n m && a n) := List.filter_congr fun m hm => by
        show okm a b (n + 1) (m ++ [n]) = _
        rw [okm_succ, if_pos (by simp)]
        congr 1
        unfold okm
        rw [Bool.eq_iff_iff, List.all_eq_true, List.all_eq_true]
        have hk : ∀ k, k ∈ List.range n → ((k ∈ m ++ [n]) ↔ k ∈ m) := fun k hk => by
          have := List.mem_range.mp hk
          simp
          omega
        exact ⟨fun h k hk' => by have := h k hk'; simpa [hk k hk'] using this, fun h k hk' => by have := h k hk'; simpa [hk k hk'] using this⟩
      rw [this]
      cases ha : a n
      · simp
      · simp [filter_gd n]
    rw [evy, List.filter_append, e1, e2, gd]
theorem gd_lt {a b : Nat → Bool} {n : Nat} {m : List Nat} (h : m ∈ gd a b n) {k : Nat} (hk : k ∈ m) : k < n := by
  rw [← filter_gd] at h
  exact evy_lt (List.mem_filter.mp h).1 hk
theorem gd_ne {a b : Nat → Bool} : ∀ n, gd a b n ≠ [] ↔ ∀ k < n, (a k || b k) = true
  | 0 => by simp [gd]
  | n + 1 => by
    have ih := gd_ne (a := a) (b := b) n
    have : gd a b (n + 1) ≠ [] ↔ (gd a b n ≠ [] ∧ (a n || b n) = true) := by
      rw [gd]
      cases a n <;> cases b n <;> simp
    rw [this, ih]
    constructor
    · rintro ⟨h1, h2⟩ k hk
      by_cases h : k = n
      · exact h ▸ h2
      · exact h1 k (by omega)
    · exact fun h => ⟨fun k hk => h k (by omega), h n (by omega)⟩
theorem gd_in {a b : Nat → Bool} : ∀ {n k : Nat}, k < n → gd a b n ≠ [] → ((∃ m ∈ gd a b n, k ∈ m) ↔ a k = true) ∧ ((∃ m ∈ gd a b n, ¬ k ∈ m) ↔ b k = true)
  | 0, k, hk, _ => by omega
  | n + 1, k, hk, h => by
    have hn : gd a b n ≠ [] := (gd_ne n).mpr fun j hj => (gd_ne (n + 1)).mp h j (by omega)
    obtain ⟨m0, h0⟩ := List.exists_mem_of_ne_nil _ hn
    have mem : ∀ m, m ∈ gd a b (n + 1) ↔ (b n = true ∧ m ∈ gd a b n) ∨ (a n = true ∧ ∃ m' ∈ gd a b n, m = m' ++ [n]) := fun m => by
      rw [gd, List.mem_append]
      have x1 : (m ∈ if b n = true then gd a b n else []) ↔ (b n = true ∧ m ∈ gd a b n) := by split <;> simp_all
      have x2 : (m ∈ if a n = true then (gd a b n).map (fun m => m ++ [n]) else []) ↔ (a n = true ∧ ∃ m' ∈ gd a b n, m = m' ++ [n]) := by
        split
        · rename_i ha
          simp only [List.mem_map, ha, true_and]
          exact ⟨fun ⟨x, hx, e⟩ => ⟨x, hx, e.symm⟩, fun ⟨x, hx, e⟩ => ⟨x, hx, e.symm⟩⟩
        · rename_i ha
          simp [ha]
      rw [x1, x2]
    by_cases hkn : k = n
    · subst hkn
      refine ⟨⟨?_, fun ha => ⟨m0 ++ [k], (mem _).mpr (.inr ⟨ha, m0, h0, rfl⟩), by simp⟩⟩, ⟨?_, fun hb => ⟨m0, (mem _).mpr (.inl ⟨hb, h0⟩), fun z => by have := gd_lt h0 z; omega⟩⟩⟩
      · rintro ⟨m, hm, hk'⟩
        rcases (mem m).mp hm with ⟨_, h1⟩ | ⟨ha, _⟩
        · have := gd_lt h1 hk'
          omega
        · exact ha
      · rintro ⟨m, hm, hk'⟩
        rcases (mem m).mp hm with ⟨hb, _⟩ | ⟨_, m', _, rfl⟩
        · exact hb
        · simp at hk'
    · have hk2 : k < n := by omega
      obtain ⟨i1, i2⟩ := gd_in hk2 hn
      have han : (a n || b n) = true := (gd_ne (n + 1)).mp h n (by omega)
      have app : ∀ m' : List Nat, (k ∈ m' ++ [n]) ↔ k ∈ m' := fun m' => by simp [hkn]
      refine ⟨?_, ?_⟩
      · rw [← i1]
        constructor
        · rintro ⟨m, hm, hk'⟩
          rcases (mem m).mp hm with ⟨_, h1⟩ | ⟨_, m', h1, rfl⟩
          · exact ⟨m, h1, hk'⟩
          · exact ⟨m', h1, (app m').mp hk'⟩
        · rintro ⟨m, hm, hk'⟩
          rcases Bool.or_eq_true_iff.mp han with ha | hb
          · exact ⟨m ++ [n], (mem _).mpr (.inr ⟨ha, m, hm, rfl⟩), (app m).mpr hk'⟩
          · exact ⟨m, (mem _).mpr (.inl ⟨hb, hm⟩), hk'⟩
      · rw [← i2]
        constructor
        · rintro ⟨m, hm, hk'⟩
          rcases (mem m).mp hm with ⟨_, h1⟩ | ⟨_, m', h1, rfl⟩
          · exact ⟨m, h1, hk'⟩
          · exact ⟨m', h1, fun z => hk' ((app m').mpr z)⟩
        · rintro ⟨m, hm, hk'⟩
          rcases Bool.or_eq_true_iff.mp han with ha | hb
          · exact ⟨m ++ [n], (mem _).mpr (.inr ⟨ha, m, hm, rfl⟩), fun z => hk' ((app m).mp z)⟩
          · exact ⟨m, (mem _).mpr (.inl ⟨hb, hm⟩), hk'⟩
theorem prd_append : ∀ {L K : List Nat}, prd (L ++ K) = prd L * prd K
  | [], K => by simp [prd]
  | x :: L, K => by rw [List.cons_append, prd, prd, prd_append, Nat.mul_assoc]
theorem gd_len {a b : Nat → Bool} : ∀ n, (gd a b n).length = prd ((List.range n).map fun k => (a k).toNat + (b k).toNat)
  | 0 => rfl
  | n + 1 => by
    rw [List.range_succ, List.map_append, prd_append, ← gd_len n]
    simp only [List.map_cons, List.map_nil, prd, Nat.mul_one, gd, List.length_append]
    cases a n <;> cases b n <;> simp <;> omega
/-! ### sets of 0 and 1 -/
theorem sset01 {l : List Int} (h : ∀ x ∈ l, x = 0 ∨ x = 1) : sset l = (if 0 ∈ l then [0] else []) ++ (if 1 ∈ l then [1] else []) := by
  refine asc_unique asc_sset ?_ fun z => ?_
  · split <;> split <;> simp
  · rw [mem_sset]
    constructor
    · intro hz
      rcases h z hz with rfl | rfl
      · simp [hz]
      · simp [hz]
    · intro hz
      rcases List.mem_append.mp hz with hz | hz
      · split at hz
        · rename_i h0
          obtain rfl : z = 0 := by simpa using hz
          exact h0
        · simp at hz
      · split at hz
        · rename_i h0
          obtain rfl : z = 1 := by simpa using hz
          exact h0
        · simp at hz
/-! ### the law's own trying -/
abbrev tN (m : List Nat) : D := .tup (nI m)
structure CxC (w h n : Nat) (T V S : List Nat) (t : Nat) : Prop where
  hs : Sz w h n
  n6 : n ≤ 6
  okT : OkT n T
  ok : OkS S
  okV : OkV n S.length V
  ht : 1 ≤ t ∧ t ≤ 99
def aK (S V : List Nat) (k : Nat) : Bool := sh S (V.getD k 63) 0
def bK (T S V : List Nat) (t k : Nat) : Bool := sh S (V.getD k 63) ((t : Int) * W T k)
theorem lt_mask {w c : Nat} {T : List Nat} {t : Nat} {m : List Nat} : lt w T [Deed.expo (t : Nat) m] c = if c ∈ m then 0 else (t : Int) * W T c := by
  by_cases h : c ∈ m <;> simp [lt, op, stp, isF, tk, h]
abbrev pm (w n : Nat) (T S : List Nat) (t : Nat) (m : List Nat) : List Nat := (List.range n).map fun c => 48 + tn S (lt w T [Deed.expo (t : Nat) m] c)
theorem like_ok {w h n t : Nat} {T V S : List Nat} (X : CxC w h n T V S t) {m : List Nat} {μ : Store} : M_l_like [.str V, .str (pm w n T S t m)] μ = .ok (.bl (okm (aK S V) (bK T S V t) n m)) μ := by
  have h9 := X.hs.n9
  have hV : V.length ≤ LIM := by rw [X.okV.len]; show _ ≤ 1000000; omega
  have hP : (pm w n T S t m).length ≤ LIM := by simp; show _ ≤ 1000000; omega
  have lP : ∀ μ, cLenO 0 M_Negativedd__lendd_ [.str (pm w n T S t m)] μ = .ok (.int (n : Nat)) μ := fun μ => by
    rw [cLenO_ev rfl]
    simp only [cLen, hP, if_true]
    simp
  have hr : ∀ μ, rangeR (.int (n : Nat)) μ = .ok (nI (List.range n), none) μ := fun μ => by rw [rangeR_nat (by omega), rg]
  have hL2 : (2 : Nat) ≤ LIM := by decide
  have hL0 : (0 : Nat) ≤ LIM := by decide
  have e := lc_filter (items := nI (List.range n)) (v := 2) (ft := (tB (eBin (oIn true) (eBin oIx (eVar 0) (eVar 2)) (eTup (aCons (eC (.str (lit "?"))) (aCons (eBin oIx (eVar 1) (eVar 2)) (aNil))))))) (ρ := [some (.str V), some (.str (pm w n T S t m)), none]) (μ := μ) (S := List.range n) (fun k => !(if k ∈ m then aK S V k else bK T S V t k)) (by simp; omega) (by simp)
    (fun k hk => by
      have hk := List.mem_range.mp hk
      have i1 : ∀ μ, oIx (.str V) (.int (k : Nat)) μ = .ok (.str [V.getD k 63]) μ := fun μ => by
        have hl : k < V.length := by rw [X.okV.len]; exact hk
        have e : atI V (k : Nat) = some (V.getD k 63) := by
          rw [atI_in (by omega) (by omega), Int.toNat_natCast, List.getElem?_eq_getElem hl, List.getD_eq_getElem?_getD, List.getElem?_eq_getElem hl]; rfl
        simp only [oIx, hV, if_true, e]
      have i2 : ∀ μ, oIx (.str (pm w n T S t m)) (.int (k : Nat)) μ = .ok (.str [48 + tn S (lt w T [Deed.expo (t : Nat) m] k)]) μ := fun μ => by
        have e : atI (pm w n T S t m) (k : Nat) = some (48 + tn S (lt w T [Deed.expo (t : Nat) m] k)) := by
          rw [atI_in (by omega) (by simp; omega), Int.toNat_natCast, List.getElem?_map, List.getElem?_range (by omega)]
          rfl
        simp only [oIx, hP, if_true, e]
      have i3 : ∀ v x μ, oIn true (.str [v]) (.tup [.str [63], .str [x]]) μ = .ok (.bl (!(decide (v = 63) || decide (v = x)))) μ := fun v x μ => by
        have h1 : inD (.str [v]) [.str [63], .str [x]] = (decide (v = 63) || decide (v = x)) := by
          simp only [inD, List.any_cons, List.any_nil, Bool.or_false, eqDf]
          rw [Bool.eq_iff_iff]
          simp only [Bool.or_eq_true, beq_iff_eq, decide_eq_true_eq, List.cons.injEq, and_true]
          omega
        have h2 : (flatD (.str [v]) && [D.str [63], D.str [x]].all flatD) = true := rfl
        simp only [oIn, seqOf, h2, if_true, h1]
      have hv : (if k ∈ m then aK S V k else bK T S V t k) = (decide (V.getD k 63 = 63) || decide (V.getD k 63 = 48 + tn S (lt w T [Deed.expo (t : Nat) m] k))) := by
        rw [lt_mask]
        split <;> rfl
      rw [hv]
      generalize pm w n T S t m = pp at *
      simp only [mD_ev, sSeq_ev, sAsg_ev, eCallD_ev, eCall_ev, aCons_ev, aNil_ev, eVar_ev, List.map_cons, List.map_nil, List.length_cons, List.length_nil, List.cons_append, List.nil_append, Nat.reduceAdd, Nat.reduceSub, List.reduceReplicate, List.getElem?_cons_zero, List.getElem?_cons_succ, bok, if_true, eC_ev, sok, gVar_ev, List.set_cons_succ, List.set_cons_zero, Nat.reduceLT, eBin_ev, eLc_ev, iOf_ev, oWalk, wipeE, gTup_ev, gCons_ev, gNil_ev, eLst_ev, eTup_ev, eJoin_ev, iRange1_ev, sRet_ev, sIf_ev, tB_ev, tAnd_ev, tOr_ev, tNot_ev, eNot_ev, eAnd_ev, eIf_ev, sNext_ev, sExpr_ev, sPar_ev, sAug_ev, sAsg2_ev, sFor_ev, and_self, eThaw_ev, thaw_ev, i1, lq, i2, hL2, i3])
  have hq : decide ((List.range n).filter (fun k => !(if k ∈ m then aK S V k else bK T S V t k)) = []) = okm (aK S V) (bK T S V t) n m := by
    rw [Bool.eq_iff_iff, decide_eq_true_eq, List.filter_eq_nil_iff, okm, List.all_eq_true]
    exact ⟨fun h k hk => by simpa using h k hk, fun h k hk => by simpa using h k hk⟩
  have en : ∀ (L : List Nat) μ, oEq (.lst (nI L)) (.lst []) μ = .ok (.bl (decide (L = []))) μ := fun L μ => by
    have hp : pl 1 (.lst (nI L)) = true := by
      have : pls 0 (nI L) = true := pls_iff.mpr (by intro d hd; obtain ⟨i, _, rfl⟩ := List.mem_map.mp hd; rfl)
      simpa [pl] using this
    rw [oEq_pl (k := 1) (j := 1) (show pl 1 (rd μ (.lst _)) = true from hp) (show pl 1 (rd μ (.lst [])) = true from rfl)]
    cases L <;> simp [rd]
  have en2 := fun μ => en ((List.range n).filter (fun k => !(if k ∈ m then aK S V k else bK T S V t k))) μ
  rw [hq] at en2
  generalize nI ((List.range n).filter (fun k => !(if k ∈ m then aK S V k else bK T S V t k))) = ff at *
  generalize nI (List.range n) = nn at *
  generalize pm w n T S t m = pp at *
  unfold M_l_like B_l_like
  simp only [mD_ev, sSeq_ev, sAsg_ev, eCallD_ev, eCall_ev, aCons_ev, aNil_ev, eVar_ev, List.map_cons, List.map_nil, List.length_cons, List.length_nil, List.cons_append, List.nil_append, Nat.reduceAdd, Nat.reduceSub, List.reduceReplicate, List.getElem?_cons_zero, List.getElem?_cons_succ, bok, if_true, eC_ev, sok, gVar_ev, List.set_cons_succ, List.set_cons_zero, Nat.reduceLT, eBin_ev, eLc_ev, iOf_ev, oWalk, wipeE, gTup_ev, gCons_ev, gNil_ev, eLst_ev, eTup_ev, eJoin_ev, iRange1_ev, sRet_ev, sIf_ev, tB_ev, tAnd_ev, tOr_ev, tNot_ev, eNot_ev, eAnd_ev, eIf_ev, sNext_ev, sExpr_ev, sPar_ev, sAug_ev, sAsg2_ev, sFor_ev, and_self, eThaw_ev, thaw_ev, lP, hr, e, hL0, en2]
theorem ev_in {w h n t : Nat} {T V S : List Nat} {p0 p1 tr at_ l1 du ma : Option D} {items : List D} {μ : Store} (m : Nat) : ∀ (j : Nat) (x12 x13 : Option D), j + m ≤ 9 → ∃ y12 y13, forL items none (gVar 12) (   sAsg (gVar 10) (eBin oAdd (eVar 10) (eLc [13] (iOf (eVar 10)) (gVar 13) (fun _ μ => .ok true μ) (eBin oAdd (eVar 13) (eTup (aCons (eVar 12) (aNil))))))) (nI (List.range' j m)) [p0, p1, some (sD w h T), some (neg w h T), some (.tup (nI S)), some (.int (t : Nat)), some (.int (n : Nat)), tr, some (.str V), at_, some (.lst ((evy j).map tN)), l1, x12, x13, du, ma] μ = .nx [p0, p1, some (sD w h T), some (neg w h T), some (.tup (nI S)), some (.int (t : Nat)), some (.int (n : Nat)), tr, some (.str V), at_, some (.lst ((evy (j + m)).map tN)), l1, y12, y13, du, ma] μ := by
  induction m with
  | zero => exact fun j x12 x13 _ => ⟨x12, x13, by rw [List.range'_zero, nI, List.map_nil, for_nil, Nat.add_zero]⟩
  | succ m ih =>
    intro j x12 x13 hj
    obtain ⟨y12, y13, e⟩ := ih (j + 1) (some (.int (j : Nat))) x13 (by omega)
    refine ⟨y12, y13, ?_⟩
    have hL1 : (1 : Nat) ≤ LIM := by decide
    have hle : (evy j).length ≤ 512 := by
      rw [evy_len]
      have : 2 ^ j ≤ 2 ^ 9 := Nat.pow_le_pow_right (by decide) (by omega)
      omega
    have lc := lc_map (items := (evy j).map tN) (v := 13) (fe := eBin oAdd (eVar 13) (eTup (aCons (eVar 12) (aNil)))) (ρ := [p0, p1, some (sD w h T), some (neg w h T), some (.tup (nI S)), some (.int (t : Nat)), some (.int (n : Nat)), tr, some (.str V), at_, some (.lst ((evy j).map tN)), l1, some (.int (j : Nat)), none, du, ma]) (μ := μ) (ds := (evy j).map tN) (f := fun d => match d with | .tup x => .tup (x ++ [.int (j : Nat)]) | _ => .non) (by rw [List.length_map]; omega) (by simp)
      (fun d hd => by
        obtain ⟨x, hx, rfl⟩ := List.mem_map.mp hd
        have hl : (nI x).length + [D.int (j : Nat)].length ≤ LIM := by
          have := (evy_sub hx).length_le
          simp at this
          simp
          show _ ≤ 1000000
          omega
        have ad : ∀ μ, oAdd (.tup (nI x)) (.tup [.int (j : Nat)]) μ = .ok (.tup (nI x ++ [.int (j : Nat)])) μ := fun μ => by simp only [oAdd, hl, if_true]
        generalize (evy j).map tN = ee at *
        simp only [mD_ev, sSeq_ev, sAsg_ev, eCallD_ev, eCall_ev, aCons_ev, aNil_ev, eVar_ev, List.map_cons, List.map_nil, List.length_cons, List.length_nil, List.cons_append, List.nil_append, Nat.reduceAdd, Nat.reduceSub, List.reduceReplicate, List.getElem?_cons_zero, List.getElem?_cons_succ, bok, if_true, eC_ev, sok, gVar_ev, List.set_cons_succ, List.set_cons_zero, Nat.reduceLT, eBin_ev, eLc_ev, iOf_ev, oWalk, wipeE, gTup_ev, gCons_ev, gNil_ev, eLst_ev, eTup_ev, eJoin_ev, iRange1_ev, sRet_ev, sIf_ev, tB_ev, tAnd_ev, tOr_ev, tNot_ev, eNot_ev, eAnd_ev, eIf_ev, sNext_ev, sExpr_ev, sPar_ev, sAug_ev, sAsg2_ev, sFor_ev, and_self, eThaw_ev, thaw_ev, hL1, ad])
    have e2 : ((evy j).map tN).map (fun d => match d with | .tup x => D.tup (x ++ [.int (j : Nat)]) | _ => .non) = ((evy j).map fun m => m ++ [j]).map tN := by
      rw [List.map_map, List.map_map]
      refine List.map_congr_left fun x _ => ?_
      show D.tup (nI x ++ [.int (j : Nat)]) = .tup (nI (x ++ [j]))
      simp
    rw [e2] at lc
    have ad : ∀ μ, oAdd (.lst ((evy j).map tN)) (.lst (((evy j).map fun m => m ++ [j]).map tN)) μ = .ok (.lst ((evy (j + 1)).map tN)) μ := fun μ => by
      have hl : ((evy j).map tN).length + (((evy j).map fun m => m ++ [j]).map tN).length ≤ LIM := by
        simp only [List.length_map]
        show _ ≤ 1000000
        omega
      simp only [oAdd, lstOf, hl, if_true, evy, List.map_append]
    have st : (   sAsg (gVar 10) (eBin oAdd (eVar 10) (eLc [13] (iOf (eVar 10)) (gVar 13) (fun _ μ => .ok true μ) (eBin oAdd (eVar 13) (eTup (aCons (eVar 12) (aNil))))))) [p0, p1, some (sD w h T), some (neg w h T), some (.tup (nI S)), some (.int (t : Nat)), some (.int (n : Nat)), tr, some (.str V), at_, some (.lst ((evy j).map tN)), l1, some (.int (j : Nat)), x13, du, ma] μ = .nx [p0, p1, some (sD w h T), some (neg w h T), some (.tup (nI S)), some (.int (t : Nat)), some (.int (n : Nat)), tr, some (.str V), at_, some (.lst ((evy (j + 1)).map tN)), l1, some (.int (j : Nat)), x13, du, ma] μ := by
      generalize ((evy j).map fun m => m ++ [j]).map tN = e3 at *
      generalize (evy (j + 1)).map tN = e4 at *
      generalize (evy j).map tN = e5 at *
      generalize nI S = zz at *
      simp only [mD_ev, sSeq_ev, sAsg_ev, eCallD_ev, eCall_ev, aCons_ev, aNil_ev, eVar_ev, List.map_cons, List.map_nil, List.length_cons, List.length_nil, List.cons_append, List.nil_append, Nat.reduceAdd, Nat.reduceSub, List.reduceReplicate, List.getElem?_cons_zero, List.getElem?_cons_succ, bok, if_true, eC_ev, sok, gVar_ev, List.set_cons_succ, List.set_cons_zero, Nat.reduceLT, eBin_ev, eLc_ev, iOf_ev, oWalk, wipeE, gTup_ev, gCons_ev, gNil_ev, eLst_ev, eTup_ev, eJoin_ev, iRange1_ev, sRet_ev, sIf_ev, tB_ev, tAnd_ev, tOr_ev, tNot_ev, eNot_ev, eAnd_ev, eIf_ev, sNext_ev, sExpr_ev, sPar_ev, sAug_ev, sAsg2_ev, sFor_ev, and_self, eThaw_ev, thaw_ev, lc, ad]
    rw [show j + (m + 1) = j + 1 + m by omega, List.range'_succ, nI, List.map_cons, for_cons]
    simp only [gVar_ev, List.length_cons, List.length_nil, Nat.reduceAdd, Nat.reduceLT, if_true, sok, List.set_cons_succ, List.set_cons_zero, st]
    exact e
theorem good_in {w h n t : Nat} {T V S : List Nat} (X : CxC w h n T V S t) {p0 p1 tr at_ ee k du ma : Option D} {items : List D} {c : Cell} (L : List (List Nat)) : ∀ (acc : List (List Nat)) (x13 : Option D), (∀ m ∈ L, m.Sublist (List.range n)) → acc.length + L.length ≤ 1000 → ∃ y13, forL items none (gVar 13) (   sIf (tB (eCallD 2 M_l_like (aCons (eVar 8) (aCons (eCallD 3 M_printed (aCons (eVar 3) (aCons (eVar 4) (aCons (eTup (aCons (eTup (aCons (eC (.str (lit "expose"))) (aCons (eVar 5) (aCons (eVar 13) (aNil))))) (aNil))) (aNil))))) (aNil))))) (   sExpr (eLm oApp (eVar 11) (eVar 13))) (   sNext)) (L.map tN) [p0, p1, some (sD w h T), some (neg w h T), some (.tup (nI S)), some (.int (t : Nat)), some (.int (n : Nat)), tr, some (.str V), at_, ee, some (.loc 1), k, x13, du, ma] [c, .lst (acc.map tN)] = .nx [p0, p1, some (sD w h T), some (neg w h T), some (.tup (nI S)), some (.int (t : Nat)), some (.int (n : Nat)), tr, some (.str V), at_, ee, some (.loc 1), k, y13, du, ma] [c, .lst ((acc ++ L.filter (okm (aK S V) (bK T S V t) n)).map tN)] := by
  induction L with
  | nil => exact fun acc x13 _ _ => ⟨x13, by rw [List.map_nil, for_nil, List.filter_nil, List.append_nil]⟩
  | cons m L ih =>
    intro acc x13 hm hl
    simp only [List.length_cons] at hl
    have ms := hm m (by simp)
    have hL0 : (0 : Nat) ≤ LIM := by decide
    have hL1 : (1 : Nat) ≤ LIM := by decide
    have hL3 : (3 : Nat) ≤ LIM := by decide
    have pr : ∀ μ, M_printed [neg w h T, .tup (nI S), .tup ([Deed.expo (t : Nat) m].map encD)] μ = .ok (.str (pm w n T S t m)) μ := fun μ => printed X.hs X.okT X.ok (R := [Deed.expo (t : Nat) m]) (by simp) (fun d hd => by
      obtain rfl : d = _ := by simpa using hd
      have := X.ht
      exact ⟨by omega, by omega, ms⟩) (μ := μ)
    have rde : D.tup ([Deed.expo (t : Nat) m].map encD) = .tup [.tup [.str [101, 120, 112, 111, 115, 101], .int (t : Nat), .tup (nI m)]] := rfl
    rw [rde] at pr
    have lk := fun μ => like_ok X (m := m) (μ := μ)
    have hf : (acc.map tN).length < LIM := by rw [List.length_map]; show _ < 1000000; omega
    have ap : oApp (.loc 1) (tN m) [c, .lst (acc.map tN)] = .ok .non [c, .lst ((acc ++ [m]).map tN)] := by
      simp only [oApp, List.getElem?_cons_succ, List.getElem?_cons_zero, hf, if_true, List.set_cons_succ, List.set_cons_zero, List.map_append, List.map_cons, List.map_nil]
    have i1 : isL [c, .lst (acc.map tN)] (.loc 1) = true := rfl
    have st : (   sIf (tB (eCallD 2 M_l_like (aCons (eVar 8) (aCons (eCallD 3 M_printed (aCons (eVar 3) (aCons (eVar 4) (aCons (eTup (aCons (eTup (aCons (eC (.str (lit "expose"))) (aCons (eVar 5) (aCons (eVar 13) (aNil))))) (aNil))) (aNil))))) (aNil))))) (   sExpr (eLm oApp (eVar 11) (eVar 13))) (   sNext)) [p0, p1, some (sD w h T), some (neg w h T), some (.tup (nI S)), some (.int (t : Nat)), some (.int (n : Nat)), tr, some (.str V), at_, ee, some (.loc 1), k, some (tN m), du, ma] [c, .lst (acc.map tN)] = .nx [p0, p1, some (sD w h T), some (neg w h T), some (.tup (nI S)), some (.int (t : Nat)), some (.int (n : Nat)), tr, some (.str V), at_, ee, some (.loc 1), k, some (tN m), du, ma] [c, .lst ((acc ++ [m].filter (okm (aK S V) (bK T S V t) n)).map tN)] := by
      have hh : [m].filter (okm (aK S V) (bK T S V t) n) = if okm (aK S V) (bK T S V t) n m = true then [m] else [] := by
        simp only [List.filter_cons, List.filter_nil]
      rw [hh]
      cases hk : okm (aK S V) (bK T S V t) n m with
      | true =>
        rw [hk] at lk
        rw [if_pos rfl]
        generalize pm w n T S t m = pp at *
        generalize (acc ++ [m]).map tN = h2 at *
        generalize acc.map tN = h1 at *
        simp only [mD_ev, sSeq_ev, sAsg_ev, eCallD_ev, eCall_ev, aCons_ev, aNil_ev, eVar_ev, List.map_cons, List.map_nil, List.length_cons, List.length_nil, List.cons_append, List.nil_append, Nat.reduceAdd, Nat.reduceSub, List.reduceReplicate, List.getElem?_cons_zero, List.getElem?_cons_succ, bok, if_true, eC_ev, sok, gVar_ev, List.set_cons_succ, List.set_cons_zero, Nat.reduceLT, eBin_ev, eLc_ev, iOf_ev, oWalk, wipeE, gTup_ev, gCons_ev, gNil_ev, eLst_ev, eTup_ev, eJoin_ev, iRange1_ev, sRet_ev, sIf_ev, tB_ev, tAnd_ev, tOr_ev, tNot_ev, eNot_ev, eAnd_ev, eIf_ev, sNext_ev, sExpr_ev, sPar_ev, sAug_ev, sAsg2_ev, sFor_ev, and_self, eThaw_ev, thaw_ev, len_expo, hL3, hL1, pr, lk, eLm_ev, i1, ap]
      | false =>
        rw [hk] at lk
        rw [if_neg Bool.false_ne_true, List.append_nil]
        generalize pm w n T S t m = pp at *
        generalize acc.map tN = h1 at *
        simp only [mD_ev, sSeq_ev, sAsg_ev, eCallD_ev, eCall_ev, aCons_ev, aNil_ev, eVar_ev, List.map_cons, List.map_nil, List.length_cons, List.length_nil, List.cons_append, List.nil_append, Nat.reduceAdd, Nat.reduceSub, List.reduceReplicate, List.getElem?_cons_zero, List.getElem?_cons_succ, bok, if_true, eC_ev, sok, gVar_ev, List.set_cons_succ, List.set_cons_zero, Nat.reduceLT, eBin_ev, eLc_ev, iOf_ev, oWalk, wipeE, gTup_ev, gCons_ev, gNil_ev, eLst_ev, eTup_ev, eJoin_ev, iRange1_ev, sRet_ev, sIf_ev, tB_ev, tAnd_ev, tOr_ev, tNot_ev, eNot_ev, eAnd_ev, eIf_ev, sNext_ev, sExpr_ev, sPar_ev, sAug_ev, sAsg2_ev, sFor_ev, and_self, eThaw_ev, thaw_ev, len_expo, hL3, hL1, pr, lk, Bool.false_eq_true, if_false]
    have hh : acc ++ (m :: L).filter (okm (aK S V) (bK T S V t) n) = (acc ++ [m].filter (okm (aK S V) (bK T S V t) n)) ++ L.filter (okm (aK S V) (bK T S V t) n) := by
      rw [List.append_assoc, ← List.filter_append]
      rfl
    have hl1 : ([m].filter (okm (aK S V) (bK T S V t) n)).length ≤ 1 := List.length_filter_le _ _
    obtain ⟨y13, e⟩ := ih (acc ++ [m].filter (okm (aK S V) (bK T S V t) n)) (some (tN m)) (fun q hq => hm q (by simp [hq])) (by rw [List.length_append]; omega)
    refine ⟨y13, ?_⟩
    rw [hh, List.map_cons, for_cons]
    simp only [gVar_ev, List.length_cons, List.length_nil, Nat.reduceAdd, Nat.reduceLT, if_true, sok, List.set_cons_succ, List.set_cons_zero, st]
    exact e
/-- a comprehension over a list that is kept -/
theorem lc_mapS {items : List D} {src : Option Nat} {v : Nat} {fe : FE} {ρ : Fw.Env} {μ : Store} {f : D → D} (hs : srcOk src items μ = true) (hv : v < ρ.length) : ∀ (ds acc : List D), acc.length + ds.length ≤ 1000000 → (∀ d ∈ ds, fe (ρ.set v (some d)) μ = .ok (f d) μ) →
    lcL items src (gVar v) (fun _ μ => .ok true μ) fe ρ ds μ acc = .ok (.lst (acc ++ ds.map f)) μ
  | [], acc, _, _ => by simp [lcL, hs]
  | d :: ds, acc, hl, h => by
    simp only [List.length_cons] at hl
    have hf : acc.length < LIM := by show _ < 1000000; omega
    have h1 := h d (by simp)
    have ih := lc_mapS hs hv (fe := fe) (f := f) ds (acc ++ [f d]) (by simp; omega) (fun x m => h x (by simp [m]))
    simp only [lcL, hs, if_true, gVar_ev, hv, bok, h1, hf]
    rw [ih]
    simp
def dch (l : List Int) : Nat := if (sset l).length = 1 then (if sset l = [1] then 99 else 111) else 63
theorem due_in {w h n t : Nat} {T V S : List Nat} {p0 p1 tr at_ ee x13 : Option D} {items : List D} {c : Cell} {G : List (List Nat)} (hG : G.length ≤ 64) (ks : List Nat) : ∀ (acc : List Nat) (x12 x15 : Option D), acc.length + ks.length ≤ 1000 → ∃ y12 y15, forL items none (gVar 12) (   sSeq (sAsg (gVar 15) (eSortSetM (eLc [13] (iOf (eVar 11)) (gVar 13) (fun _ μ => .ok true μ) (eCall cInt (aCons (eBin (oIn false) (eVar 12) (eVar 13)) (aNil)))))) (   sExpr (eLm oApp (eVar 14) (eIf (tB (eBin oNe (eCall (cLenO 0 M_Negativedd__lendd_) (aCons (eVar 15) (aNil))) (eC (.int 1)))) (eC (.str (lit "?"))) (eBin oIx (eC (.str (lit "oc"))) (eBin oIx (eVar 15) (eC (.int 0)))))))) (nI ks) [p0, p1, some (sD w h T), some (neg w h T), some (.tup (nI S)), some (.int (t : Nat)), some (.int (n : Nat)), tr, some (.str V), at_, ee, some (.loc 1), x12, x13, some (.loc 2), x15] [c, .lst (G.map tN), .lst (cS acc)] = .nx [p0, p1, some (sD w h T), some (neg w h T), some (.tup (nI S)), some (.int (t : Nat)), some (.int (n : Nat)), tr, some (.str V), at_, ee, some (.loc 1), y12, x13, some (.loc 2), y15] [c, .lst (G.map tN), .lst (cS (acc ++ ks.map fun k => dch (G.map fun m => if k ∈ m then 1 else 0)))] := by
  induction ks with
  | nil => exact fun acc x12 x15 _ => ⟨x12, x15, by rw [nI, List.map_nil, for_nil, List.map_nil, List.append_nil]⟩
  | cons k ks ih =>
    intro acc x12 x15 hl
    simp only [List.length_cons] at hl
    obtain ⟨l, hl_⟩ : ∃ l : List Int, l = G.map fun m => if k ∈ m then 1 else 0 := ⟨_, rfl⟩
    have h01 : ∀ x ∈ l, x = 0 ∨ x = 1 := fun x hx => by
      rw [hl_] at hx
      obtain ⟨m, _, rfl⟩ := List.mem_map.mp hx
      split <;> simp
    have hss := sset01 h01
    have hs2 : (sset l).length ≤ 2 := by
      rw [hss, List.length_append]
      have h1 : (if (0 : Int) ∈ l then [(0 : Int)] else []).length ≤ 1 := by split <;> simp
      have h2 : (if (1 : Int) ∈ l then [(1 : Int)] else []).length ≤ 1 := by split <;> simp
      omega
    have lc := lc_mapS (items := G.map tN) (src := some 1) (v := 13) (fe := eCall cInt (aCons (eBin (oIn false) (eVar 12) (eVar 13)) (aNil))) (ρ := [p0, p1, some (sD w h T), some (neg w h T), some (.tup (nI S)), some (.int (t : Nat)), some (.int (n : Nat)), tr, some (.str V), at_, ee, some (.loc 1), some (.int (k : Nat)), none, some (.loc 2), x15]) (μ := [c, .lst (G.map tN), .lst (cS acc)]) (f := fun d => match d with | .tup x => .int (if inD (.int (k : Nat)) x = true then 1 else 0) | _ => .non) (by simp [srcOk]) (by simp) (G.map tN) [] (by simp; omega)
      (fun d hd => by
        obtain ⟨m, hm, rfl⟩ := List.mem_map.mp hd
        have hfl : (nI m).all flatD = true := List.all_eq_true.mpr fun d hd => by
          obtain ⟨x, _, rfl⟩ := List.mem_map.mp hd
          rfl
        have i1 : ∀ μ, oIn false (.int (k : Nat)) (.tup (nI m)) μ = .ok (.bl (inD (.int (k : Nat)) (nI m))) μ := fun μ => by simp [oIn, seqOf, flatD, hfl]
        generalize G.map tN = gg at *
        generalize cS acc = aa at *
        simp only [mD_ev, sSeq_ev, sAsg_ev, eCallD_ev, eCall_ev, aCons_ev, aNil_ev, eVar_ev, List.map_cons, List.map_nil, List.length_cons, List.length_nil, List.cons_append, List.nil_append, Nat.reduceAdd, Nat.reduceSub, List.reduceReplicate, List.getElem?_cons_zero, List.getElem?_cons_succ, bok, if_true, eC_ev, sok, gVar_ev, List.set_cons_succ, List.set_cons_zero, Nat.reduceLT, eBin_ev, eLc_ev, iOf_ev, oWalk, wipeE, gTup_ev, gCons_ev, gNil_ev, eLst_ev, eTup_ev, eJoin_ev, iRange1_ev, sRet_ev, sIf_ev, tB_ev, tAnd_ev, tOr_ev, tNot_ev, eNot_ev, eAnd_ev, eIf_ev, sNext_ev, sExpr_ev, sPar_ev, sAug_ev, sAsg2_ev, sFor_ev, and_self, eThaw_ev, thaw_ev, i1, cInt_bl])
    have e2 : (G.map tN).map (fun d => match d with | .tup x => D.int (if inD (.int (k : Nat)) x = true then 1 else 0) | _ => .non) = l.map D.int := by
      rw [hl_, List.map_map, List.map_map]
      refine List.map_congr_left fun m _ => ?_
      show D.int (if inD (.int (k : Nat)) (nI m) = true then 1 else 0) = _
      rw [inD_nat]
      simp
    rw [e2, List.nil_append] at lc
    have li : ∀ μ, lintsOf μ (.lst (l.map D.int)) = some l := fun μ => by simp only [lintsOf, lstOf, intsOf_int]
    have hb : l.length ≤ 1000 ∧ (sset l).length < 64 := ⟨by rw [hl_, List.length_map]; omega, by omega⟩
    have ow : ∀ μ' : List Cell, oWalk (.loc 1) (c :: .lst (G.map tN) :: μ') = .ok (G.map tN, some 1) (c :: .lst (G.map tN) :: μ') := fun μ' => rfl
    have q0 : (sAsg (gVar 15) (eSortSetM (eLc [13] (iOf (eVar 11)) (gVar 13) (fun _ μ => .ok true μ) (eCall cInt (aCons (eBin (oIn false) (eVar 12) (eVar 13)) (aNil)))))) [p0, p1, some (sD w h T), some (neg w h T), some (.tup (nI S)), some (.int (t : Nat)), some (.int (n : Nat)), tr, some (.str V), at_, ee, some (.loc 1), some (.int (k : Nat)), x13, some (.loc 2), x15] [c, .lst (G.map tN), .lst (cS acc)] = .nx [p0, p1, some (sD w h T), some (neg w h T), some (.tup (nI S)), some (.int (t : Nat)), some (.int (n : Nat)), tr, some (.str V), at_, ee, some (.loc 1), some (.int (k : Nat)), x13, some (.loc 2), some (.lst ((sset l).map D.int))] [c, .lst (G.map tN), .lst (cS acc)] := by
      generalize G.map tN = gg at *
      generalize cS acc = aa at *
      generalize l.map D.int = l2 at *
      generalize hz : (sset l).map D.int = s2 at *
      generalize nI S = zz at *
      simp only [sAsg_ev, sortSetM_ev, eLc_ev, iOf_ev, eVar_ev, List.getElem?_cons_succ, List.getElem?_cons_zero, bok, ow, wipeE, List.set_cons_succ, List.set_cons_zero, lc, li, if_pos hb, hz, sok, gVar_ev, List.length_cons, List.length_nil, Nat.reduceAdd, Nat.reduceLT, if_true]
    have ls : ∀ μ, cLenO 0 M_Negativedd__lendd_ [.lst ((sset l).map D.int)] μ = .ok (.int ((sset l).length : Nat)) μ := fun μ => by
      rw [cLenO_ev rfl]
      simp [cLen, seqOf]
    have hf : (cS acc).length < LIM := by rw [List.length_map]; show _ < 1000000; omega
    have ap : oApp (.loc 2) (.str [dch l]) [c, .lst (G.map tN), .lst (cS acc)] = .ok .non [c, .lst (G.map tN), .lst (cS (acc ++ [dch l]))] := by
      simp only [oApp, List.getElem?_cons_succ, List.getElem?_cons_zero, hf, if_true, List.set_cons_succ, List.set_cons_zero, List.map_append, List.map_cons, List.map_nil]
    have i2 : isL [c, .lst (G.map tN), .lst (cS acc)] (.loc 2) = true := rfl
    have q1 : (sExpr (eLm oApp (eVar 14) (eIf (tB (eBin oNe (eCall (cLenO 0 M_Negativedd__lendd_) (aCons (eVar 15) (aNil))) (eC (.int 1)))) (eC (.str (lit "?"))) (eBin oIx (eC (.str (lit "oc"))) (eBin oIx (eVar 15) (eC (.int 0))))))) [p0, p1, some (sD w h T), some (neg w h T), some (.tup (nI S)), some (.int (t : Nat)), some (.int (n : Nat)), tr, some (.str V), at_, ee, some (.loc 1), some (.int (k : Nat)), x13, some (.loc 2), some (.lst ((sset l).map D.int))] [c, .lst (G.map tN), .lst (cS acc)] = .nx [p0, p1, some (sD w h T), some (neg w h T), some (.tup (nI S)), some (.int (t : Nat)), some (.int (n : Nat)), tr, some (.str V), at_, ee, some (.loc 1), some (.int (k : Nat)), x13, some (.loc 2), some (.lst ((sset l).map D.int))] [c, .lst (G.map tN), .lst (cS (acc ++ [dch l]))] := by
      by_cases h1 : (sset l).length = 1
      · have h2 : ((sset l).length : Int) = 1 := by omega
        have z : ∀ μ, oNe (.int ((sset l).length : Nat)) (.int 1) μ = .ok (.bl false) μ := fun μ => by rw [oNe_int, decide_eq_true h2]; rfl
        have hc : sset l = [0] ∨ sset l = [1] := by
          rw [hss] at h1 ⊢
          by_cases a0 : (0 : Int) ∈ l <;> by_cases a1 : (1 : Int) ∈ l <;> simp [a0, a1] at h1 ⊢
        have ix : ∀ μ, (oIx (.lst ((sset l).map D.int)) (.int 0) μ).bind (fun y μ2 => oIx (.str [111, 99]) y μ2) = .ok (.str [dch l]) μ := fun μ => by
          rcases hc with hc | hc
          · rw [dch, if_pos h1, hc]
            rfl
          · rw [dch, if_pos h1, hc]
            rfl
        generalize hz : (sset l).map D.int = s2 at *
        generalize cS (acc ++ [dch l]) = a2 at *
        generalize cS acc = aa at *
        generalize G.map tN = gg at *
        generalize nI S = zz at *
        generalize dch l = dd at *
        simp only [mD_ev, sSeq_ev, sAsg_ev, eCallD_ev, eCall_ev, aCons_ev, aNil_ev, eVar_ev, List.map_cons, List.map_nil, List.length_cons, List.length_nil, List.cons_append, List.nil_append, Nat.reduceAdd, Nat.reduceSub, List.reduceReplicate, List.getElem?_cons_zero, List.getElem?_cons_succ, bok, if_true, eC_ev, sok, gVar_ev, List.set_cons_succ, List.set_cons_zero, Nat.reduceLT, eBin_ev, eLc_ev, iOf_ev, oWalk, wipeE, gTup_ev, gCons_ev, gNil_ev, eLst_ev, eTup_ev, eJoin_ev, iRange1_ev, sRet_ev, sIf_ev, tB_ev, tAnd_ev, tOr_ev, tNot_ev, eNot_ev, eAnd_ev, eIf_ev, sNext_ev, sExpr_ev, sPar_ev, sAug_ev, sAsg2_ev, sFor_ev, and_self, eThaw_ev, thaw_ev, eLm_ev, i2, ls, z, Bool.false_eq_true, if_false, l_oc, ix, ap]
      · have h2 : ¬ ((sset l).length : Int) = 1 := by omega
        have z : ∀ μ, oNe (.int ((sset l).length : Nat)) (.int 1) μ = .ok (.bl true) μ := fun μ => by rw [oNe_int, decide_eq_false h2]; rfl
        have hd : dch l = 63 := by rw [dch, if_neg h1]
        rw [hd] at ap ⊢
        generalize hz : (sset l).map D.int = s2 at *
        generalize cS (acc ++ [63]) = a2 at *
        generalize cS acc = aa at *
        generalize G.map tN = gg at *
        generalize nI S = zz at *
        simp only [mD_ev, sSeq_ev, sAsg_ev, eCallD_ev, eCall_ev, aCons_ev, aNil_ev, eVar_ev, List.map_cons, List.map_nil, List.length_cons, List.length_nil, List.cons_append, List.nil_append, Nat.reduceAdd, Nat.reduceSub, List.reduceReplicate, List.getElem?_cons_zero, List.getElem?_cons_succ, bok, if_true, eC_ev, sok, gVar_ev, List.set_cons_succ, List.set_cons_zero, Nat.reduceLT, eBin_ev, eLc_ev, iOf_ev, oWalk, wipeE, gTup_ev, gCons_ev, gNil_ev, eLst_ev, eTup_ev, eJoin_ev, iRange1_ev, sRet_ev, sIf_ev, tB_ev, tAnd_ev, tOr_ev, tNot_ev, eNot_ev, eAnd_ev, eIf_ev, sNext_ev, sExpr_ev, sPar_ev, sAug_ev, sAsg2_ev, sFor_ev, and_self, eThaw_ev, thaw_ev, eLm_ev, i2, ls, z, lq, ap]
    obtain ⟨y12, y15, e⟩ := ih (acc ++ [dch l]) (some (.int (k : Nat))) (some (.lst ((sset l).map D.int))) (by simp; omega)
    refine ⟨y12, y15, ?_⟩
    rw [List.map_cons, ← hl_, nI, List.map_cons, for_cons]
    simp only [gVar_ev, List.length_cons, List.length_nil, Nat.reduceAdd, Nat.reduceLT, if_true, sok, List.set_cons_succ, List.set_cons_zero, sSeq_ev, q0, q1]
    rw [List.append_assoc, List.cons_append, List.nil_append] at e
    exact e
end K12

set_option Elab.async false
set_option linter.all false
set_option maxRecDepth 100000
set_option autoImplicit false
namespace K12
open PySem L2 Fw

theorem cutS_lo {V : List Nat} {i : Nat} (hV : V.length ≤ LIM) (hi : i < V.length) {μ : Store} : oCut (.str V) none (some (i : Int)) μ = .ok (.str (V.take i)) μ := by
  simp only [oCut, hV, if_true, cutD, HT.sIx_none, HT.sIx_nat, List.drop_zero, Nat.sub_zero, Nat.min_eq_left (Nat.le_of_lt hi)]
theorem cutS_hi {V : List Nat} {i : Nat} (hV : V.length ≤ LIM) (hi : i < V.length) {μ : Store} : oCut (.str V) (some ((i : Int) + 1)) none μ = .ok (.str (V.drop (i + 1))) μ := by
  have e : ((i : Int) + 1) = ((i + 1 : Nat) : Int) := by simp
  have e2 : min (i + 1) V.length = i + 1 := Nat.min_eq_left hi
  rw [e]
  simp only [oCut, hV, if_true, cutD, HT.sIx_none, HT.sIx_nat, e2]
  congr 2
  rw [List.take_of_length_le (by simp)]
theorem zip_range {n m : Nat} {T V : List Nat} (okT : OkT n T) (okV : OkV n m V) : T.zip V = (List.range n).map fun k => (T.getD k 48, V.getD k 63) := by
  apply List.ext_getElem?
  intro i
  by_cases h : i < n
  · have h1 : i < T.length := by rw [okT.1]; exact h
    have h2 : i < V.length := by rw [okV.len]; exact h
    rw [List.getElem?_map, List.getElem?_range h, Option.map_some, List.getD_eq_getElem?_getD, List.getD_eq_getElem?_getD, List.getElem?_eq_getElem h1, List.getElem?_eq_getElem h2]
    rw [List.getElem?_zip_eq_some]
    exact ⟨List.getElem?_eq_getElem h1, List.getElem?_eq_getElem h2⟩
  · rw [List.getElem?_eq_none (by have := okT.1; simp; omega), List.getElem?_eq_none (by simp; omega)]
theorem dch_mark {l : List Int} (h : ∀ x ∈ l, x = 0 ∨ x = 1) : dch l = mark (decide (1 ∈ l)) (decide (0 ∈ l)) := by
  have hs := sset01 h
  unfold dch mark
  rw [hs]
  by_cases h0 : (0 : Int) ∈ l <;> by_cases h1 : (1 : Int) ∈ l <;> simp [h0, h1]
theorem pl_G {G : List (List Nat)} : pl 2 (.lst (G.map tN)) = true := by
  have : pls 1 (G.map tN) = true := pls_iff.mpr (by
    intro d hd
    obtain ⟨m, _, rfl⟩ := List.mem_map.mp hd
    have : pls 0 (nI m) = true := pls_iff.mpr (by intro d hd; obtain ⟨i, _, rfl⟩ := List.mem_map.mp hd; rfl)
    simpa [pl] using this)
  simpa [pl] using this
theorem law_true {ns : List Int} (hn : ns.length ≤ 63) : ∃ μ, M_law [.flst ns] [] = .ok (.bl true) μ := by
  obtain ⟨w, h, n, T, c1, e1, h1, hs, okT, n6⟩ := scheme (c := .lst [.flst ns, .int 0, .int 0, .int 0]) ⟨ns, 0, 0, 0, hn, rfl, Int.le_refl 0⟩
  obtain ⟨S, c2, e2, h2, ok⟩ := steps (m := 3) (by omega) (by omega) (r := []) h1
  obtain ⟨k3, c3, e3, h3, a3, b3⟩ := taken (r := []) (m := 99) h2 (by omega) (by omega)
  obtain ⟨t, ht⟩ : ∃ t : Nat, 1 + k3 = (t : Nat) := ⟨(1 + k3).toNat, by omega⟩
  have ht2 : 1 ≤ t ∧ t ≤ 99 := by omega
  obtain ⟨m0, c4, e4, h4, ms⟩ := covered (r := []) (T := T) hs h3
  have h9 := hs.n9
  have n1 := hs.n1
  obtain ⟨V0, c5, e5, h5, okV0⟩ := l_seen (r := []) (n := n) (m := S.length) (G := pm w n T S t m0) h9 h4 okG_print
  obtain ⟨k6, c6, e6, h6, a6, b6⟩ := taken (r := []) (m := 4) h5 (by omega) (by omega)
  have hL4 : (4 : Nat) ≤ LIM := by decide
  have hL3 : (3 : Nat) ≤ LIM := by decide
  have hL1 : (1 : Nat) ≤ LIM := by decide
  have hL0 : (0 : Nat) ≤ LIM := by decide
  have s2 : ∀ μ, oIx (sD w h T) (.int 2) μ = .ok (.str T) μ := fun μ => rfl
  have lT : ∀ μ, cLenO 0 M_Negativedd__lendd_ [.str T] μ = .ok (.int (n : Nat)) μ := fun μ => by
    rw [cLenO_ev rfl]; exact lenT okT hs.n9
  have ls : ∀ μ, cLenO 0 M_Negativedd__lendd_ [.tup (nI S)] μ = .ok (.int (S.length : Nat)) μ := fun μ => by
    rw [cLenO_ev rfl]
    simp [cLen, seqOf]
  have mk : M_l_negative [sD w h T] [c1] = .ok (neg w h T) [c1] := by
    have := make hs okT (ρ := [some (sD w h T)]) (fs := (aCons (eBin oIx (eVar 0) (eC (.int 0))) (aCons (eBin oIx (eVar 0) (eC (.int 1))) (aCons (eBin oIx (eVar 0) (eC (.int 2))) (aNil))))) (show [c1].all (lowC [c1].length) = true by simp [closed1 h1]) (by simp only [mD_ev, sSeq_ev, sAsg_ev, eCallD_ev, eCall_ev, aCons_ev, aNil_ev, eVar_ev, List.map_cons, List.map_nil, List.length_cons, List.length_nil, List.cons_append, List.nil_append, Nat.reduceAdd, Nat.reduceSub, List.reduceReplicate, List.getElem?_cons_zero, List.getElem?_cons_succ, bok, if_true, eC_ev, sok, gVar_ev, List.set_cons_succ, List.set_cons_zero, Nat.reduceLT, eBin_ev, eLc_ev, iOf_ev, oWalk, wipeE, gTup_ev, gCons_ev, gNil_ev, eLst_ev, eTup_ev, eJoin_ev, iRange1_ev, sRet_ev, sIf_ev, tB_ev, tAnd_ev, tOr_ev, tNot_ev, eNot_ev, eAnd_ev, eIf_ev, sNext_ev, sExpr_ev, sPar_ev, sAug_ev, sAsg2_ev, sFor_ev, and_self, eThaw_ev, thaw_ev, sD0, sD1, s2])
    unfold M_l_negative B_l_negative
    simp only [mD_ev, sSeq_ev, sAsg_ev, eCallD_ev, eCall_ev, aCons_ev, aNil_ev, eVar_ev, List.map_cons, List.map_nil, List.length_cons, List.length_nil, List.cons_append, List.nil_append, Nat.reduceAdd, Nat.reduceSub, List.reduceReplicate, List.getElem?_cons_zero, List.getElem?_cons_succ, bok, if_true, eC_ev, sok, gVar_ev, List.set_cons_succ, List.set_cons_zero, Nat.reduceLT, eBin_ev, eLc_ev, iOf_ev, oWalk, wipeE, gTup_ev, gCons_ev, gNil_ev, eLst_ev, eTup_ev, eJoin_ev, iRange1_ev, sRet_ev, sIf_ev, tB_ev, tAnd_ev, tOr_ev, tNot_ev, eNot_ev, eAnd_ev, eIf_ev, sNext_ev, sExpr_ev, sPar_ev, sAug_ev, sAsg2_ev, sFor_ev, and_self, eThaw_ev, thaw_ev, this]
  have q1 : (sAsg (gVar 1) (eThaw (eLst (aCons (eVar 0) (aCons (eC (.int 0)) (aCons (eC (.int 0)) (aCons (eC (.int 0)) (aNil)))))))) [some (.flst ns), none, none, none, none, none, none, none, none, none, none, none, none, none, none, none] [] = .nx [some (.flst ns), some (.loc 0), none, none, none, none, none, none, none, none, none, none, none, none, none, none] [.lst [.flst ns, .int 0, .int 0, .int 0]] := by simp only [mD_ev, sSeq_ev, sAsg_ev, eCallD_ev, eCall_ev, aCons_ev, aNil_ev, eVar_ev, List.map_cons, List.map_nil, List.length_cons, List.length_nil, List.cons_append, List.nil_append, Nat.reduceAdd, Nat.reduceSub, List.reduceReplicate, List.getElem?_cons_zero, List.getElem?_cons_succ, bok, if_true, eC_ev, sok, gVar_ev, List.set_cons_succ, List.set_cons_zero, Nat.reduceLT, eBin_ev, eLc_ev, iOf_ev, oWalk, wipeE, gTup_ev, gCons_ev, gNil_ev, eLst_ev, eTup_ev, eJoin_ev, iRange1_ev, sRet_ev, sIf_ev, tB_ev, tAnd_ev, tOr_ev, tNot_ev, eNot_ev, eAnd_ev, eIf_ev, sNext_ev, sExpr_ev, sPar_ev, sAug_ev, sAsg2_ev, sFor_ev, and_self, eThaw_ev, thaw_ev, hL4]
  have q2 : (sAsg (gVar 2) (eCallD 2 M_l_scheme (aCons (eVar 1) (aCons (eC (.int 6)) (aNil))))) [some (.flst ns), some (.loc 0), none, none, none, none, none, none, none, none, none, none, none, none, none, none] [.lst [.flst ns, .int 0, .int 0, .int 0]] = .nx [some (.flst ns), some (.loc 0), some (sD w h T), none, none, none, none, none, none, none, none, none, none, none, none, none] [c1] := by simp only [mD_ev, sSeq_ev, sAsg_ev, eCallD_ev, eCall_ev, aCons_ev, aNil_ev, eVar_ev, List.map_cons, List.map_nil, List.length_cons, List.length_nil, List.cons_append, List.nil_append, Nat.reduceAdd, Nat.reduceSub, List.reduceReplicate, List.getElem?_cons_zero, List.getElem?_cons_succ, bok, if_true, eC_ev, sok, gVar_ev, List.set_cons_succ, List.set_cons_zero, Nat.reduceLT, eBin_ev, eLc_ev, iOf_ev, oWalk, wipeE, gTup_ev, gCons_ev, gNil_ev, eLst_ev, eTup_ev, eJoin_ev, iRange1_ev, sRet_ev, sIf_ev, tB_ev, tAnd_ev, tOr_ev, tNot_ev, eNot_ev, eAnd_ev, eIf_ev, sNext_ev, sExpr_ev, sPar_ev, sAug_ev, sAsg2_ev, sFor_ev, and_self, eThaw_ev, thaw_ev, e1]
  have q3 : (sAsg (gTup 4 (gCons (gVar 3) (gCons (gVar 4) (gCons (gVar 5) (gCons (gVar 6) (gNil)))))) (eTup (aCons (eCallD 1 M_l_negative (aCons (eVar 2) (aNil))) (aCons (eCallD 2 M_l_steps (aCons (eVar 1) (aCons (eC (.int 3)) (aNil)))) (aCons (eBin oAdd (eC (.int 1)) (eCallD 2 M_l_taken (aCons (eVar 1) (aCons (eC (.int 99)) (aNil))))) (aCons (eCall (cLenO 0 M_Negativedd__lendd_) (aCons (eBin oIx (eVar 2) (eC (.int 2))) (aNil))) (aNil))))))) [some (.flst ns), some (.loc 0), some (sD w h T), none, none, none, none, none, none, none, none, none, none, none, none, none] [c1] = .nx [some (.flst ns), some (.loc 0), some (sD w h T), some (neg w h T), some (.tup (nI S)), some (.int (t : Nat)), some (.int (n : Nat)), none, none, none, none, none, none, none, none, none] [c3] := by
    rw [show ((3 : Nat) : Int) = 3 from rfl] at e2
    generalize nI S = zz at *
    simp only [mD_ev, sSeq_ev, sAsg_ev, eCallD_ev, eCall_ev, aCons_ev, aNil_ev, eVar_ev, List.map_cons, List.map_nil, List.length_cons, List.length_nil, List.cons_append, List.nil_append, Nat.reduceAdd, Nat.reduceSub, List.reduceReplicate, List.getElem?_cons_zero, List.getElem?_cons_succ, bok, if_true, eC_ev, sok, gVar_ev, List.set_cons_succ, List.set_cons_zero, Nat.reduceLT, eBin_ev, eLc_ev, iOf_ev, oWalk, wipeE, gTup_ev, gCons_ev, gNil_ev, eLst_ev, eTup_ev, eJoin_ev, iRange1_ev, sRet_ev, sIf_ev, tB_ev, tAnd_ev, tOr_ev, tNot_ev, eNot_ev, eAnd_ev, eIf_ev, sNext_ev, sExpr_ev, sPar_ev, sAug_ev, sAsg2_ev, sFor_ev, and_self, eThaw_ev, thaw_ev, mk, e2, e3, oAdd_int, ht, s2, lT, hL4]
  have q4 : (sAsg (gVar 7) (eCallD 2 M_l_covered (aCons (eVar 1) (aCons (eVar 2) (aNil))))) [some (.flst ns), some (.loc 0), some (sD w h T), some (neg w h T), some (.tup (nI S)), some (.int (t : Nat)), some (.int (n : Nat)), none, none, none, none, none, none, none, none, none] [c3] = .nx [some (.flst ns), some (.loc 0), some (sD w h T), some (neg w h T), some (.tup (nI S)), some (.int (t : Nat)), some (.int (n : Nat)), some (.tup (nI m0)), none, none, none, none, none, none, none, none] [c4] := by
    have e4' : M_l_covered [.loc 0, sD w h T] [c3] = .ok (.tup (nI m0)) [c4] := e4
    generalize nI m0 = mm at *
    generalize nI S = zz at *
    simp only [mD_ev, sSeq_ev, sAsg_ev, eCallD_ev, eCall_ev, aCons_ev, aNil_ev, eVar_ev, List.map_cons, List.map_nil, List.length_cons, List.length_nil, List.cons_append, List.nil_append, Nat.reduceAdd, Nat.reduceSub, List.reduceReplicate, List.getElem?_cons_zero, List.getElem?_cons_succ, bok, if_true, eC_ev, sok, gVar_ev, List.set_cons_succ, List.set_cons_zero, Nat.reduceLT, eBin_ev, eLc_ev, iOf_ev, oWalk, wipeE, gTup_ev, gCons_ev, gNil_ev, eLst_ev, eTup_ev, eJoin_ev, iRange1_ev, sRet_ev, sIf_ev, tB_ev, tAnd_ev, tOr_ev, tNot_ev, eNot_ev, eAnd_ev, eIf_ev, sNext_ev, sExpr_ev, sPar_ev, sAug_ev, sAsg2_ev, sFor_ev, and_self, eThaw_ev, thaw_ev, e4']
  have q5 : (sAsg (gVar 8) (eCallD 2 M_l_seen (aCons (eVar 1) (aCons (eCallD 2 M_l_print (aCons (eVar 4) (aCons (eBin oIx (eCallD 3 M_l_rows (aCons (eVar 2) (aCons (eBin oIx (eVar 2) (eC (.int 2))) (aCons (eTup (aCons (eTup (aCons (eC (.str (lit "expose"))) (aCons (eVar 5) (aCons (eVar 7) (aNil))))) (aNil))) (aNil))))) (eNeg (eC (.int 1)))) (aNil)))) (aNil))))) [some (.flst ns), some (.loc 0), some (sD w h T), some (neg w h T), some (.tup (nI S)), some (.int (t : Nat)), some (.int (n : Nat)), some (.tup (nI m0)), none, none, none, none, none, none, none, none] [c4] = .nx [some (.flst ns), some (.loc 0), some (sD w h T), some (neg w h T), some (.tup (nI S)), some (.int (t : Nat)), some (.int (n : Nat)), some (.tup (nI m0)), some (.str V0), none, none, none, none, none, none, none] [c5] := by
    obtain ⟨pre, f1⟩ := l_rows (S := T) hs okT (R := [Deed.expo (t : Nat) m0]) (by simp) (show [c4].all (lowC [c4].length) = true by simp [closed1 h4])
    have rde : D.tup ([Deed.expo (t : Nat) m0].map encD) = .tup [.tup [.str [101, 120, 112, 111, 115, 101], .int (t : Nat), .tup (nI m0)]] := rfl
    rw [rde] at f1
    have f2 : ∀ μ, oIx (.lst (pre ++ [.tup (rowOf n fun c => lt w T [Deed.expo (t : Nat) m0] c)])) (.int (-1)) μ = .ok (.tup (rowOf n fun c => lt w T [Deed.expo (t : Nat) m0] c)) μ := fun μ => by simp only [oIx, seqOf, last]
    have pr : ∀ μ, M_l_print [.tup (nI S), .tup (rowOf n fun c => lt w T [Deed.expo (t : Nat) m0] c)] μ = .ok (.str (pm w n T S t m0)) μ := fun μ => l_print h9 ok (f := fun c => lt w T [Deed.expo (t : Nat) m0] c) (μ := μ)
    generalize pre ++ [.tup (rowOf n fun c => lt w T [Deed.expo (t : Nat) m0] c)] = xx at *
    generalize rowOf n (fun c => lt w T [Deed.expo (t : Nat) m0] c) = rr at *
    generalize pm w n T S t m0 = pp at *
    generalize nI m0 = mm at *
    generalize nI S = zz at *
    simp only [mD_ev, sSeq_ev, sAsg_ev, eCallD_ev, eCall_ev, aCons_ev, aNil_ev, eVar_ev, List.map_cons, List.map_nil, List.length_cons, List.length_nil, List.cons_append, List.nil_append, Nat.reduceAdd, Nat.reduceSub, List.reduceReplicate, List.getElem?_cons_zero, List.getElem?_cons_succ, bok, if_true, eC_ev, sok, gVar_ev, List.set_cons_succ, List.set_cons_zero, Nat.reduceLT, eBin_ev, eLc_ev, iOf_ev, oWalk, wipeE, gTup_ev, gCons_ev, gNil_ev, eLst_ev, eTup_ev, eJoin_ev, iRange1_ev, sRet_ev, sIf_ev, tB_ev, tAnd_ev, tOr_ev, tNot_ev, eNot_ev, eAnd_ev, eIf_ev, sNext_ev, sExpr_ev, sPar_ev, sAug_ev, sAsg2_ev, sFor_ev, and_self, eThaw_ev, thaw_ev, s2, len_expo, hL3, hL1, f1, eNeg_ev, f2, pr, e5]
  obtain ⟨V, at_, c9, h9c, okV, q6⟩ : ∃ (V : List Nat) (at_ : Option D) (c9 : Cell), Row0 c9 ∧ OkV n S.length V ∧ (sIf (tB (eBin oEq (eCallD 2 M_l_taken (aCons (eVar 1) (aCons (eC (.int 4)) (aNil)))) (eC (.int 0)))) (   sSeq (sAsg (gVar 9) (eCallD 2 M_l_taken (aCons (eVar 1) (aCons (eVar 6) (aNil))))) (   sAsg (gVar 8) (eBin oAdd (eBin oAdd (eCut (eVar 8) (oNone) (oSome (eVar 9))) (eCall cStr (aCons (eCallD 2 M_l_taken (aCons (eVar 1) (aCons (eBin oAdd (eCall (cLenO 0 M_Negativedd__lendd_) (aCons (eVar 4) (aNil))) (eC (.int 1))) (aNil)))) (aNil)))) (eCut (eVar 8) (oSome (eBin oAdd (eVar 9) (eC (.int 1)))) (oNone))))) (   sNext)) [some (.flst ns), some (.loc 0), some (sD w h T), some (neg w h T), some (.tup (nI S)), some (.int (t : Nat)), some (.int (n : Nat)), some (.tup (nI m0)), some (.str V0), none, none, none, none, none, none, none] [c5] = .nx [some (.flst ns), some (.loc 0), some (sD w h T), some (neg w h T), some (.tup (nI S)), some (.int (t : Nat)), some (.int (n : Nat)), some (.tup (nI m0)), some (.str V), at_, none, none, none, none, none, none] [c9] := by
    by_cases hk : k6 = 0
    · obtain ⟨k7, c7, e7, h7, a7, b7⟩ := taken (r := []) (m := (n : Nat)) h6 (by omega) (by omega)
      obtain ⟨i, rfl⟩ : ∃ i : Nat, k7 = (i : Nat) := ⟨k7.toNat, by omega⟩
      obtain ⟨k8, c8, e8, h8, a8, b8⟩ := taken (r := []) (m := (S.length : Nat) + 1) h7 (by omega) (by have := ok.le; omega)
      obtain ⟨x, rfl⟩ : ∃ x : Nat, k8 = (x : Nat) := ⟨k8.toNat, by omega⟩
      have hi : i < V0.length := by rw [okV0.len]; omega
      have hV : V0.length ≤ LIM := by rw [okV0.len]; show _ ≤ 1000000; omega
      have okx : OkV n S.length (V0.take i ++ [48 + x] ++ V0.drop (i + 1)) := ⟨by
        have := okV0.len
        simp
        omega, fun c hc => by
        rcases List.mem_append.mp hc with hc | hc
        · rcases List.mem_append.mp hc with hc | hc
          · exact okV0.ch c (List.mem_of_mem_take hc)
          · obtain rfl : c = 48 + x := by simpa using hc
            exact .inr ⟨by omega, by omega⟩
        · exact okV0.ch c (List.mem_of_mem_drop hc)⟩
      refine ⟨V0.take i ++ [48 + x] ++ V0.drop (i + 1), some (.int (i : Nat)), c8, h8, okx, ?_⟩
      have x1 := fun μ => cutS_lo hV hi (μ := μ)
      have x2 := fun μ => cutS_hi hV hi (μ := μ)
      have x3 := fun μ => str9 (k := x) (by have := ok.le; omega) (μ := μ)
      have x4 : ∀ μ, oAdd (.str (V0.take i)) (.str [48 + x]) μ = .ok (.str (V0.take i ++ [48 + x])) μ := fun μ => by
        have : (V0.take i).length + [48 + x].length ≤ LIM := by simp; show _ ≤ 1000000; omega
        simp only [oAdd, this, if_true]
      have x5 : ∀ μ, oAdd (.str (V0.take i ++ [48 + x])) (.str (V0.drop (i + 1))) μ = .ok (.str (V0.take i ++ [48 + x] ++ V0.drop (i + 1))) μ := fun μ => by
        have : (V0.take i ++ [48 + x]).length + (V0.drop (i + 1)).length ≤ LIM := by have := okV0.len; simp; show _ ≤ 1000000; omega
        simp only [oAdd, this, if_true]
      subst hk
      generalize V0.take i ++ [48 + x] ++ V0.drop (i + 1) = v3 at *
      generalize V0.take i ++ [48 + x] = v2 at *
      generalize V0.take i = v1 at *
      generalize V0.drop (i + 1) = v4 at *
      generalize nI m0 = mm at *
      generalize nI S = zz at *
      simp only [mD_ev, sSeq_ev, sAsg_ev, eCallD_ev, eCall_ev, aCons_ev, aNil_ev, eVar_ev, List.map_cons, List.map_nil, List.length_cons, List.length_nil, List.cons_append, List.nil_append, Nat.reduceAdd, Nat.reduceSub, List.reduceReplicate, List.getElem?_cons_zero, List.getElem?_cons_succ, bok, if_true, eC_ev, sok, gVar_ev, List.set_cons_succ, List.set_cons_zero, Nat.reduceLT, eBin_ev, eLc_ev, iOf_ev, oWalk, wipeE, gTup_ev, gCons_ev, gNil_ev, eLst_ev, eTup_ev, eJoin_ev, iRange1_ev, sRet_ev, sIf_ev, tB_ev, tAnd_ev, tOr_ev, tNot_ev, eNot_ev, eAnd_ev, eIf_ev, sNext_ev, sExpr_ev, sPar_ev, sAug_ev, sAsg2_ev, sFor_ev, and_self, eThaw_ev, thaw_ev, e6, oEq_int, decide_true, e7, eCut_ev, oNone_ev, oSome_ev, x1, ls, oAdd_int, e8, x3, x4, x2, x5]
    · refine ⟨V0, none, c6, h6, okV0, ?_⟩
      generalize nI m0 = mm at *
      generalize nI S = zz at *
      simp only [mD_ev, sSeq_ev, sAsg_ev, eCallD_ev, eCall_ev, aCons_ev, aNil_ev, eVar_ev, List.map_cons, List.map_nil, List.length_cons, List.length_nil, List.cons_append, List.nil_append, Nat.reduceAdd, Nat.reduceSub, List.reduceReplicate, List.getElem?_cons_zero, List.getElem?_cons_succ, bok, if_true, eC_ev, sok, gVar_ev, List.set_cons_succ, List.set_cons_zero, Nat.reduceLT, eBin_ev, eLc_ev, iOf_ev, oWalk, wipeE, gTup_ev, gCons_ev, gNil_ev, eLst_ev, eTup_ev, eJoin_ev, iRange1_ev, sRet_ev, sIf_ev, tB_ev, tAnd_ev, tOr_ev, tNot_ev, eNot_ev, eAnd_ev, eIf_ev, sNext_ev, sExpr_ev, sPar_ev, sAug_ev, sAsg2_ev, sFor_ev, and_self, eThaw_ev, thaw_ev, e6, oEq_int, hk, decide_false, Bool.false_eq_true, if_false]
  have X : CxC w h n T V S t := ⟨hs, n6, okT, ok, okV, ht2⟩
  have r0 : [D.tup []] = (evy 0).map tN := rfl
  have q7 : (sPar 10 11 (eLst (aCons (eTup (aNil)) (aNil))) (eThaw (eLst (aNil)))) [some (.flst ns), some (.loc 0), some (sD w h T), some (neg w h T), some (.tup (nI S)), some (.int (t : Nat)), some (.int (n : Nat)), some (.tup (nI m0)), some (.str V), at_, none, none, none, none, none, none] [c9] = .nx [some (.flst ns), some (.loc 0), some (sD w h T), some (neg w h T), some (.tup (nI S)), some (.int (t : Nat)), some (.int (n : Nat)), some (.tup (nI m0)), some (.str V), at_, some (.lst ((evy 0).map tN)), some (.loc 1), none, none, none, none] [c9, .lst (([] : List (List Nat)).map tN)] := by
    rw [← r0]
    generalize nI m0 = mm at *
    generalize nI S = zz at *
    simp only [mD_ev, sSeq_ev, sAsg_ev, eCallD_ev, eCall_ev, aCons_ev, aNil_ev, eVar_ev, List.map_cons, List.map_nil, List.length_cons, List.length_nil, List.cons_append, List.nil_append, Nat.reduceAdd, Nat.reduceSub, List.reduceReplicate, List.getElem?_cons_zero, List.getElem?_cons_succ, bok, if_true, eC_ev, sok, gVar_ev, List.set_cons_succ, List.set_cons_zero, Nat.reduceLT, eBin_ev, eLc_ev, iOf_ev, oWalk, wipeE, gTup_ev, gCons_ev, gNil_ev, eLst_ev, eTup_ev, eJoin_ev, iRange1_ev, sRet_ev, sIf_ev, tB_ev, tAnd_ev, tOr_ev, tNot_ev, eNot_ev, eAnd_ev, eIf_ev, sNext_ev, sExpr_ev, sPar_ev, sAug_ev, sAsg2_ev, sFor_ev, and_self, eThaw_ev, thaw_ev, hL0, hL1]
  obtain ⟨y12, y13, f8⟩ := ev_in (w := w) (h := h) (n := n) (t := t) (T := T) (V := V) (S := S) (p0 := some (.flst ns)) (p1 := some (.loc 0)) (tr := some (.tup (nI m0))) (at_ := at_) (l1 := some (.loc 1)) (du := none) (ma := none) (items := nI (List.range' 0 n)) (μ := [c9, .lst (([] : List (List Nat)).map tN)]) n 0 none none (by omega)
  rw [Nat.zero_add] at f8
  have hr : ∀ μ, rangeR (.int (n : Nat)) μ = .ok (nI (List.range' 0 n), none) μ := fun μ => by rw [rangeR_nat (by omega), rg, List.range_eq_range']
  have hr2 : ∀ μ, rangeR (.int (n : Nat)) μ = .ok (nI (List.range n), none) μ := fun μ => by rw [rangeR_nat (by omega), rg]
  have q8 : (sFor (iRange1 (eVar 6)) (gVar 12) (   sAsg (gVar 10) (eBin oAdd (eVar 10) (eLc [13] (iOf (eVar 10)) (gVar 13) (fun _ μ => .ok true μ) (eBin oAdd (eVar 13) (eTup (aCons (eVar 12) (aNil)))))))) [some (.flst ns), some (.loc 0), some (sD w h T), some (neg w h T), some (.tup (nI S)), some (.int (t : Nat)), some (.int (n : Nat)), some (.tup (nI m0)), some (.str V), at_, some (.lst ((evy 0).map tN)), some (.loc 1), none, none, none, none] [c9, .lst (([] : List (List Nat)).map tN)] = .nx [some (.flst ns), some (.loc 0), some (sD w h T), some (neg w h T), some (.tup (nI S)), some (.int (t : Nat)), some (.int (n : Nat)), some (.tup (nI m0)), some (.str V), at_, some (.lst ((evy n).map tN)), some (.loc 1), y12, y13, none, none] [c9, .lst (([] : List (List Nat)).map tN)] := by
    have it : (iRange1 (eVar 6)) [some (.flst ns), some (.loc 0), some (sD w h T), some (neg w h T), some (.tup (nI S)), some (.int (t : Nat)), some (.int (n : Nat)), some (.tup (nI m0)), some (.str V), at_, some (.lst ((evy 0).map tN)), some (.loc 1), none, none, none, none] [c9, .lst (([] : List (List Nat)).map tN)] = .ok (nI (List.range' 0 n), none) [c9, .lst (([] : List (List Nat)).map tN)] := by
      generalize nI (List.range' 0 n) = nn at *
      generalize (evy 0).map tN = ee at *
      generalize nI m0 = mm at *
      generalize nI S = zz at *
      simp only [mD_ev, sSeq_ev, sAsg_ev, eCallD_ev, eCall_ev, aCons_ev, aNil_ev, eVar_ev, List.map_cons, List.map_nil, List.length_cons, List.length_nil, List.cons_append, List.nil_append, Nat.reduceAdd, Nat.reduceSub, List.reduceReplicate, List.getElem?_cons_zero, List.getElem?_cons_succ, bok, if_true, eC_ev, sok, gVar_ev, List.set_cons_succ, List.set_cons_zero, Nat.reduceLT, eBin_ev, eLc_ev, iOf_ev, oWalk, wipeE, gTup_ev, gCons_ev, gNil_ev, eLst_ev, eTup_ev, eJoin_ev, iRange1_ev, sRet_ev, sIf_ev, tB_ev, tAnd_ev, tOr_ev, tNot_ev, eNot_ev, eAnd_ev, eIf_ev, sNext_ev, sExpr_ev, sPar_ev, sAug_ev, sAsg2_ev, sFor_ev, and_self, eThaw_ev, thaw_ev, hr]
    rw [sFor_ev, it, sok]
    exact f8
  obtain ⟨z13, f9⟩ := good_in X (p0 := some (.flst ns)) (p1 := some (.loc 0)) (tr := some (.tup (nI m0))) (at_ := at_) (ee := some (.lst ((evy n).map tN))) (k := y12) (du := none) (ma := none) (items := (evy n).map tN) (c := c9) (evy n) [] y13 (fun m hm => evy_sub hm) (by
    rw [evy_len]
    have : 2 ^ n ≤ 2 ^ 6 := Nat.pow_le_pow_right (by decide) n6
    simp
    omega)
  rw [List.nil_append, filter_gd] at f9
  obtain ⟨G, hG⟩ : ∃ G, G = gd (aK S V) (bK T S V t) n := ⟨_, rfl⟩
  rw [← hG] at f9
  have q9 : (sFor (iOf (eVar 10)) (gVar 13) (   sIf (tB (eCallD 2 M_l_like (aCons (eVar 8) (aCons (eCallD 3 M_printed (aCons (eVar 3) (aCons (eVar 4) (aCons (eTup (aCons (eTup (aCons (eC (.str (lit "expose"))) (aCons (eVar 5) (aCons (eVar 13) (aNil))))) (aNil))) (aNil))))) (aNil))))) (   sExpr (eLm oApp (eVar 11) (eVar 13))) (   sNext))) [some (.flst ns), some (.loc 0), some (sD w h T), some (neg w h T), some (.tup (nI S)), some (.int (t : Nat)), some (.int (n : Nat)), some (.tup (nI m0)), some (.str V), at_, some (.lst ((evy n).map tN)), some (.loc 1), y12, y13, none, none] [c9, .lst (([] : List (List Nat)).map tN)] = .nx [some (.flst ns), some (.loc 0), some (sD w h T), some (neg w h T), some (.tup (nI S)), some (.int (t : Nat)), some (.int (n : Nat)), some (.tup (nI m0)), some (.str V), at_, some (.lst ((evy n).map tN)), some (.loc 1), y12, z13, none, none] [c9, .lst (G.map tN)] := by
    have it : (iOf (eVar 10)) [some (.flst ns), some (.loc 0), some (sD w h T), some (neg w h T), some (.tup (nI S)), some (.int (t : Nat)), some (.int (n : Nat)), some (.tup (nI m0)), some (.str V), at_, some (.lst ((evy n).map tN)), some (.loc 1), y12, y13, none, none] [c9, .lst (([] : List (List Nat)).map tN)] = .ok ((evy n).map tN, none) [c9, .lst (([] : List (List Nat)).map tN)] := by
      generalize (evy n).map tN = ee at *
      generalize nI m0 = mm at *
      generalize nI S = zz at *
      simp only [mD_ev, sSeq_ev, sAsg_ev, eCallD_ev, eCall_ev, aCons_ev, aNil_ev, eVar_ev, List.map_cons, List.map_nil, List.length_cons, List.length_nil, List.cons_append, List.nil_append, Nat.reduceAdd, Nat.reduceSub, List.reduceReplicate, List.getElem?_cons_zero, List.getElem?_cons_succ, bok, if_true, eC_ev, sok, gVar_ev, List.set_cons_succ, List.set_cons_zero, Nat.reduceLT, eBin_ev, eLc_ev, iOf_ev, oWalk, wipeE, gTup_ev, gCons_ev, gNil_ev, eLst_ev, eTup_ev, eJoin_ev, iRange1_ev, sRet_ev, sIf_ev, tB_ev, tAnd_ev, tOr_ev, tNot_ev, eNot_ev, eAnd_ev, eIf_ev, sNext_ev, sExpr_ev, sPar_ev, sAug_ev, sAsg2_ev, sFor_ev, and_self, eThaw_ev, thaw_ev]
    rw [sFor_ev, it, sok]
    exact f9
  have q10 : (sAsg (gVar 14) (eThaw (eLst (aNil)))) [some (.flst ns), some (.loc 0), some (sD w h T), some (neg w h T), some (.tup (nI S)), some (.int (t : Nat)), some (.int (n : Nat)), some (.tup (nI m0)), some (.str V), at_, some (.lst ((evy n).map tN)), some (.loc 1), y12, z13, none, none] [c9, .lst (G.map tN)] = .nx [some (.flst ns), some (.loc 0), some (sD w h T), some (neg w h T), some (.tup (nI S)), some (.int (t : Nat)), some (.int (n : Nat)), some (.tup (nI m0)), some (.str V), at_, some (.lst ((evy n).map tN)), some (.loc 1), y12, z13, some (.loc 2), none] [c9, .lst (G.map tN), .lst (cS [])] := by
    generalize (evy n).map tN = ee at *
    generalize G.map tN = gg at *
    generalize nI m0 = mm at *
    generalize nI S = zz at *
    simp only [mD_ev, sSeq_ev, sAsg_ev, eCallD_ev, eCall_ev, aCons_ev, aNil_ev, eVar_ev, List.map_cons, List.map_nil, List.length_cons, List.length_nil, List.cons_append, List.nil_append, Nat.reduceAdd, Nat.reduceSub, List.reduceReplicate, List.getElem?_cons_zero, List.getElem?_cons_succ, bok, if_true, eC_ev, sok, gVar_ev, List.set_cons_succ, List.set_cons_zero, Nat.reduceLT, eBin_ev, eLc_ev, iOf_ev, oWalk, wipeE, gTup_ev, gCons_ev, gNil_ev, eLst_ev, eTup_ev, eJoin_ev, iRange1_ev, sRet_ev, sIf_ev, tB_ev, tAnd_ev, tOr_ev, tNot_ev, eNot_ev, eAnd_ev, eIf_ev, sNext_ev, sExpr_ev, sPar_ev, sAug_ev, sAsg2_ev, sFor_ev, and_self, eThaw_ev, thaw_ev, hL0]
  have hGl : G.length ≤ 64 := by
    rw [hG, ← filter_gd]
    refine Nat.le_trans (List.length_filter_le _ _) ?_
    rw [evy_len]
    exact Nat.pow_le_pow_right (by decide) n6
  obtain ⟨w12, w15, f11⟩ := due_in (w := w) (h := h) (n := n) (t := t) (T := T) (V := V) (S := S) (p0 := some (.flst ns)) (p1 := some (.loc 0)) (tr := some (.tup (nI m0))) (at_ := at_) (ee := some (.lst ((evy n).map tN))) (x13 := z13) (items := nI (List.range n)) (c := c9) (G := G) hGl (List.range n) [] y12 none (by simp; omega)
  rw [List.nil_append] at f11
  obtain ⟨DU, hDU⟩ : ∃ DU, DU = (List.range n).map fun k => dch (G.map fun m => if k ∈ m then 1 else 0) := ⟨_, rfl⟩
  rw [← hDU] at f11
  have q11 : (sFor (iRange1 (eVar 6)) (gVar 12) (   sSeq (sAsg (gVar 15) (eSortSetM (eLc [13] (iOf (eVar 11)) (gVar 13) (fun _ μ => .ok true μ) (eCall cInt (aCons (eBin (oIn false) (eVar 12) (eVar 13)) (aNil)))))) (   sExpr (eLm oApp (eVar 14) (eIf (tB (eBin oNe (eCall (cLenO 0 M_Negativedd__lendd_) (aCons (eVar 15) (aNil))) (eC (.int 1)))) (eC (.str (lit "?"))) (eBin oIx (eC (.str (lit "oc"))) (eBin oIx (eVar 15) (eC (.int 0))))))))) [some (.flst ns), some (.loc 0), some (sD w h T), some (neg w h T), some (.tup (nI S)), some (.int (t : Nat)), some (.int (n : Nat)), some (.tup (nI m0)), some (.str V), at_, some (.lst ((evy n).map tN)), some (.loc 1), y12, z13, some (.loc 2), none] [c9, .lst (G.map tN), .lst (cS [])] = .nx [some (.flst ns), some (.loc 0), some (sD w h T), some (neg w h T), some (.tup (nI S)), some (.int (t : Nat)), some (.int (n : Nat)), some (.tup (nI m0)), some (.str V), at_, some (.lst ((evy n).map tN)), some (.loc 1), w12, z13, some (.loc 2), w15] [c9, .lst (G.map tN), .lst (cS DU)] := by
    have it : (iRange1 (eVar 6)) [some (.flst ns), some (.loc 0), some (sD w h T), some (neg w h T), some (.tup (nI S)), some (.int (t : Nat)), some (.int (n : Nat)), some (.tup (nI m0)), some (.str V), at_, some (.lst ((evy n).map tN)), some (.loc 1), y12, z13, some (.loc 2), none] [c9, .lst (G.map tN), .lst (cS [])] = .ok (nI (List.range n), none) [c9, .lst (G.map tN), .lst (cS [])] := by
      generalize nI (List.range n) = nn at *
      generalize (evy n).map tN = ee at *
      generalize G.map tN = gg at *
      generalize nI m0 = mm at *
      generalize nI S = zz at *
      simp only [mD_ev, sSeq_ev, sAsg_ev, eCallD_ev, eCall_ev, aCons_ev, aNil_ev, eVar_ev, List.map_cons, List.map_nil, List.length_cons, List.length_nil, List.cons_append, List.nil_append, Nat.reduceAdd, Nat.reduceSub, List.reduceReplicate, List.getElem?_cons_zero, List.getElem?_cons_succ, bok, if_true, eC_ev, sok, gVar_ev, List.set_cons_succ, List.set_cons_zero, Nat.reduceLT, eBin_ev, eLc_ev, iOf_ev, oWalk, wipeE, gTup_ev, gCons_ev, gNil_ev, eLst_ev, eTup_ev, eJoin_ev, iRange1_ev, sRet_ev, sIf_ev, tB_ev, tAnd_ev, tOr_ev, tNot_ev, eNot_ev, eAnd_ev, eIf_ev, sNext_ev, sExpr_ev, sPar_ev, sAug_ev, sAsg2_ev, sFor_ev, and_self, eThaw_ev, thaw_ev, hr2]
    rw [sFor_ev, it, sok]
    exact f11
  have lg : ∀ k, lowC k (.lst (G.map tN)) = true := fun k => lows_of (by
    intro d hd
    obtain ⟨m, _, rfl⟩ := List.mem_map.mp hd
    exact lows_of (by intro d hd; obtain ⟨i, _, rfl⟩ := List.mem_map.mp hd; rfl))
  have ld : ∀ k, lowC k (.lst (cS DU)) = true := fun k => lows_of (by
    intro d hd
    obtain ⟨m, _, rfl⟩ := List.mem_map.mp hd
    rfl)
  have mt := masks_told hs okT ok okV ht2 (closed1 h9c) (lg 3) (ld 3)
  have mc := mask_count hs okT ok okV ht2 (closed1 h9c) (lg 3) (ld 3)
  have zr := zip_range okT okV
  have hcnt : prd ((T.zip V).map fun p => (cA S p).toNat + (cB S t p).toNat) = G.length := by
    rw [hG, gd_len, zr, List.map_map]
    rfl
  rw [hcnt] at mc
  have hway : ([] ∈ (T.zip V).map (wayP S t)) ↔ G = [] := by
    have := gd_ne (a := aK S V) (b := bK T S V t) n
    rw [← hG] at this
    rw [← Decidable.not_iff_not]
    refine Iff.trans ?_ this.symm
    rw [zr, List.map_map]
    constructor
    · intro hh k hk
      apply Decidable.byContradiction
      intro hab
      refine hh (List.mem_map.mpr ⟨k, List.mem_range.mpr hk, ?_⟩)
      have ha : cA S (T.getD k 48, V.getD k 63) = aK S V k := rfl
      have hb : cB S t (T.getD k 48, V.getD k 63) = bK T S V t k := rfl
      simp only [Function.comp, wayP, ha, hb]
      cases h1 : aK S V k <;> cases h2 : bK T S V t k <;> simp [h1, h2] at hab ⊢
    · intro hh hm
      obtain ⟨k, hk, e⟩ := List.mem_map.mp hm
      have hk := List.mem_range.mp hk
      have := hh k hk
      have ha : cA S (T.getD k 48, V.getD k 63) = aK S V k := rfl
      have hb : cB S t (T.getD k 48, V.getD k 63) = bK T S V t k := rfl
      simp only [Function.comp, wayP, ha, hb] at e
      cases h1 : aK S V k <;> cases h2 : bK T S V t k <;> simp [h1, h2] at e this
  have hmarks : G ≠ [] → ((T.zip V).map fun p => mark (cA S p) (cB S t p)) = DU := by
    intro hne
    rw [hDU, zr, List.map_map]
    refine List.map_congr_left fun k hk => ?_
    have hk := List.mem_range.mp hk
    rw [hG] at hne
    obtain ⟨i1, i2⟩ := gd_in hk hne
    rw [← hG] at i1 i2
    have h01 : ∀ x ∈ (G.map fun m => if k ∈ m then (1 : Int) else 0), x = 0 ∨ x = 1 := fun x hx => by
      obtain ⟨m, _, rfl⟩ := List.mem_map.mp hx
      split <;> simp
    rw [dch_mark h01]
    have x1 : decide ((1 : Int) ∈ G.map fun m => if k ∈ m then (1 : Int) else 0) = aK S V k := by
      rw [Bool.eq_iff_iff, decide_eq_true_eq, ← i1, List.mem_map]
      constructor
      · rintro ⟨m, hm, e⟩
        refine ⟨m, hm, ?_⟩
        apply Decidable.byContradiction
        intro hkm
        simp [hkm] at e
      · rintro ⟨m, hm, hkm⟩
        exact ⟨m, hm, by simp [hkm]⟩
    have x0 : decide ((0 : Int) ∈ G.map fun m => if k ∈ m then (1 : Int) else 0) = bK T S V t k := by
      rw [Bool.eq_iff_iff, decide_eq_true_eq, ← i2, List.mem_map]
      constructor
      · rintro ⟨m, hm, e⟩
        refine ⟨m, hm, ?_⟩
        intro hkm
        simp [hkm] at e
      · rintro ⟨m, hm, hkm⟩
        exact ⟨m, hm, by simp [hkm]⟩
    rw [x1, x0]
    rfl
  have nG : oNe (.loc 1) (.lst []) [c9, .lst (G.map tN), .lst (cS DU)] = .ok (.bl (!decide (G = []))) [c9, .lst (G.map tN), .lst (cS DU)] := by
    rw [oNe_pl (k := 2) (j := 1) (show pl 2 (rd [c9, .lst (G.map tN), .lst (cS DU)] (.loc 1)) = true from pl_G) (show pl 1 (rd _ (.lst [])) = true from rfl)]
    cases G <;> simp [rd]
  have hDl : DU.length ≤ LIM := by rw [hDU]; simp; show _ ≤ 1000000; omega
  have jo : ∀ μ, oJoin (.str []) (.loc 2) (c9 :: .lst (G.map tN) :: .lst (cS DU) :: μ) = .ok (.str DU) (c9 :: .lst (G.map tN) :: .lst (cS DU) :: μ) := fun μ => by
    have := oJoin_one hDl (μ := c9 :: .lst (G.map tN) :: .lst (cS DU) :: μ)
    exact this
  have q12 : (sIf (tB (eBin oNe (eCallD 4 M_masks_told (aCons (eVar 3) (aCons (eVar 4) (aCons (eVar 5) (aCons (eVar 8) (aNil)))))) (eIf (tB (eBin oNe (eVar 11) (eLst (aNil)))) (eJoin (eC (.str (lit ""))) (eVar 14)) (eC .non)))) (   sRet (eC (.bl false))) (   sNext)) [some (.flst ns), some (.loc 0), some (sD w h T), some (neg w h T), some (.tup (nI S)), some (.int (t : Nat)), some (.int (n : Nat)), some (.tup (nI m0)), some (.str V), at_, some (.lst ((evy n).map tN)), some (.loc 1), w12, z13, some (.loc 2), w15] [c9, .lst (G.map tN), .lst (cS DU)] = .nx [some (.flst ns), some (.loc 0), some (sD w h T), some (neg w h T), some (.tup (nI S)), some (.int (t : Nat)), some (.int (n : Nat)), some (.tup (nI m0)), some (.str V), at_, some (.lst ((evy n).map tN)), some (.loc 1), w12, z13, some (.loc 2), w15] [c9, .lst (G.map tN), .lst (cS DU)] := by
    by_cases hg : G = []
    · rw [if_pos (hway.mpr hg)] at mt
      rw [decide_eq_true hg] at nG
      have nn : ∀ μ, oNe .non .non μ = .ok (.bl false) μ := fun μ => by rfl
      generalize (evy n).map tN = ee at *
      generalize G.map tN = gg at *
      generalize cS DU = dd at *
      generalize nI m0 = mm at *
      generalize nI S = zz at *
      simp only [mD_ev, sSeq_ev, sAsg_ev, eCallD_ev, eCall_ev, aCons_ev, aNil_ev, eVar_ev, List.map_cons, List.map_nil, List.length_cons, List.length_nil, List.cons_append, List.nil_append, Nat.reduceAdd, Nat.reduceSub, List.reduceReplicate, List.getElem?_cons_zero, List.getElem?_cons_succ, bok, if_true, eC_ev, sok, gVar_ev, List.set_cons_succ, List.set_cons_zero, Nat.reduceLT, eBin_ev, eLc_ev, iOf_ev, oWalk, wipeE, gTup_ev, gCons_ev, gNil_ev, eLst_ev, eTup_ev, eJoin_ev, iRange1_ev, sRet_ev, sIf_ev, tB_ev, tAnd_ev, tOr_ev, tNot_ev, eNot_ev, eAnd_ev, eIf_ev, sNext_ev, sExpr_ev, sPar_ev, sAug_ev, sAsg2_ev, sFor_ev, and_self, eThaw_ev, thaw_ev, mt, hL0, nG, Bool.not_true, Bool.false_eq_true, if_false, nn]
    · rw [if_neg (fun z => hg (hway.mp z)), hmarks hg] at mt
      rw [decide_eq_false hg] at nG
      have hch : pl 0 (.str DU) = true := by
        rw [← hmarks hg]
        simp only [pl, List.all_eq_true, decide_eq_true_eq]
        intro c hc
        obtain ⟨p, _, rfl⟩ := List.mem_map.mp hc
        unfold mark
        repeat' split
        all_goals decide
      have nn : ∀ μ, oNe (.str DU) (.str DU) μ = .ok (.bl false) μ := fun μ => by
        rw [oNe_pl (k := 0) (j := 0) (show pl 0 (rd μ (.str DU)) = true from hch) (show pl 0 (rd μ (.str DU)) = true from hch)]
        simp
      have jo0 := jo []
      generalize (evy n).map tN = ee at *
      generalize G.map tN = gg at *
      generalize cS DU = dd at *
      generalize nI m0 = mm at *
      generalize nI S = zz at *
      simp only [mD_ev, sSeq_ev, sAsg_ev, eCallD_ev, eCall_ev, aCons_ev, aNil_ev, eVar_ev, List.map_cons, List.map_nil, List.length_cons, List.length_nil, List.cons_append, List.nil_append, Nat.reduceAdd, Nat.reduceSub, List.reduceReplicate, List.getElem?_cons_zero, List.getElem?_cons_succ, bok, if_true, eC_ev, sok, gVar_ev, List.set_cons_succ, List.set_cons_zero, Nat.reduceLT, eBin_ev, eLc_ev, iOf_ev, oWalk, wipeE, gTup_ev, gCons_ev, gNil_ev, eLst_ev, eTup_ev, eJoin_ev, iRange1_ev, sRet_ev, sIf_ev, tB_ev, tAnd_ev, tOr_ev, tNot_ev, eNot_ev, eAnd_ev, eIf_ev, sNext_ev, sExpr_ev, sPar_ev, sAug_ev, sAsg2_ev, sFor_ev, and_self, eThaw_ev, thaw_ev, mt, hL0, nG, Bool.not_false, lE, jo0, nn, Bool.false_eq_true, if_false]
  have lG : cLenO 0 M_Negativedd__lendd_ [.loc 1] [c9, .lst (G.map tN), .lst (cS DU)] = .ok (.int (G.length : Nat)) [c9, .lst (G.map tN), .lst (cS DU)] := by
    rw [cLenO_ev rfl]
    simp [cLen, seqOf]
  have q13 : (sRet (eBin oEq (eCallD 4 M_mask_count (aCons (eVar 3) (aCons (eVar 4) (aCons (eVar 5) (aCons (eVar 8) (aNil)))))) (eCall (cLenO 0 M_Negativedd__lendd_) (aCons (eVar 11) (aNil))))) [some (.flst ns), some (.loc 0), some (sD w h T), some (neg w h T), some (.tup (nI S)), some (.int (t : Nat)), some (.int (n : Nat)), some (.tup (nI m0)), some (.str V), at_, some (.lst ((evy n).map tN)), some (.loc 1), w12, z13, some (.loc 2), w15] [c9, .lst (G.map tN), .lst (cS DU)] = .rt (.bl true) [c9, .lst (G.map tN), .lst (cS DU)] := by
    generalize (evy n).map tN = ee at *
    generalize hgg : G.map tN = gg at *
    generalize cS DU = dd at *
    generalize nI m0 = mm at *
    generalize nI S = zz at *
    simp only [mD_ev, sSeq_ev, sAsg_ev, eCallD_ev, eCall_ev, aCons_ev, aNil_ev, eVar_ev, List.map_cons, List.map_nil, List.length_cons, List.length_nil, List.cons_append, List.nil_append, Nat.reduceAdd, Nat.reduceSub, List.reduceReplicate, List.getElem?_cons_zero, List.getElem?_cons_succ, bok, if_true, eC_ev, sok, gVar_ev, List.set_cons_succ, List.set_cons_zero, Nat.reduceLT, eBin_ev, eLc_ev, iOf_ev, oWalk, wipeE, gTup_ev, gCons_ev, gNil_ev, eLst_ev, eTup_ev, eJoin_ev, iRange1_ev, sRet_ev, sIf_ev, tB_ev, tAnd_ev, tOr_ev, tNot_ev, eNot_ev, eAnd_ev, eIf_ev, sNext_ev, sExpr_ev, sPar_ev, sAug_ev, sAsg2_ev, sFor_ev, and_self, eThaw_ev, thaw_ev, mc, lG, oEq_int, decide_true]
  have e10 : mD 16 B_law [.flst ns] [] = .ok (.bl true) [c9, .lst (G.map tN), .lst (cS DU)] := by
    unfold B_law
    rw [mD_ev, show ([D.flst ns].map some ++ List.replicate (16 - [D.flst ns].length) none) = [some (.flst ns), none, none, none, none, none, none, none, none, none, none, none, none, none, none, none] from rfl]
    simp only [sSeq_ev, q1, q2, q3, q4, q5, q6, q7, q8, q9, q10, q11, q12, q13]
  refine ⟨[], ?_⟩
  unfold M_law
  rw [mDf_ev, e10]
  rfl
end K12

set_option Elab.async false
set_option linter.all false
set_option maxRecDepth 100000
namespace K12
open PySem L2 Fw
set_option maxHeartbeats 8000000 in
theorem all_mk {l : PySem.W.OpenLaw} {w : World} {K : PySem.W.Frag} {h : Heap} {mg : Str → Option Value} {fa : Addr} (X : K.In h) (G : h.Ns mainGlobals mg) (hfa : mg "law" = some (.ref fa))
    {C_Negative : Addr}
    {f_Negativedd__lendd_ : Addr} {od_Negativedd__lendd_ an_Negativedd__lendd_ : Option Addr} {sl_Negativedd__lendd_ : Array (Option Value)} {oc_Negativedd__lendd_ kV_Negativedd__lendd_ dc_Negativedd__lendd_ pm_Negativedd__lendd_ cd_Negativedd__lendd_ ct_Negativedd__lendd_ : Value}
    {f_l_taken : Addr} {od_l_taken an_l_taken : Option Addr} {sl_l_taken : Array (Option Value)} {oc_l_taken kV_l_taken dc_l_taken pm_l_taken cd_l_taken ct_l_taken : Value}
    {f_l_covered : Addr} {od_l_covered an_l_covered : Option Addr} {sl_l_covered : Array (Option Value)} {oc_l_covered kV_l_covered dc_l_covered pm_l_covered cd_l_covered ct_l_covered : Value}
    {f_l_like : Addr} {od_l_like an_l_like : Option Addr} {sl_l_like : Array (Option Value)} {oc_l_like kV_l_like dc_l_like pm_l_like cd_l_like ct_l_like : Value}
    {f_is_number : Addr} {od_is_number an_is_number : Option Addr} {sl_is_number : Array (Option Value)} {oc_is_number kV_is_number dc_is_number pm_is_number cd_is_number ct_is_number : Value}
    {f_wrong_side : Addr} {od_wrong_side an_wrong_side : Option Addr} {sl_wrong_side : Array (Option Value)} {oc_wrong_side kV_wrong_side dc_wrong_side pm_wrong_side cd_wrong_side ct_wrong_side : Value}
    {f_wrong_part : Addr} {od_wrong_part an_wrong_part : Option Addr} {sl_wrong_part : Array (Option Value)} {oc_wrong_part kV_wrong_part dc_wrong_part pm_wrong_part cd_wrong_part ct_wrong_part : Value}
    {f_Negativedd__initdd_ : Addr} {od_Negativedd__initdd_ an_Negativedd__initdd_ : Option Addr} {sl_Negativedd__initdd_ : Array (Option Value)} {oc_Negativedd__initdd_ kV_Negativedd__initdd_ dc_Negativedd__initdd_ pm_Negativedd__initdd_ cd_Negativedd__initdd_ ct_Negativedd__initdd_ : Value}
    {f_l_negative : Addr} {od_l_negative an_l_negative : Option Addr} {sl_l_negative : Array (Option Value)} {oc_l_negative kV_l_negative dc_l_negative pm_l_negative cd_l_negative ct_l_negative : Value}
    {f_l_tone : Addr} {od_l_tone an_l_tone : Option Addr} {sl_l_tone : Array (Option Value)} {oc_l_tone kV_l_tone dc_l_tone pm_l_tone cd_l_tone ct_l_tone : Value}
    {f_l_print : Addr} {od_l_print an_l_print : Option Addr} {sl_l_print : Array (Option Value)} {oc_l_print kV_l_print dc_l_print pm_l_print cd_l_print ct_l_print : Value}
    {f_l_mirror : Addr} {od_l_mirror an_l_mirror : Option Addr} {sl_l_mirror : Array (Option Value)} {oc_l_mirror kV_l_mirror dc_l_mirror pm_l_mirror cd_l_mirror ct_l_mirror : Value}
    {f_l_ticks : Addr} {od_l_ticks an_l_ticks : Option Addr} {sl_l_ticks : Array (Option Value)} {oc_l_ticks kV_l_ticks dc_l_ticks pm_l_ticks cd_l_ticks ct_l_ticks : Value}
    {f_l_weight : Addr} {od_l_weight an_l_weight : Option Addr} {sl_l_weight : Array (Option Value)} {oc_l_weight kV_l_weight dc_l_weight pm_l_weight cd_l_weight ct_l_weight : Value}
    {f_l_rows : Addr} {od_l_rows an_l_rows : Option Addr} {sl_l_rows : Array (Option Value)} {oc_l_rows kV_l_rows dc_l_rows pm_l_rows cd_l_rows ct_l_rows : Value}
    {f_l_pick : Addr} {od_l_pick an_l_pick : Option Addr} {sl_l_pick : Array (Option Value)} {oc_l_pick kV_l_pick dc_l_pick pm_l_pick cd_l_pick ct_l_pick : Value}
    {f_l_sides : Addr} {od_l_sides an_l_sides : Option Addr} {sl_l_sides : Array (Option Value)} {oc_l_sides kV_l_sides dc_l_sides pm_l_sides cd_l_sides ct_l_sides : Value}
    {f_l_scheme : Addr} {od_l_scheme an_l_scheme : Option Addr} {sl_l_scheme : Array (Option Value)} {oc_l_scheme kV_l_scheme dc_l_scheme pm_l_scheme cd_l_scheme ct_l_scheme : Value}
    {f_l_seen : Addr} {od_l_seen an_l_seen : Option Addr} {sl_l_seen : Array (Option Value)} {oc_l_seen kV_l_seen dc_l_seen pm_l_seen cd_l_seen ct_l_seen : Value}
    {f_l_steps : Addr} {od_l_steps an_l_steps : Option Addr} {sl_l_steps : Array (Option Value)} {oc_l_steps kV_l_steps dc_l_steps pm_l_steps cd_l_steps ct_l_steps : Value}
    {f_check_number : Addr} {od_check_number an_check_number : Option Addr} {sl_check_number : Array (Option Value)} {oc_check_number kV_check_number dc_check_number pm_check_number cd_check_number ct_check_number : Value}
    {f_check_figures : Addr} {od_check_figures an_check_figures : Option Addr} {sl_check_figures : Array (Option Value)} {oc_check_figures kV_check_figures dc_check_figures pm_check_figures cd_check_figures ct_check_figures : Value}
    {f_check_seen : Addr} {od_check_seen an_check_seen : Option Addr} {sl_check_seen : Array (Option Value)} {oc_check_seen kV_check_seen dc_check_seen pm_check_seen cd_check_seen ct_check_seen : Value}
    {f_ascends : Addr} {od_ascends an_ascends : Option Addr} {sl_ascends : Array (Option Value)} {oc_ascends kV_ascends dc_ascends pm_ascends cd_ascends ct_ascends : Value}
    {f_are_steps : Addr} {od_are_steps an_are_steps : Option Addr} {sl_are_steps : Array (Option Value)} {oc_are_steps kV_are_steps dc_are_steps pm_are_steps cd_are_steps ct_are_steps : Value}
    {f_check_steps : Addr} {od_check_steps an_check_steps : Option Addr} {sl_check_steps : Array (Option Value)} {oc_check_steps kV_check_steps dc_check_steps pm_check_steps cd_check_steps ct_check_steps : Value}
    {f_Negative_densities : Addr} {od_Negative_densities an_Negative_densities : Option Addr} {sl_Negative_densities : Array (Option Value)} {oc_Negative_densities kV_Negative_densities dc_Negative_densities pm_Negative_densities cd_Negative_densities ct_Negative_densities : Value}
    {p_Negative_densities : Addr} {rs_Negative_densities : List Value}
    {f_tone_of : Addr} {od_tone_of an_tone_of : Option Addr} {sl_tone_of : Array (Option Value)} {oc_tone_of kV_tone_of dc_tone_of pm_tone_of cd_tone_of ct_tone_of : Value}
    {f_shows : Addr} {od_shows an_shows : Option Addr} {sl_shows : Array (Option Value)} {oc_shows kV_shows dc_shows pm_shows cd_shows ct_shows : Value}
    {f_ways_under_mask : Addr} {od_ways_under_mask an_ways_under_mask : Option Addr} {sl_ways_under_mask : Array (Option Value)} {oc_ways_under_mask kV_ways_under_mask dc_ways_under_mask pm_ways_under_mask cd_ways_under_mask ct_ways_under_mask : Value}
    {f_mask_ways : Addr} {od_mask_ways an_mask_ways : Option Addr} {sl_mask_ways : Array (Option Value)} {oc_mask_ways kV_mask_ways dc_mask_ways pm_mask_ways cd_mask_ways ct_mask_ways : Value}
    {f_product : Addr} {od_product an_product : Option Addr} {sl_product : Array (Option Value)} {oc_product kV_product dc_product pm_product cd_product ct_product : Value}
    {f_mask_count : Addr} {od_mask_count an_mask_count : Option Addr} {sl_mask_count : Array (Option Value)} {oc_mask_count kV_mask_count dc_mask_count pm_mask_count cd_mask_count ct_mask_count : Value}
    {f_masks_told : Addr} {od_masks_told an_masks_told : Option Addr} {sl_masks_told : Array (Option Value)} {oc_masks_told kV_masks_told dc_masks_told pm_masks_told cd_masks_told ct_masks_told : Value}
    {f_Negative_width : Addr} {od_Negative_width an_Negative_width : Option Addr} {sl_Negative_width : Array (Option Value)} {oc_Negative_width kV_Negative_width dc_Negative_width pm_Negative_width cd_Negative_width ct_Negative_width : Value}
    {p_Negative_width : Addr} {rs_Negative_width : List Value}
    {f_is_mask : Addr} {od_is_mask an_is_mask : Option Addr} {sl_is_mask : Array (Option Value)} {oc_is_mask kV_is_mask dc_is_mask pm_is_mask cd_is_mask ct_is_mask : Value}
    {f_is_deed : Addr} {od_is_deed an_is_deed : Option Addr} {sl_is_deed : Array (Option Value)} {oc_is_deed kV_is_deed dc_is_deed pm_is_deed cd_is_deed ct_is_deed : Value}
    {f_check_recipe : Addr} {od_check_recipe an_check_recipe : Option Addr} {sl_check_recipe : Array (Option Value)} {oc_check_recipe kV_check_recipe dc_check_recipe pm_check_recipe cd_check_recipe ct_check_recipe : Value}
    {f_light_by : Addr} {od_light_by an_light_by : Option Addr} {sl_light_by : Array (Option Value)} {oc_light_by kV_light_by dc_light_by pm_light_by cd_light_by ct_light_by : Value}
    {f_mirrored : Addr} {od_mirrored an_mirrored : Option Addr} {sl_mirrored : Array (Option Value)} {oc_mirrored kV_mirrored dc_mirrored pm_mirrored cd_mirrored ct_mirrored : Value}
    {f_ticks_of : Addr} {od_ticks_of an_ticks_of : Option Addr} {sl_ticks_of : Array (Option Value)} {oc_ticks_of kV_ticks_of dc_ticks_of pm_ticks_of cd_ticks_of ct_ticks_of : Value}
    {f_open_pair : Addr} {od_open_pair an_open_pair : Option Addr} {sl_open_pair : Array (Option Value)} {oc_open_pair kV_open_pair dc_open_pair pm_open_pair cd_open_pair ct_open_pair : Value}
    {f_light_of : Addr} {od_light_of an_light_of : Option Addr} {sl_light_of : Array (Option Value)} {oc_light_of kV_light_of dc_light_of pm_light_of cd_light_of ct_light_of : Value}
    {f_lights : Addr} {od_lights an_lights : Option Addr} {sl_lights : Array (Option Value)} {oc_lights kV_lights dc_lights pm_lights cd_lights ct_lights : Value}
    {f_printed : Addr} {od_printed an_printed : Option Addr} {sl_printed : Array (Option Value)} {oc_printed kV_printed dc_printed pm_printed cd_printed ct_printed : Value}
    {f_law : Addr} {od_law an_law : Option Addr} {sl_law : Array (Option Value)} {oc_law kV_law dc_law pm_law cd_law ct_law : Value}
    {t_COVERED : Tok}
    {t_DENSITIES : Tok}
    {p_FLIP : Addr} {dd_FLIP : Option Addr} {z_FLIP : Nat} {sl_FLIP : Array (Option Value)}
    {t_FLIP_0 : Tok}
    {t_GREATEST_STEP : Tok}
    {t_MOST_CELLS : Tok}
    {t_MOST_DEEDS : Tok}
    {t_MOST_SIDE : Tok}
    {t_MOST_STEPS : Tok}
    {t_MOST_TICKS : Tok}
    {t_TONES : Tok}
    {t_UNCOVERED : Tok}
    {p_UNITS : Addr} {dd_UNITS : Option Addr} {z_UNITS : Nat} {sl_UNITS : Array (Option Value)}
    {t_UNITS_0 : Tok}
    {t_UNITS_1 : Tok}
    {t_UNITS_2 : Tok}
    {t_UNITS_3 : Tok}
    {t_UNITS_4 : Tok}
    {t_UNSEEN : Tok}
    (aC_Negative : PySem.W.nsIn K mainGlobals "Negative" = some (some (.ref C_Negative)))
    (pg_Negative : PySem.W.plainGet K C_Negative Str.empty = true)
    (hd_Negative : PySem.W.hasDictIn K C_Negative = true)
    (po_Negative : PySem.W.plainOver K C_Negative = true)
    (sa_Negative : PySem.W.findIn K (.ref C_Negative) "__setattr__" = some (some (.builtin "object.__setattr__")))
    (mk_Negative : PySem.W.makesIn K C_Negative = true)
    (kc_Negative : PySem.W.keepIn K (.ref C_Negative) = true)
    (nf_Negative_columns : PySem.W.findIn K (.ref C_Negative) "columns" = some none)
    (nf_Negative_figures : PySem.W.findIn K (.ref C_Negative) "figures" = some none)
    (nf_Negative_lines : PySem.W.findIn K (.ref C_Negative) "lines" = some none)
    (n_all : PySem.W.nsIn K mainGlobals "all" = some none)
    (n_bool : PySem.W.nsIn K mainGlobals "bool" = some none)
    (n_enumerate : PySem.W.nsIn K mainGlobals "enumerate" = some none)
    (n_int : PySem.W.nsIn K mainGlobals "int" = some none)
    (n_isinstance : PySem.W.nsIn K mainGlobals "isinstance" = some none)
    (n_len : PySem.W.nsIn K mainGlobals "len" = some none)
    (n_max : PySem.W.nsIn K mainGlobals "max" = some none)
    (n_range : PySem.W.nsIn K mainGlobals "range" = some none)
    (n_set : PySem.W.nsIn K mainGlobals "set" = some none)
    (n_sorted : PySem.W.nsIn K mainGlobals "sorted" = some none)
    (n_str : PySem.W.nsIn K mainGlobals "str" = some none)
    (n_tuple : PySem.W.nsIn K mainGlobals "tuple" = some none)
    (n_zip : PySem.W.nsIn K mainGlobals "zip" = some none)
    (g_COVERED : PySem.W.nsIn K mainGlobals "COVERED" = some (some (.str (PySem.Str.ofString "c") t_COVERED)))
    (g_DENSITIES : PySem.W.nsIn K mainGlobals "DENSITIES" = some (some (.str (PySem.Str.ofString "01234") t_DENSITIES)))
    (g_FLIP : PySem.W.nsIn K mainGlobals "FLIP" = some (some (.ref p_FLIP)))
    (gl_FLIP : K.lookup p_FLIP = some ⟨.type "tuple", dd_FLIP, .seq #[.str (PySem.Str.ofString "flip") t_FLIP_0] z_FLIP, sl_FLIP⟩)
    (g_GREATEST_STEP : PySem.W.nsIn K mainGlobals "GREATEST_STEP" = some (some (.int 9999 t_GREATEST_STEP)))
    (g_MOST_CELLS : PySem.W.nsIn K mainGlobals "MOST_CELLS" = some (some (.int 9 t_MOST_CELLS)))
    (g_MOST_DEEDS : PySem.W.nsIn K mainGlobals "MOST_DEEDS" = some (some (.int 8 t_MOST_DEEDS)))
    (g_MOST_SIDE : PySem.W.nsIn K mainGlobals "MOST_SIDE" = some (some (.int 4 t_MOST_SIDE)))
    (g_MOST_STEPS : PySem.W.nsIn K mainGlobals "MOST_STEPS" = some (some (.int 5 t_MOST_STEPS)))
    (g_MOST_TICKS : PySem.W.nsIn K mainGlobals "MOST_TICKS" = some (some (.int 99 t_MOST_TICKS)))
    (g_TONES : PySem.W.nsIn K mainGlobals "TONES" = some (some (.str (PySem.Str.ofString "012345") t_TONES)))
    (g_UNCOVERED : PySem.W.nsIn K mainGlobals "UNCOVERED" = some (some (.str (PySem.Str.ofString "o") t_UNCOVERED)))
    (g_UNITS : PySem.W.nsIn K mainGlobals "UNITS" = some (some (.ref p_UNITS)))
    (gl_UNITS : K.lookup p_UNITS = some ⟨.type "tuple", dd_UNITS, .seq #[.int 16 t_UNITS_0, .int 8 t_UNITS_1, .int 4 t_UNITS_2, .int 2 t_UNITS_3, .int 1 t_UNITS_4] z_UNITS, sl_UNITS⟩)
    (g_UNSEEN : PySem.W.nsIn K mainGlobals "UNSEEN" = some (some (.str (PySem.Str.ofString "?") t_UNSEEN)))
    (a_Negativedd__lendd_ : PySem.W.findIn K (.ref C_Negative) "__len__" = some (some (.ref f_Negativedd__lendd_)))
    (i_Negativedd__lendd_ : PySem.W.isFn K (.ref f_Negativedd__lendd_) = true)
    (l_Negativedd__lendd_ : K.lookup f_Negativedd__lendd_ = some ⟨oc_Negativedd__lendd_, od_Negativedd__lendd_, .func (PySem.W.fnOf "__len__" "Negative.__len__" (defArgs s_Negativedd__lendd_) (defBody s_Negativedd__lendd_) (defScope s_Negativedd__lendd_) .none kV_Negativedd__lendd_ dc_Negativedd__lendd_ pm_Negativedd__lendd_ an_Negativedd__lendd_ cd_Negativedd__lendd_ ct_Negativedd__lendd_), sl_Negativedd__lendd_⟩)
    (c_Negativedd__lendd_ : PySem.W.codeIn K cd_Negativedd__lendd_ "Negative.__len__" = true)
    (k_Negativedd__lendd_ : PySem.W.keepIn K (.ref f_Negativedd__lendd_) = true)
    (a_l_taken : PySem.W.nsIn K mainGlobals "_law_taken" = some (some (.ref f_l_taken)))
    (l_l_taken : K.lookup f_l_taken = some ⟨oc_l_taken, od_l_taken, .func (PySem.W.fnOf "_law_taken" "_law_taken" (defArgs s_l_taken) (defBody s_l_taken) (defScope s_l_taken) .none kV_l_taken dc_l_taken pm_l_taken an_l_taken cd_l_taken ct_l_taken), sl_l_taken⟩)
    (c_l_taken : PySem.W.codeIn K cd_l_taken "_law_taken" = true)
    (k_l_taken : PySem.W.keepIn K (.ref f_l_taken) = true)
    (a_l_covered : PySem.W.nsIn K mainGlobals "_law_covered" = some (some (.ref f_l_covered)))
    (l_l_covered : K.lookup f_l_covered = some ⟨oc_l_covered, od_l_covered, .func (PySem.W.fnOf "_law_covered" "_law_covered" (defArgs s_l_covered) (defBody s_l_covered) (defScope s_l_covered) .none kV_l_covered dc_l_covered pm_l_covered an_l_covered cd_l_covered ct_l_covered), sl_l_covered⟩)
    (c_l_covered : PySem.W.codeIn K cd_l_covered "_law_covered" = true)
    (k_l_covered : PySem.W.keepIn K (.ref f_l_covered) = true)
    (a_l_like : PySem.W.nsIn K mainGlobals "_law_like" = some (some (.ref f_l_like)))
    (l_l_like : K.lookup f_l_like = some ⟨oc_l_like, od_l_like, .func (PySem.W.fnOf "_law_like" "_law_like" (defArgs s_l_like) (defBody s_l_like) (defScope s_l_like) .none kV_l_like dc_l_like pm_l_like an_l_like cd_l_like ct_l_like), sl_l_like⟩)
    (c_l_like : PySem.W.codeIn K cd_l_like "_law_like" = true)
    (k_l_like : PySem.W.keepIn K (.ref f_l_like) = true)
    (a_is_number : PySem.W.nsIn K mainGlobals "is_number" = some (some (.ref f_is_number)))
    (l_is_number : K.lookup f_is_number = some ⟨oc_is_number, od_is_number, .func (PySem.W.fnOf "is_number" "is_number" (defArgs s_is_number) (defBody s_is_number) (defScope s_is_number) .none kV_is_number dc_is_number pm_is_number an_is_number cd_is_number ct_is_number), sl_is_number⟩)
    (c_is_number : PySem.W.codeIn K cd_is_number "is_number" = true)
    (k_is_number : PySem.W.keepIn K (.ref f_is_number) = true)
    (a_wrong_side : PySem.W.nsIn K mainGlobals "wrong_side" = some (some (.ref f_wrong_side)))
    (l_wrong_side : K.lookup f_wrong_side = some ⟨oc_wrong_side, od_wrong_side, .func (PySem.W.fnOf "wrong_side" "wrong_side" (defArgs s_wrong_side) (defBody s_wrong_side) (defScope s_wrong_side) .none kV_wrong_side dc_wrong_side pm_wrong_side an_wrong_side cd_wrong_side ct_wrong_side), sl_wrong_side⟩)
    (c_wrong_side : PySem.W.codeIn K cd_wrong_side "wrong_side" = true)
    (k_wrong_side : PySem.W.keepIn K (.ref f_wrong_side) = true)
    (a_wrong_part : PySem.W.nsIn K mainGlobals "wrong_part" = some (some (.ref f_wrong_part)))
    (l_wrong_part : K.lookup f_wrong_part = some ⟨oc_wrong_part, od_wrong_part, .func (PySem.W.fnOf "wrong_part" "wrong_part" (defArgs s_wrong_part) (defBody s_wrong_part) (defScope s_wrong_part) .none kV_wrong_part dc_wrong_part pm_wrong_part an_wrong_part cd_wrong_part ct_wrong_part), sl_wrong_part⟩)
    (c_wrong_part : PySem.W.codeIn K cd_wrong_part "wrong_part" = true)
    (k_wrong_part : PySem.W.keepIn K (.ref f_wrong_part) = true)
    (a_Negativedd__initdd_ : PySem.W.findIn K (.ref C_Negative) "__init__" = some (some (.ref f_Negativedd__initdd_)))
    (i_Negativedd__initdd_ : PySem.W.isFn K (.ref f_Negativedd__initdd_) = true)
    (l_Negativedd__initdd_ : K.lookup f_Negativedd__initdd_ = some ⟨oc_Negativedd__initdd_, od_Negativedd__initdd_, .func (PySem.W.fnOf "__init__" "Negative.__init__" (defArgs s_Negativedd__initdd_) (defBody s_Negativedd__initdd_) (defScope s_Negativedd__initdd_) .none kV_Negativedd__initdd_ dc_Negativedd__initdd_ pm_Negativedd__initdd_ an_Negativedd__initdd_ cd_Negativedd__initdd_ ct_Negativedd__initdd_), sl_Negativedd__initdd_⟩)
    (c_Negativedd__initdd_ : PySem.W.codeIn K cd_Negativedd__initdd_ "Negative.__init__" = true)
    (k_Negativedd__initdd_ : PySem.W.keepIn K (.ref f_Negativedd__initdd_) = true)
    (a_l_negative : PySem.W.nsIn K mainGlobals "_law_negative" = some (some (.ref f_l_negative)))
    (l_l_negative : K.lookup f_l_negative = some ⟨oc_l_negative, od_l_negative, .func (PySem.W.fnOf "_law_negative" "_law_negative" (defArgs s_l_negative) (defBody s_l_negative) (defScope s_l_negative) .none kV_l_negative dc_l_negative pm_l_negative an_l_negative cd_l_negative ct_l_negative), sl_l_negative⟩)
    (c_l_negative : PySem.W.codeIn K cd_l_negative "_law_negative" = true)
    (k_l_negative : PySem.W.keepIn K (.ref f_l_negative) = true)
    (a_l_tone : PySem.W.nsIn K mainGlobals "_law_tone" = some (some (.ref f_l_tone)))
    (l_l_tone : K.lookup f_l_tone = some ⟨oc_l_tone, od_l_tone, .func (PySem.W.fnOf "_law_tone" "_law_tone" (defArgs s_l_tone) (defBody s_l_tone) (defScope s_l_tone) .none kV_l_tone dc_l_tone pm_l_tone an_l_tone cd_l_tone ct_l_tone), sl_l_tone⟩)
    (c_l_tone : PySem.W.codeIn K cd_l_tone "_law_tone" = true)
    (k_l_tone : PySem.W.keepIn K (.ref f_l_tone) = true)
    (a_l_print : PySem.W.nsIn K mainGlobals "_law_print" = some (some (.ref f_l_print)))
    (l_l_print : K.lookup f_l_print = some ⟨oc_l_print, od_l_print, .func (PySem.W.fnOf "_law_print" "_law_print" (defArgs s_l_print) (defBody s_l_print) (defScope s_l_print) .none kV_l_print dc_l_print pm_l_print an_l_print cd_l_print ct_l_print), sl_l_print⟩)
    (c_l_print : PySem.W.codeIn K cd_l_print "_law_print" = true)
    (k_l_print : PySem.W.keepIn K (.ref f_l_print) = true)
    (a_l_mirror : PySem.W.nsIn K mainGlobals "_law_mirror" = some (some (.ref f_l_mirror)))
    (l_l_mirror : K.lookup f_l_mirror = some ⟨oc_l_mirror, od_l_mirror, .func (PySem.W.fnOf "_law_mirror" "_law_mirror" (defArgs s_l_mirror) (defBody s_l_mirror) (defScope s_l_mirror) .none kV_l_mirror dc_l_mirror pm_l_mirror an_l_mirror cd_l_mirror ct_l_mirror), sl_l_mirror⟩)
    (c_l_mirror : PySem.W.codeIn K cd_l_mirror "_law_mirror" = true)
    (k_l_mirror : PySem.W.keepIn K (.ref f_l_mirror) = true)
    (a_l_ticks : PySem.W.nsIn K mainGlobals "_law_ticks" = some (some (.ref f_l_ticks)))
    (l_l_ticks : K.lookup f_l_ticks = some ⟨oc_l_ticks, od_l_ticks, .func (PySem.W.fnOf "_law_ticks" "_law_ticks" (defArgs s_l_ticks) (defBody s_l_ticks) (defScope s_l_ticks) .none kV_l_ticks dc_l_ticks pm_l_ticks an_l_ticks cd_l_ticks ct_l_ticks), sl_l_ticks⟩)
    (c_l_ticks : PySem.W.codeIn K cd_l_ticks "_law_ticks" = true)
    (k_l_ticks : PySem.W.keepIn K (.ref f_l_ticks) = true)
    (a_l_weight : PySem.W.nsIn K mainGlobals "_law_weight" = some (some (.ref f_l_weight)))
    (l_l_weight : K.lookup f_l_weight = some ⟨oc_l_weight, od_l_weight, .func (PySem.W.fnOf "_law_weight" "_law_weight" (defArgs s_l_weight) (defBody s_l_weight) (defScope s_l_weight) .none kV_l_weight dc_l_weight pm_l_weight an_l_weight cd_l_weight ct_l_weight), sl_l_weight⟩)
    (c_l_weight : PySem.W.codeIn K cd_l_weight "_law_weight" = true)
    (k_l_weight : PySem.W.keepIn K (.ref f_l_weight) = true)
    (a_l_rows : PySem.W.nsIn K mainGlobals "_law_rows" = some (some (.ref f_l_rows)))
    (l_l_rows : K.lookup f_l_rows = some ⟨oc_l_rows, od_l_rows, .func (PySem.W.fnOf "_law_rows" "_law_rows" (defArgs s_l_rows) (defBody s_l_rows) (defScope s_l_rows) .none kV_l_rows dc_l_rows pm_l_rows an_l_rows cd_l_rows ct_l_rows), sl_l_rows⟩)
    (c_l_rows : PySem.W.codeIn K cd_l_rows "_law_rows" = true)
    (k_l_rows : PySem.W.keepIn K (.ref f_l_rows) = true)
    (a_l_pick : PySem.W.nsIn K mainGlobals "_law_pick" = some (some (.ref f_l_pick)))
    (l_l_pick : K.lookup f_l_pick = some ⟨oc_l_pick, od_l_pick, .func (PySem.W.fnOf "_law_pick" "_law_pick" (defArgs s_l_pick) (defBody s_l_pick) (defScope s_l_pick) .none kV_l_pick dc_l_pick pm_l_pick an_l_pick cd_l_pick ct_l_pick), sl_l_pick⟩)
    (c_l_pick : PySem.W.codeIn K cd_l_pick "_law_pick" = true)
    (k_l_pick : PySem.W.keepIn K (.ref f_l_pick) = true)
    (a_l_sides : PySem.W.nsIn K mainGlobals "_law_sides" = some (some (.ref f_l_sides)))
    (l_l_sides : K.lookup f_l_sides = some ⟨oc_l_sides, od_l_sides, .func (PySem.W.fnOf "_law_sides" "_law_sides" (defArgs s_l_sides) (defBody s_l_sides) (defScope s_l_sides) .none kV_l_sides dc_l_sides pm_l_sides an_l_sides cd_l_sides ct_l_sides), sl_l_sides⟩)
    (c_l_sides : PySem.W.codeIn K cd_l_sides "_law_sides" = true)
    (k_l_sides : PySem.W.keepIn K (.ref f_l_sides) = true)
    (a_l_scheme : PySem.W.nsIn K mainGlobals "_law_scheme" = some (some (.ref f_l_scheme)))
    (l_l_scheme : K.lookup f_l_scheme = some ⟨oc_l_scheme, od_l_scheme, .func (PySem.W.fnOf "_law_scheme" "_law_scheme" (defArgs s_l_scheme) (defBody s_l_scheme) (defScope s_l_scheme) .none kV_l_scheme dc_l_scheme pm_l_scheme an_l_scheme cd_l_scheme ct_l_scheme), sl_l_scheme⟩)
    (c_l_scheme : PySem.W.codeIn K cd_l_scheme "_law_scheme" = true)
    (k_l_scheme : PySem.W.keepIn K (.ref f_l_scheme) = true)
    (a_l_seen : PySem.W.nsIn K mainGlobals "_law_seen" = some (some (.ref f_l_seen)))
    (l_l_seen : K.lookup f_l_seen = some ⟨oc_l_seen, od_l_seen, .func (PySem.W.fnOf "_law_seen" "_law_seen" (defArgs s_l_seen) (defBody s_l_seen) (defScope s_l_seen) .none kV_l_seen dc_l_seen pm_l_seen an_l_seen cd_l_seen ct_l_seen), sl_l_seen⟩)
    (c_l_seen : PySem.W.codeIn K cd_l_seen "_law_seen" = true)
    (k_l_seen : PySem.W.keepIn K (.ref f_l_seen) = true)
    (a_l_steps : PySem.W.nsIn K mainGlobals "_law_steps" = some (some (.ref f_l_steps)))
    (l_l_steps : K.lookup f_l_steps = some ⟨oc_l_steps, od_l_steps, .func (PySem.W.fnOf "_law_steps" "_law_steps" (defArgs s_l_steps) (defBody s_l_steps) (defScope s_l_steps) .none kV_l_steps dc_l_steps pm_l_steps an_l_steps cd_l_steps ct_l_steps), sl_l_steps⟩)
    (c_l_steps : PySem.W.codeIn K cd_l_steps "_law_steps" = true)
    (k_l_steps : PySem.W.keepIn K (.ref f_l_steps) = true)
    (a_check_number : PySem.W.nsIn K mainGlobals "check_number" = some (some (.ref f_check_number)))
    (l_check_number : K.lookup f_check_number = some ⟨oc_check_number, od_check_number, .func (PySem.W.fnOf "check_number" "check_number" (defArgs s_check_number) (defBody s_check_number) (defScope s_check_number) .none kV_check_number dc_check_number pm_check_number an_check_number cd_check_number ct_check_number), sl_check_number⟩)
    (c_check_number : PySem.W.codeIn K cd_check_number "check_number" = true)
    (k_check_number : PySem.W.keepIn K (.ref f_check_number) = true)
    (a_check_figures : PySem.W.nsIn K mainGlobals "check_figures" = some (some (.ref f_check_figures)))
    (l_check_figures : K.lookup f_check_figures = some ⟨oc_check_figures, od_check_figures, .func (PySem.W.fnOf "check_figures" "check_figures" (defArgs s_check_figures) (defBody s_check_figures) (defScope s_check_figures) .none kV_check_figures dc_check_figures pm_check_figures an_check_figures cd_check_figures ct_check_figures), sl_check_figures⟩)
    (c_check_figures : PySem.W.codeIn K cd_check_figures "check_figures" = true)
    (k_check_figures : PySem.W.keepIn K (.ref f_check_figures) = true)
    (a_check_seen : PySem.W.nsIn K mainGlobals "check_seen" = some (some (.ref f_check_seen)))
    (l_check_seen : K.lookup f_check_seen = some ⟨oc_check_seen, od_check_seen, .func (PySem.W.fnOf "check_seen" "check_seen" (defArgs s_check_seen) (defBody s_check_seen) (defScope s_check_seen) .none kV_check_seen dc_check_seen pm_check_seen an_check_seen cd_check_seen ct_check_seen), sl_check_seen⟩)
    (c_check_seen : PySem.W.codeIn K cd_check_seen "check_seen" = true)
    (k_check_seen : PySem.W.keepIn K (.ref f_check_seen) = true)
    (a_ascends : PySem.W.nsIn K mainGlobals "ascends" = some (some (.ref f_ascends)))
    (l_ascends : K.lookup f_ascends = some ⟨oc_ascends, od_ascends, .func (PySem.W.fnOf "ascends" "ascends" (defArgs s_ascends) (defBody s_ascends) (defScope s_ascends) .none kV_ascends dc_ascends pm_ascends an_ascends cd_ascends ct_ascends), sl_ascends⟩)
    (c_ascends : PySem.W.codeIn K cd_ascends "ascends" = true)
    (k_ascends : PySem.W.keepIn K (.ref f_ascends) = true)
    (a_are_steps : PySem.W.nsIn K mainGlobals "are_steps" = some (some (.ref f_are_steps)))
    (l_are_steps : K.lookup f_are_steps = some ⟨oc_are_steps, od_are_steps, .func (PySem.W.fnOf "are_steps" "are_steps" (defArgs s_are_steps) (defBody s_are_steps) (defScope s_are_steps) .none kV_are_steps dc_are_steps pm_are_steps an_are_steps cd_are_steps ct_are_steps), sl_are_steps⟩)
    (c_are_steps : PySem.W.codeIn K cd_are_steps "are_steps" = true)
    (k_are_steps : PySem.W.keepIn K (.ref f_are_steps) = true)
    (a_check_steps : PySem.W.nsIn K mainGlobals "check_steps" = some (some (.ref f_check_steps)))
    (l_check_steps : K.lookup f_check_steps = some ⟨oc_check_steps, od_check_steps, .func (PySem.W.fnOf "check_steps" "check_steps" (defArgs s_check_steps) (defBody s_check_steps) (defScope s_check_steps) .none kV_check_steps dc_check_steps pm_check_steps an_check_steps cd_check_steps ct_check_steps), sl_check_steps⟩)
    (c_check_steps : PySem.W.codeIn K cd_check_steps "check_steps" = true)
    (k_check_steps : PySem.W.keepIn K (.ref f_check_steps) = true)
    (a_Negative_densities : PySem.W.findIn K (.ref C_Negative) "densities" = some (some (.ref p_Negative_densities)))
    (pg_Negative_densities : PySem.W.specialIn K (.ref p_Negative_densities) "__get__" = some (some (.builtin "property.__get__")))
    (pt_Negative_densities : PySem.W.takesIn K (.ref p_Negative_densities) = some true)
    (pr_Negative_densities : PySem.W.recIn K p_Negative_densities "property" = some (.ref f_Negative_densities :: rs_Negative_densities))
    (l_Negative_densities : K.lookup f_Negative_densities = some ⟨oc_Negative_densities, od_Negative_densities, .func (PySem.W.fnOf "densities" "Negative.densities" (defArgs s_Negative_densities) (defBody s_Negative_densities) (defScope s_Negative_densities) .none kV_Negative_densities dc_Negative_densities pm_Negative_densities an_Negative_densities cd_Negative_densities ct_Negative_densities), sl_Negative_densities⟩)
    (c_Negative_densities : PySem.W.codeIn K cd_Negative_densities "Negative.densities" = true)
    (k_Negative_densities : PySem.W.keepIn K (.ref f_Negative_densities) = true)
    (a_tone_of : PySem.W.nsIn K mainGlobals "tone_of" = some (some (.ref f_tone_of)))
    (l_tone_of : K.lookup f_tone_of = some ⟨oc_tone_of, od_tone_of, .func (PySem.W.fnOf "tone_of" "tone_of" (defArgs s_tone_of) (defBody s_tone_of) (defScope s_tone_of) .none kV_tone_of dc_tone_of pm_tone_of an_tone_of cd_tone_of ct_tone_of), sl_tone_of⟩)
    (c_tone_of : PySem.W.codeIn K cd_tone_of "tone_of" = true)
    (k_tone_of : PySem.W.keepIn K (.ref f_tone_of) = true)
    (a_shows : PySem.W.nsIn K mainGlobals "shows" = some (some (.ref f_shows)))
    (l_shows : K.lookup f_shows = some ⟨oc_shows, od_shows, .func (PySem.W.fnOf "shows" "shows" (defArgs s_shows) (defBody s_shows) (defScope s_shows) .none kV_shows dc_shows pm_shows an_shows cd_shows ct_shows), sl_shows⟩)
    (c_shows : PySem.W.codeIn K cd_shows "shows" = true)
    (k_shows : PySem.W.keepIn K (.ref f_shows) = true)
    (a_ways_under_mask : PySem.W.nsIn K mainGlobals "ways_under_mask" = some (some (.ref f_ways_under_mask)))
    (l_ways_under_mask : K.lookup f_ways_under_mask = some ⟨oc_ways_under_mask, od_ways_under_mask, .func (PySem.W.fnOf "ways_under_mask" "ways_under_mask" (defArgs s_ways_under_mask) (defBody s_ways_under_mask) (defScope s_ways_under_mask) .none kV_ways_under_mask dc_ways_under_mask pm_ways_under_mask an_ways_under_mask cd_ways_under_mask ct_ways_under_mask), sl_ways_under_mask⟩)
    (c_ways_under_mask : PySem.W.codeIn K cd_ways_under_mask "ways_under_mask" = true)
    (k_ways_under_mask : PySem.W.keepIn K (.ref f_ways_under_mask) = true)
    (a_mask_ways : PySem.W.nsIn K mainGlobals "mask_ways" = some (some (.ref f_mask_ways)))
    (l_mask_ways : K.lookup f_mask_ways = some ⟨oc_mask_ways, od_mask_ways, .func (PySem.W.fnOf "mask_ways" "mask_ways" (defArgs s_mask_ways) (defBody s_mask_ways) (defScope s_mask_ways) .none kV_mask_ways dc_mask_ways pm_mask_ways an_mask_ways cd_mask_ways ct_mask_ways), sl_mask_ways⟩)
    (c_mask_ways : PySem.W.codeIn K cd_mask_ways "mask_ways" = true)
    (k_mask_ways : PySem.W.keepIn K (.ref f_mask_ways) = true)
    (a_product : PySem.W.nsIn K mainGlobals "product" = some (some (.ref f_product)))
    (l_product : K.lookup f_product = some ⟨oc_product, od_product, .func (PySem.W.fnOf "product" "product" (defArgs s_product) (defBody s_product) (defScope s_product) .none kV_product dc_product pm_product an_product cd_product ct_product), sl_product⟩)
    (c_product : PySem.W.codeIn K cd_product "product" = true)
    (k_product : PySem.W.keepIn K (.ref f_product) = true)
    (a_mask_count : PySem.W.nsIn K mainGlobals "mask_count" = some (some (.ref f_mask_count)))
    (l_mask_count : K.lookup f_mask_count = some ⟨oc_mask_count, od_mask_count, .func (PySem.W.fnOf "mask_count" "mask_count" (defArgs s_mask_count) (defBody s_mask_count) (defScope s_mask_count) .none kV_mask_count dc_mask_count pm_mask_count an_mask_count cd_mask_count ct_mask_count), sl_mask_count⟩)
    (c_mask_count : PySem.W.codeIn K cd_mask_count "mask_count" = true)
    (k_mask_count : PySem.W.keepIn K (.ref f_mask_count) = true)
    (a_masks_told : PySem.W.nsIn K mainGlobals "masks_told" = some (some (.ref f_masks_told)))
    (l_masks_told : K.lookup f_masks_told = some ⟨oc_masks_told, od_masks_told, .func (PySem.W.fnOf "masks_told" "masks_told" (defArgs s_masks_told) (defBody s_masks_told) (defScope s_masks_told) .none kV_masks_told dc_masks_told pm_masks_told an_masks_told cd_masks_told ct_masks_told), sl_masks_told⟩)
    (c_masks_told : PySem.W.codeIn K cd_masks_told "masks_told" = true)
    (k_masks_told : PySem.W.keepIn K (.ref f_masks_told) = true)
    (a_Negative_width : PySem.W.findIn K (.ref C_Negative) "width" = some (some (.ref p_Negative_width)))
    (pg_Negative_width : PySem.W.specialIn K (.ref p_Negative_width) "__get__" = some (some (.builtin "property.__get__")))
    (pt_Negative_width : PySem.W.takesIn K (.ref p_Negative_width) = some true)
    (pr_Negative_width : PySem.W.recIn K p_Negative_width "property" = some (.ref f_Negative_width :: rs_Negative_width))
    (l_Negative_width : K.lookup f_Negative_width = some ⟨oc_Negative_width, od_Negative_width, .func (PySem.W.fnOf "width" "Negative.width" (defArgs s_Negative_width) (defBody s_Negative_width) (defScope s_Negative_width) .none kV_Negative_width dc_Negative_width pm_Negative_width an_Negative_width cd_Negative_width ct_Negative_width), sl_Negative_width⟩)
    (c_Negative_width : PySem.W.codeIn K cd_Negative_width "Negative.width" = true)
    (k_Negative_width : PySem.W.keepIn K (.ref f_Negative_width) = true)
    (a_is_mask : PySem.W.nsIn K mainGlobals "is_mask" = some (some (.ref f_is_mask)))
    (l_is_mask : K.lookup f_is_mask = some ⟨oc_is_mask, od_is_mask, .func (PySem.W.fnOf "is_mask" "is_mask" (defArgs s_is_mask) (defBody s_is_mask) (defScope s_is_mask) .none kV_is_mask dc_is_mask pm_is_mask an_is_mask cd_is_mask ct_is_mask), sl_is_mask⟩)
    (c_is_mask : PySem.W.codeIn K cd_is_mask "is_mask" = true)
    (k_is_mask : PySem.W.keepIn K (.ref f_is_mask) = true)
    (a_is_deed : PySem.W.nsIn K mainGlobals "is_deed" = some (some (.ref f_is_deed)))
    (l_is_deed : K.lookup f_is_deed = some ⟨oc_is_deed, od_is_deed, .func (PySem.W.fnOf "is_deed" "is_deed" (defArgs s_is_deed) (defBody s_is_deed) (defScope s_is_deed) .none kV_is_deed dc_is_deed pm_is_deed an_is_deed cd_is_deed ct_is_deed), sl_is_deed⟩)
    (c_is_deed : PySem.W.codeIn K cd_is_deed "is_deed" = true)
    (k_is_deed : PySem.W.keepIn K (.ref f_is_deed) = true)
    (a_check_recipe : PySem.W.nsIn K mainGlobals "check_recipe" = some (some (.ref f_check_recipe)))
    (l_check_recipe : K.lookup f_check_recipe = some ⟨oc_check_recipe, od_check_recipe, .func (PySem.W.fnOf "check_recipe" "check_recipe" (defArgs s_check_recipe) (defBody s_check_recipe) (defScope s_check_recipe) .none kV_check_recipe dc_check_recipe pm_check_recipe an_check_recipe cd_check_recipe ct_check_recipe), sl_check_recipe⟩)
    (c_check_recipe : PySem.W.codeIn K cd_check_recipe "check_recipe" = true)
    (k_check_recipe : PySem.W.keepIn K (.ref f_check_recipe) = true)
    (a_light_by : PySem.W.nsIn K mainGlobals "light_by" = some (some (.ref f_light_by)))
    (l_light_by : K.lookup f_light_by = some ⟨oc_light_by, od_light_by, .func (PySem.W.fnOf "light_by" "light_by" (defArgs s_light_by) (defBody s_light_by) (defScope s_light_by) .none kV_light_by dc_light_by pm_light_by an_light_by cd_light_by ct_light_by), sl_light_by⟩)
    (c_light_by : PySem.W.codeIn K cd_light_by "light_by" = true)
    (k_light_by : PySem.W.keepIn K (.ref f_light_by) = true)
    (a_mirrored : PySem.W.nsIn K mainGlobals "mirrored" = some (some (.ref f_mirrored)))
    (l_mirrored : K.lookup f_mirrored = some ⟨oc_mirrored, od_mirrored, .func (PySem.W.fnOf "mirrored" "mirrored" (defArgs s_mirrored) (defBody s_mirrored) (defScope s_mirrored) .none kV_mirrored dc_mirrored pm_mirrored an_mirrored cd_mirrored ct_mirrored), sl_mirrored⟩)
    (c_mirrored : PySem.W.codeIn K cd_mirrored "mirrored" = true)
    (k_mirrored : PySem.W.keepIn K (.ref f_mirrored) = true)
    (a_ticks_of : PySem.W.nsIn K mainGlobals "ticks_of" = some (some (.ref f_ticks_of)))
    (l_ticks_of : K.lookup f_ticks_of = some ⟨oc_ticks_of, od_ticks_of, .func (PySem.W.fnOf "ticks_of" "ticks_of" (defArgs s_ticks_of) (defBody s_ticks_of) (defScope s_ticks_of) .none kV_ticks_of dc_ticks_of pm_ticks_of an_ticks_of cd_ticks_of ct_ticks_of), sl_ticks_of⟩)
    (c_ticks_of : PySem.W.codeIn K cd_ticks_of "ticks_of" = true)
    (k_ticks_of : PySem.W.keepIn K (.ref f_ticks_of) = true)
    (a_open_pair : PySem.W.nsIn K mainGlobals "open_pair" = some (some (.ref f_open_pair)))
    (l_open_pair : K.lookup f_open_pair = some ⟨oc_open_pair, od_open_pair, .func (PySem.W.fnOf "open_pair" "open_pair" (defArgs s_open_pair) (defBody s_open_pair) (defScope s_open_pair) .none kV_open_pair dc_open_pair pm_open_pair an_open_pair cd_open_pair ct_open_pair), sl_open_pair⟩)
    (c_open_pair : PySem.W.codeIn K cd_open_pair "open_pair" = true)
    (k_open_pair : PySem.W.keepIn K (.ref f_open_pair) = true)
    (a_light_of : PySem.W.nsIn K mainGlobals "light_of" = some (some (.ref f_light_of)))
    (l_light_of : K.lookup f_light_of = some ⟨oc_light_of, od_light_of, .func (PySem.W.fnOf "light_of" "light_of" (defArgs s_light_of) (defBody s_light_of) (defScope s_light_of) .none kV_light_of dc_light_of pm_light_of an_light_of cd_light_of ct_light_of), sl_light_of⟩)
    (c_light_of : PySem.W.codeIn K cd_light_of "light_of" = true)
    (k_light_of : PySem.W.keepIn K (.ref f_light_of) = true)
    (a_lights : PySem.W.nsIn K mainGlobals "lights" = some (some (.ref f_lights)))
    (l_lights : K.lookup f_lights = some ⟨oc_lights, od_lights, .func (PySem.W.fnOf "lights" "lights" (defArgs s_lights) (defBody s_lights) (defScope s_lights) .none kV_lights dc_lights pm_lights an_lights cd_lights ct_lights), sl_lights⟩)
    (c_lights : PySem.W.codeIn K cd_lights "lights" = true)
    (k_lights : PySem.W.keepIn K (.ref f_lights) = true)
    (a_printed : PySem.W.nsIn K mainGlobals "printed" = some (some (.ref f_printed)))
    (l_printed : K.lookup f_printed = some ⟨oc_printed, od_printed, .func (PySem.W.fnOf "printed" "printed" (defArgs s_printed) (defBody s_printed) (defScope s_printed) .none kV_printed dc_printed pm_printed an_printed cd_printed ct_printed), sl_printed⟩)
    (c_printed : PySem.W.codeIn K cd_printed "printed" = true)
    (k_printed : PySem.W.keepIn K (.ref f_printed) = true)
    (a_law : PySem.W.nsIn K mainGlobals "law" = some (some (.ref f_law)))
    (l_law : K.lookup f_law = some ⟨oc_law, od_law, .func (PySem.W.fnOf "law" "law" (defArgs s_law) (defBody s_law) (defScope s_law) .none kV_law dc_law pm_law an_law cd_law ct_law), sl_law⟩)
    (c_law : PySem.W.codeIn K cd_law "law" = true)
    (k_law : PySem.W.keepIn K (.ref f_law) = true) :
    ∃ fd : FuncData, (∀ (s : Shared) (v : Value), BindsTo s fd ⟨[v], []⟩ [("_law_script", v)]) ∧ ∀ base : Heap, K.In base → base.Ns mainGlobals mg → FnOk l.prog w K mg base CX0 8 fa fd ["_law_script"] (spA K M_law) := by
  have e := hfa.symm.trans (PySem.W.mg_of X G a_law)
  cases e
  let cls : Nat → Option Addr := fun c => if c = 0 then some C_Negative else none
  have F_Negativedd__lendd_ := fun_mk (st := s_Negativedd__lendd_) l_Negativedd__lendd_ c_Negativedd__lendd_ k_Negativedd__lendd_
  have F_l_taken := fun_mk (st := s_l_taken) l_l_taken c_l_taken k_l_taken
  have F_l_covered := fun_mk (st := s_l_covered) l_l_covered c_l_covered k_l_covered
  have F_l_like := fun_mk (st := s_l_like) l_l_like c_l_like k_l_like
  have F_is_number := fun_mk (st := s_is_number) l_is_number c_is_number k_is_number
  have F_wrong_side := fun_mk (st := s_wrong_side) l_wrong_side c_wrong_side k_wrong_side
  have F_wrong_part := fun_mk (st := s_wrong_part) l_wrong_part c_wrong_part k_wrong_part
  have F_Negativedd__initdd_ := fun_mk (st := s_Negativedd__initdd_) l_Negativedd__initdd_ c_Negativedd__initdd_ k_Negativedd__initdd_
  have F_l_negative := fun_mk (st := s_l_negative) l_l_negative c_l_negative k_l_negative
  have F_l_tone := fun_mk (st := s_l_tone) l_l_tone c_l_tone k_l_tone
  have F_l_print := fun_mk (st := s_l_print) l_l_print c_l_print k_l_print
  have F_l_mirror := fun_mk (st := s_l_mirror) l_l_mirror c_l_mirror k_l_mirror
  have F_l_ticks := fun_mk (st := s_l_ticks) l_l_ticks c_l_ticks k_l_ticks
  have F_l_weight := fun_mk (st := s_l_weight) l_l_weight c_l_weight k_l_weight
  have F_l_rows := fun_mk (st := s_l_rows) l_l_rows c_l_rows k_l_rows
  have F_l_pick := fun_mk (st := s_l_pick) l_l_pick c_l_pick k_l_pick
  have F_l_sides := fun_mk (st := s_l_sides) l_l_sides c_l_sides k_l_sides
  have F_l_scheme := fun_mk (st := s_l_scheme) l_l_scheme c_l_scheme k_l_scheme
  have F_l_seen := fun_mk (st := s_l_seen) l_l_seen c_l_seen k_l_seen
  have F_l_steps := fun_mk (st := s_l_steps) l_l_steps c_l_steps k_l_steps
  have F_check_number := fun_mk (st := s_check_number) l_check_number c_check_number k_check_number
  have F_check_figures := fun_mk (st := s_check_figures) l_check_figures c_check_figures k_check_figures
  have F_check_seen := fun_mk (st := s_check_seen) l_check_seen c_check_seen k_check_seen
  have F_ascends := fun_mk (st := s_ascends) l_ascends c_ascends k_ascends
  have F_are_steps := fun_mk (st := s_are_steps) l_are_steps c_are_steps k_are_steps
  have F_check_steps := fun_mk (st := s_check_steps) l_check_steps c_check_steps k_check_steps
  have F_Negative_densities := fun_mk (st := s_Negative_densities) l_Negative_densities c_Negative_densities k_Negative_densities
  have F_tone_of := fun_mk (st := s_tone_of) l_tone_of c_tone_of k_tone_of
  have F_shows := fun_mk (st := s_shows) l_shows c_shows k_shows
  have F_ways_under_mask := fun_mk (st := s_ways_under_mask) l_ways_under_mask c_ways_under_mask k_ways_under_mask
  have F_mask_ways := fun_mk (st := s_mask_ways) l_mask_ways c_mask_ways k_mask_ways
  have F_product := fun_mk (st := s_product) l_product c_product k_product
  have F_mask_count := fun_mk (st := s_mask_count) l_mask_count c_mask_count k_mask_count
  have F_masks_told := fun_mk (st := s_masks_told) l_masks_told c_masks_told k_masks_told
  have F_Negative_width := fun_mk (st := s_Negative_width) l_Negative_width c_Negative_width k_Negative_width
  have F_is_mask := fun_mk (st := s_is_mask) l_is_mask c_is_mask k_is_mask
  have F_is_deed := fun_mk (st := s_is_deed) l_is_deed c_is_deed k_is_deed
  have F_check_recipe := fun_mk (st := s_check_recipe) l_check_recipe c_check_recipe k_check_recipe
  have F_light_by := fun_mk (st := s_light_by) l_light_by c_light_by k_light_by
  have F_mirrored := fun_mk (st := s_mirrored) l_mirrored c_mirrored k_mirrored
  have F_ticks_of := fun_mk (st := s_ticks_of) l_ticks_of c_ticks_of k_ticks_of
  have F_open_pair := fun_mk (st := s_open_pair) l_open_pair c_open_pair k_open_pair
  have F_light_of := fun_mk (st := s_light_of) l_light_of c_light_of k_light_of
  have F_lights := fun_mk (st := s_lights) l_lights c_lights k_lights
  have F_printed := fun_mk (st := s_printed) l_printed c_printed k_printed
  have F_law := fun_mk (st := s_law) l_law c_law k_law
  have b_Negativedd__lendd_ := F_Negativedd__lendd_.binds (ps := ["self"]) fun _ _ _ _ _ _ us hl => match us, hl with | [_], _ => rfl
  have b_l_taken := F_l_taken.binds (ps := ["_law_row", "_law_many"]) fun _ _ _ _ _ _ us hl => match us, hl with | [_, _], _ => rfl
  have b_l_covered := F_l_covered.binds (ps := ["_law_row", "_law_s"]) fun _ _ _ _ _ _ us hl => match us, hl with | [_, _], _ => rfl
  have b_l_like := F_l_like.binds (ps := ["_law_seen_here", "_law_tones"]) fun _ _ _ _ _ _ us hl => match us, hl with | [_, _], _ => rfl
  have b_is_number := F_is_number.binds (ps := ["value", "least", "most"]) fun _ _ _ _ _ _ us hl => match us, hl with | [_, _, _], _ => rfl
  have b_wrong_side := F_wrong_side.binds (ps := ["width", "height"]) fun _ _ _ _ _ _ us hl => match us, hl with | [_, _], _ => rfl
  have b_wrong_part := F_wrong_part.binds (ps := ["width", "height", "densities"]) fun _ _ _ _ _ _ us hl => match us, hl with | [_, _, _], _ => rfl
  have b_Negativedd__initdd_ := F_Negativedd__initdd_.binds (ps := ["self", "width", "height", "densities"]) fun _ _ _ _ _ _ us hl => match us, hl with | [_, _, _, _], _ => rfl
  have b_l_negative := F_l_negative.binds (ps := ["_law_s"]) fun _ _ _ _ _ _ us hl => match us, hl with | [_], _ => rfl
  have b_l_tone := F_l_tone.binds (ps := ["_law_steps_here", "_law_light"]) fun _ _ _ _ _ _ us hl => match us, hl with | [_, _], _ => rfl
  have b_l_print := F_l_print.binds (ps := ["_law_steps_here", "_law_lights_of"]) fun _ _ _ _ _ _ us hl => match us, hl with | [_, _], _ => rfl
  have b_l_mirror := F_l_mirror.binds (ps := ["_law_s", "_law_cell"]) fun _ _ _ _ _ _ us hl => match us, hl with | [_, _], _ => rfl
  have b_l_ticks := F_l_ticks.binds (ps := ["_law_s", "_law_deed", "_law_cell"]) fun _ _ _ _ _ _ us hl => match us, hl with | [_, _, _], _ => rfl
  have b_l_weight := F_l_weight.binds (ps := ["_law_figure"]) fun _ _ _ _ _ _ us hl => match us, hl with | [_], _ => rfl
  have b_l_rows := F_l_rows.binds (ps := ["_law_s", "_law_densities", "_law_recipe"]) fun _ _ _ _ _ _ us hl => match us, hl with | [_, _, _], _ => rfl
  have b_l_pick := F_l_pick.binds (ps := ["_law_row", "_law_some"]) fun _ _ _ _ _ _ us hl => match us, hl with | [_, _], _ => rfl
  have b_l_sides := F_l_sides.binds (ps := ["_law_cells"]) fun _ _ _ _ _ _ us hl => match us, hl with | [_], _ => rfl
  have b_l_scheme := F_l_scheme.binds (ps := ["_law_row", "_law_cells"]) fun _ _ _ _ _ _ us hl => match us, hl with | [_, _], _ => rfl
  have b_l_seen := F_l_seen.binds (ps := ["_law_row", "_law_tones"]) fun _ _ _ _ _ _ us hl => match us, hl with | [_, _], _ => rfl
  have b_l_steps := F_l_steps.binds (ps := ["_law_row", "_law_most"]) fun _ _ _ _ _ _ us hl => match us, hl with | [_, _], _ => rfl
  have b_check_number := F_check_number.binds (ps := ["value", "least", "most"]) fun _ _ _ _ _ _ us hl => match us, hl with | [_, _, _], _ => rfl
  have b_check_figures := F_check_figures.binds (ps := ["text", "figures", "cells"]) fun _ _ _ _ _ _ us hl => match us, hl with | [_, _, _], _ => rfl
  have b_check_seen := F_check_seen.binds (ps := ["tones", "most", "cells"]) fun _ _ _ _ _ _ us hl => match us, hl with | [_, _, _], _ => rfl
  have b_ascends := F_ascends.binds (ps := ["values", "least", "most"]) fun _ _ _ _ _ _ us hl => match us, hl with | [_, _, _], _ => rfl
  have b_are_steps := F_are_steps.binds (ps := ["steps"]) fun _ _ _ _ _ _ us hl => match us, hl with | [_], _ => rfl
  have b_check_steps := F_check_steps.binds (ps := ["steps"]) fun _ _ _ _ _ _ us hl => match us, hl with | [_], _ => rfl
  have b_Negative_densities := F_Negative_densities.binds (ps := ["self"]) fun _ _ _ _ _ _ us hl => match us, hl with | [_], _ => rfl
  have b_tone_of := F_tone_of.binds (ps := ["light", "steps"]) fun _ _ _ _ _ _ us hl => match us, hl with | [_, _], _ => rfl
  have b_shows := F_shows.binds (ps := ["tone", "light", "steps"]) fun _ _ _ _ _ _ us hl => match us, hl with | [_, _, _], _ => rfl
  have b_ways_under_mask := F_ways_under_mask.binds (ps := ["negative", "steps", "time", "tones"]) fun _ _ _ _ _ _ us hl => match us, hl with | [_, _, _, _], _ => rfl
  have b_mask_ways := F_mask_ways.binds (ps := ["negative", "steps", "time", "tones"]) fun _ _ _ _ _ _ us hl => match us, hl with | [_, _, _, _], _ => rfl
  have b_product := F_product.binds (ps := ["numbers"]) fun _ _ _ _ _ _ us hl => match us, hl with | [_], _ => rfl
  have b_mask_count := F_mask_count.binds (ps := ["negative", "steps", "time", "tones"]) fun _ _ _ _ _ _ us hl => match us, hl with | [_, _, _, _], _ => rfl
  have b_masks_told := F_masks_told.binds (ps := ["negative", "steps", "time", "tones"]) fun _ _ _ _ _ _ us hl => match us, hl with | [_, _, _, _], _ => rfl
  have b_Negative_width := F_Negative_width.binds (ps := ["self"]) fun _ _ _ _ _ _ us hl => match us, hl with | [_], _ => rfl
  have b_is_mask := F_is_mask.binds (ps := ["covered", "cells"]) fun _ _ _ _ _ _ us hl => match us, hl with | [_, _], _ => rfl
  have b_is_deed := F_is_deed.binds (ps := ["deed", "cells"]) fun _ _ _ _ _ _ us hl => match us, hl with | [_, _], _ => rfl
  have b_check_recipe := F_check_recipe.binds (ps := ["recipe", "cells"]) fun _ _ _ _ _ _ us hl => match us, hl with | [_, _], _ => rfl
  have b_light_by := F_light_by.binds (ps := ["ticks", "density", "turned"]) fun _ _ _ _ _ _ us hl => match us, hl with | [_, _, _], _ => rfl
  have b_mirrored := F_mirrored.binds (ps := ["cell", "width"]) fun _ _ _ _ _ _ us hl => match us, hl with | [_, _], _ => rfl
  have b_ticks_of := F_ticks_of.binds (ps := ["deed", "width", "cell"]) fun _ _ _ _ _ _ us hl => match us, hl with | [_, _, _], _ => rfl
  have b_open_pair := F_open_pair.binds (ps := ["width", "recipe", "cell"]) fun _ _ _ _ _ _ us hl => match us, hl with | [_, _, _], _ => rfl
  have b_light_of := F_light_of.binds (ps := ["width", "densities", "recipe", "cell"]) fun _ _ _ _ _ _ us hl => match us, hl with | [_, _, _, _], _ => rfl
  have b_lights := F_lights.binds (ps := ["negative", "recipe"]) fun _ _ _ _ _ _ us hl => match us, hl with | [_, _], _ => rfl
  have b_printed := F_printed.binds (ps := ["negative", "steps", "recipe"]) fun _ _ _ _ _ _ us hl => match us, hl with | [_, _, _], _ => rfl
  have T : Tx l.prog w K cls mg C_Negative := {
    n_all := PySem.W.mg_none_of X G n_all
    n_bool := PySem.W.mg_none_of X G n_bool
    n_enumerate := PySem.W.mg_none_of X G n_enumerate
    n_int := PySem.W.mg_none_of X G n_int
    n_isinstance := PySem.W.mg_none_of X G n_isinstance
    n_len := PySem.W.mg_none_of X G n_len
    n_max := PySem.W.mg_none_of X G n_max
    n_range := PySem.W.mg_none_of X G n_range
    n_set := PySem.W.mg_none_of X G n_set
    n_sorted := PySem.W.mg_none_of X G n_sorted
    n_str := PySem.W.mg_none_of X G n_str
    n_tuple := PySem.W.mg_none_of X G n_tuple
    n_zip := PySem.W.mg_none_of X G n_zip
    c_COVERED := gv_str X G g_COVERED
    c_DENSITIES := gv_str X G g_DENSITIES
    c_FLIP := gv_tup (vs := [.str (PySem.Str.ofString "flip")]) X G g_FLIP gl_FLIP (by show 1 ≤ 1000000; decide) (.cons ⟨t_FLIP_0, rfl⟩ (.nil)) (fun w => .cons (by show V.str _ = V.str ⟨(PySem.Str.ofString _).cps.toList.toArray⟩; rw [Array.toArray_toList]) (.nil))
    c_GREATEST_STEP := gv_int X G g_GREATEST_STEP
    c_MOST_CELLS := gv_int X G g_MOST_CELLS
    c_MOST_DEEDS := gv_int X G g_MOST_DEEDS
    c_MOST_SIDE := gv_int X G g_MOST_SIDE
    c_MOST_STEPS := gv_int X G g_MOST_STEPS
    c_MOST_TICKS := gv_int X G g_MOST_TICKS
    c_TONES := gv_str X G g_TONES
    c_UNCOVERED := gv_str X G g_UNCOVERED
    c_UNITS := gv_tup (vs := [.int 16, .int 8, .int 4, .int 2, .int 1]) X G g_UNITS gl_UNITS (by show 5 ≤ 1000000; decide) (.cons ⟨t_UNITS_0, rfl⟩ (.cons ⟨t_UNITS_1, rfl⟩ (.cons ⟨t_UNITS_2, rfl⟩ (.cons ⟨t_UNITS_3, rfl⟩ (.cons ⟨t_UNITS_4, rfl⟩ (.nil)))))) (fun w => .cons rfl (.cons rfl (.cons rfl (.cons rfl (.cons rfl (.nil))))))
    c_UNSEEN := gv_str X G g_UNSEEN
    k_Negative := ⟨by rfl, ⟨pg_Negative, hd_Negative, po_Negative, sa_Negative⟩⟩
    m_Negative := PySem.W.mg_of X G aC_Negative
    f_Negative_columns := nf_Negative_columns
    f_Negative_figures := nf_Negative_figures
    f_Negative_lines := nf_Negative_lines
  }
  refine ⟨PySem.W.fnOf "law" "law" (defArgs s_law) (defBody s_law) (defScope s_law) .none kV_law dc_law pm_law an_law cd_law ct_law, fun s v => .of_eq rfl, fun base hb1 hb2 => ?_⟩
  have g_Negativedd__lendd_ := dm_Negativedd__lendd_ (base := base) F_Negativedd__lendd_ b_Negativedd__lendd_ T 
  have G_l_taken := df_l_taken (base := base) F_l_taken b_l_taken (PySem.W.mg_of X G a_l_taken) T  g_Negativedd__lendd_ a_Negativedd__lendd_ i_Negativedd__lendd_
  have G_l_covered := df_l_covered (base := base) F_l_covered b_l_covered (PySem.W.mg_of X G a_l_covered) T G_l_taken
  have G_l_like := df_l_like (base := base) F_l_like b_l_like (PySem.W.mg_of X G a_l_like) T  g_Negativedd__lendd_ a_Negativedd__lendd_ i_Negativedd__lendd_
  have G_is_number := df_is_number (base := base) F_is_number b_is_number (PySem.W.mg_of X G a_is_number) T 
  have G_wrong_side := df_wrong_side (base := base) F_wrong_side b_wrong_side (PySem.W.mg_of X G a_wrong_side) T G_is_number
  have G_wrong_part := df_wrong_part (base := base) F_wrong_part b_wrong_part (PySem.W.mg_of X G a_wrong_part) T G_wrong_side g_Negativedd__lendd_ a_Negativedd__lendd_ i_Negativedd__lendd_
  have g_Negativedd__initdd_ := dm_Negativedd__initdd_ (base := base) F_Negativedd__initdd_ b_Negativedd__initdd_ T G_wrong_part
  have G_l_negative := df_l_negative (base := base) F_l_negative b_l_negative (PySem.W.mg_of X G a_l_negative) T  g_Negativedd__initdd_ ⟨mk_Negative, a_Negativedd__initdd_, i_Negativedd__initdd_, kc_Negative⟩
  have G_l_tone := df_l_tone (base := base) F_l_tone b_l_tone (PySem.W.mg_of X G a_l_tone) T  g_Negativedd__lendd_ a_Negativedd__lendd_ i_Negativedd__lendd_
  have G_l_print := df_l_print (base := base) F_l_print b_l_print (PySem.W.mg_of X G a_l_print) T G_l_tone
  have G_l_mirror := df_l_mirror (base := base) F_l_mirror b_l_mirror (PySem.W.mg_of X G a_l_mirror) T 
  have G_l_ticks := df_l_ticks (base := base) F_l_ticks b_l_ticks (PySem.W.mg_of X G a_l_ticks) T 
  have G_l_weight := df_l_weight (base := base) F_l_weight b_l_weight (PySem.W.mg_of X G a_l_weight) T 
  have G_l_rows := df_l_rows (base := base) F_l_rows b_l_rows (PySem.W.mg_of X G a_l_rows) T G_l_mirror G_l_ticks G_l_weight g_Negativedd__lendd_ a_Negativedd__lendd_ i_Negativedd__lendd_
  have G_l_pick := df_l_pick (base := base) F_l_pick b_l_pick (PySem.W.mg_of X G a_l_pick) T G_l_taken g_Negativedd__lendd_ a_Negativedd__lendd_ i_Negativedd__lendd_
  have G_l_sides := df_l_sides (base := base) F_l_sides b_l_sides (PySem.W.mg_of X G a_l_sides) T 
  have G_l_scheme := df_l_scheme (base := base) F_l_scheme b_l_scheme (PySem.W.mg_of X G a_l_scheme) T G_l_pick G_l_sides
  have G_l_seen := df_l_seen (base := base) F_l_seen b_l_seen (PySem.W.mg_of X G a_l_seen) T G_l_pick
  have G_l_steps := df_l_steps (base := base) F_l_steps b_l_steps (PySem.W.mg_of X G a_l_steps) T G_l_pick G_l_taken
  have G_check_number := df_check_number (base := base) F_check_number b_check_number (PySem.W.mg_of X G a_check_number) T G_is_number
  have G_check_figures := df_check_figures (base := base) F_check_figures b_check_figures (PySem.W.mg_of X G a_check_figures) T  g_Negativedd__lendd_ a_Negativedd__lendd_ i_Negativedd__lendd_
  have G_check_seen := df_check_seen (base := base) F_check_seen b_check_seen (PySem.W.mg_of X G a_check_seen) T G_check_figures
  have G_ascends := df_ascends (base := base) F_ascends b_ascends (PySem.W.mg_of X G a_ascends) T G_is_number
  have G_are_steps := df_are_steps (base := base) F_are_steps b_are_steps (PySem.W.mg_of X G a_are_steps) T G_ascends g_Negativedd__lendd_ a_Negativedd__lendd_ i_Negativedd__lendd_
  have G_check_steps := df_check_steps (base := base) F_check_steps b_check_steps (PySem.W.mg_of X G a_check_steps) T G_are_steps
  have g_Negative_densities := dm_Negative_densities (base := base) F_Negative_densities b_Negative_densities T 
  have G_tone_of := df_tone_of (base := base) F_tone_of b_tone_of (PySem.W.mg_of X G a_tone_of) T  g_Negativedd__lendd_ a_Negativedd__lendd_ i_Negativedd__lendd_
  have G_shows := df_shows (base := base) F_shows b_shows (PySem.W.mg_of X G a_shows) T G_tone_of
  have G_ways_under_mask := df_ways_under_mask (base := base) F_ways_under_mask b_ways_under_mask (PySem.W.mg_of X G a_ways_under_mask) T G_shows g_Negative_densities ⟨a_Negative_densities, pg_Negative_densities, pt_Negative_densities, _, pr_Negative_densities⟩
  have G_mask_ways := df_mask_ways (base := base) F_mask_ways b_mask_ways (PySem.W.mg_of X G a_mask_ways) T G_check_number G_check_seen G_check_steps G_ways_under_mask g_Negativedd__lendd_ a_Negativedd__lendd_ i_Negativedd__lendd_
  have G_product := df_product (base := base) F_product b_product (PySem.W.mg_of X G a_product) T 
  have G_mask_count := df_mask_count (base := base) F_mask_count b_mask_count (PySem.W.mg_of X G a_mask_count) T G_mask_ways G_product g_Negativedd__lendd_ a_Negativedd__lendd_ i_Negativedd__lendd_
  have G_masks_told := df_masks_told (base := base) F_masks_told b_masks_told (PySem.W.mg_of X G a_masks_told) T G_mask_ways g_Negativedd__lendd_ a_Negativedd__lendd_ i_Negativedd__lendd_
  have g_Negative_width := dm_Negative_width (base := base) F_Negative_width b_Negative_width T 
  have G_is_mask := df_is_mask (base := base) F_is_mask b_is_mask (PySem.W.mg_of X G a_is_mask) T G_ascends
  have G_is_deed := df_is_deed (base := base) F_is_deed b_is_deed (PySem.W.mg_of X G a_is_deed) T G_is_mask G_is_number g_Negativedd__lendd_ a_Negativedd__lendd_ i_Negativedd__lendd_
  have G_check_recipe := df_check_recipe (base := base) F_check_recipe b_check_recipe (PySem.W.mg_of X G a_check_recipe) T G_is_deed
  have G_light_by := df_light_by (base := base) F_light_by b_light_by (PySem.W.mg_of X G a_light_by) T 
  have G_mirrored := df_mirrored (base := base) F_mirrored b_mirrored (PySem.W.mg_of X G a_mirrored) T 
  have G_ticks_of := df_ticks_of (base := base) F_ticks_of b_ticks_of (PySem.W.mg_of X G a_ticks_of) T 
  have G_open_pair := df_open_pair (base := base) F_open_pair b_open_pair (PySem.W.mg_of X G a_open_pair) T G_ticks_of
  have G_light_of := df_light_of (base := base) F_light_of b_light_of (PySem.W.mg_of X G a_light_of) T G_light_by G_mirrored G_open_pair
  have G_lights := df_lights (base := base) F_lights b_lights (PySem.W.mg_of X G a_lights) T G_check_recipe G_light_of g_Negativedd__lendd_ a_Negativedd__lendd_ i_Negativedd__lendd_ g_Negative_densities ⟨a_Negative_densities, pg_Negative_densities, pt_Negative_densities, _, pr_Negative_densities⟩ g_Negative_width ⟨a_Negative_width, pg_Negative_width, pt_Negative_width, _, pr_Negative_width⟩
  have G_printed := df_printed (base := base) F_printed b_printed (PySem.W.mg_of X G a_printed) T G_check_steps G_lights G_tone_of
  exact fn_any (fn_law F_law T G_l_covered G_l_like G_l_negative G_l_print G_l_rows G_l_scheme G_l_seen G_l_steps G_l_taken G_mask_count G_masks_told G_printed g_Negativedd__lendd_ a_Negativedd__lendd_ i_Negativedd__lendd_)
end K12

set_option Elab.async false
set_option maxRecDepth 100000
open PySem PySem.W PyProof.Rows
set_option maxHeartbeats 0 in
theorem PySem.Challenge.cw_maskedprints_k12_masks_told_by_all_masks_holds : PySem.Challenge.rw_maskedprints_k12_masks_told_by_all_masks.Holds := by
  w_on; o_law; k_head; (case hw => w_witness2)
  k_fill
  refine L2.walk_of (l := PySem.Challenge.rw_maskedprints_k12_masks_told_by_all_masks) (n := 63) (k := 8) (x := "_law_script") (CX := fun _ => L2.CX0) (sp := fun w => Fw.spA _ K12.M_law) rfl (by decide) rfl ⟨rfl, by decide, by decide⟩ (fun w h Y => PySem.W.kIn_of Y) ?F (fun w H a ns hl hO hS => Fw.law_spA (fun _ => K12.law_true) hl hO hS) (fun _ _ _ _ _ h => h)
  case F =>
    intro w mg fa h KX G hmg
    refine' K12.all_mk KX G hmg ?aC_Negative ?pg_Negative ?hd_Negative ?po_Negative ?sa_Negative ?mk_Negative ?kc_Negative ?nf_Negative_columns ?nf_Negative_figures ?nf_Negative_lines ?n_all ?n_bool ?n_enumerate ?n_int ?n_isinstance ?n_len ?n_max ?n_range ?n_set ?n_sorted ?n_str ?n_tuple ?n_zip ?g_COVERED ?g_DENSITIES ?g_FLIP ?gl_FLIP ?g_GREATEST_STEP ?g_MOST_CELLS ?g_MOST_DEEDS ?g_MOST_SIDE ?g_MOST_STEPS ?g_MOST_TICKS ?g_TONES ?g_UNCOVERED ?g_UNITS ?gl_UNITS ?g_UNSEEN ?a_Negativedd__lendd_ ?i_Negativedd__lendd_ ?l_Negativedd__lendd_ ?c_Negativedd__lendd_ ?k_Negativedd__lendd_ ?a_l_taken ?l_l_taken ?c_l_taken ?k_l_taken ?a_l_covered ?l_l_covered ?c_l_covered ?k_l_covered ?a_l_like ?l_l_like ?c_l_like ?k_l_like ?a_is_number ?l_is_number ?c_is_number ?k_is_number ?a_wrong_side ?l_wrong_side ?c_wrong_side ?k_wrong_side ?a_wrong_part ?l_wrong_part ?c_wrong_part ?k_wrong_part ?a_Negativedd__initdd_ ?i_Negativedd__initdd_ ?l_Negativedd__initdd_ ?c_Negativedd__initdd_ ?k_Negativedd__initdd_ ?a_l_negative ?l_l_negative ?c_l_negative ?k_l_negative ?a_l_tone ?l_l_tone ?c_l_tone ?k_l_tone ?a_l_print ?l_l_print ?c_l_print ?k_l_print ?a_l_mirror ?l_l_mirror ?c_l_mirror ?k_l_mirror ?a_l_ticks ?l_l_ticks ?c_l_ticks ?k_l_ticks ?a_l_weight ?l_l_weight ?c_l_weight ?k_l_weight ?a_l_rows ?l_l_rows ?c_l_rows ?k_l_rows ?a_l_pick ?l_l_pick ?c_l_pick ?k_l_pick ?a_l_sides ?l_l_sides ?c_l_sides ?k_l_sides ?a_l_scheme ?l_l_scheme ?c_l_scheme ?k_l_scheme ?a_l_seen ?l_l_seen ?c_l_seen ?k_l_seen ?a_l_steps ?l_l_steps ?c_l_steps ?k_l_steps ?a_check_number ?l_check_number ?c_check_number ?k_check_number ?a_check_figures ?l_check_figures ?c_check_figures ?k_check_figures ?a_check_seen ?l_check_seen ?c_check_seen ?k_check_seen ?a_ascends ?l_ascends ?c_ascends ?k_ascends ?a_are_steps ?l_are_steps ?c_are_steps ?k_are_steps ?a_check_steps ?l_check_steps ?c_check_steps ?k_check_steps ?a_Negative_densities ?pg_Negative_densities ?pt_Negative_densities ?pr_Negative_densities ?l_Negative_densities ?c_Negative_densities ?k_Negative_densities ?a_tone_of ?l_tone_of ?c_tone_of ?k_tone_of ?a_shows ?l_shows ?c_shows ?k_shows ?a_ways_under_mask ?l_ways_under_mask ?c_ways_under_mask ?k_ways_under_mask ?a_mask_ways ?l_mask_ways ?c_mask_ways ?k_mask_ways ?a_product ?l_product ?c_product ?k_product ?a_mask_count ?l_mask_count ?c_mask_count ?k_mask_count ?a_masks_told ?l_masks_told ?c_masks_told ?k_masks_told ?a_Negative_width ?pg_Negative_width ?pt_Negative_width ?pr_Negative_width ?l_Negative_width ?c_Negative_width ?k_Negative_width ?a_is_mask ?l_is_mask ?c_is_mask ?k_is_mask ?a_is_deed ?l_is_deed ?c_is_deed ?k_is_deed ?a_check_recipe ?l_check_recipe ?c_check_recipe ?k_check_recipe ?a_light_by ?l_light_by ?c_light_by ?k_light_by ?a_mirrored ?l_mirrored ?c_mirrored ?k_mirrored ?a_ticks_of ?l_ticks_of ?c_ticks_of ?k_ticks_of ?a_open_pair ?l_open_pair ?c_open_pair ?k_open_pair ?a_light_of ?l_light_of ?c_light_of ?k_light_of ?a_lights ?l_lights ?c_lights ?k_lights ?a_printed ?l_printed ?c_printed ?k_printed ?a_law ?l_law ?c_law ?k_law
    (case aC_Negative => k_is)
    (case pg_Negative => k_is)
    (case hd_Negative => k_is)
    (case po_Negative => k_is)
    (case sa_Negative => k_is)
    (case mk_Negative => k_is)
    (case kc_Negative => k_is)
    (case nf_Negative_columns => k_is)
    (case nf_Negative_figures => k_is)
    (case nf_Negative_lines => k_is)
    (case n_all => k_is)
    (case n_bool => k_is)
    (case n_enumerate => k_is)
    (case n_int => k_is)
    (case n_isinstance => k_is)
    (case n_len => k_is)
    (case n_max => k_is)
    (case n_range => k_is)
    (case n_set => k_is)
    (case n_sorted => k_is)
    (case n_str => k_is)
    (case n_tuple => k_is)
    (case n_zip => k_is)
    (case g_COVERED => k_is)
    (case g_DENSITIES => k_is)
    (case g_FLIP => k_is)
    (case gl_FLIP => k_is)
    (case g_GREATEST_STEP => k_is)
    (case g_MOST_CELLS => k_is)
    (case g_MOST_DEEDS => k_is)
    (case g_MOST_SIDE => k_is)
    (case g_MOST_STEPS => k_is)
    (case g_MOST_TICKS => k_is)
    (case g_TONES => k_is)
    (case g_UNCOVERED => k_is)
    (case g_UNITS => k_is)
    (case gl_UNITS => k_is)
    (case g_UNSEEN => k_is)
    (case a_Negativedd__lendd_ => k_is)
    (case i_Negativedd__lendd_ => k_is)
    (case l_Negativedd__lendd_ => k_is)
    (case c_Negativedd__lendd_ => k_is)
    (case k_Negativedd__lendd_ => k_is)
    (case a_l_taken => k_is)
    (case l_l_taken => k_is)
    (case c_l_taken => k_is)
    (case k_l_taken => k_is)
    (case a_l_covered => k_is)
    (case l_l_covered => k_is)
    (case c_l_covered => k_is)
    (case k_l_covered => k_is)
    (case a_l_like => k_is)
    (case l_l_like => k_is)
    (case c_l_like => k_is)
    (case k_l_like => k_is)
    (case a_is_number => k_is)
    (case l_is_number => k_is)
    (case c_is_number => k_is)
    (case k_is_number => k_is)
    (case a_wrong_side => k_is)
    (case l_wrong_side => k_is)
    (case c_wrong_side => k_is)
    (case k_wrong_side => k_is)
    (case a_wrong_part => k_is)
    (case l_wrong_part => k_is)
    (case c_wrong_part => k_is)
    (case k_wrong_part => k_is)
    (case a_Negativedd__initdd_ => k_is)
    (case i_Negativedd__initdd_ => k_is)
    (case l_Negativedd__initdd_ => k_is)
    (case c_Negativedd__initdd_ => k_is)
    (case k_Negativedd__initdd_ => k_is)
    (case a_l_negative => k_is)
    (case l_l_negative => k_is)
    (case c_l_negative => k_is)
    (case k_l_negative => k_is)
    (case a_l_tone => k_is)
    (case l_l_tone => k_is)
    (case c_l_tone => k_is)
    (case k_l_tone => k_is)
    (case a_l_print => k_is)
    (case l_l_print => k_is)
    (case c_l_print => k_is)
    (case k_l_print => k_is)
    (case a_l_mirror => k_is)
    (case l_l_mirror => k_is)
    (case c_l_mirror => k_is)
    (case k_l_mirror => k_is)
    (case a_l_ticks => k_is)
    (case l_l_ticks => k_is)
    (case c_l_ticks => k_is)
    (case k_l_ticks => k_is)
    (case a_l_weight => k_is)
    (case l_l_weight => k_is)
    (case c_l_weight => k_is)
    (case k_l_weight => k_is)
    (case a_l_rows => k_is)
    (case l_l_rows => k_is)
    (case c_l_rows => k_is)
    (case k_l_rows => k_is)
    (case a_l_pick => k_is)
    (case l_l_pick => k_is)
    (case c_l_pick => k_is)
    (case k_l_pick => k_is)
    (case a_l_sides => k_is)
    (case l_l_sides => k_is)
    (case c_l_sides => k_is)
    (case k_l_sides => k_is)
    (case a_l_scheme => k_is)
    (case l_l_scheme => k_is)
    (case c_l_scheme => k_is)
    (case k_l_scheme => k_is)
    (case a_l_seen => k_is)
    (case l_l_seen => k_is)
    (case c_l_seen => k_is)
    (case k_l_seen => k_is)
    (case a_l_steps => k_is)
    (case l_l_steps => k_is)
    (case c_l_steps => k_is)
    (case k_l_steps => k_is)
    (case a_check_number => k_is)
    (case l_check_number => k_is)
    (case c_check_number => k_is)
    (case k_check_number => k_is)
    (case a_check_figures => k_is)
    (case l_check_figures => k_is)
    (case c_check_figures => k_is)
    (case k_check_figures => k_is)
    (case a_check_seen => k_is)
    (case l_check_seen => k_is)
    (case c_check_seen => k_is)
    (case k_check_seen => k_is)
    (case a_ascends => k_is)
    (case l_ascends => k_is)
    (case c_ascends => k_is)
    (case k_ascends => k_is)
    (case a_are_steps => k_is)
    (case l_are_steps => k_is)
    (case c_are_steps => k_is)
    (case k_are_steps => k_is)
    (case a_check_steps => k_is)
    (case l_check_steps => k_is)
    (case c_check_steps => k_is)
    (case k_check_steps => k_is)
    (case a_Negative_densities => k_is)
    (case pg_Negative_densities => k_is)
    (case pt_Negative_densities => k_is)
    (case pr_Negative_densities => k_is)
    (case l_Negative_densities => k_is)
    (case c_Negative_densities => k_is)
    (case k_Negative_densities => k_is)
    (case a_tone_of => k_is)
    (case l_tone_of => k_is)
    (case c_tone_of => k_is)
    (case k_tone_of => k_is)
    (case a_shows => k_is)
    (case l_shows => k_is)
    (case c_shows => k_is)
    (case k_shows => k_is)
    (case a_ways_under_mask => k_is)
    (case l_ways_under_mask => k_is)
    (case c_ways_under_mask => k_is)
    (case k_ways_under_mask => k_is)
    (case a_mask_ways => k_is)
    (case l_mask_ways => k_is)
    (case c_mask_ways => k_is)
    (case k_mask_ways => k_is)
    (case a_product => k_is)
    (case l_product => k_is)
    (case c_product => k_is)
    (case k_product => k_is)
    (case a_mask_count => k_is)
    (case l_mask_count => k_is)
    (case c_mask_count => k_is)
    (case k_mask_count => k_is)
    (case a_masks_told => k_is)
    (case l_masks_told => k_is)
    (case c_masks_told => k_is)
    (case k_masks_told => k_is)
    (case a_Negative_width => k_is)
    (case pg_Negative_width => k_is)
    (case pt_Negative_width => k_is)
    (case pr_Negative_width => k_is)
    (case l_Negative_width => k_is)
    (case c_Negative_width => k_is)
    (case k_Negative_width => k_is)
    (case a_is_mask => k_is)
    (case l_is_mask => k_is)
    (case c_is_mask => k_is)
    (case k_is_mask => k_is)
    (case a_is_deed => k_is)
    (case l_is_deed => k_is)
    (case c_is_deed => k_is)
    (case k_is_deed => k_is)
    (case a_check_recipe => k_is)
    (case l_check_recipe => k_is)
    (case c_check_recipe => k_is)
    (case k_check_recipe => k_is)
    (case a_light_by => k_is)
    (case l_light_by => k_is)
    (case c_light_by => k_is)
    (case k_light_by => k_is)
    (case a_mirrored => k_is)
    (case l_mirrored => k_is)
    (case c_mirrored => k_is)
    (case k_mirrored => k_is)
    (case a_ticks_of => k_is)
    (case l_ticks_of => k_is)
    (case c_ticks_of => k_is)
    (case k_ticks_of => k_is)
    (case a_open_pair => k_is)
    (case l_open_pair => k_is)
    (case c_open_pair => k_is)
    (case k_open_pair => k_is)
    (case a_light_of => k_is)
    (case l_light_of => k_is)
    (case c_light_of => k_is)
    (case k_light_of => k_is)
    (case a_lights => k_is)
    (case l_lights => k_is)
    (case c_lights => k_is)
    (case k_lights => k_is)
    (case a_printed => k_is)
    (case l_printed => k_is)
    (case c_printed => k_is)
    (case k_printed => k_is)
    (case a_law => k_is)
    (case l_law => k_is)
    (case c_law => k_is)
    (case k_law => k_is)

