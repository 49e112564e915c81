import PyProof.Rows.All
import Wide.All
import OpenK.AllK
import Wide.FinOn
import HandS.ForMost
import HandS.Flow
import HandS.TupAny
import HandS.Wide
import HandS.IsInst
import HandS.SortInts
import HandS.Conv
import HandS.Style
import HandS.RaiseMore
import HandS.Property
import KE.GoesEnum
import HandS.Iter
import HandS.SetFor
import HandS.Strs
import PyProof.ListStr
import PySem.Challenge.RW_maskedprints_k14_whole_lamps_that_fade
set_option Elab.async false
set_option linter.all false
set_option maxRecDepth 100000
set_option autoImplicit false
/-! The plain reading: values as data, mutable lists and objects as numbered places. -/
namespace Fw
open PySem L2

inductive D where
  | non | bl (b : Bool) | int (i : Int) | str (s : List Nat) | tup (ds : List D) | lst (ds : List D)
  | flst (is : List Int) | obj (c : Nat) (ns : List Str) (ds : List D) | loc (n : Nat)
  deriving Inhabited

mutual
def D.deq : (x y : D) → Decidable (x = y)
  | .non, .non => Decidable.isTrue rfl
  | .bl a, .bl b => if h : a = b then Decidable.isTrue (by rw [h]) else Decidable.isFalse fun e => h (D.bl.inj e)
  | .int a, .int b => if h : a = b then Decidable.isTrue (by rw [h]) else Decidable.isFalse fun e => h (D.int.inj e)
  | .str a, .str b => if h : a = b then Decidable.isTrue (by rw [h]) else Decidable.isFalse fun e => h (D.str.inj e)
  | .tup a, .tup b => match D.deqs a b with
    | Decidable.isTrue h => Decidable.isTrue (by rw [h])
    | Decidable.isFalse h => Decidable.isFalse fun e => h (D.tup.inj e)
  | .lst a, .lst b => match D.deqs a b with
    | Decidable.isTrue h => Decidable.isTrue (by rw [h])
    | Decidable.isFalse h => Decidable.isFalse fun e => h (D.lst.inj e)
  | .flst a, .flst b => if h : a = b then Decidable.isTrue (by rw [h]) else Decidable.isFalse fun e => h (D.flst.inj e)
  | .obj c ns a, .obj c' ns' b => if h : c = c' then if h2 : ns = ns' then match D.deqs a b with
      | Decidable.isTrue h3 => Decidable.isTrue (by rw [h, h2, h3])
      | Decidable.isFalse h3 => Decidable.isFalse fun e => h3 (D.obj.inj e).2.2
    else Decidable.isFalse fun e => h2 (D.obj.inj e).2.1
    else Decidable.isFalse fun e => h (D.obj.inj e).1
  | .loc a, .loc b => if h : a = b then Decidable.isTrue (by rw [h]) else Decidable.isFalse fun e => h (D.loc.inj e)
  | .non, .bl _ => Decidable.isFalse nofun | .non, .int _ => Decidable.isFalse nofun | .non, .str _ => Decidable.isFalse nofun | .non, .tup _ => Decidable.isFalse nofun
  | .non, .lst _ => Decidable.isFalse nofun | .non, .flst _ => Decidable.isFalse nofun | .non, .obj _ _ _ => Decidable.isFalse nofun | .non, .loc _ => Decidable.isFalse nofun
  | .bl _, .non => Decidable.isFalse nofun | .bl _, .int _ => Decidable.isFalse nofun | .bl _, .str _ => Decidable.isFalse nofun | .bl _, .tup _ => Decidable.isFalse nofun
  | .bl _, .lst _ => Decidable.isFalse nofun | .bl _, .flst _ => Decidable.isFalse nofun | .bl _, .obj _ _ _ => Decidable.isFalse nofun | .bl _, .loc _ => Decidable.isFalse nofun
  | .int _, .non => Decidable.isFalse nofun | .int _, .bl _ => Decidable.isFalse nofun | .int _, .str _ => Decidable.isFalse nofun | .int _, .tup _ => Decidable.isFalse nofun
  | .int _, .lst _ => Decidable.isFalse nofun | .int _, .flst _ => Decidable.isFalse nofun | .int _, .obj _ _ _ => Decidable.isFalse nofun | .int _, .loc _ => Decidable.isFalse nofun
  | .str _, .non => Decidable.isFalse nofun | .str _, .bl _ => Decidable.isFalse nofun | .str _, .int _ => Decidable.isFalse nofun | .str _, .tup _ => Decidable.isFalse nofun
  | .str _, .lst _ => Decidable.isFalse nofun | .str _, .flst _ => Decidable.isFalse nofun | .str _, .obj _ _ _ => Decidable.isFalse nofun | .str _, .loc _ => Decidable.isFalse nofun
  | .tup _, .non => Decidable.isFalse nofun | .tup _, .bl _ => Decidable.isFalse nofun | .tup _, .int _ => Decidable.isFalse nofun | .tup _, .str _ => Decidable.isFalse nofun
  | .tup _, .lst _ => Decidable.isFalse nofun | .tup _, .flst _ => Decidable.isFalse nofun | .tup _, .obj _ _ _ => Decidable.isFalse nofun | .tup _, .loc _ => Decidable.isFalse nofun
  | .lst _, .non => Decidable.isFalse nofun | .lst _, .bl _ => Decidable.isFalse nofun | .lst _, .int _ => Decidable.isFalse nofun | .lst _, .str _ => Decidable.isFalse nofun
  | .lst _, .tup _ => Decidable.isFalse nofun | .lst _, .flst _ => Decidable.isFalse nofun | .lst _, .obj _ _ _ => Decidable.isFalse nofun | .lst _, .loc _ => Decidable.isFalse nofun
  | .flst _, .non => Decidable.isFalse nofun | .flst _, .bl _ => Decidable.isFalse nofun | .flst _, .int _ => Decidable.isFalse nofun | .flst _, .str _ => Decidable.isFalse nofun
  | .flst _, .tup _ => Decidable.isFalse nofun | .flst _, .lst _ => Decidable.isFalse nofun | .flst _, .obj _ _ _ => Decidable.isFalse nofun | .flst _, .loc _ => Decidable.isFalse nofun
  | .obj _ _ _, .non => Decidable.isFalse nofun | .obj _ _ _, .bl _ => Decidable.isFalse nofun | .obj _ _ _, .int _ => Decidable.isFalse nofun | .obj _ _ _, .str _ => Decidable.isFalse nofun
  | .obj _ _ _, .tup _ => Decidable.isFalse nofun | .obj _ _ _, .lst _ => Decidable.isFalse nofun | .obj _ _ _, .flst _ => Decidable.isFalse nofun | .obj _ _ _, .loc _ => Decidable.isFalse nofun
  | .loc _, .non => Decidable.isFalse nofun | .loc _, .bl _ => Decidable.isFalse nofun | .loc _, .int _ => Decidable.isFalse nofun | .loc _, .str _ => Decidable.isFalse nofun
  | .loc _, .tup _ => Decidable.isFalse nofun | .loc _, .lst _ => Decidable.isFalse nofun | .loc _, .flst _ => Decidable.isFalse nofun | .loc _, .obj _ _ _ => Decidable.isFalse nofun
def D.deqs : (xs ys : List D) → Decidable (xs = ys)
  | [], [] => Decidable.isTrue rfl
  | [], _ :: _ => Decidable.isFalse nofun
  | _ :: _, [] => Decidable.isFalse nofun
  | x :: xs, y :: ys => match D.deq x y with
    | Decidable.isTrue h => match D.deqs xs ys with
      | Decidable.isTrue h2 => Decidable.isTrue (by rw [h, h2])
      | Decidable.isFalse h2 => Decidable.isFalse fun e => h2 (List.cons.inj e).2
    | Decidable.isFalse h => Decidable.isFalse fun e => h (List.cons.inj e).1
end
instance : DecidableEq D := D.deq

inductive Cell where
  | lst (ds : List D)
  | ins (c : Nat) (ns : List Str) (ds : List D)
  deriving DecidableEq, Inhabited

abbrev Store := List Cell
abbrev Env := List (Option D)
inductive Res (α : Type) where
  | ok (a : α) (μ : Store)
  | stuck
def Res.bind {α β : Type} (r : Res α) (f : α → Store → Res β) : Res β := match r with
  | .ok a μ => f a μ
  | .stuck => .stuck
@[simp] theorem Res.bind_ok {α β : Type} {a : α} {μ : Store} {f : α → Store → Res β} : (Res.ok a μ).bind f = f a μ := rfl
@[simp] theorem Res.bind_stuck {α β : Type} {f : α → Store → Res β} : (Res.stuck : Res α).bind f = .stuck := rfl

/-- the places of the mutable things, the banned places, the heap -/
structure Wd where
  ι : List Addr
  B : List Addr
  H : Hp

section
variable (K : PySem.W.Frag) (cls : Nat → Option Addr) (w : Wd)
def TupAt (a : Addr) (vs : List V) : Prop := (w.H a = some (.tup vs) ∧ a ∉ w.ι ∧ a ∉ w.B) ∨ SqT K (fun _ => none) a vs
def FlsAt (a : Addr) (vs : List V) : Prop := ((∃ o, w.H a = some (.frz o (.lst vs))) ∧ a ∉ w.ι ∧ a ∉ w.B) ∨ SqL K (fun _ => none) a vs
mutual
def RV : D → V → Prop
  | .non, v => v = .non
  | .bl b, v => v = .bl b
  | .int i, v => v = .int i
  | .str s, v => v = .str ⟨s.toArray⟩
  | .tup ds, v => ∃ a vs, v = .ref a ∧ TupAt K w a vs ∧ RVs ds vs
  | .lst ds, v => ∃ a vs, v = .ref a ∧ (w.H a = some (.lst vs) ∧ a ∉ w.ι ∧ a ∉ w.B) ∧ RVs ds vs
  | .flst is, v => ∃ a, v = .ref a ∧ FlsAt K w a (is.map .int)
  | .obj c ns ds, v => ∃ a C dx vs, v = .ref a ∧ cls c = some C ∧ (w.H a = some (.ins C dx (ns.zip vs)) ∧ a ∉ w.ι ∧ a ∉ w.B) ∧ ns.length = vs.length ∧ RVs ds vs
  | .loc n, v => ∃ a, v = .ref a ∧ w.ι[n]? = some a
def RVs : List D → List V → Prop
  | [], vs => vs = []
  | d :: ds, vs => ∃ v r, vs = v :: r ∧ RV d v ∧ RVs ds r
end
def CellOk (a : Addr) : Cell → Prop
  | .lst ds => ∃ vs, w.H a = some (.lst vs) ∧ RVs K cls w ds vs
  | .ins c ns ds => ∃ C dx vs, cls c = some C ∧ w.H a = some (.ins C dx (ns.zip vs)) ∧ ns.length = vs.length ∧ RVs K cls w ds vs
structure RelS (μ : Store) : Prop where
  len : w.ι.length = μ.length
  nd : w.ι.Nodup
  ban : ∀ b ∈ w.B, b ∉ w.ι ∧ ∃ o, w.H b = some o
  cell : ∀ (n : Nat) (c : Cell), μ[n]? = some c → ∃ a, w.ι[n]? = some a ∧ CellOk K cls w a c
def RelE (ρ : Env) (σ : L2.St) : Prop := σ.length = ρ.length ∧ ∀ (i : Nat) (d : D), ρ[i]? = some (some d) → ∃ v, σ[i]? = some (some v) ∧ RV K cls w d v
end

structure Step (w w' : Wd) : Prop where
  keep : ∀ a o, a ∉ w.ι → w.H a = some o → w'.H a = some o
  pre : ∃ l, w'.ι = w.ι ++ l
  fresh : ∀ a ∈ w'.ι, a ∉ w.ι → w.H a = none
  ban : w'.B = w.B

section
variable {K : PySem.W.Frag} {cls : Nat → Option Addr} {w w' w'' : Wd}
theorem Step.refl : Step w w := ⟨fun _ _ _ h => h, ⟨[], by simp⟩, fun a h n => absurd h n, rfl⟩
theorem Step.notin (s : Step w w') {a : Addr} {o : HO} (h : w.H a = some o) (n : a ∉ w.ι) : a ∉ w'.ι := fun z => by
  have := s.fresh a z n
  rw [h] at this
  cases this
theorem Step.trans (s : Step w w') (t : Step w' w'') : Step w w'' where
  keep := fun a o n h => t.keep a o (s.notin h n) (s.keep a o n h)
  pre := by
    obtain ⟨l, e⟩ := s.pre
    obtain ⟨l', e'⟩ := t.pre
    exact ⟨l ++ l', by rw [e', e, List.append_assoc]⟩
  fresh := fun a h n => by
    by_cases q : a ∈ w'.ι
    · exact s.fresh a q n
    · have z := t.fresh a h q
      cases e : w.H a with
      | none => rfl
      | some o =>
        have := s.keep a o n e
        rw [z] at this
        cases this
  ban := t.ban.trans s.ban
theorem Step.loc (s : Step w w') {n : Nat} {a : Addr} (h : w.ι[n]? = some a) : w'.ι[n]? = some a := by
  obtain ⟨l, e⟩ := s.pre
  rw [e]
  exact List.getElem?_append_left (List.getElem?_eq_some_iff.mp h).1 ▸ h

/-- what RV leans on is kept -/
structure Kp (w w' : Wd) : Prop where
  at_ : ∀ a o, a ∉ w.ι → a ∉ w.B → w.H a = some o → w'.H a = some o ∧ a ∉ w'.ι ∧ a ∉ w'.B
  loc : ∀ (n : Nat) (a : Addr), w.ι[n]? = some a → w'.ι[n]? = some a
theorem Step.kp (s : Step w w') : Kp w w' := ⟨fun a o n b h => ⟨s.keep a o n h, s.notin h n, by rw [s.ban]; exact b⟩, fun n a h => s.loc h⟩
theorem TupAt.mono (s : Kp w w') {a : Addr} {vs : List V} (h : TupAt K w a vs) : TupAt K w' a vs := by
  rcases h with ⟨h, n, b⟩ | h
  · exact .inl (s.at_ a _ n b h)
  · exact .inr h
theorem FlsAt.mono (s : Kp w w') {a : Addr} {vs : List V} (h : FlsAt K w a vs) : FlsAt K w' a vs := by
  rcases h with ⟨⟨o, h⟩, n, b⟩ | h
  · obtain ⟨h1, h2⟩ := s.at_ a _ n b h
    exact .inl ⟨⟨o, h1⟩, h2⟩
  · exact .inr h
mutual
theorem RV.mono (s : Kp w w') : ∀ {d : D} {v : V}, RV K cls w d v → RV K cls w' d v
  | .non, _, h => h
  | .bl _, _, h => h
  | .int _, _, h => h
  | .str _, _, h => h
  | .tup ds, _, ⟨a, vs, e, h, r⟩ => ⟨a, vs, e, h.mono s, RVs.mono s r⟩
  | .lst ds, _, ⟨a, vs, e, ⟨h, n, b⟩, r⟩ => ⟨a, vs, e, s.at_ a _ n b h, RVs.mono s r⟩
  | .flst _, _, ⟨a, e, h⟩ => ⟨a, e, h.mono s⟩
  | .obj _ _ ds, _, ⟨a, C, dx, vs, e, c, ⟨h, n, b⟩, l, r⟩ => ⟨a, C, dx, vs, e, c, s.at_ a _ n b h, l, RVs.mono s r⟩
  | .loc _, _, ⟨a, e, h⟩ => ⟨a, e, s.loc _ _ h⟩
theorem RVs.mono (s : Kp w w') : ∀ {ds : List D} {vs : List V}, RVs K cls w ds vs → RVs K cls w' ds vs
  | [], _, h => h
  | _ :: _, _, ⟨v, r, e, h, t⟩ => ⟨v, r, e, RV.mono s h, RVs.mono s t⟩
end
theorem RelE.mono (s : Kp w w') {ρ : Env} {σ : L2.St} (h : RelE K cls w ρ σ) : RelE K cls w' ρ σ := ⟨h.1, fun i d e => by
  obtain ⟨v, e1, r⟩ := h.2 i d e
  exact ⟨v, e1, r.mono s⟩⟩
theorem RVs.length : ∀ {ds : List D} {vs : List V}, RVs K cls w ds vs → vs.length = ds.length
  | [], _, h => by rw [show _ = [] from h]; rfl
  | _ :: _, _, ⟨v, r, e, _, t⟩ => by rw [e, List.length_cons, List.length_cons, RVs.length t]
theorem RVs.get : ∀ {ds : List D} {vs : List V} {i : Nat} {d : D}, RVs K cls w ds vs → ds[i]? = some d → ∃ v, vs[i]? = some v ∧ RV K cls w d v
  | [], _, _, _, _, e => by simp at e
  | d :: ds, _, 0, d', ⟨v, r, e, h, t⟩, e' => by
    simp at e'
    subst e' e
    exact ⟨v, rfl, h⟩
  | d :: ds, _, i + 1, d', ⟨v, r, e, h, t⟩, e' => by
    subst e
    obtain ⟨u, h1, h2⟩ := RVs.get (i := i) t (by simpa using e')
    exact ⟨u, by simpa using h1, h2⟩
theorem RVs.get' {ds : List D} {vs : List V} {i : Nat} {v : V} (h : RVs K cls w ds vs) (e : vs[i]? = some v) : ∃ d, ds[i]? = some d ∧ RV K cls w d v := by
  have hl := h.length
  have hi : i < ds.length := by rw [← hl]; exact (List.getElem?_eq_some_iff.mp e).1
  obtain ⟨u, h1, h2⟩ := h.get (i := i) (d := ds[i]) (List.getElem?_eq_getElem hi)
  rw [e] at h1
  cases h1
  exact ⟨ds[i], List.getElem?_eq_getElem hi, h2⟩
theorem RVs.append : ∀ {ds es : List D} {vs us : List V}, RVs K cls w ds vs → RVs K cls w es us → RVs K cls w (ds ++ es) (vs ++ us)
  | [], _, _, _, h, t => by rw [show _ = [] from h]; exact t
  | _ :: _, _, _, _, ⟨v, r, e, h, t⟩, t' => ⟨v, r ++ _, by rw [e]; rfl, h, RVs.append t t'⟩
theorem RVs.nil : RVs K cls w [] [] := rfl
theorem RVs.cons {d : D} {ds : List D} {v : V} {vs : List V} (h : RV K cls w d v) (t : RVs K cls w ds vs) : RVs K cls w (d :: ds) (v :: vs) := ⟨v, vs, rfl, h, t⟩
theorem RVs.set {e : D} {u : V} (h : RV K cls w e u) : ∀ {ds : List D} {vs : List V} (i : Nat), RVs K cls w ds vs → RVs K cls w (ds.set i e) (vs.set i u)
  | [], _, _, r => by rw [show _ = [] from r]; rfl
  | _ :: _, _, 0, ⟨v, r, q, _, t⟩ => by rw [q]; exact ⟨u, r, rfl, h, t⟩
  | _ :: _, _, i + 1, ⟨v, r, q, g, t⟩ => by rw [q]; exact ⟨v, _, rfl, g, RVs.set h i t⟩
theorem RVs.take : ∀ {ds : List D} {vs : List V} (n : Nat), RVs K cls w ds vs → RVs K cls w (ds.take n) (vs.take n)
  | _, _, 0, _ => by simp [RVs]
  | [], _, n + 1, r => by rw [show _ = [] from r]; rfl
  | _ :: _, _, n + 1, ⟨v, r, q, g, t⟩ => by rw [q]; exact ⟨v, _, rfl, g, RVs.take n t⟩
theorem RVs.drop : ∀ {ds : List D} {vs : List V} (n : Nat), RVs K cls w ds vs → RVs K cls w (ds.drop n) (vs.drop n)
  | _, _, 0, h => by simpa using h
  | [], _, n + 1, r => by rw [show _ = [] from r]; rfl
  | _ :: _, _, n + 1, ⟨v, r, q, g, t⟩ => by rw [q]; exact RVs.drop n t
theorem RVs.ints : ∀ {is : List Int}, RVs K cls w (is.map .int) (is.map .int)
  | [] => rfl
  | _ :: _ => ⟨_, _, rfl, rfl, RVs.ints⟩
theorem RVs.flatten : ∀ {dss : List (List D)} {vss : List (List V)}, Paired (RVs K cls w) dss vss → RVs K cls w dss.flatten vss.flatten
  | _, _, .nil => rfl
  | _, _, .cons h t => by
    rw [List.flatten_cons, List.flatten_cons]
    exact h.append (RVs.flatten t)
theorem RVs.rep {ds : List D} {vs : List V} (h : RVs K cls w ds vs) : ∀ n : Nat, RVs K cls w (List.replicate n ds).flatten (List.replicate n vs).flatten
  | 0 => rfl
  | n + 1 => by
    rw [List.replicate_succ, List.replicate_succ, List.flatten_cons, List.flatten_cons]
    exact h.append (RVs.rep h n)
theorem TupAt.sq {a : Addr} {vs : List V} (h : TupAt K w a vs) : SqT K w.H a vs := by
  rcases h with ⟨h, _⟩ | (h | h)
  · exact .inl (.inl h)
  · rcases h with h | ⟨o, h⟩ <;> cases h
  · exact .inr h
theorem FlsAt.sq {a : Addr} {vs : List V} (h : FlsAt K w a vs) : SqL K w.H a vs := by
  rcases h with ⟨⟨o, h⟩, _⟩ | (h | h)
  · exact .inl (.inr ⟨o, h⟩)
  · rcases h with h | ⟨o, h⟩ <;> cases h
  · exact .inr h

/-! ### new things -/
theorem RelS.tracked {μ : Store} (S : RelS K cls w μ) {a : Addr} (h : a ∈ w.ι) : ∃ o, w.H a = some o := by
  obtain ⟨n, hn, e⟩ := List.getElem_of_mem h
  have hm : n < μ.length := by rw [← S.len]; exact hn
  obtain ⟨a', e1, c⟩ := S.cell n μ[n] (List.getElem?_eq_getElem hm)
  have : a' = a := by
    rw [List.getElem?_eq_getElem hn, e] at e1
    exact (Option.some.inj e1).symm
  subst this
  generalize hc : μ[n] = cc at c
  cases cc with
  | lst ds => obtain ⟨vs, h, _⟩ := c; exact ⟨_, h⟩
  | ins cn ns ds => obtain ⟨C, dx, vs, _, h, _⟩ := c; exact ⟨_, h⟩
theorem RelS.free {μ : Store} (S : RelS K cls w μ) {p : Addr} (h : w.H p = none) : p ∉ w.ι ∧ p ∉ w.B := by
  refine ⟨fun z => ?_, fun z => ?_⟩
  · obtain ⟨o, e⟩ := S.tracked z
    rw [h] at e
    cases e
  · obtain ⟨_, o, e⟩ := S.ban p z
    rw [h] at e
    cases e
abbrev Wd.up (w : Wd) (p : Addr) (o : HO) : Wd := ⟨w.ι, w.B, upd w.H p o⟩
theorem step_new {p : Addr} {o : HO} (h : w.H p = none) : Step w (w.up p o) where
  keep := fun a u _ e => by
    show upd w.H p o a = some u
    rw [upd_ne (ne_of_none e h)]
    exact e
  pre := ⟨[], by simp⟩
  fresh := fun a h n => absurd h n
  ban := rfl
theorem CellOk.mono {a : Addr} {c : Cell} (s : Kp w w') (h : ∀ o, w.H a = some o → w'.H a = some o) : CellOk K cls w a c → CellOk K cls w' a c := by
  cases c with
  | lst ds => exact fun ⟨vs, e, r⟩ => ⟨vs, h _ e, r.mono s⟩
  | ins cn ns ds => exact fun ⟨C, dx, vs, c, e, l, r⟩ => ⟨C, dx, vs, c, h _ e, l, r.mono s⟩
/-- a new thing is laid -/
theorem RelS.new {μ : Store} (S : RelS K cls w μ) {p : Addr} {o : HO} (h : w.H p = none) : RelS K cls (w.up p o) μ where
  len := S.len
  nd := S.nd
  ban := fun b hb => by
    obtain ⟨h1, u, h2⟩ := S.ban b hb
    exact ⟨h1, u, by show upd w.H p o b = some u; rw [upd_ne (ne_of_none h2 h)]; exact h2⟩
  cell := fun n c e => by
    obtain ⟨a, h1, h2⟩ := S.cell n c e
    refine ⟨a, h1, h2.mono (step_new h).kp fun u e => ?_⟩
    show upd w.H p o a = some u
    rw [upd_ne (ne_of_none e h)]
    exact e
theorem new_tup {μ : Store} (S : RelS K cls w μ) {p : Addr} {ds : List D} {vs : List V} (h : w.H p = none) (r : RVs K cls w ds vs) : RV K cls (w.up p (.tup vs)) (.tup ds) (.ref p) :=
  ⟨p, vs, rfl, .inl ⟨upd_same, S.free h⟩, r.mono (step_new h).kp⟩
theorem new_lst {μ : Store} (S : RelS K cls w μ) {p : Addr} {ds : List D} {vs : List V} (h : w.H p = none) (r : RVs K cls w ds vs) : RV K cls (w.up p (.lst vs)) (.lst ds) (.ref p) :=
  ⟨p, vs, rfl, ⟨upd_same, S.free h⟩, r.mono (step_new h).kp⟩

/-- a frozen list that nothing else is becomes a place: p is fresh over w0 -/
abbrev Wd.add (w : Wd) (p : Addr) : Wd := ⟨w.ι ++ [p], w.B, w.H⟩

/-! ### posts -/
def PostR {α : Type} (K : PySem.W.Frag) (cls : Nat → Option Addr) (w : Wd) (R : Wd → α → Prop) : Res α → Prop
  | .ok d μ' => ∀ w', Step w w' → RelS K cls w' μ' → R w' d
  | .stuck => False
theorem PostR.step {α : Type} {R : Wd → α → Prop} {r : Res α} (s : Step w w') (h : PostR K cls w R r) : PostR K cls w' R r := by
  cases r with
  | ok d μ => exact fun w2 s2 => h w2 (s.trans s2)
  | stuck => exact h
end
end Fw

set_option Elab.async false
set_option linter.all false
set_option maxRecDepth 100000
set_option autoImplicit false
/-! The judgements over the plain reading, and the rules of expressions. -/
namespace Fw
open PySem L2

abbrev FE := Env → Store → Res D
abbrev FA := Env → Store → Res (List D)
abbrev FT := Env → Store → Res Bool
def LIM : Nat := 1000000
theorem lim_le {n : Nat} (h : n ≤ LIM) : n ≤ sizeLine := Nat.le_trans h (by rw [sizeLine_eq]; decide)
theorem lim_lt {n : Nat} (h : n < LIM) : n < sizeLine := Nat.lt_of_lt_of_le h (by rw [sizeLine_eq]; decide)

section
variable (X : Cx) (cls : Nat → Option Addr)
def SE (e : Expr) (f : FE) : Prop := ∃ t, PE X e t ∧ ∀ (σ : L2.St) (Q : VK) (w : Wd) (ρ : Env) (μ : Store), RelS X.K cls w μ → RelE X.K cls w ρ σ →
  PostR X.K cls w (fun w' d => ∀ v, RV X.K cls w' d v → Q v w'.H) (f ρ μ) → t σ w.H Q
def SA (es : List Expr) (f : FA) : Prop := ∃ t, PA X es t ∧ ∀ (σ : L2.St) (Q : List V → Hp → Prop) (w : Wd) (ρ : Env) (μ : Store), RelS X.K cls w μ → RelE X.K cls w ρ σ →
  PostR X.K cls w (fun w' d => ∀ v, RVs X.K cls w' d v → Q v w'.H) (f ρ μ) → t σ w.H Q
def ST (e : Expr) (f : FT) : Prop := ∃ t, PT X e t ∧ ∀ (σ : L2.St) (Q : Bool → Hp → Prop) (w : Wd) (ρ : Env) (μ : Store), RelS X.K cls w μ → RelE X.K cls w ρ σ →
  PostR X.K cls w (fun w' b => Q b w'.H) (f ρ μ) → t σ w.H Q
def SW (e : Expr) (f : FT) : Prop := ∃ t, PW X e t ∧ ∀ (σ : L2.St) (Q : Bool → Hp → Prop) (w : Wd) (ρ : Env) (μ : Store), RelS X.K cls w μ → RelE X.K cls w ρ σ →
  PostR X.K cls w (fun w' b => Q b w'.H) (f ρ μ) → t σ w.H Q
/-- an operator by values; a call; a method -/
def OV (op : Value → Value → Sem Value) (f : D → D → Store → Res D) : Prop := ∃ r, OpR X op r ∧ ∀ (w : Wd) (μ : Store) (d e : D) (x y : V) (Q : VK), RelS X.K cls w μ → RV X.K cls w d x → RV X.K cls w e y →
  PostR X.K cls w (fun w' d => ∀ v, RV X.K cls w' d v → Q v w'.H) (f d e μ) → r x y w.H Q
def CV (c : Value) (f : List D → Store → Res D) : Prop := ∃ r, CallR X c r ∧ ∀ (w : Wd) (μ : Store) (ds : List D) (xs : List V) (Q : VK), RelS X.K cls w μ → RVs X.K cls w ds xs →
  PostR X.K cls w (fun w' d => ∀ v, RV X.K cls w' d v → Q v w'.H) (f ds μ) → r xs w.H Q
def MV (id : String) (T : String) (f : D → List D → Store → Res D) : Prop := ∃ r, MtR X id r ∧ (∀ (w : Wd) (μ : Store) (d : D) (ds : List D) (x : V) (xs : List V) (Q : VK), RelS X.K cls w μ → RV X.K cls w d x → RVs X.K cls w ds xs →
  PostR X.K cls w (fun w' d => ∀ v, RV X.K cls w' d v → Q v w'.H) (f d ds μ) → r x xs w.H Q)
end

/-! ### the combinators -/
def eVar (i : Nat) : FE := fun ρ μ => match ρ[i]? with
  | some (some d) => .ok d μ
  | _ => .stuck
def eC (d : D) : FE := fun _ μ => .ok d μ
def eBin (g : D → D → Store → Res D) (fa fb : FE) : FE := fun ρ μ => (fa ρ μ).bind fun x μ1 => (fb ρ μ1).bind fun y μ2 => g x y μ2
def aNil : FA := fun _ μ => .ok [] μ
def aCons (fa : FE) (fr : FA) : FA := fun ρ μ => (fa ρ μ).bind fun x μ1 => (fr ρ μ1).bind fun xs μ2 => .ok (x :: xs) μ2
def eTup (fs : FA) : FE := fun ρ μ => (fs ρ μ).bind fun ds μ1 => if ds.length ≤ LIM then .ok (.tup ds) μ1 else .stuck
def eLst (fs : FA) : FE := fun ρ μ => (fs ρ μ).bind fun ds μ1 => if ds.length ≤ LIM then .ok (.lst ds) μ1 else .stuck
def eCall (F : List D → Store → Res D) (fs : FA) : FE := fun ρ μ => (fs ρ μ).bind fun ds μ1 => F ds μ1
def tB (fa : FE) : FT := fun ρ μ => (fa ρ μ).bind fun x μ1 => match x with
  | .bl b => .ok b μ1
  | _ => .stuck
def tNot (fa : FT) : FT := fun ρ μ => (fa ρ μ).bind fun b μ1 => .ok (!b) μ1
def tAnd (fa fb : FT) : FT := fun ρ μ => (fa ρ μ).bind fun b μ1 => if b then fb ρ μ1 else .ok false μ1
def tOr (fa fb : FT) : FT := fun ρ μ => (fa ρ μ).bind fun b μ1 => if b then .ok true μ1 else fb ρ μ1
def eIf (c : FT) (fa fb : FE) : FE := fun ρ μ => (c ρ μ).bind fun b μ1 => if b then fa ρ μ1 else fb ρ μ1
def eNot (fa : FE) : FE := fun ρ μ => (fa ρ μ).bind fun x μ1 => match x with
  | .bl b => .ok (.bl (!b)) μ1
  | _ => .stuck
def eAnd (fa fb : FE) : FE := fun ρ μ => (fa ρ μ).bind fun x μ1 => match x with
  | .bl b => if b then fb ρ μ1 else .ok (.bl false) μ1
  | _ => .stuck
def eOr (fa fb : FE) : FE := fun ρ μ => (fa ρ μ).bind fun x μ1 => match x with
  | .bl b => if b then .ok (.bl true) μ1 else fb ρ μ1
  | _ => .stuck
/-- a op b op' c -/
def eChain (g g' : D → D → Store → Res D) (fa fb fc : FE) : FE := fun ρ μ => (fa ρ μ).bind fun x μ1 => (fb ρ μ1).bind fun y μ2 => (g x y μ2).bind fun z μ3 => match z with
  | .bl b => if b then (fc ρ μ3).bind fun u μ4 => (g' y u μ4).bind fun z' μ5 => match z' with
      | .bl b' => .ok (.bl b') μ5
      | _ => .stuck
    else .ok (.bl false) μ3
  | _ => .stuck

/-- a bound reading: what comes first, then the rest -/
theorem PostR.bind {α β : Type} {K : PySem.W.Frag} {cls : Nat → Option Addr} {w : Wd} {R : Wd → β → Prop} {r : Res α} {f : α → Store → Res β}
    (h : PostR K cls w R (r.bind f)) : PostR K cls w (fun w' a => ∃ μ', RelS K cls w' μ' ∧ PostR K cls w' R (f a μ')) r := by
  cases r with
  | ok a μ => exact fun w' s S => ⟨μ, S, PostR.step s h⟩
  | stuck => exact h
theorem PostR.imp {α : Type} {K : PySem.W.Frag} {cls : Nat → Option Addr} {w : Wd} {R R' : Wd → α → Prop} {r : Res α} (h : PostR K cls w R r) (q : ∀ w' a, Step w w' → R w' a → R' w' a) : PostR K cls w R' r := by
  cases r with
  | ok a μ => exact fun w' s S => q w' a s (h w' s S)
  | stuck => exact h
theorem PostR.now {α : Type} {K : PySem.W.Frag} {cls : Nat → Option Addr} {w : Wd} {R : Wd → α → Prop} {a : α} {μ : Store} (S : RelS K cls w μ) (h : PostR K cls w R (.ok a μ)) : R w a := h w Step.refl S

section
variable {X : Cx} {cls : Nat → Option Addr} {a b c : Expr} {fa fb fc : FE} {ta tb tc : FT} {pos : Pos}
theorem se_var (i : Nat) {x : Str} (hN : X.N[i]? = some x := by rfl) (hv : Vis X.env.scope x := by first | exact Or.inl rfl | exact Or.inr (Or.inl rfl) | exact Or.inr (Or.inr rfl)) (hd : (x == ("__debug__" : Str)) = false := by decide +kernel)
    (hcd : (x == ("__classdict__" : Str)) = false := by decide +kernel) : SE X cls (.Name x pos) (eVar i) := by
  refine ⟨_, pe_var hN hv hd hcd, fun σ Q w ρ μ S E h => ?_⟩
  unfold eVar at h
  split at h
  · rename_i d hd
    obtain ⟨v, e, r⟩ := E.2 i d hd
    exact ⟨v, e, h w Step.refl S v r⟩
  · exact h.elim
theorem se_int {i : Int} {j pos} : SE X cls (.Constant (.int i) j pos) (eC (.int i)) := ⟨_, pe_int, fun σ Q w ρ μ S E h => h w Step.refl S _ rfl⟩
theorem se_bl {i : Bool} {j pos} : SE X cls (.Constant (.bool i) j pos) (eC (.bl i)) := ⟨_, pe_bl, fun σ Q w ρ μ S E h => h w Step.refl S _ rfl⟩
theorem se_non {j pos} : SE X cls (.Constant .none j pos) (eC .non) := ⟨_, pe_non, fun σ Q w ρ μ S E h => h w Step.refl S _ rfl⟩
theorem se_str {x : Str} {j pos} : SE X cls (.Constant (.str x) j pos) (eC (.str x.cps.toList)) := ⟨_, pe_str, fun σ Q w ρ μ S E h => h w Step.refl S _ (by
  show V.str x = V.str ⟨x.cps.toList.toArray⟩
  rw [Array.toArray_toList])⟩
/-- a module's constant -/
theorem se_glob {x : Str} {v : V} {u : Value} {d : D} (hg : Gl X x) (hm : X.mg x = some u) (r : RelV v u) (rd : ∀ w, RV X.K cls w d v) (hd : (x == ("__debug__" : Str)) = false := by decide +kernel) : SE X cls (.Name x pos) (eC d) :=
  ⟨_, pe_glob hg hm r hd, fun σ Q w ρ μ S E h => h w Step.refl S _ (rd w)⟩
theorem se_bin {op : Operator} {g : D → D → Store → Res D} (ho : OV X cls (binaryOp op) g) (ha : SE X cls a fa) (hb : SE X cls b fb) : SE X cls (.BinOp a op b pos) (eBin g fa fb) := by
  obtain ⟨r, o, ho⟩ := ho
  obtain ⟨t1, p1, h1⟩ := ha
  obtain ⟨t2, p2, h2⟩ := hb
  refine ⟨_, pe_op o p1 p2, fun σ Q w ρ μ S E h => ?_⟩
  refine h1 σ _ w ρ μ S E ((PostR.bind h).imp fun w1 d s1 ⟨μ1, S1, q1⟩ v r1 => ?_)
  refine h2 σ _ w1 ρ μ1 S1 (E.mono s1.kp) ((PostR.bind q1).imp fun w2 e s2 ⟨μ2, S2, q2⟩ u r2 => ?_)
  exact ho w2 μ2 d e v u Q S2 (r1.mono s2.kp) r2 q2
theorem se_cmp {op : CmpOp} {g : D → D → Store → Res D} (ho : OV X cls (compareOp op) g) (ha : SE X cls a fa) (hb : SE X cls b fb) (hm : behindInMarks op b = false := by first | exact nomark _ | rfl) : SE X cls (.Compare a [op] [b] pos) (eBin g fa fb) := by
  obtain ⟨r, o, ho⟩ := ho
  obtain ⟨t1, p1, h1⟩ := ha
  obtain ⟨t2, p2, h2⟩ := hb
  refine ⟨_, pe_cmpR o p1 p2 hm, fun σ Q w ρ μ S E h => ?_⟩
  refine h1 σ _ w ρ μ S E ((PostR.bind h).imp fun w1 d s1 ⟨μ1, S1, q1⟩ v r1 => ?_)
  refine h2 σ _ w1 ρ μ1 S1 (E.mono s1.kp) ((PostR.bind q1).imp fun w2 e s2 ⟨μ2, S2, q2⟩ u r2 => ?_)
  exact ho w2 μ2 d e v u Q S2 (r1.mono s2.kp) r2 q2
/-- a comparison as a test -/
theorem st_cmp {op : CmpOp} {g : D → D → Store → Res D} (ho : OV X cls (compareOp op) g) (ha : SE X cls a fa) (hb : SE X cls b fb) (hm : behindInMarks op b = false := by first | exact nomark _ | rfl) : ST X cls (.Compare a [op] [b] pos) (tB (eBin g fa fb)) := by
  obtain ⟨r, o, ho⟩ := ho
  obtain ⟨t1, p1, h1⟩ := ha
  obtain ⟨t2, p2, h2⟩ := hb
  refine ⟨_, pt_cmpR o p1 p2 hm, fun σ Q w ρ μ S E h => ?_⟩
  have h := PostR.bind h
  refine h1 σ _ w ρ μ S E ((PostR.bind h).imp fun w1 d s1 ⟨μ1, S1, q1⟩ v r1 => ?_)
  refine h2 σ _ w1 ρ μ1 S1 (E.mono s1.kp) ((PostR.bind q1).imp fun w2 e s2 ⟨μ2, S2, q2⟩ u r2 => ?_)
  refine ho w2 μ2 d e v u _ S2 (r1.mono s2.kp) r2 (q2.imp fun w3 z s3 ⟨μ3, S3, q3⟩ x rx => ?_)
  cases z with
  | bl k => exact ⟨k, rx, q3 w3 Step.refl S3⟩
  | _ => exact q3.elim
theorem se_chain {op op' : CmpOp} {g g' : D → D → Store → Res D} (ho : OV X cls (compareOp op) g) (ho' : OV X cls (compareOp op') g') (ha : SE X cls a fa) (hb : SE X cls b fb) (hc : SE X cls c fc)
    (k : ∀ {r r' : R2} {t1 t2 t3 : TE}, OpR X (compareOp op) r → OpR X (compareOp op') r' → PE X a t1 → PE X b t2 → PE X c t3 → PE X (.Compare a [op, op'] [b, c] pos) (tChain r r' t1 t2 t3) := by exact fun o o' p1 p2 p3 => pe_chain o o' p1 p2 p3) :
    SE X cls (.Compare a [op, op'] [b, c] pos) (eChain g g' fa fb fc) := by
  obtain ⟨r, o, ho⟩ := ho
  obtain ⟨r', o', ho'⟩ := ho'
  obtain ⟨t1, p1, h1⟩ := ha
  obtain ⟨t2, p2, h2⟩ := hb
  obtain ⟨t3, p3, h3⟩ := hc
  refine ⟨_, k o o' p1 p2 p3, fun σ Q w ρ μ S E h => ?_⟩
  refine h1 σ _ w ρ μ S E ((PostR.bind h).imp fun w1 d s1 ⟨μ1, S1, q1⟩ v r1 => ?_)
  refine h2 σ _ w1 ρ μ1 S1 (E.mono s1.kp) ((PostR.bind q1).imp fun w2 e s2 ⟨μ2, S2, q2⟩ u r2 => ?_)
  refine ho w2 μ2 d e v u _ S2 (r1.mono s2.kp) r2 ((PostR.bind q2).imp fun w3 z s3 ⟨μ3, S3, q3⟩ x rx => ?_)
  cases z with
  | bl k =>
    refine ⟨k, rx, ?_⟩
    cases k with
    | true =>
      refine h3 σ _ w3 ρ μ3 S3 (E.mono ((s1.trans s2).trans s3).kp) ((PostR.bind q3).imp fun w4 z4 s4 ⟨μ4, S4, q4⟩ x4 rx4 => ?_)
      refine ho' w4 μ4 e z4 u x4 _ S4 (r2.mono (s3.trans s4).kp) rx4 ((PostR.bind q4).imp fun w5 z5 s5 ⟨μ5, S5, q5⟩ x5 rx5 => ?_)
      cases z5 with
      | bl k' =>
        first
        | exact ⟨k', rx5, q5 w5 Step.refl S5 _ rfl⟩
        | exact q5 w5 Step.refl S5 _ rx5
      | _ => exact q5.elim
    | false => exact q3 w3 Step.refl S3 _ rfl
  | _ => exact q3.elim
theorem st_val (ha : SE X cls a fa) (he : ∀ whole, isTrue a X.env whole = (do let v ← whole; standAt a.pos; holding [v] (truthy v)) := by intro _; rfl) : ST X cls a (tB fa) := by
  obtain ⟨t1, p1, h1⟩ := ha
  refine ⟨_, pt_val p1 he, fun σ Q w ρ μ S E h => ?_⟩
  refine h1 σ _ w ρ μ S E ((PostR.bind h).imp fun w1 d s1 ⟨μ1, S1, q1⟩ v r1 => ?_)
  cases d with
  | bl k => exact ⟨k, r1, q1 w1 Step.refl S1⟩
  | _ => exact q1.elim
theorem st_not (ha : ST X cls a ta) : ST X cls (.UnaryOp .Not a pos) (tNot ta) := by
  obtain ⟨t1, p1, h1⟩ := ha
  refine ⟨_, pt_not p1, fun σ Q w ρ μ S E h => ?_⟩
  exact h1 σ _ w ρ μ S E ((PostR.bind h).imp fun w1 d s1 ⟨μ1, S1, q1⟩ => q1 w1 Step.refl S1)
theorem sw_and1 (ha : ST X cls a ta) : SW X cls (.BoolOp .And [a] pos) ta := by
  obtain ⟨t1, p1, h1⟩ := ha
  exact ⟨_, pw_and1 p1, h1⟩
theorem sw_or1 (ha : ST X cls a ta) : SW X cls (.BoolOp .Or [a] pos) ta := by
  obtain ⟨t1, p1, h1⟩ := ha
  exact ⟨_, pw_or1 p1, h1⟩
theorem sw_and {rest : List Expr} (ha : ST X cls a ta) (hb : SW X cls (.BoolOp .And (b :: rest) pos) tb) : SW X cls (.BoolOp .And (a :: b :: rest) pos) (tAnd ta tb) := by
  obtain ⟨t1, p1, h1⟩ := ha
  obtain ⟨t2, p2, h2⟩ := hb
  refine ⟨_, pw_and p1 p2, fun σ Q w ρ μ S E h => ?_⟩
  refine h1 σ _ w ρ μ S E ((PostR.bind h).imp fun w1 d s1 ⟨μ1, S1, q1⟩ => ?_)
  cases d with
  | true => exact h2 σ _ w1 ρ μ1 S1 (E.mono s1.kp) q1
  | false => exact q1 w1 Step.refl S1
theorem sw_or {rest : List Expr} (ha : ST X cls a ta) (hb : SW X cls (.BoolOp .Or (b :: rest) pos) tb) : SW X cls (.BoolOp .Or (a :: b :: rest) pos) (tOr ta tb) := by
  obtain ⟨t1, p1, h1⟩ := ha
  obtain ⟨t2, p2, h2⟩ := hb
  refine ⟨_, pw_or p1 p2, fun σ Q w ρ μ S E h => ?_⟩
  refine h1 σ _ w ρ μ S E ((PostR.bind h).imp fun w1 d s1 ⟨μ1, S1, q1⟩ => ?_)
  cases d with
  | false => exact h2 σ _ w1 ρ μ1 S1 (E.mono s1.kp) q1
  | true => exact q1 w1 Step.refl S1
theorem SW.st (ha : SW X cls a ta) : ST X cls a ta := by
  obtain ⟨t1, p1, h1⟩ := ha
  exact ⟨_, p1.pt, h1⟩
theorem se_if (hc : ST X cls c tc) (ha : SE X cls a fa) (hb : SE X cls b fb) : SE X cls (.IfExp c a b pos) (eIf tc fa fb) := by
  obtain ⟨t0, p0, h0⟩ := hc
  obtain ⟨t1, p1, h1⟩ := ha
  obtain ⟨t2, p2, h2⟩ := hb
  refine ⟨_, pe_ifExp p0 p1 p2, fun σ Q w ρ μ S E h => ?_⟩
  refine h0 σ _ w ρ μ S E ((PostR.bind h).imp fun w1 d s1 ⟨μ1, S1, q1⟩ => ?_)
  cases d with
  | true => exact h1 σ _ w1 ρ μ1 S1 (E.mono s1.kp) q1
  | false => exact h2 σ _ w1 ρ μ1 S1 (E.mono s1.kp) q1
theorem se_not (ha : SE X cls a fa) : SE X cls (.UnaryOp .Not a pos) (eNot fa) := by
  obtain ⟨t1, p1, h1⟩ := ha
  refine ⟨_, pe_not p1, fun σ Q w ρ μ S E h => ?_⟩
  refine h1 σ _ w ρ μ S E ((PostR.bind h).imp fun w1 d s1 ⟨μ1, S1, q1⟩ v r1 => ?_)
  cases d with
  | bl k => exact ⟨k, r1, q1 w1 Step.refl S1 _ rfl⟩
  | _ => exact q1.elim
theorem se_one {op} (ha : SE X cls a fa) : SE X cls (.BoolOp op [a] pos) fa := by
  obtain ⟨t1, p1, h1⟩ := ha
  exact ⟨_, pe_one p1, h1⟩
theorem se_and {rest : List Expr} (ha : SE X cls a fa) (hb : SE X cls (.BoolOp .And (b :: rest) pos) fb) : SE X cls (.BoolOp .And (a :: b :: rest) pos) (eAnd fa fb) := by
  obtain ⟨t1, p1, h1⟩ := ha
  obtain ⟨t2, p2, h2⟩ := hb
  refine ⟨_, pe_and p1 p2, fun σ Q w ρ μ S E h => ?_⟩
  refine h1 σ _ w ρ μ S E ((PostR.bind h).imp fun w1 d s1 ⟨μ1, S1, q1⟩ v r1 => ?_)
  cases d with
  | bl k =>
    refine ⟨k, r1, ?_⟩
    cases k with
    | true => exact h2 σ _ w1 ρ μ1 S1 (E.mono s1.kp) q1
    | false => exact q1 w1 Step.refl S1 _ rfl
  | _ => exact q1.elim
theorem se_or {rest : List Expr} (ha : SE X cls a fa) (hb : SE X cls (.BoolOp .Or (b :: rest) pos) fb) : SE X cls (.BoolOp .Or (a :: b :: rest) pos) (eOr fa fb) := by
  obtain ⟨t1, p1, h1⟩ := ha
  obtain ⟨t2, p2, h2⟩ := hb
  refine ⟨_, pe_or p1 p2, fun σ Q w ρ μ S E h => ?_⟩
  refine h1 σ _ w ρ μ S E ((PostR.bind h).imp fun w1 d s1 ⟨μ1, S1, q1⟩ v r1 => ?_)
  cases d with
  | bl k =>
    refine ⟨k, r1, ?_⟩
    cases k with
    | false => exact h2 σ _ w1 ρ μ1 S1 (E.mono s1.kp) q1
    | true => exact q1 w1 Step.refl S1 _ rfl
  | _ => exact q1.elim
theorem sa_nil : SA X cls [] aNil := ⟨_, pa_nil, fun σ Q w ρ μ S E h => h w Step.refl S _ rfl⟩
theorem sa_cons {es : List Expr} {fr : FA} (ha : SE X cls a fa) (hr : SA X cls es fr) (hs : starEach (a :: es) X.env = (false, eval a X.env) :: starEach es X.env := by rfl) : SA X cls (a :: es) (aCons fa fr) := by
  obtain ⟨t1, p1, h1⟩ := ha
  obtain ⟨t2, p2, h2⟩ := hr
  refine ⟨_, pa_cons p1 p2 hs, fun σ Q w ρ μ S E h => ?_⟩
  refine h1 σ _ w ρ μ S E ((PostR.bind h).imp fun w1 d s1 ⟨μ1, S1, q1⟩ v r1 => ?_)
  refine h2 σ _ w1 ρ μ1 S1 (E.mono s1.kp) ((PostR.bind q1).imp fun w2 e s2 ⟨μ2, S2, q2⟩ u r2 => ?_)
  exact q2 w2 Step.refl S2 _ (.cons (r1.mono s2.kp) r2)
theorem se_tup {es : List Expr} {fr : FA} {x1} (ha : SA X cls es fr) : SE X cls (.Tuple es x1 pos) (eTup fr) := by
  obtain ⟨t1, p1, h1⟩ := ha
  refine ⟨_, pe_tup p1, fun σ Q w ρ μ S E h => ?_⟩
  refine h1 σ _ w ρ μ S E ((PostR.bind h).imp fun w1 d s1 ⟨μ1, S1, q1⟩ v r1 => ?_)
  by_cases hl : d.length ≤ LIM
  · rw [if_pos hl] at q1
    exact ⟨by rw [r1.length]; exact lim_le hl, fun p hp => q1 (w1.up p (.tup v)) (step_new hp) (S1.new hp) _ (new_tup S1 hp r1)⟩
  · rw [if_neg hl] at q1
    exact q1.elim
theorem se_lst {es : List Expr} {fr : FA} (ha : SA X cls es fr) : SE X cls (.List es pos) (eLst fr) := by
  obtain ⟨t1, p1, h1⟩ := ha
  refine ⟨_, pe_lst p1, fun σ Q w ρ μ S E h => ?_⟩
  refine h1 σ _ w ρ μ S E ((PostR.bind h).imp fun w1 d s1 ⟨μ1, S1, q1⟩ v r1 => ?_)
  by_cases hl : d.length ≤ LIM
  · rw [if_pos hl] at q1
    exact ⟨by rw [r1.length]; exact lim_le hl, fun p hp => q1 (w1.up p (.lst v)) (step_new hp) (S1.new hp) _ (new_lst S1 hp r1)⟩
  · rw [if_neg hl] at q1
    exact q1.elim
/-- a built-in by its name -/
theorem se_callB {x : Str} {p : Pos} {es : List Expr} {fr : FA} {id : String} {F : List D → Store → Res D} (hc : CV X cls (.builtin id) F) (hg : Gl X x) (hm : X.mg x = none) (hv : bootBuiltins x = some (.builtin id)) (ha : SA X cls (a :: es) fr)
    (hn : x ≠ "__name__" := by decide +kernel) (hdb : (x == ("__debug__" : Str)) = false := by decide +kernel)
    (he : starEach (a :: es) X.env = (false, eval a X.env) :: starEach es X.env := by rfl) (hpl : (backTo pos (starEach es X.env)).any (·.1) = false := by rfl) : SE X cls (.Call (.Name x p) (a :: es) [] pos) (eCall F fr) := by
  obtain ⟨r, c, hc⟩ := hc
  obtain ⟨t1, p1, h1⟩ := ha
  refine ⟨_, pe_callB c hg hm hv p1 hn hdb he hpl, fun σ Q w ρ μ S E h => ?_⟩
  refine h1 σ _ w ρ μ S E ((PostR.bind h).imp fun w1 d s1 ⟨μ1, S1, q1⟩ v r1 => ?_)
  exact hc w1 μ1 d v Q S1 r1 q1
theorem se_callTy {x : Str} {p : Pos} {es : List Expr} {fr : FA} {T : String} {F : List D → Store → Res D} (hc : CV X cls (.type T) F) (hg : Gl X x) (hm : X.mg x = none) (hv : bootBuiltins x = some (.type T)) (ha : SA X cls (a :: es) fr)
    (hn : x ≠ "__name__" := by decide +kernel) (hdb : (x == ("__debug__" : Str)) = false := by decide +kernel)
    (he : starEach (a :: es) X.env = (false, eval a X.env) :: starEach es X.env := by rfl) (hpl : (backTo pos (starEach es X.env)).any (·.1) = false := by rfl) : SE X cls (.Call (.Name x p) (a :: es) [] pos) (eCall F fr) := by
  obtain ⟨r, c, hc⟩ := hc
  obtain ⟨t1, p1, h1⟩ := ha
  refine ⟨_, pe_callTy c hg hm hv p1 hn hdb he hpl, fun σ Q w ρ μ S E h => ?_⟩
  refine h1 σ _ w ρ μ S E ((PostR.bind h).imp fun w1 d s1 ⟨μ1, S1, q1⟩ v r1 => ?_)
  exact hc w1 μ1 d v Q S1 r1 q1

/-! ### a def's promise by its reading, and its call -/
def spD (K : PySem.W.Frag) (cls : Nat → Option Addr) (F : List D → Store → Res D) (n : Nat) : Sp := fun vs H Q _ => ∃ (w : Wd) (ds : List D) (μ : Store), w.H = H ∧ ds.length = n ∧ RelS K cls w μ ∧ RVs K cls w ds vs ∧
  PostR K cls w (fun w' d => ∀ v, RV K cls w' d v → Q v w'.H) (F ds μ)
/-- a def as the top has left it, with what it reads as -/
structure Df (P : Program) (W : World) (K : PySem.W.Frag) (cls : Nat → Option Addr) (mg : Str → Option Value) (base : Heap) (k : Nat) (x : Str) (n : Nat) (F : List D → Store → Res D) : Prop where
  ex : ∃ (f : Addr) (fd : FuncData) (ps : List Str), FnOk P W K mg base CX0 k f fd ps (spD K cls F n) ∧ mg x = some (.ref f) ∧ PySem.W.keepIn K (.ref f) = true ∧ Binds K fd ps [] ∧ ps.length = n
def eCallD (n : Nat) (F : List D → Store → Res D) (fs : FA) : FE := fun ρ μ => (fs ρ μ).bind fun ds μ1 => if ds.length = n then F ds μ1 else .stuck
theorem se_call {k n : Nat} {x : Str} {p : Pos} {es : List Expr} {fr : FA} {F : List D → Store → Res D} (G : Df X.prog X.w X.K cls X.mg X.base k x n F) (hr : Room k X.A) (hg : Gl X x) (ha : SA X cls (a :: es) fr)
    (hdb : (x == ("__debug__" : Str)) = false := by decide +kernel) (he : starEach (a :: es) X.env = (false, eval a X.env) :: starEach es X.env := by rfl) (hpl : (backTo pos (starEach es X.env)).any (·.1) = false := by rfl) :
    SE X cls (.Call (.Name x p) (a :: es) [] pos) (eCallD n F fr) := by
  obtain ⟨f, fd, ps, hf, hm, hk, hb, hn⟩ := G.ex
  obtain ⟨t1, p1, h1⟩ := ha
  refine ⟨_, pe_call hf hr hg hm hk hb .nil pass0 p1 hdb he hpl, fun σ Q w ρ μ S E h => ?_⟩
  refine h1 σ _ w ρ μ S E ((PostR.bind h).imp fun w1 d s1 ⟨μ1, S1, q1⟩ v r1 => ?_)
  by_cases hl : d.length = n
  · rw [if_pos hl] at q1
    rw [List.append_nil]
    exact ⟨w1, d, μ1, rfl, hl, S1, r1, q1⟩
  · rw [if_neg hl] at q1
    exact q1.elim
end
end Fw

set_option Elab.async false
set_option linter.all false
set_option maxRecDepth 100000
set_option autoImplicit false
/-! The operators and the built-ins by values. -/
namespace Fw
open PySem L2 PyProof.Rows

section
variable {K : PySem.W.Frag} {cls : Nat → Option Addr} {w : Wd} {μ : Store}
def lstOf (μ : Store) : D → Option (List D)
  | .lst ds => some ds
  | .loc n => match μ[n]? with
    | some (.lst ds) => some ds
    | _ => none
  | _ => none
theorem lstOf_at (S : RelS K cls w μ) {d : D} {x : V} {ds : List D} (r : RV K cls w d x) (h : lstOf μ d = some ds) : ∃ a vs, x = .ref a ∧ w.H a = some (.lst vs) ∧ RVs K cls w ds vs := by
  cases d with
  | lst es =>
    cases h
    obtain ⟨a, vs, e, ⟨h1, _⟩, h2⟩ := r
    exact ⟨a, vs, e, h1, h2⟩
  | loc n =>
    obtain ⟨a, e, hn⟩ := r
    simp only [lstOf] at h
    split at h
    · rename_i es hc
      cases h
      obtain ⟨a', h1, vs, h2, h3⟩ := S.cell n _ hc
      rw [hn] at h1
      cases h1
      exact ⟨a, vs, e, h2, h3⟩
    · cases h
  | _ => cases h
/-- any sequence but a text -/
def seqOf (μ : Store) : D → Option (List D)
  | .lst ds => some ds
  | .tup ds => some ds
  | .flst is => some (is.map .int)
  | .loc n => match μ[n]? with
    | some (.lst ds) => some ds
    | _ => none
  | _ => none
theorem seqOf_at (S : RelS K cls w μ) {d : D} {x : V} {ds : List D} (r : RV K cls w d x) (h : seqOf μ d = some ds) : ∃ a vs, x = .ref a ∧ (SqL K w.H a vs ∨ SqT K w.H a vs) ∧ RVs K cls w ds vs := by
  cases d with
  | lst es =>
    obtain ⟨a, vs, e, h1, h2⟩ := lstOf_at S r h
    exact ⟨a, vs, e, .inl (.inl (.inl h1)), h2⟩
  | loc n =>
    obtain ⟨a, vs, e, h1, h2⟩ := lstOf_at S r h
    exact ⟨a, vs, e, .inl (.inl (.inl h1)), h2⟩
  | tup es =>
    cases h
    obtain ⟨a, vs, e, h1, h2⟩ := r
    exact ⟨a, vs, e, .inr h1.sq, h2⟩
  | flst is =>
    cases h
    obtain ⟨a, e, h1⟩ := r
    exact ⟨a, _, e, .inl h1.sq, RVs.ints⟩
  | _ => cases h
theorem strEq {s : List Nat} : (⟨s.toArray⟩ : Str).cps.toList = s := by simp
theorem strLen {s : List Nat} : (⟨s.toArray⟩ : Str).length = s.length := by show s.toArray.size = s.length; simp
theorem strApp {s t : List Nat} : (⟨s.toArray⟩ : Str) ++ (⟨t.toArray⟩ : Str) = (⟨(s ++ t).toArray⟩ : Str) := by
  show Str.mk (s.toArray ++ t.toArray) = _
  simp
end

/-! ### + - * // % ** -/
def oAdd : D → D → Store → Res D := fun d e μ => match d, e with
  | .int i, .int j => .ok (.int (i + j)) μ
  | .str a, .str b => if a.length + b.length ≤ LIM then .ok (.str (a ++ b)) μ else .stuck
  | .tup a, .tup b => if a.length + b.length ≤ LIM then .ok (.tup (a ++ b)) μ else .stuck
  | d, e => match lstOf μ d, lstOf μ e with
    | some a, some b => if a.length + b.length ≤ LIM then .ok (.lst (a ++ b)) μ else .stuck
    | _, _ => .stuck
def oSub : D → D → Store → Res D := fun d e μ => match d, e with
  | .int i, .int j => .ok (.int (i - j)) μ
  | _, _ => .stuck
def Sm (i : Int) : Bool := decide (-(2 ^ 64) < i) && decide (i < 2 ^ 64)
def oMul : D → D → Store → Res D := fun d e μ => match d, e with
  | .int i, .int j => if (Sm i || Sm j) = true then .ok (.int (i * j)) μ else .stuck
  | .str a, .int j => if j ≤ 1000 ∧ -1000 ≤ j ∧ a.length ≤ 1000 then .ok (.str (List.replicate j.toNat a).flatten) μ else .stuck
  | d, .int j => match lstOf μ d with
    | some a => if j ≤ 1000 ∧ -1000 ≤ j ∧ a.length ≤ 1000 then .ok (.lst (List.replicate j.toNat a).flatten) μ else .stuck
    | _ => .stuck
  | _, _ => .stuck
def oMod : D → D → Store → Res D := fun d e μ => match d, e with
  | .int i, .int j => if 0 < j then .ok (.int (i % j)) μ else .stuck
  | _, _ => .stuck
def oFdv : D → D → Store → Res D := fun d e μ => match d, e with
  | .int i, .int j => if 0 < j ∧ j.natAbs.log2 < 9000 then .ok (.int (i / j)) μ else .stuck
  | _, _ => .stuck
def oPow : D → D → Store → Res D := fun d e μ => match d, e with
  | .int i, .int j => if 0 ≤ j ∧ j ≤ 1000 ∧ Sm i = true then .ok (.int (i ^ j.toNat)) μ else .stuck
  | _, _ => .stuck

section
variable {X : Cx} {cls : Nat → Option Addr}
theorem sm_ok {i : Int} (h : Sm i = true) : -(2 ^ 64) < i ∧ i < 2 ^ 64 := by
  unfold Sm at h
  simpa using h
theorem ov_add : OV X cls (binaryOp .Add) oAdd := by
  refine ⟨_, op_add.or (op_add_str.or (op_catA.or op_cat)), fun w μ d e x y Q S r1 r2 h => ?_⟩
  have lsts : ∀ {a b : List D}, lstOf μ d = some a → lstOf μ e = some b → PostR X.K cls w (fun w' d => ∀ v, RV X.K cls w' d v → Q v w'.H) (if a.length + b.length ≤ LIM then Res.ok (.lst (a ++ b)) μ else .stuck) →
      L2.rCat x y w.H Q := fun {a b} ha hb h => by
    obtain ⟨l, vs, e1, h1, h2⟩ := lstOf_at S r1 ha
    obtain ⟨m, us, e2, h3, h4⟩ := lstOf_at S r2 hb
    split at h
    · rename_i hl
      refine ⟨l, m, vs, us, e1, e2, h1, h3, by rw [h2.length, h4.length]; exact lim_le hl, fun p hp => ?_⟩
      exact h (w.up p (.lst (vs ++ us))) (step_new hp) (S.new hp) _ (new_lst S hp (h2.append h4))
    · exact h.elim
  unfold oAdd at h
  split at h
  · exact .inl ⟨_, _, r1, r2, h w Step.refl S _ rfl⟩
  · rename_i a b
    split at h
    · rename_i hl
      refine .inr (.inl ⟨_, _, r1, r2, by rw [strLen, strLen]; exact lim_le hl, ?_⟩)
      rw [strApp]
      exact h w Step.refl S _ rfl
    · exact h.elim
  · rename_i a b
    split at h
    · rename_i hl
      obtain ⟨p, vs, e1, t1, q1⟩ := r1
      obtain ⟨q, us, e2, t2, q2⟩ := r2
      refine .inr (.inr (.inl ⟨p, q, vs, us, e1, e2, t1.sq, t2.sq, by rw [q1.length, q2.length]; exact lim_le hl, fun z => ?_, fun z z' => ?_, fun z z' n hn => ?_⟩))
      · subst z
        refine h w Step.refl S _ ⟨q, us, rfl, t2, ?_⟩
        have : a = [] := List.length_eq_zero_iff.mp (by rw [← q1.length]; rfl)
        rw [this]
        exact q2
      · subst z'
        refine h w Step.refl S _ ⟨p, vs, rfl, t1, ?_⟩
        have : b = [] := List.length_eq_zero_iff.mp (by rw [← q2.length]; rfl)
        rw [this, List.append_nil]
        exact q1
      · exact h (w.up n (.tup (vs ++ us))) (step_new hn) (S.new hn) _ (new_tup S hn (q1.append q2))
    · exact h.elim
  · split at h
    · rename_i a b ha hb
      exact .inr (.inr (.inr (lsts ha hb h)))
    · exact h.elim
theorem ov_sub : OV X cls (binaryOp .Sub) oSub := by
  refine ⟨_, op_sub, fun w μ d e x y Q S r1 r2 h => ?_⟩
  unfold oSub at h
  split at h
  · exact ⟨_, _, r1, r2, h w Step.refl S _ rfl⟩
  · exact h.elim
theorem op_repS : OpR X (binaryOp .Mult) (fun x y H Q => ∃ (a : List Nat) (j : Int), x = .str ⟨a.toArray⟩ ∧ y = .int j ∧ (j ≤ 1000 ∧ -1000 ≤ j ∧ a.length ≤ 1000) ∧ Q (.str ⟨(List.replicate j.toNat a).flatten.toArray⟩) H) := by
  intro pins s σ H x y v u Q I rx ry h
  obtain ⟨a, j, rfl, rfl, ⟨h1, h2, h3⟩, q⟩ := h
  obtain ⟨t, rfl⟩ := rx
  obtain ⟨t', rfl⟩ := ry
  have hl : (⟨a.toArray⟩ : Str).length = a.length := strLen
  refine PySem.P.mul_str (by rw [decide_eq_false (by omega), decide_eq_false (by omega)]; rfl) (fun g1 _ z => ?_) (fun g1 _ => ?_) ?_
  · rw [hl] at z
    have hj : (1000 : Int) * j ≤ 2 ^ 63 - 1 := by omega
    have : (1000 : Int) ≤ (2 ^ 63 - 1) / j := (Int.le_ediv_iff_mul_le (by omega)).mpr hj
    omega
  · rw [hl]
    have hm : a.length * j.toNat ≤ 1000 * 1000 := Nat.mul_le_mul h3 (by omega)
    unfold Builtin.Str.tooLong
    rw [sizeLine_eq]
    simp
    omega
  · have key : ∀ n : Nat, (List.replicate n a.toArray).foldl (· ++ ·) #[] = (List.replicate n a).flatten.toArray := fun n => by
      have gen : ∀ (n : Nat) (b : List Nat), (List.replicate n a.toArray).foldl (· ++ ·) b.toArray = (b ++ (List.replicate n a).flatten).toArray := by
        intro n
        induction n with
        | zero => intro b; simp
        | succ n ih =>
          intro b
          rw [List.replicate_succ, List.foldl_cons, List.append_toArray, ih, List.replicate_succ, List.flatten_cons, List.append_assoc]
      simpa using gen n []
    split
    · rename_i hn
      have : j.toNat = 0 := by omega
      rw [this] at q
      exact ⟨by decide, ⟨V.str Str.empty, H, I.tok _, ⟨_, rfl⟩, q⟩⟩
    · split
      · rename_i hn hb
        rw [Bool.or_eq_true] at hb
        rcases hb with hb | hb
        · have : j = 1 := by simpa using hb
          subst this
          have e : (List.replicate (1 : Int).toNat a).flatten = a := by simp
          rw [e] at q
          exact ⟨V.str _, H, I, ⟨_, rfl⟩, q⟩
        · rw [hl] at hb
          have : a = [] := List.length_eq_zero_iff.mp (by simpa using hb)
          subst this
          have e : (List.replicate j.toNat ([] : List Nat)).flatten = [] := by
            rw [List.flatten_eq_nil_iff]
            intro l hl
            exact List.eq_of_mem_replicate hl
          rw [e] at q
          exact ⟨V.str _, H, I, ⟨_, rfl⟩, q⟩
      · rw [key]
        refine ⟨?_, ⟨V.str _, H, I.tok _, ⟨_, rfl⟩, q⟩⟩
        show ((List.replicate j.toNat a).flatten.toArray).size ≤ sizeLine
        have e : (List.replicate j.toNat a).flatten.length = j.toNat * a.length := by simp
        rw [List.size_toArray, e]
        have hm : j.toNat * a.length ≤ 1000 * 1000 := Nat.mul_le_mul (by omega) h3
        exact lim_le hm
theorem ov_mul : OV X cls (binaryOp .Mult) oMul := by
  refine ⟨_, op_mul.or (op_repS.or op_rep), fun w μ d e x y Q S r1 r2 h => ?_⟩
  unfold oMul at h
  split at h
  · split at h
    · rename_i i j hs
      refine .inl ⟨_, _, r1, r2, ?_, h w Step.refl S _ rfl⟩
      rw [Bool.or_eq_true] at hs
      exact hs.imp sm_ok sm_ok
    · exact h.elim
  · split at h
    · rename_i a j hs
      exact .inr (.inl ⟨_, _, r1, r2, hs, h w Step.refl S _ rfl⟩)
    · exact h.elim
  · split at h
    · rename_i a ha
      split at h
      · rename_i hs
        obtain ⟨l, vs, e1, h1, h2⟩ := lstOf_at S r1 ha
        have hm : ∀ n : Nat, n ≤ 1000 → vs.length * n ≤ sizeLine := fun n hn => by
          rw [h2.length]
          exact lim_le (Nat.mul_le_mul hs.2.2 hn)
        exact .inr (.inr ⟨l, _, vs, e1, r2, h1, by omega, by omega, hm _ (by omega), fun p hp => h (w.up p _) (step_new hp) (S.new hp) _ (new_lst S hp (h2.rep _))⟩)
      · exact h.elim
    · exact h.elim
  · exact h.elim
theorem ov_mod : OV X cls (binaryOp .Mod) oMod := by
  refine ⟨_, op_mod, fun w μ d e x y Q S r1 r2 h => ?_⟩
  unfold oMod at h
  split at h
  · split at h
    · rename_i hs
      exact ⟨_, _, r1, r2, hs, h w Step.refl S _ rfl⟩
    · exact h.elim
  · exact h.elim
theorem ov_fdv : OV X cls (binaryOp .FloorDiv) oFdv := by
  refine ⟨_, op_fdivW, fun w μ d e x y Q S r1 r2 h => ?_⟩
  unfold oFdv at h
  split at h
  · split at h
    · rename_i hs
      exact ⟨_, _, r1, r2, hs, h w Step.refl S _ rfl⟩
    · exact h.elim
  · exact h.elim
theorem ov_pow : OV X cls (binaryOp .Pow) oPow := by
  refine ⟨_, op_pow, fun w μ d e x y Q S r1 r2 h => ?_⟩
  unfold oPow at h
  split at h
  · split at h
    · rename_i hs
      refine ⟨_, _, r1, r2, ⟨hs.1, by omega, ?_⟩, h w Step.refl S _ rfl⟩
      have := sm_ok hs.2.2
      omega
    · exact h.elim
  · exact h.elim

/-! ### order, is -/
def oI (p : Int → Int → Bool) : D → D → Store → Res D := fun d e μ => match d, e with
  | .int i, .int j => .ok (.bl (p i j)) μ
  | _, _ => .stuck
theorem ov_I {op : CmpOp} {p : Int → Int → Bool} (ho : OpR X (compareOp op) (rI0 fun i j => .bl (p i j))) : OV X cls (compareOp op) (oI p) := by
  refine ⟨_, ho, fun w μ d e x y Q S r1 r2 h => ?_⟩
  unfold oI at h
  split at h
  · exact ⟨_, _, r1, r2, h w Step.refl S _ rfl⟩
  · exact h.elim
def oLt := oI fun i j => decide (i < j)
def oLe := oI fun i j => decide (i ≤ j)
def oGt := oI fun i j => decide (j < i)
def oGe := oI fun i j => decide (j ≤ i)
theorem ov_lt : OV X cls (compareOp .Lt) oLt := ov_I op_lt
theorem ov_le : OV X cls (compareOp .LtE) oLe := ov_I op_le
theorem ov_gt : OV X cls (compareOp .Gt) oGt := ov_I op_gt
theorem ov_ge : OV X cls (compareOp .GtE) oGe := ov_I op_ge
def D.isNon : D → Bool
  | .non => true
  | _ => false
theorem isNon_iff {K : PySem.W.Frag} {w : Wd} {d : D} {x : V} (r : RV K cls w d x) : decide (x = .non) = d.isNon := by
  cases d with
  | non => rw [show x = V.non from r]; rfl
  | bl b => rw [show x = V.bl b from r]; rfl
  | int b => rw [show x = V.int b from r]; rfl
  | str b => rw [show x = V.str _ from r]; rfl
  | tup b => obtain ⟨_, _, e, _⟩ := r; rw [e]; rfl
  | lst b => obtain ⟨_, _, e, _⟩ := r; rw [e]; rfl
  | flst b => obtain ⟨_, e, _⟩ := r; rw [e]; rfl
  | obj _ _ b => obtain ⟨_, _, _, _, e, _⟩ := r; rw [e]; rfl
  | loc b => obtain ⟨_, e, _⟩ := r; rw [e]; rfl
def oIsN : D → D → Store → Res D := fun d e μ => match e with
  | .non => .ok (.bl d.isNon) μ
  | _ => .stuck
def oNotN : D → D → Store → Res D := fun d e μ => match e with
  | .non => .ok (.bl (!d.isNon)) μ
  | _ => .stuck
theorem ov_isN : OV X cls (compareOp .Is) oIsN := by
  refine ⟨_, op_isN, fun w μ d e x y Q S r1 r2 h => ?_⟩
  unfold oIsN at h
  split at h
  · exact ⟨r2, h w Step.refl S _ (by rw [isNon_iff r1]; rfl)⟩
  · exact h.elim
theorem ov_notN : OV X cls (compareOp .IsNot) oNotN := by
  refine ⟨_, op_notN, fun w μ d e x y Q S r1 r2 h => ?_⟩
  unfold oNotN at h
  split at h
  · exact ⟨r2, h w Step.refl S _ (by rw [isNon_iff r1]; rfl)⟩
  · exact h.elim
end
end Fw

set_option Elab.async false
set_option linter.all false
set_option maxRecDepth 100000
set_option autoImplicit false
/-! ==, in, subscripts, slices, built-in calls, methods. -/
namespace Fw
open PySem L2 PyProof.Rows

/-! ### == -/
mutual
def toPy : D → PyData
  | .non => .none
  | .bl b => .bool b
  | .int i => .int i
  | .str s => .str ⟨s.toArray⟩
  | .tup ds => .tuple (toPys ds)
  | .lst ds => .list (toPys ds)
  | .flst is => .list (is.map .int)
  | .obj _ _ _ => .dict []
  | .loc _ => .dict []
def toPys : List D → List PyData
  | [] => []
  | d :: ds => toPy d :: toPys ds
end
theorem toPys_map : ∀ ds : List D, toPys ds = ds.map toPy
  | [] => rfl
  | d :: ds => by rw [toPys, toPys_map ds]; rfl
def toPyM (μ : Store) : D → PyData
  | .loc n => match μ[n]? with
    | some (.lst ds) => .list (toPys ds)
    | _ => .dict []
  | d => toPy d
/-- a thing that == can tell: texts of code points, not too deep, nothing else in it -/
def okD (p : PyData) : Bool := SeqAt.shaped p
section
variable {K : PySem.W.Frag} {cls : Nat → Option Addr} {w : Wd} {μ : Store}
mutual
theorem dp_of : ∀ {d : D} {x : V}, RV K cls w d x → (toPy d).canLay0 = true → Dp K w.H x (toPy d)
  | .non, _, r, _ => by rw [show _ = V.non from r]; exact .non
  | .bl b, _, r, _ => by rw [show _ = V.bl b from r]; exact .bl b
  | .int b, _, r, _ => by rw [show _ = V.int b from r]; exact .int b
  | .str b, _, r, _ => by rw [show _ = V.str _ from r]; exact .str _
  | .tup ds, _, ⟨a, vs, e, t, r⟩, h => by rw [e]; exact .tup t.sq (dps_of r h)
  | .lst ds, _, ⟨a, vs, e, t, r⟩, h => by rw [e]; exact .lst (.inl (.inl t.1)) (dps_of r h)
  | .flst is, _, ⟨a, e, t⟩, h => by rw [e]; exact .lst t.sq (dps_ints is)
  | .obj _ _ _, _, _, h => nomatch h
  | .loc _, _, _, h => nomatch h
theorem dps_of : ∀ {ds : List D} {vs : List V}, RVs K cls w ds vs → PyData.canLayAll0 (toPys ds) = true → DpAll K w.H vs (toPys ds)
  | [], _, r, _ => by rw [show _ = [] from r]; exact .nil
  | d :: ds, _, ⟨v, vs, e, r, t⟩, h => by
    have h' : (toPy d).canLay0 = true ∧ PyData.canLayAll0 (toPys ds) = true := by simpa [toPys, PyData.canLayAll0] using h
    rw [e]
    exact .cons (dp_of r h'.1) (dps_of t h'.2)
theorem dps_ints : ∀ is : List Int, DpAll K w.H (is.map V.int) (is.map PyData.int)
  | [] => .nil
  | i :: is => .cons (.int i) (dps_ints is)
end
theorem dpM_of (S : RelS K cls w μ) {d : D} {x : V} (r : RV K cls w d x) (h : okD (toPyM μ d) = true) : Dp K w.H x (toPyM μ d) := by
  have h1 : (toPyM μ d).canLay0 = true := by
    unfold okD SeqAt.shaped at h
    rw [Bool.and_eq_true] at h
    exact h.1
  cases d with
  | loc n =>
    simp only [toPyM] at h1 ⊢
    split
    · rename_i ds hc
      rw [hc] at h1
      obtain ⟨a, vs, e, h2, h3⟩ := lstOf_at S (d := .loc n) (ds := ds) r (by simp [lstOf, hc])
      rw [e]
      exact .lst (.inl (.inl h2)) (dps_of h3 h1)
    · rename_i hc
      split at h1
      · rename_i ds hc'
        exact absurd hc' (hc ds)
      · exact nomatch h1
  | _ => exact dp_of r h1
end
def oEq : D → D → Store → Res D := fun d e μ => if (okD (toPyM μ d) && okD (toPyM μ e)) = true then .ok (.bl (PyData.eqv (toPyM μ d) (toPyM μ e))) μ else .stuck
def oNe : D → D → Store → Res D := fun d e μ => if (okD (toPyM μ d) && okD (toPyM μ e)) = true then .ok (.bl (!PyData.eqv (toPyM μ d) (toPyM μ e))) μ else .stuck
section
variable {X : Cx} {cls : Nat → Option Addr}
theorem ov_eq (hu : X.A.units + 64 < cLine) : OV X cls (compareOp .Eq) oEq := by
  refine ⟨_, op_eqD hu, fun w μ d e x y Q S r1 r2 h => ?_⟩
  unfold oEq at h
  split at h
  · rename_i hs
    rw [Bool.and_eq_true] at hs
    exact ⟨_, _, dpM_of S r1 hs.1, dpM_of S r2 hs.2, hs.1, hs.2, h w Step.refl S _ rfl⟩
  · exact h.elim
theorem ov_ne (hu : X.A.units + 64 < cLine) : OV X cls (compareOp .NotEq) oNe := by
  refine ⟨_, op_neD hu, fun w μ d e x y Q S r1 r2 h => ?_⟩
  unfold oNe at h
  split at h
  · rename_i hs
    rw [Bool.and_eq_true] at hs
    exact ⟨_, _, dpM_of S r1 hs.1, dpM_of S r2 hs.2, hs.1, hs.2, h w Step.refl S _ rfl⟩
  · exact h.elim
end

/-! ### in -/
def flatD : D → Bool
  | .non => true
  | .bl _ => true
  | .int _ => true
  | .str _ => true
  | _ => false
def eqDf : D → D → Bool
  | .non, .non => true
  | .bl a, .bl b => a == b
  | .bl a, .int b => (if a then 1 else 0) == b
  | .int a, .bl b => a == (if b then 1 else 0)
  | .int a, .int b => a == b
  | .str a, .str b => a == b
  | _, _ => false
def inD (d : D) (ds : List D) : Bool := ds.any fun y => eqDf y d
def oIn (neg : Bool) : D → D → Store → Res D := fun d e μ => match d, e with
  | .str [c], .str s => .ok (.bl (if neg then !decide (c ∈ s) else decide (c ∈ s))) μ
  | d, e => match seqOf μ e with
    | some ds => if (flatD d && ds.all flatD) = true then .ok (.bl (if neg then !inD d ds else inD d ds)) μ else .stuck
    | none => .stuck
section
variable {K : PySem.W.Frag} {cls : Nat → Option Addr} {w : Wd} {μ : Store}
theorem flat_of {d : D} {x : V} (r : RV K cls w d x) (h : flatD d = true) : flatV x = true := by
  cases d with
  | non => rw [show x = V.non from r]; rfl
  | bl b => rw [show x = V.bl b from r]; rfl
  | int b => rw [show x = V.int b from r]; rfl
  | str b => rw [show x = V.str _ from r]; rfl
  | _ => exact nomatch h
theorem str_beq {a b : List Nat} : ((⟨a.toArray⟩ : Str) == (⟨b.toArray⟩ : Str)) = (a == b) := by
  by_cases h : a = b
  · subst h; simp
  · have : ¬ (⟨a.toArray⟩ : Str) = ⟨b.toArray⟩ := fun e => h (by simpa using congrArg (fun s : Str => s.cps.toList) e)
    rw [beq_eq_false_iff_ne.mpr this, beq_eq_false_iff_ne.mpr h]
theorem eqV_of {d e : D} {x y : V} (r : RV K cls w d x) (r2 : RV K cls w e y) (h : flatD d = true) (h2 : flatD e = true) : eqV x y = eqDf d e := by
  cases d with
  | non => rw [show x = V.non from r]; cases e with
    | non => rw [show y = V.non from r2]; rfl
    | bl b => rw [show y = V.bl b from r2]; rfl
    | int b => rw [show y = V.int b from r2]; rfl
    | str b => rw [show y = V.str _ from r2]; rfl
    | _ => exact nomatch h2
  | bl b => rw [show x = V.bl b from r]; cases e with
    | non => rw [show y = V.non from r2]; rfl
    | bl b => rw [show y = V.bl b from r2]; rfl
    | int b => rw [show y = V.int b from r2]; rfl
    | str b => rw [show y = V.str _ from r2]; rfl
    | _ => exact nomatch h2
  | int b => rw [show x = V.int b from r]; cases e with
    | non => rw [show y = V.non from r2]; rfl
    | bl b => rw [show y = V.bl b from r2]; rfl
    | int b => rw [show y = V.int b from r2]; rfl
    | str b => rw [show y = V.str _ from r2]; rfl
    | _ => exact nomatch h2
  | str b => rw [show x = V.str _ from r]; cases e with
    | non => rw [show y = V.non from r2]; rfl
    | bl b => rw [show y = V.bl b from r2]; rfl
    | int b => rw [show y = V.int b from r2]; rfl
    | str b => rw [show y = V.str _ from r2]; exact str_beq
    | _ => exact nomatch h2
  | _ => exact nomatch h
theorem inV_of {d : D} {x : V} (r : RV K cls w d x) (h : flatD d = true) : ∀ {ds : List D} {vs : List V}, RVs K cls w ds vs → ds.all flatD = true → vs.all flatV = true ∧ inV x vs = inD d ds
  | [], _, t, _ => by rw [show _ = [] from t]; exact ⟨rfl, rfl⟩
  | e :: ds, _, ⟨v, vs, q, t, ts⟩, hf => by
    rw [List.all_cons, Bool.and_eq_true] at hf
    obtain ⟨h1, h2⟩ := inV_of r h ts hf.2
    refine ⟨?_, ?_⟩
    · rw [q, List.all_cons, flat_of t hf.1, h1]; rfl
    · rw [q]
      show (eqV v x || vs.any fun y => eqV y x) = (eqDf e d || ds.any fun y => eqDf y d)
      rw [eqV_of t r hf.1 h]
      show (eqDf e d || inV x vs) = (eqDf e d || inD d ds)
      rw [h2]
end
section
variable {X : Cx} {cls : Nat → Option Addr}
theorem ov_inG {neg : Bool} {op : CmpOp} (h1 : OpR X (compareOp op) (fun x y H Q => ∃ (c : Nat) (z : Str), x = .str ⟨#[c]⟩ ∧ y = .str z ∧ Q (.bl (if neg then !decide (c ∈ z.cps.toList) else decide (c ∈ z.cps.toList))) H))
    (h2 : OpR X (compareOp op) (rIn X.K neg)) : OV X cls (compareOp op) (oIn neg) := by
  refine ⟨_, h1.or h2, fun w μ d e x y Q S r1 r2 h => ?_⟩
  unfold oIn at h
  split at h
  · rename_i c s
    have h := h w Step.refl S _ rfl
    refine .inl ⟨c, _, r1, r2, ?_⟩
    rw [strEq]
    exact h
  · split at h
    · rename_i ds hd
      split at h
      · rename_i hs
        rw [Bool.and_eq_true] at hs
        obtain ⟨a, vs, e1, h3, h4⟩ := seqOf_at S r2 hd
        obtain ⟨h5, h6⟩ := inV_of r1 hs.1 h4 hs.2
        have h := h w Step.refl S _ rfl
        rw [← h6] at h
        exact .inr ⟨a, vs, e1, h3, flat_of r1 hs.1, h5, h⟩
      · exact h.elim
    · exact h.elim
theorem ov_in : OV X cls (compareOp .In) (oIn false) := ov_inG (fun pins s σ H x y v u Q I rx ry h => op_in_sign pins s σ H x y v u Q I rx ry (by simpa using h)) op_in_seq
theorem ov_notIn : OV X cls (compareOp .NotIn) (oIn true) := ov_inG (fun pins s σ H x y v u Q I rx ry h => op_notIn_sign pins s σ H x y v u Q I rx ry (by simpa using h)) op_notIn_seq
end

/-! ### subscripts, slices -/
def oIx : D → D → Store → Res D := fun d e μ => match d, e with
  | .str s, .int i => if s.length ≤ LIM then match atI s i with
      | some c => .ok (.str [c]) μ
      | none => .stuck
    else .stuck
  | d, .int i => match seqOf μ d with
    | some ds => match atI ds i with
      | some e => .ok e μ
      | none => .stuck
    | none => .stuck
  | _, _ => .stuck
def cutD {α : Type} (xs : List α) (lo hi : Option Int) : List α := (xs.drop (HT.sIx xs.length 0 lo)).take (HT.sIx xs.length xs.length hi - HT.sIx xs.length 0 lo)
def oCut : D → Option Int → Option Int → Store → Res D := fun d lo hi μ => match d with
  | .str s => if s.length ≤ LIM then .ok (.str (cutD s lo hi)) μ else .stuck
  | .tup ds => .ok (.tup (cutD ds lo hi)) μ
  | d => match seqOf μ d with
    | some ds => .ok (.lst (cutD ds lo hi)) μ
    | none => .stuck
abbrev FO := Env → Store → Res (Option Int)
def oNone : FO := fun _ μ => .ok none μ
def oSome (fa : FE) : FO := fun ρ μ => (fa ρ μ).bind fun d μ1 => match d with
  | .int i => .ok (some i) μ1
  | _ => .stuck
def eCut (fa : FE) (fl fh : FO) : FE := fun ρ μ => (fa ρ μ).bind fun d μ1 => (fl ρ μ1).bind fun l μ2 => (fh ρ μ2).bind fun u μ3 => oCut d l u μ3
section
variable {K : PySem.W.Frag} {cls : Nat → Option Addr} {w : Wd} {μ : Store}
theorem RVs.atI {ds : List D} {vs : List V} {i : Int} {d : D} (r : RVs K cls w ds vs) (h : L2.atI ds i = some d) : ∃ v, L2.atI vs i = some v ∧ RV K cls w d v := by
  unfold L2.atI at h ⊢
  rw [r.length]
  cases e : ixN ds.length i with
  | none => rw [e] at h; cases h
  | some j =>
    rw [e] at h
    exact r.get h
theorem RVs.cut {ds : List D} {vs : List V} {lo hi : Option Int} (r : RVs K cls w ds vs) : RVs K cls w (cutD ds lo hi) (cutV vs lo hi) := by
  unfold cutD cutV
  rw [r.length]
  exact (r.drop _).take _
end
section
variable {K : PySem.W.Frag} {cls : Nat → Option Addr} {w : Wd} {μ : Store} {Q : VK}
theorem ix_val (S : RelS K cls w μ) {d e : D} {x y : V} (r1 : RV K cls w d x) (r2 : RV K cls w e y) (q2 : PostR K cls w (fun w' d => ∀ v, RV K cls w' d v → Q v w'.H) (oIx d e μ)) : rIx K x y w.H Q := by
  unfold oIx at q2
  split at q2
  · rename_i s i
    split at q2
    · rename_i hl
      split at q2
      · rename_i c hc
        exact .inr (.inr ⟨_, i, c, r1, r2, by rw [strLen]; exact lim_le hl, by rw [strEq]; exact hc, q2 w Step.refl S _ rfl⟩)
      · exact q2.elim
    · exact q2.elim
  · rename_i i hn
    split at q2
    · rename_i ds hd
      split at q2
      · rename_i e he
        obtain ⟨a, vs, e1, h3, h4⟩ := seqOf_at S r1 hd
        obtain ⟨x, h5, h6⟩ := h4.atI he
        have q2 := q2 w Step.refl S _ h6
        rcases h3 with h3 | h3
        · exact .inl ⟨a, vs, _, x, e1, r2, h3, h5, q2⟩
        · exact .inr (.inl ⟨a, vs, _, x, e1, r2, h3, h5, q2⟩)
      · exact q2.elim
    · exact q2.elim
  · exact q2.elim
theorem cut_val (S : RelS K cls w μ) {d : D} {x : V} {l u : Option Int} (r1 : RV K cls w d x) (q3 : PostR K cls w (fun w' d => ∀ v, RV K cls w' d v → Q v w'.H) (oCut d l u μ)) :
    rSlS x l u w.H Q ∨ rSlA K x l u w.H Q ∨ rSlL K x l u w.H Q := by
  have fin : ∀ {ds : List D} {p : Addr} {vs : List V}, x = .ref p → SqL K w.H p vs → RVs K cls w ds vs → PostR K cls w (fun w' d => ∀ v, RV K cls w' d v → Q v w'.H) (.ok (.lst (cutD ds l u)) μ) → rSlL K x l u w.H Q := fun {ds p vs} e h4 h5 q =>
    ⟨p, vs, e, h4, fun n hp => q (w.up n (.lst (cutV vs l u))) (step_new hp) (S.new hp) _ (new_lst S hp h5.cut)⟩
  cases d with
  | str s =>
    simp only [oCut] at q3
    split at q3
    · rename_i hl
      refine .inl ⟨_, r1, by rw [strLen]; exact lim_le hl, ?_⟩
      have e : cutS (⟨s.toArray⟩ : Str) l u = ⟨(cutD s l u).toArray⟩ := by
        unfold cutS cutD
        rw [strLen, strEq]
      rw [e]
      exact q3 w Step.refl S _ rfl
    · exact q3.elim
  | tup ds =>
    simp only [oCut] at q3
    obtain ⟨p, vs, e1, h4, h5⟩ := r1
    refine .inr (.inl ⟨p, vs, e1, h4.sq, fun hw => ?_, fun hn n hp => ?_⟩)
    · have e : cutD ds l u = ds := by
        unfold cutD
        rw [← h5.length, hw.1, hw.2, List.drop_zero, Nat.sub_zero]
        exact List.take_of_length_le (by rw [h5.length]; exact Nat.le_refl _)
      rw [e] at q3
      exact q3 w Step.refl S _ ⟨p, vs, rfl, h4, h5⟩
    · exact q3 (w.up n (.tup (cutV vs l u))) (step_new hp) (S.new hp) _ (new_tup S hp h5.cut)
  | lst ds =>
    simp only [oCut, seqOf] at q3
    obtain ⟨p, vs, e2, h6, h7⟩ := lstOf_at S (d := .lst ds) (ds := ds) r1 rfl
    exact .inr (.inr (fin e2 (.inl (.inl h6)) h7 q3))
  | flst is =>
    simp only [oCut, seqOf] at q3
    obtain ⟨p, e2, h6⟩ := r1
    exact .inr (.inr (fin e2 h6.sq RVs.ints q3))
  | loc n =>
    simp only [oCut, seqOf] at q3
    split at q3
    · rename_i ds hd
      split at hd
      · rename_i es hc
        cases hd
        obtain ⟨p, vs, e2, h6, h7⟩ := lstOf_at S (d := .loc n) (ds := ds) r1 (by simp [lstOf, hc])
        exact .inr (.inr (fin e2 (.inl (.inl h6)) h7 q3))
      · cases hd
    · exact q3.elim
  | non => exact q3.elim
  | bl _ => exact q3.elim
  | int _ => exact q3.elim
  | obj _ _ _ => exact q3.elim
end
section
variable {X : Cx} {cls : Nat → Option Addr} {a b e : Expr} {fa fb : FE} {fl fh : FO} {pos p2 : Pos} {lo hi : Option Expr}
theorem se_ix (ha : SE X cls a fa) (hb : SE X cls b fb) (hs : PlainIx b := by exact fun _ _ => rfl) : SE X cls (.Subscript a b pos) (eBin oIx fa fb) := by
  obtain ⟨t1, p1, h1⟩ := ha
  obtain ⟨t2, p2, h2⟩ := hb
  refine ⟨_, pe_ix ix_seq p1 p2 hs, fun σ Q w ρ μ S E h => ?_⟩
  refine h1 σ _ w ρ μ S E ((PostR.bind h).imp fun w1 d s1 ⟨μ1, S1, q1⟩ v r1 => ?_)
  refine h2 σ _ w1 ρ μ1 S1 (E.mono s1.kp) ((PostR.bind q1).imp fun w2 e s2 ⟨μ2, S2, q2⟩ u r2 => ?_)
  exact ix_val S2 (r1.mono s2.kp) r2 q2
def SO (X : Cx) (cls : Nat → Option Addr) (e : Option Expr) (f : FO) : Prop := ∃ t, PO X e t ∧ ∀ (σ : L2.St) (Q : Option Int → Hp → Prop) (w : Wd) (ρ : Env) (μ : Store), RelS X.K cls w μ → RelE X.K cls w ρ σ →
  PostR X.K cls w (fun w' o => Q o w'.H) (f ρ μ) → t σ w.H Q
theorem so_none : SO X cls none oNone := ⟨_, po_none, fun σ Q w ρ μ S E h => h w Step.refl S⟩
theorem so_some (ha : SE X cls a fa) : SO X cls (some a) (oSome fa) := by
  obtain ⟨t1, p1, h1⟩ := ha
  refine ⟨_, po_some p1, fun σ Q w ρ μ S E h => ?_⟩
  refine h1 σ _ w ρ μ S E ((PostR.bind h).imp fun w1 d s1 ⟨μ1, S1, q1⟩ v r1 => ?_)
  cases d with
  | int i => exact ⟨i, r1, q1 w1 Step.refl S1⟩
  | _ => exact q1.elim
theorem slR_or {r r' : V → Option Int → Option Int → Hp → VK → Prop} (h : SlR X r) (h' : SlR X r') : SlR X (fun x l u H Q => r x l u H Q ∨ r' x l u H Q) := by
  intro pins s σ H x v vl vu lo hi sl Q I rx hs pl pu z
  rcases z with z | z
  · exact h pins s σ H x v vl vu lo hi sl Q I rx hs pl pu z
  · exact h' pins s σ H x v vl vu lo hi sl Q I rx hs pl pu z
theorem se_cut (ha : SE X cls a fa) (hl : SO X cls lo fl) (hh : SO X cls hi fh) : SE X cls (.Subscript a (.Slice lo hi none p2) pos) (eCut fa fl fh) := by
  obtain ⟨t1, p1, h1⟩ := ha
  obtain ⟨t2, p2, h2⟩ := hl
  obtain ⟨t3, p3, h3⟩ := hh
  refine ⟨_, pe_slice (slR_or sl_str (slR_or sl_tupA sl_list)) p1 p2 p3, fun σ Q w ρ μ S E h => ?_⟩
  refine h1 σ _ w ρ μ S E ((PostR.bind h).imp fun w1 d s1 ⟨μ1, S1, q1⟩ v r1 => ?_)
  refine h2 σ _ w1 ρ μ1 S1 (E.mono s1.kp) ((PostR.bind q1).imp fun w2 l s2 ⟨μ2, S2, q2⟩ => ?_)
  refine h3 σ _ w2 ρ μ2 S2 (E.mono (s1.trans s2).kp) ((PostR.bind q2).imp fun w3 u s3 ⟨μ3, S3, q3⟩ => ?_)
  exact cut_val S3 (r1.mono (s2.trans s3).kp) q3
end
end Fw

set_option Elab.async false
set_option linter.all false
set_option maxRecDepth 100000
set_option autoImplicit false
/-! Built-in calls, methods, what is written. -/
namespace Fw
open PySem L2 PyProof.Rows

/-! ### calls -/
def cLen : List D → Store → Res D := fun ds μ => match ds with
  | [.str s] => if s.length ≤ LIM then .ok (.int s.length) μ else .stuck
  | [d] => match seqOf μ d with
    | some es => .ok (.int es.length) μ
    | none => .stuck
  | _ => .stuck
def cInt : List D → Store → Res D := fun ds μ => match ds with
  | [.int i] => .ok (.int i) μ
  | [.bl b] => .ok (.int (if b then 1 else 0)) μ
  | [.str s] => match PySem.intText? ⟨s.toArray⟩ with
    | some n => if s.length ≤ 640 then .ok (.int n) μ else .stuck
    | none => .stuck
  | _ => .stuck
def strI (i : Int) : List Nat := (Str.ofString (toString i)).cps.toList
def cStr : List D → Store → Res D := fun ds μ => match ds with
  | [.int i] => if i.natAbs.log2 < 1920 then .ok (.str (strI i)) μ else .stuck
  | [.str s] => .ok (.str s) μ
  | _ => .stuck
def cTuple : List D → Store → Res D := fun ds μ => match ds with
  | [d] => match seqOf μ d with
    | some es => .ok (.tup es) μ
    | none => .stuck
  | _ => .stuck
def cList : List D → Store → Res D := fun ds μ => match ds with
  | [d] => match seqOf μ d with
    | some es => .ok (.lst es) μ
    | none => .stuck
  | _ => .stuck
def cMax2 : List D → Store → Res D := fun ds μ => match ds with
  | [.int i, .int j] => .ok (.int (if j > i then j else i)) μ
  | _ => .stuck
def cMin2 : List D → Store → Res D := fun ds μ => match ds with
  | [.int i, .int j] => .ok (.int (if j < i then j else i)) μ
  | _ => .stuck
def intsOf : List D → Option (List Int)
  | [] => some []
  | .int i :: ds => (intsOf ds).map (i :: ·)
  | _ :: _ => none
def blsOf : List D → Option (List Bool)
  | [] => some []
  | .bl i :: ds => (blsOf ds).map (i :: ·)
  | _ :: _ => none
def strsOf : List D → Option (List (List Nat))
  | [] => some []
  | .str i :: ds => (strsOf ds).map (i :: ·)
  | _ :: _ => none
/-- a list's ints: not a tuple's -/
def lintsOf (μ : Store) (d : D) : Option (List Int) := match d with
  | .flst is => some is
  | d => match lstOf μ d with
    | some es => intsOf es
    | none => none
def cSum : List D → Store → Res D := fun ds μ => match ds with
  | [d] => match lintsOf μ d with
    | some is => .ok (.int is.sum) μ
    | none => .stuck
  | _ => .stuck
def cSorted : List D → Store → Res D := fun ds μ => match ds with
  | [d] => match lintsOf μ d with
    | some is => .ok (.lst ((is.mergeSort (fun a b => decide (a ≤ b))).map .int)) μ
    | none => .stuck
  | _ => .stuck
def cAll : List D → Store → Res D := fun ds μ => match ds with
  | [d] => match lstOf μ d with
    | some es => match blsOf es with
      | some bs => .ok (.bl (bs.all id)) μ
      | none => .stuck
    | none => .stuck
  | _ => .stuck
def cAny : List D → Store → Res D := fun ds μ => match ds with
  | [d] => match lstOf μ d with
    | some es => match blsOf es with
      | some bs => .ok (.bl (bs.any id)) μ
      | none => .stuck
    | none => .stuck
  | _ => .stuck
section
variable {K : PySem.W.Frag} {cls : Nat → Option Addr} {w : Wd} {μ : Store}
theorem RVs.one {d : D} {xs : List V} (r : RVs K cls w [d] xs) : ∃ x, xs = [x] ∧ RV K cls w d x := by
  obtain ⟨v, vs, e, h, t⟩ := r
  rw [show vs = [] from t] at e
  exact ⟨v, e, h⟩
theorem RVs.two {d d' : D} {xs : List V} (r : RVs K cls w [d, d'] xs) : ∃ x y, xs = [x, y] ∧ RV K cls w d x ∧ RV K cls w d' y := by
  obtain ⟨v, vs, e, h, t⟩ := r
  obtain ⟨u, rfl, h2⟩ := RVs.one t
  exact ⟨v, u, e, h, h2⟩
theorem intsOf_at : ∀ {ds : List D} {is : List Int} {vs : List V}, RVs K cls w ds vs → intsOf ds = some is → vs = is.map V.int
  | [], _, _, r, h => by rw [show _ = [] from r]; cases h; rfl
  | .int i :: ds, is, _, ⟨v, vs, e, h1, t⟩, h => by
    simp only [intsOf, Option.map_eq_some_iff] at h
    obtain ⟨js, h2, rfl⟩ := h
    rw [e, intsOf_at t h2, show v = V.int i from h1]
    rfl
  | .non :: _, _, _, _, h | .bl _ :: _, _, _, _, h | .str _ :: _, _, _, _, h | .tup _ :: _, _, _, _, h | .lst _ :: _, _, _, _, h | .flst _ :: _, _, _, _, h | .obj _ _ _ :: _, _, _, _, h | .loc _ :: _, _, _, _, h => by simp [intsOf] at h
theorem blsOf_at : ∀ {ds : List D} {is : List Bool} {vs : List V}, RVs K cls w ds vs → blsOf ds = some is → vs = is.map V.bl
  | [], _, _, r, h => by rw [show _ = [] from r]; cases h; rfl
  | .bl i :: ds, is, _, ⟨v, vs, e, h1, t⟩, h => by
    simp only [blsOf, Option.map_eq_some_iff] at h
    obtain ⟨js, h2, rfl⟩ := h
    rw [e, blsOf_at t h2, show v = V.bl i from h1]
    rfl
  | .non :: _, _, _, _, h | .int _ :: _, _, _, _, h | .str _ :: _, _, _, _, h | .tup _ :: _, _, _, _, h | .lst _ :: _, _, _, _, h | .flst _ :: _, _, _, _, h | .obj _ _ _ :: _, _, _, _, h | .loc _ :: _, _, _, _, h => by simp [blsOf] at h
theorem strsOf_at : ∀ {ds : List D} {is : List (List Nat)} {vs : List V}, RVs K cls w ds vs → strsOf ds = some is → vs = (is.map fun s => (⟨s.toArray⟩ : Str)).map V.str
  | [], _, _, r, h => by rw [show _ = [] from r]; cases h; rfl
  | .str i :: ds, is, _, ⟨v, vs, e, h1, t⟩, h => by
    simp only [strsOf, Option.map_eq_some_iff] at h
    obtain ⟨js, h2, rfl⟩ := h
    rw [e, strsOf_at t h2, show v = V.str _ from h1]
    rfl
  | .non :: _, _, _, _, h | .int _ :: _, _, _, _, h | .bl _ :: _, _, _, _, h | .tup _ :: _, _, _, _, h | .lst _ :: _, _, _, _, h | .flst _ :: _, _, _, _, h | .obj _ _ _ :: _, _, _, _, h | .loc _ :: _, _, _, _, h => by simp [strsOf] at h
theorem lintsOf_at (S : RelS K cls w μ) {d : D} {x : V} {is : List Int} (r : RV K cls w d x) (h : lintsOf μ d = some is) : ∃ a, x = .ref a ∧ SqL K w.H a (is.map V.int) := by
  unfold lintsOf at h
  split at h
  · cases h
    obtain ⟨a, e, t⟩ := r
    exact ⟨a, e, t.sq⟩
  · split at h
    · rename_i es he
      obtain ⟨a, vs, e, h1, h2⟩ := lstOf_at S r he
      rw [intsOf_at h2 h] at h1
      exact ⟨a, e, .inl (.inl h1)⟩
    · cases h
end
section
variable {X : Cx} {cls : Nat → Option Addr}
theorem cv_len : CV X cls (.builtin "len") cLen := by
  refine ⟨_, call_len_str.or call_len_seq, fun w μ ds xs Q S r0 h => ?_⟩
  unfold cLen at h
  split at h
  · rename_i s
    obtain ⟨x, rfl, r⟩ := r0.one
    split at h
    · rename_i hl
      refine .inl ⟨_, congrArg (fun z => [z]) r, by rw [strLen]; exact lim_le hl, ?_⟩
      rw [strLen]
      exact h w Step.refl S _ rfl
    · exact h.elim
  · obtain ⟨x, rfl, r⟩ := r0.one
    split at h
    · rename_i es hd
      obtain ⟨a, vs, e, h3, h4⟩ := seqOf_at S r hd
      refine .inr ⟨a, vs, congrArg (fun z => [z]) e, h3, ?_⟩
      rw [h4.length]
      exact h w Step.refl S _ rfl
    · exact h.elim
  · exact h.elim
theorem cv_int : CV X cls (.type "int") cInt := by
  refine ⟨_, call_int1.or call_int_str, fun w μ ds xs Q S r0 h => ?_⟩
  unfold cInt at h
  split at h
  · obtain ⟨x, rfl, r⟩ := r0.one
    exact .inl (.inl ⟨_, congrArg (fun z => [z]) r, h w Step.refl S _ rfl⟩)
  · obtain ⟨x, rfl, r⟩ := r0.one
    exact .inl (.inr ⟨_, congrArg (fun z => [z]) r, h w Step.refl S _ rfl⟩)
  · obtain ⟨x, rfl, r⟩ := r0.one
    split at h
    · rename_i n hn
      split at h
      · rename_i hl
        exact .inr ⟨_, n, congrArg (fun z => [z]) r, hn, by rw [strLen]; exact hl, h w Step.refl S _ rfl⟩
      · exact h.elim
    · exact h.elim
  · exact h.elim
theorem cv_str : CV X cls (.type "str") cStr := by
  refine ⟨_, call_str_int.or SkE.call_str_str, fun w μ ds xs Q S r0 h => ?_⟩
  unfold cStr at h
  split at h
  · rename_i i
    obtain ⟨x, rfl, r⟩ := r0.one
    split at h
    · rename_i hl
      refine .inl ⟨i, congrArg (fun z => [z]) r, hl, h w Step.refl S _ ?_⟩
      show V.str _ = V.str ⟨(strI i).toArray⟩
      unfold strI
      rw [Array.toArray_toList]
    · exact h.elim
  · obtain ⟨x, rfl, r⟩ := r0.one
    exact .inr ⟨_, congrArg (fun z => [z]) r, h w Step.refl S _ rfl⟩
  · exact h.elim
theorem cv_tuple : CV X cls (.type "tuple") cTuple := by
  refine ⟨_, call_tuple_of, fun w μ ds xs Q S r0 h => ?_⟩
  unfold cTuple at h
  split at h
  · rename_i d
    obtain ⟨x, rfl, r⟩ := r0.one
    split at h
    · rename_i es hd
      have gen : (∃ a vs, x = .ref a ∧ SqL X.K w.H a vs ∧ RVs X.K cls w es vs) → ∃ p ys, [x] = [V.ref p] ∧ ((SqL X.K w.H p ys ∧ ∀ l, w.H l = none → Q (.ref l) (upd w.H l (.tup ys))) ∨ (SqT X.K w.H p ys ∧ Q (.ref p) w.H)) := fun ⟨a, vs, e, h3, h4⟩ =>
        ⟨a, vs, congrArg (fun z => [z]) e, .inl ⟨h3, fun l hl => h (w.up l (.tup vs)) (step_new hl) (S.new hl) _ (new_tup S hl h4)⟩⟩
      cases d with
      | tup ts =>
        cases hd
        obtain ⟨a, vs, e, t, q⟩ := r
        exact ⟨a, vs, congrArg (fun z => [z]) e, .inr ⟨t.sq, h w Step.refl S _ ⟨a, vs, rfl, t, q⟩⟩⟩
      | lst ts => obtain ⟨a, vs, e, h3, h4⟩ := lstOf_at S (d := .lst ts) (ds := es) r hd; exact gen ⟨a, vs, e, .inl (.inl h3), h4⟩
      | loc ts => obtain ⟨a, vs, e, h3, h4⟩ := lstOf_at S (d := .loc ts) (ds := es) r hd; exact gen ⟨a, vs, e, .inl (.inl h3), h4⟩
      | flst ts =>
        cases hd
        obtain ⟨a, e, t⟩ := r
        exact gen ⟨a, _, e, t.sq, RVs.ints⟩
      | _ => cases hd
    · exact h.elim
  · exact h.elim
theorem cv_list : CV X cls (.type "list") cList := by
  refine ⟨_, call_list_of, fun w μ ds xs Q S r0 h => ?_⟩
  unfold cList at h
  split at h
  · rename_i d
    obtain ⟨x, rfl, r⟩ := r0.one
    split at h
    · rename_i es hd
      obtain ⟨a, vs, e, h3, h4⟩ := seqOf_at S r hd
      exact ⟨a, vs, congrArg (fun z => [z]) e, h3, fun l hl => h (w.up l (.lst vs)) (step_new hl) (S.new hl) _ (new_lst S hl h4)⟩
    · exact h.elim
  · exact h.elim
theorem cv_max2 (hc : X.calm = true) : CV X cls (.builtin "max") cMax2 := by
  refine ⟨_, call_max2 hc, fun w μ ds xs Q S r0 h => ?_⟩
  unfold cMax2 at h
  split at h
  · obtain ⟨x, y, rfl, r1, r2⟩ := r0.two
    exact ⟨_, _, by rw [show x = _ from r1, show y = _ from r2], h w Step.refl S _ rfl⟩
  · exact h.elim
theorem cv_min2 (hc : X.calm = true) : CV X cls (.builtin "min") cMin2 := by
  refine ⟨_, call_min2 hc, fun w μ ds xs Q S r0 h => ?_⟩
  unfold cMin2 at h
  split at h
  · obtain ⟨x, y, rfl, r1, r2⟩ := r0.two
    exact ⟨_, _, by rw [show x = _ from r1, show y = _ from r2], h w Step.refl S _ rfl⟩
  · exact h.elim
theorem cv_sum (hc : X.calm = true) : CV X cls (.builtin "sum") cSum := by
  refine ⟨_, cr_sum hc, fun w μ ds xs Q S r0 h => ?_⟩
  unfold cSum at h
  split at h
  · obtain ⟨x, rfl, r⟩ := r0.one
    split at h
    · rename_i is hd
      obtain ⟨a, e, h3⟩ := lintsOf_at S r hd
      exact ⟨a, is, congrArg (fun z => [z]) e, h3, h w Step.refl S _ rfl⟩
    · exact h.elim
  · exact h.elim
theorem sorted_one {a b : List Int} (hp : a.Perm b) (hs : a.Pairwise (· ≤ ·)) : a = b.mergeSort (fun a b => decide (a ≤ b)) := by
  refine List.Perm.eq_of_pairwise (le := (· ≤ ·)) (fun x y _ _ h1 h2 => Int.le_antisymm h1 h2) hs ?_ (hp.trans (List.mergeSort_perm b _).symm)
  have := List.pairwise_mergeSort (le := fun a b => decide ((a : Int) ≤ b)) (fun a b c h1 h2 => by simp at *; omega) (fun a b => by simp; omega) b
  exact this.imp fun h => by simpa using h
theorem cv_sorted : CV X cls (.builtin "sorted") cSorted := by
  refine ⟨_, cr_sortedI, fun w μ ds xs Q S r0 h => ?_⟩
  unfold cSorted at h
  split at h
  · obtain ⟨x, rfl, r⟩ := r0.one
    split at h
    · rename_i is hd
      obtain ⟨a, e, h3⟩ := lintsOf_at S r hd
      refine ⟨a, is, congrArg (fun z => [z]) e, h3, fun ns p hp hs hl => ?_⟩
      rw [← sorted_one hp hs] at h
      exact h (w.up p (.lst (ns.map V.int))) (step_new hl) (S.new hl) _ (new_lst S hl RVs.ints)
    · exact h.elim
  · exact h.elim
theorem cv_all (hc : X.calm = true) : CV X cls (.builtin "all") cAll := by
  refine ⟨_, cr_all hc, fun w μ ds xs Q S r0 h => ?_⟩
  unfold cAll at h
  split at h
  · obtain ⟨x, rfl, r⟩ := r0.one
    split at h
    · rename_i es hd
      obtain ⟨a, vs, e, h3, h4⟩ := lstOf_at S r hd
      split at h
      · rename_i bs hb
        rw [blsOf_at h4 hb] at h3
        exact ⟨a, bs, congrArg (fun z => [z]) e, .inl (.inl h3), h w Step.refl S _ rfl⟩
      · exact h.elim
    · exact h.elim
  · exact h.elim
theorem cv_any (hc : X.calm = true) : CV X cls (.builtin "any") cAny := by
  refine ⟨_, cr_any hc, fun w μ ds xs Q S r0 h => ?_⟩
  unfold cAny at h
  split at h
  · obtain ⟨x, rfl, r⟩ := r0.one
    split at h
    · rename_i es hd
      obtain ⟨a, vs, e, h3, h4⟩ := lstOf_at S r hd
      split at h
      · rename_i bs hb
        rw [blsOf_at h4 hb] at h3
        exact ⟨a, bs, congrArg (fun z => [z]) e, .inl (.inl h3), h w Step.refl S _ rfl⟩
      · exact h.elim
    · exact h.elim
  · exact h.elim
end

/-! ### isinstance(x, T), T built-in -/
def tyName (μ : Store) : D → Option String
  | .non => some "NoneType"
  | .bl _ => some "bool"
  | .int _ => some "int"
  | .str _ => some "str"
  | .tup _ => some "tuple"
  | .lst _ => some "list"
  | .flst _ => none
  | .obj _ _ _ => none
  | .loc n => match μ[n]? with
    | some (.lst _) => some "list"
    | _ => none
def eIsi (T : String) (fa : FE) : FE := fun ρ μ => (fa ρ μ).bind fun d μ1 => match tyName μ1 d with
  | some t => match kitB t T with
    | some b => .ok (.bl b) μ1
    | none => .stuck
  | none => .stuck
theorem tyName_at {K : PySem.W.Frag} {cls : Nat → Option Addr} {w : Wd} {μ : Store} (S : RelS K cls w μ) {d : D} {x : V} {t : String} (r : RV K cls w d x) (h : tyName μ d = some t) : TyX K w.H x (.type t) := by
  cases d with
  | non => cases h; rw [show x = V.non from r]; exact .base .non
  | bl b => cases h; rw [show x = V.bl b from r]; exact .base (.bl b)
  | int b => cases h; rw [show x = V.int b from r]; exact .base (.int b)
  | str b => cases h; rw [show x = V.str _ from r]; exact .base (.str _)
  | tup b =>
    cases h
    obtain ⟨a, vs, e, t, _⟩ := r
    rw [e]
    rcases t with ⟨t, _⟩ | t
    · exact .base (.tup t)
    · rcases t with (t | ⟨o, t⟩) | ⟨o, its, n, e1, e2, _⟩
      · cases t
      · cases t
      · exact .kTuple e1 e2
  | lst b =>
    cases h
    obtain ⟨a, vs, e, ⟨t, _⟩, _⟩ := r
    rw [e]
    exact .base (.lst t)
  | flst b => cases h
  | obj _ _ _ => cases h
  | loc n =>
    simp only [tyName] at h
    split at h
    · rename_i es hc
      cases h
      obtain ⟨a, vs, e, h1, _⟩ := lstOf_at S (d := .loc n) (ds := es) r (by simp [lstOf, hc])
      rw [e]
      exact .base (.lst h1)
    · cases h
theorem se_isi {X : Cx} {cls : Nat → Option Addr} {a : Expr} {fa : FE} {pos p p2 : Pos} {T : String} {x : Str} (ha : SE X cls a fa) (hg : Gl X "isinstance") (hm : X.mg "isinstance" = none) (hv : bootBuiltins "isinstance" = some (.builtin "isinstance"))
    (hg2 : Gl X x) (hm2 : X.mg x = none) (hv2 : bootBuiltins x = some (.type T)) (hn : x ≠ "__name__" := by decide +kernel) (hd : (x == ("__debug__" : Str)) = false := by decide +kernel)
    (he : starEach [a, .Name x p2] X.env = (false, eval a X.env) :: starEach [.Name x p2] X.env := by rfl) (hs : starEach [.Name x p2] X.env = (false, eval (.Name x p2) X.env) :: starEach [] X.env := by rfl)
    (hpl : (backTo pos (starEach [.Name x p2] X.env)).any (·.1) = false := by rfl) :
    SE X cls (.Call (.Name "isinstance" p) [a, .Name x p2] [] pos) (eIsi T fa) := by
  obtain ⟨t1, p1, h1⟩ := ha
  refine ⟨_, pe_callB call_isi hg hm hv (pa_cons p1 (pa_cons (pe_bltn (v := .ty T) hg2 hm2 hv2 rfl hn hd) pa_nil hs) he) (by decide +kernel) (by decide +kernel) he hpl, fun σ Q w ρ μ S E h => ?_⟩
  refine h1 σ _ w ρ μ S E ((PostR.bind h).imp fun w1 d s1 ⟨μ1, S1, q1⟩ v r1 => ?_)
  split at q1
  · rename_i t ht
    split at q1
    · rename_i b hb
      exact ⟨v, .ty T, .type t, .type T, b, rfl, .ty T, tyName_at S1 r1 ht, kit_ty hb, q1 w1 Step.refl S1 _ rfl⟩
    · exact q1.elim
  · exact q1.elim
end Fw

set_option Elab.async false
set_option linter.all false
set_option maxRecDepth 100000
set_option autoImplicit false
/-! Methods, statements, loops, comprehensions, defs. -/
namespace Fw
open PySem L2 PyProof.Rows

/-! ### join -/
def joinD (S : List Nat) : List (List Nat) → List Nat
  | [] => []
  | [p] => p
  | p :: q :: r => p ++ (S ++ joinD S (q :: r))
theorem joinD_nil : ∀ ps : List (List Nat), joinD [] ps = ps.flatten
  | [] => rfl
  | [p] => by simp [joinD]
  | p :: q :: r => by rw [joinD, joinD_nil (q :: r)]; simp
theorem join_of (S : List Nat) : ∀ ps : List (List Nat), Str.join ⟨S.toArray⟩ (ps.map fun s => (⟨s.toArray⟩ : Str)) = ⟨(joinD S ps).toArray⟩
  | [] => rfl
  | [p] => rfl
  | p :: q :: r => by
    show ((⟨p.toArray⟩ : Str) ++ (⟨S.toArray⟩ : Str)) ++ Str.join ⟨S.toArray⟩ ((q :: r).map fun s => (⟨s.toArray⟩ : Str)) = _
    rw [join_of S (q :: r), strApp, strApp, List.append_assoc]
    rfl
def oJoin (d e : D) (μ : Store) : Res D := match d with
  | .str s => match seqOf μ e with
    | some es => match strsOf es with
      | some ps => if (ps.map List.length).sum + ps.length * s.length ≤ LIM then .ok (.str (joinD s ps)) μ else .stuck
      | none => .stuck
    | none => .stuck
  | _ => .stuck
def eJoin (fo fe : FE) : FE := fun ρ μ => (fo ρ μ).bind fun d μ1 => match d with
  | .str s => (fe ρ μ1).bind fun e μ2 => oJoin (.str s) e μ2
  | _ => .stuck
/-! ### list methods on a place -/
def isL (μ : Store) : D → Bool
  | .loc n => match μ[n]? with
    | some (.lst _) => true
    | _ => false
  | _ => false
def oApp (d e : D) (μ : Store) : Res D := match d with
  | .loc n => match μ[n]? with
    | some (.lst es) => if es.length < LIM then .ok .non (μ.set n (.lst (es ++ [e]))) else .stuck
    | _ => .stuck
  | _ => .stuck
def oPopAt (d e : D) (μ : Store) : Res D := match d, e with
  | .loc n, .int i => match μ[n]? with
    | some (.lst es) => if 0 ≤ i ∧ i ≤ LIM then match es[i.toNat]? with
        | some e => .ok e (μ.set n (.lst (es.eraseIdx i.toNat)))
        | none => .stuck
      else .stuck
    | _ => .stuck
  | _, _ => .stuck
def oPop0 (d : D) (μ : Store) : Res D := match d with
  | .loc n => match μ[n]? with
    | some (.lst es) => match es[es.length - 1]? with
      | some e => .ok e (μ.set n (.lst es.dropLast))
      | none => .stuck
    | _ => .stuck
  | _ => .stuck
/-- xs.m(e), xs a list at a place -/
def eLm (g : D → D → Store → Res D) (fo fe : FE) : FE := fun ρ μ => (fo ρ μ).bind fun d μ1 => if isL μ1 d = true then (fe ρ μ1).bind fun e μ2 => g d e μ2 else .stuck
def eLm0 (g : D → Store → Res D) (fo : FE) : FE := fun ρ μ => (fo ρ μ).bind fun d μ1 => if isL μ1 d = true then g d μ1 else .stuck
section
variable {K : PySem.W.Frag} {cls : Nat → Option Addr} {w : Wd} {μ : Store}
theorem Step.write {n : Nat} {a : Addr} (hn : w.ι[n]? = some a) {o : HO} : Step w (w.up a o) where
  keep := fun b u hb e => by
    show upd w.H a o b = some u
    rw [upd_ne fun z => hb (by rw [z]; exact List.mem_of_getElem? hn)]
    exact e
  pre := ⟨[], by simp⟩
  fresh := fun b h n => absurd h n
  ban := rfl
theorem RelS.write (S : RelS K cls w μ) {n : Nat} {a : Addr} {c : Cell} {o : HO} (hn : w.ι[n]? = some a) (hc : CellOk K cls (w.up a o) a c) : RelS K cls (w.up a o) (μ.set n c) where
  len := by rw [List.length_set]; exact S.len
  nd := S.nd
  ban := fun b hb => by
    obtain ⟨h1, u, h2⟩ := S.ban b hb
    exact ⟨h1, u, by show upd w.H a o b = some u; rw [upd_ne fun z => h1 (by rw [z]; exact List.mem_of_getElem? hn)]; exact h2⟩
  cell := fun m c' e => by
    have hl : n < μ.length := by rw [← S.len]; exact (List.getElem?_eq_some_iff.mp hn).1
    by_cases hm : n = m
    · subst hm
      rw [List.getElem?_set_self hl] at e
      cases e
      exact ⟨a, hn, hc⟩
    · rw [List.getElem?_set_ne hm] at e
      obtain ⟨a', h1, h2⟩ := S.cell m c' e
      refine ⟨a', h1, h2.mono (Step.write hn).kp fun u e => ?_⟩
      show upd w.H a o a' = some u
      rw [upd_ne fun z => hm ?_]
      · exact e
      · obtain ⟨l1, e1⟩ := List.getElem?_eq_some_iff.mp hn
        obtain ⟨l2, e2⟩ := List.getElem?_eq_some_iff.mp h1
        exact (List.getElem_inj S.nd).mp (e1.trans (z.symm.trans e2.symm))
theorem RelS.lst (S : RelS K cls w μ) {n : Nat} {x : V} {ds : List D} (r : RV K cls w (.loc n) x) (h : μ[n]? = some (.lst ds)) : ∃ a vs, x = .ref a ∧ w.ι[n]? = some a ∧ w.H a = some (.lst vs) ∧ RVs K cls w ds vs := by
  obtain ⟨a, e, hn⟩ := r
  obtain ⟨a', h1, vs, h2, h3⟩ := S.cell n _ h
  rw [hn] at h1
  cases h1
  exact ⟨a, vs, e, hn, h2, h3⟩
theorem wlst (S : RelS K cls w μ) {n : Nat} {a : Addr} {ds : List D} {vs : List V} (hn : w.ι[n]? = some a) (r : RVs K cls w ds vs) : RelS K cls (w.up a (.lst vs)) (μ.set n (.lst ds)) :=
  S.write hn ⟨vs, upd_same, r.mono (Step.write hn).kp⟩
theorem RVs.eraseIdx : ∀ {ds : List D} {vs : List V} (i : Nat), RVs K cls w ds vs → RVs K cls w (ds.eraseIdx i) (vs.eraseIdx i)
  | [], _, _, r => by rw [show _ = [] from r]; rfl
  | _ :: _, _, 0, ⟨v, r, q, _, t⟩ => by rw [q]; exact t
  | _ :: _, _, i + 1, ⟨v, r, q, g, t⟩ => by rw [q]; exact ⟨v, _, rfl, g, RVs.eraseIdx i t⟩
theorem RVs.dropLast {ds : List D} {vs : List V} (r : RVs K cls w ds vs) : RVs K cls w ds.dropLast vs.dropLast := by
  rw [List.dropLast_eq_take, List.dropLast_eq_take, r.length]
  exact r.take _
end
section
variable {X : Cx} {cls : Nat → Option Addr} {o e : Expr} {fo fe : FE} {apos pos : Pos}
theorem se_join (ho : SE X cls o fo) (he : SE X cls e fe) (hs : starEach [e] X.env = [(false, eval e X.env)] := by rfl) (hbase : attributeBase o "join" X.env (eval o X.env) = eval o X.env := by rfl) (hline : (apos.endLine == pos.line) = true := by rfl) :
    SE X cls (.Call (.Attribute o "join" apos) [e] [] pos) (eJoin fo fe) := by
  obtain ⟨t1, p1, h1⟩ := ho
  obtain ⟨t2, p2, h2⟩ := he
  refine ⟨_, pe_join p1 p2 hs hbase hline, fun σ Q w ρ μ S E h => ?_⟩
  refine h1 σ _ w ρ μ S E ((PostR.bind h).imp fun w1 d s1 ⟨μ1, S1, q1⟩ v r1 => ?_)
  cases d with
  | str s =>
    refine ⟨⟨_, r1⟩, h2 σ _ w1 ρ μ1 S1 (E.mono s1.kp) ((PostR.bind q1).imp fun w2 e s2 ⟨μ2, S2, q2⟩ u r2 => ?_)⟩
    simp only [oJoin] at q2
    split at q2
    · rename_i es hd
      obtain ⟨a, vs, e1, h3, h4⟩ := seqOf_at S2 r2 hd
      split at q2
      · rename_i ps hp
        rw [strsOf_at h4 hp] at h3
        split at q2
        · rename_i hl
          have hz : (ps.map fun s => (⟨s.toArray⟩ : Str)).map (·.length) = ps.map List.length := by
            rw [List.map_map]
            exact List.map_congr_left fun s _ => strLen
          refine ⟨_, a, ps.map fun s => (⟨s.toArray⟩ : Str), r1, congrArg (fun z => [z]) e1, h3, ?_, ?_⟩
          · rw [hz, List.length_map, strLen]
            have := lim_le hl
            rw [sizeLine_eq] at this
            exact this
          · rw [TL.join_eq, join_of]
            exact q2 w2 Step.refl S2 _ rfl
        · exact q2.elim
      · exact q2.elim
    · exact q2.elim
  | _ => exact q1.elim
theorem isL_at {K : PySem.W.Frag} {w : Wd} {μ : Store} (S : RelS K cls w μ) {d : D} {x : V} (r : RV K cls w d x) (h : isL μ d = true) : tyV K "list" x w.H := by
  cases d with
  | loc n =>
    simp only [isL] at h
    split at h
    · rename_i es hc
      obtain ⟨a, vs, e, _, h2, _⟩ := S.lst r hc
      rw [e]
      exact .inl ⟨rfl, vs, .inl (.inl h2)⟩
    · cases h
  | _ => cases h
theorem app_val {K : PySem.W.Frag} {w : Wd} {μ : Store} {Q : VK} (S : RelS K cls w μ) {d e : D} {x y : V} (r1 : RV K cls w d x) (r2 : RV K cls w e y) (q : PostR K cls w (fun w' d => ∀ v, RV K cls w' d v → Q v w'.H) (oApp d e μ)) : rAppend x [y] w.H Q := by
  cases d with
  | loc n =>
    simp only [oApp] at q
    split at q
    · rename_i es hc
      split at q
      · rename_i hl
        obtain ⟨a, vs, ex, hn, h2, h3⟩ := S.lst r1 hc
        exact ⟨a, vs, y, ex, rfl, h2, by rw [h3.length]; exact lim_lt hl, q (w.up a (.lst (vs ++ [y]))) (Step.write hn) (wlst S hn (h3.append (.cons r2 .nil))) _ rfl⟩
      · exact q.elim
    · exact q.elim
  | _ => exact q.elim
theorem popAt_val {K : PySem.W.Frag} {w : Wd} {μ : Store} {Q : VK} (S : RelS K cls w μ) {d e : D} {x y : V} (r1 : RV K cls w d x) (r2 : RV K cls w e y) (q : PostR K cls w (fun w' d => ∀ v, RV K cls w' d v → Q v w'.H) (oPopAt d e μ)) : rPopAt x [y] w.H Q := by
  cases d with
  | loc n =>
    cases e with
    | int i =>
      simp only [oPopAt] at q
      split at q
      · rename_i es hc
        split at q
        · rename_i hl
          split at q
          · rename_i e he
            obtain ⟨a, vs, ex, hn, h2, h3⟩ := S.lst r1 hc
            obtain ⟨v, hv, rv⟩ := h3.get he
            have hlt : i.toNat < vs.length := (List.getElem?_eq_some_iff.mp hv).1
            have hL : (LIM : Int) = 1000000 := rfl
            refine ⟨a, vs, i, i.toNat, v, ex, by rw [show y = V.int i from r2], h2, by omega, by omega, ?_, hv, q (w.up a (.lst (vs.eraseIdx i.toNat))) (Step.write hn) (wlst S hn (h3.eraseIdx _)) _ (rv.mono (Step.write hn).kp)⟩
            have h0 : ¬ i < 0 := by omega
            have h1 : 0 ≤ i ∧ i < (vs.length : Int) := ⟨by omega, by omega⟩
            simp [seqIndex?, h0, h1]
          · exact q.elim
        · exact q.elim
      · exact q.elim
    | _ => exact q.elim
  | _ => cases e <;> exact q.elim
theorem pop0_val {K : PySem.W.Frag} {w : Wd} {μ : Store} {Q : VK} (S : RelS K cls w μ) {d : D} {x : V} (r1 : RV K cls w d x) (q : PostR K cls w (fun w' d => ∀ v, RV K cls w' d v → Q v w'.H) (oPop0 d μ)) : rPop x [] w.H Q := by
  cases d with
  | loc n =>
    simp only [oPop0] at q
    split at q
    · rename_i es hc
      split at q
      · rename_i e he
        obtain ⟨a, vs, ex, hn, h2, h3⟩ := S.lst r1 hc
        rw [← h3.length] at he
        obtain ⟨v, hv, rv⟩ := h3.get he
        exact ⟨a, vs, v, ex, rfl, h2, hv, q (w.up a (.lst vs.dropLast)) (Step.write hn) (wlst S hn h3.dropLast) _ (rv.mono (Step.write hn).kp)⟩
      · exact q.elim
    · exact q.elim
  | _ => exact q.elim
theorem se_lm {m : Str} {r : V → List V → Hp → VK → Prop} {g : D → D → Store → Res D} (ho : SE X cls o fo) (he : SE X cls e fe)
    (k : ∀ {to : TE} {t : TA}, PE X o to → PA X [e] t → PE X (.Call (.Attribute o m apos) [e] [] pos) (tBM X.K "list" r to t))
    (hg : ∀ {w : Wd} {μ : Store} {Q : VK} {d e : D} {x y : V}, RelS X.K cls w μ → RV X.K cls w d x → RV X.K cls w e y → PostR X.K cls w (fun w' d => ∀ v, RV X.K cls w' d v → Q v w'.H) (g d e μ) → r x [y] w.H Q)
    (hs : starEach [e] X.env = (false, eval e X.env) :: starEach [] X.env := by rfl) :
    SE X cls (.Call (.Attribute o m apos) [e] [] pos) (eLm g fo fe) := by
  obtain ⟨t1, p1, h1⟩ := ho
  obtain ⟨t2, p2, h2⟩ := he
  refine ⟨_, k p1 (pa_cons p2 pa_nil hs), fun σ Q w ρ μ S E h => ?_⟩
  refine h1 σ _ w ρ μ S E ((PostR.bind h).imp fun w1 d s1 ⟨μ1, S1, q1⟩ v r1 => ?_)
  split at q1
  · rename_i hl
    refine ⟨isL_at S1 r1 hl, h2 σ _ w1 ρ μ1 S1 (E.mono s1.kp) ((PostR.bind q1).imp fun w2 e s2 ⟨μ2, S2, q2⟩ u r2 => hg S2 (r1.mono s2.kp) r2 q2)⟩
  · exact q1.elim
theorem se_lm0 {m : Str} {r : V → List V → Hp → VK → Prop} {g : D → Store → Res D} (ho : SE X cls o fo)
    (k : ∀ {to : TE}, PE X o to → PE X (.Call (.Attribute o m apos) [] [] pos) (tBM0 X.K "list" r to))
    (hg : ∀ {w : Wd} {μ : Store} {Q : VK} {d : D} {x : V}, RelS X.K cls w μ → RV X.K cls w d x → PostR X.K cls w (fun w' d => ∀ v, RV X.K cls w' d v → Q v w'.H) (g d μ) → r x [] w.H Q) :
    SE X cls (.Call (.Attribute o m apos) [] [] pos) (eLm0 g fo) := by
  obtain ⟨t1, p1, h1⟩ := ho
  refine ⟨_, k p1, fun σ Q w ρ μ S E h => ?_⟩
  refine h1 σ _ w ρ μ S E ((PostR.bind h).imp fun w1 d s1 ⟨μ1, S1, q1⟩ v r1 => ?_)
  split at q1
  · rename_i hl
    exact ⟨isL_at S1 r1 hl, hg S1 r1 q1⟩
  · exact q1.elim
end

/-! ### statements -/
inductive SR where
  | nx (ρ : Env) (μ : Store)
  | rt (d : D) (μ : Store)
  | bk (ρ : Env) (μ : Store)
  | ct (ρ : Env) (μ : Store)
  | stuck
abbrev FS := Env → Store → SR
def PostS (K : PySem.W.Frag) (cls : Nat → Option Addr) (w : Wd) (D : Ends) : SR → Prop
  | .nx ρ μ => ∀ w' σ, Step w w' → RelS K cls w' μ → RelE K cls w' ρ σ → D.nx σ w'.H
  | .rt d μ => ∀ w' v, Step w w' → RelS K cls w' μ → RV K cls w' d v → D.rt v w'.H
  | .bk ρ μ => ∀ w' σ, Step w w' → RelS K cls w' μ → RelE K cls w' ρ σ → D.bk σ w'.H
  | .ct ρ μ => ∀ w' σ, Step w w' → RelS K cls w' μ → RelE K cls w' ρ σ → D.ct σ w'.H
  | .stuck => False
def Off (is : List Nat) (σ σ' : L2.St) : Prop := σ'.length = σ.length ∧ ∀ j, j ∉ is → σ'[j]? = σ[j]?
theorem Off.refl {is : List Nat} {σ : L2.St} : Off is σ σ := ⟨rfl, fun _ _ => rfl⟩
theorem Off.set {i : Nat} {σ : L2.St} {v : Option V} : Off [i] σ (σ.set i v) := ⟨List.length_set, fun j hj => List.getElem?_set_ne fun e => hj (by rw [e]; exact List.mem_cons_self)⟩
theorem Off.trans {is js : List Nat} {σ σ1 σ2 : L2.St} (a : Off is σ σ1) (b : Off js σ1 σ2) : Off (is ++ js) σ σ2 := ⟨b.1.trans a.1, fun j hj => (b.2 j fun z => hj (List.mem_append_right _ z)).trans (a.2 j fun z => hj (List.mem_append_left _ z))⟩
section
variable (X : Cx) (cls : Nat → Option Addr)
def SS (st : Stmt) (f : FS) : Prop := ∃ t, PS X st t ∧ ∀ (D : Ends) (σ : L2.St) (w : Wd) (ρ : Env) (μ : Store), RelS X.K cls w μ → RelE X.K cls w ρ σ → PostS X.K cls w D (f ρ μ) → t D σ w.H
def SSs (st : List Stmt) (f : FS) : Prop := ∃ t, PSs X st t ∧ ∀ (D : Ends) (σ : L2.St) (w : Wd) (ρ : Env) (μ : Store), RelS X.K cls w μ → RelE X.K cls w ρ σ → PostS X.K cls w D (f ρ μ) → t D σ w.H
/-- a target; is: the slots that it writes -/
def SG (tg : Expr) (is : List Nat) (g : D → Env → Store → Res Env) : Prop := ∃ t, PG X tg t ∧ ∀ (v : V) (d : D) (σ : L2.St) (w : Wd) (ρ : Env) (μ : Store) (Q : L2.St → Hp → Prop), RelS X.K cls w μ → RelE X.K cls w ρ σ → RV X.K cls w d v →
  PostR X.K cls w (fun w' ρ' => ∀ σ', RelE X.K cls w' ρ' σ' → Off is σ σ' → Q σ' w'.H) (g d ρ μ) → t v σ w.H Q
def SGs (ts : List Expr) (is : List Nat) (g : List D → Env → Store → Res Env) : Prop := ∃ t, PGs X ts t ∧ ∀ (vs : List V) (ds : List D) (σ : L2.St) (w : Wd) (ρ : Env) (μ : Store) (Q : L2.St → Hp → Prop), RelS X.K cls w μ → RelE X.K cls w ρ σ → RVs X.K cls w ds vs →
  PostR X.K cls w (fun w' ρ' => ∀ σ', RelE X.K cls w' ρ' σ' → Off is σ σ' → Q σ' w'.H) (g ds ρ μ) → t vs σ w.H Q
end
theorem PostS.step {K : PySem.W.Frag} {cls : Nat → Option Addr} {w w' : Wd} {D : Ends} {r : SR} (s : Step w w') (h : PostS K cls w D r) : PostS K cls w' D r := by
  cases r with
  | nx ρ μ => exact fun w2 σ s2 => h w2 σ (s.trans s2)
  | rt ρ μ => exact fun w2 σ s2 => h w2 σ (s.trans s2)
  | bk ρ μ => exact fun w2 σ s2 => h w2 σ (s.trans s2)
  | ct ρ μ => exact fun w2 σ s2 => h w2 σ (s.trans s2)
  | stuck => exact h
/-- ahead of a statement's reading an expression's -/
def rS {α : Type} (r : Res α) (f : α → Store → SR) : SR := match r with
  | .ok a μ => f a μ
  | .stuck => .stuck
@[simp] theorem rS_ok {α : Type} {a : α} {μ : Store} {f : α → Store → SR} : rS (.ok a μ) f = f a μ := rfl
@[simp] theorem rS_stuck {α : Type} {f : α → Store → SR} : rS (.stuck : Res α) f = .stuck := rfl
theorem PostS.bind {α : Type} {K : PySem.W.Frag} {cls : Nat → Option Addr} {w : Wd} {D : Ends} {r : Res α} {f : α → Store → SR}
    (h : PostS K cls w D (rS r f)) : PostR K cls w (fun w' a => ∃ μ', RelS K cls w' μ' ∧ PostS K cls w' D (f a μ')) r := by
  cases r with
  | ok a μ => exact fun w' s S => ⟨μ, S, PostS.step s h⟩
  | stuck => exact h
def sNext : FS := fun ρ μ => .nx ρ μ
def sSeq (f g : FS) : FS := fun ρ μ => match f ρ μ with
  | .nx ρ1 μ1 => g ρ1 μ1
  | r => r
def sIf (c : FT) (f g : FS) : FS := fun ρ μ => rS (c ρ μ) fun b μ1 => if b = true then f ρ μ1 else g ρ μ1
def sRet (fe : FE) : FS := fun ρ μ => rS (fe ρ μ) fun d μ1 => .rt d μ1
def sExpr (fe : FE) : FS := fun ρ μ => rS (fe ρ μ) fun _ μ1 => .nx ρ μ1
def sNever : FS := fun _ _ => .stuck
def sAsg (g : D → Env → Store → Res Env) (fe : FE) : FS := fun ρ μ => rS (fe ρ μ) fun d μ1 => rS (g d ρ μ1) fun ρ1 μ2 => .nx ρ1 μ2
def gVar (i : Nat) : D → Env → Store → Res Env := fun d ρ μ => if i < ρ.length then .ok (ρ.set i (some d)) μ else .stuck
def gNil : List D → Env → Store → Res Env := fun ds ρ μ => match ds with
  | [] => .ok ρ μ
  | _ => .stuck
def gCons (g : D → Env → Store → Res Env) (h : List D → Env → Store → Res Env) : List D → Env → Store → Res Env := fun ds ρ μ => match ds with
  | [] => .stuck
  | d :: r => (g d ρ μ).bind fun ρ1 μ1 => h r ρ1 μ1
def gTup (n : Nat) (h : List D → Env → Store → Res Env) : D → Env → Store → Res Env := fun d ρ μ => match d with
  | .tup ds => if ds.length = n then h ds ρ μ else .stuck
  | _ => .stuck
/-- xs[i] = v, a list at a place -/
def gIx (fo fi : FE) : D → Env → Store → Res Env := fun v ρ μ => (fo ρ μ).bind fun d μ1 => (fi ρ μ1).bind fun e μ2 => match d, e with
  | .loc n, .int i => match μ2[n]? with
    | some (.lst es) => match ixN es.length i with
      | some j => .ok ρ (μ2.set n (.lst (es.set j v)))
      | none => .stuck
    | _ => .stuck
  | _, _ => .stuck
/-- x op= e on a name -/
def sAug (i : Nat) (g : D → D → Store → Res D) (fe : FE) : FS := fun ρ μ => match ρ[i]? with
  | some (some x) => rS (fe ρ μ) fun y μ1 => rS (g x y μ1) fun z μ2 => if i < ρ.length then .nx (ρ.set i (some z)) μ2 else .stuck
  | _ => .stuck
section
variable {X : Cx} {cls : Nat → Option Addr} {st : Stmt} {rest : List Stmt} {f g : FS} {e : Expr} {fe : FE} {pos : Pos}
theorem RelE.set {K : PySem.W.Frag} {w : Wd} {ρ : Env} {σ : L2.St} {i : Nat} {d : D} {v : V} (h : RelE K cls w ρ σ) (r : RV K cls w d v) : RelE K cls w (ρ.set i (some d)) (σ.set i (some v)) := by
  refine ⟨by rw [List.length_set, List.length_set]; exact h.1, fun j d' e => ?_⟩
  by_cases hj : i = j
  · subst hj
    by_cases hl : i < ρ.length
    · rw [List.getElem?_set_self hl] at e
      cases e
      exact ⟨v, List.getElem?_set_self (by rw [h.1]; exact hl), r⟩
    · rw [List.getElem?_eq_none (by rw [List.length_set]; omega)] at e
      cases e
  · rw [List.getElem?_set_ne hj] at e
    obtain ⟨v', h1, h2⟩ := h.2 j d' e
    exact ⟨v', by rw [List.getElem?_set_ne hj]; exact h1, h2⟩
theorem sss_nil : SSs X cls [] sNext := ⟨_, pss_nil, fun D σ w ρ μ S E h => h w σ Step.refl S E⟩
theorem sss_cons (h1 : SS X cls st f) (h2 : SSs X cls rest g) : SSs X cls (st :: rest) (sSeq f g) := by
  obtain ⟨t1, p1, h1⟩ := h1
  obtain ⟨t2, p2, h2⟩ := h2
  refine ⟨_, pss_cons p1 p2, fun D σ w ρ μ S E h => ?_⟩
  refine h1 _ σ w ρ μ S E ?_
  unfold sSeq at h
  cases hf : f ρ μ with
  | nx ρ1 μ1 =>
    rw [hf] at h
    exact fun w' σ' s' S' E' => h2 D σ' w' ρ1 μ1 S' E' (PostS.step s' h)
  | rt d μ1 => rw [hf] at h; exact h
  | bk ρ1 μ1 => rw [hf] at h; exact h
  | ct ρ1 μ1 => rw [hf] at h; exact h
  | stuck => rw [hf] at h; exact h
theorem sss_one (h1 : SS X cls st f) : SSs X cls [st] f := by
  obtain ⟨t1, p1, h1⟩ := h1
  exact ⟨_, pss_one p1, h1⟩
theorem ss_pass : SS X cls (.Pass pos) sNext := ⟨_, ps_pass, fun D σ w ρ μ S E h => h w σ Step.refl S E⟩
theorem ss_break : SS X cls (.Break pos) (fun ρ μ => .bk ρ μ) := ⟨_, ps_break, fun D σ w ρ μ S E h => h w σ Step.refl S E⟩
theorem ss_continue : SS X cls (.Continue pos) (fun ρ μ => .ct ρ μ) := ⟨_, ps_continue, fun D σ w ρ μ S E h => h w σ Step.refl S E⟩
theorem ss_never : SS X cls st sNever := ⟨_, ps_never, fun D σ w ρ μ S E h => h.elim⟩
theorem sss_never {sts : List Stmt} : SSs X cls sts sNever := ⟨_, pss_never, fun D σ w ρ μ S E h => h.elim⟩
theorem ss_expr (he : SE X cls e fe) (hs : swapsWith e none pos.line X.env = pure false := by rfl) : SS X cls (.Expr e pos) (sExpr fe) := by
  obtain ⟨t1, p1, h1⟩ := he
  refine ⟨_, ps_expr p1 hs, fun D σ w ρ μ S E h => ?_⟩
  exact h1 σ _ w ρ μ S E ((PostS.bind h).imp fun w1 d s1 ⟨μ1, S1, q1⟩ v r1 => q1 w1 σ Step.refl S1 (E.mono s1.kp))
theorem ss_ret (he : SE X cls e fe) : SS X cls (.Return (some e) pos) (sRet fe) := by
  obtain ⟨t1, p1, h1⟩ := he
  refine ⟨_, ps_ret p1, fun D σ w ρ μ S E h => ?_⟩
  exact h1 σ _ w ρ μ S E ((PostS.bind h).imp fun w1 d s1 ⟨μ1, S1, q1⟩ v r1 => q1 w1 v Step.refl S1 r1)
theorem ss_retN : SS X cls (.Return none pos) (fun _ μ => .rt .non μ) := ⟨_, ps_retN, fun D σ w ρ μ S E h => h w _ Step.refl S rfl⟩
theorem ss_if {c : Expr} {a b : List Stmt} {fc : FT} (hc : ST X cls c fc) (ha : SSs X cls a f) (hb : SSs X cls b g) : SS X cls (.If c a b pos) (sIf fc f g) := by
  obtain ⟨t0, p0, h0⟩ := hc
  obtain ⟨t1, p1, h1⟩ := ha
  obtain ⟨t2, p2, h2⟩ := hb
  refine ⟨_, ps_if p0 p1 p2, fun D σ w ρ μ S E h => ?_⟩
  refine h0 σ _ w ρ μ S E ((PostS.bind h).imp fun w1 b s1 ⟨μ1, S1, q1⟩ => ?_)
  cases b with
  | true => exact h1 D σ w1 ρ μ1 S1 (E.mono s1.kp) q1
  | false => exact h2 D σ w1 ρ μ1 S1 (E.mono s1.kp) q1
theorem sg_var (i : Nat) {x : Str} (hN : X.N.Nodup) (hi : X.N[i]? = some x := by rfl) (hx : Loc X.env.scope x := by first | exact .inl rfl | exact .inr rfl) (hf : X.fn x = true ∨ X.env.scope.names.lookup x = some .local := by first | exact .inl rfl | exact .inr rfl) : SG X cls (.Name x pos) [i] (gVar i) := by
  refine ⟨_, pg_name hN hi hx hf, fun v d σ w ρ μ Q S E r h => ?_⟩
  unfold gVar at h
  split at h
  · exact h w Step.refl S _ (E.set r) Off.set
  · exact h.elim
theorem sgs_nil : SGs X cls [] [] gNil := by
  refine ⟨_, pgs_nil, fun vs ds σ w ρ μ Q S E r h => ?_⟩
  cases ds with
  | nil => exact ⟨r, h w Step.refl S _ E Off.refl⟩
  | cons d ds => exact h.elim
theorem sgs_cons {t : Expr} {ts : List Expr} {is js : List Nat} {g1 : D → Env → Store → Res Env} {g2 : List D → Env → Store → Res Env} (h1 : SG X cls t is g1) (h2 : SGs X cls ts js g2)
    (hs : (assignEach (t :: ts) X.env).map (·.2) = assign t X.env :: (assignEach ts X.env).map (·.2) := by rfl) : SGs X cls (t :: ts) (is ++ js) (gCons g1 g2) := by
  obtain ⟨t1, p1, h1⟩ := h1
  obtain ⟨t2, p2, h2⟩ := h2
  refine ⟨_, pgs_cons p1 p2 hs, fun vs ds σ w ρ μ Q S E r h => ?_⟩
  cases ds with
  | nil => exact h.elim
  | cons d ds =>
    obtain ⟨v, vr, e, r1, r2⟩ := r
    refine ⟨v, vr, e, ?_⟩
    exact h1 v d σ w ρ μ _ S E r1 ((PostR.bind h).imp fun w1 ρ1 s1 ⟨μ1, S1, q1⟩ σ1 E1 o1 => h2 vr ds σ1 w1 ρ1 μ1 Q S1 E1 (r2.mono s1.kp) (q1.imp fun w2 ρ2 s2 q2 σ2 E2 o2 => q2 σ2 E2 (o1.trans o2)))
theorem sg_tup {ts : List Expr} {k n : Nat} {is : List Nat} {g2 : List D → Env → Store → Res Env} (hc : X.calm = true) (h2 : SGs X cls ts is g2) (hn : (assignEach ts X.env).length = n := by rfl) (hst : (assignEach ts X.env).findIdx? (·.1) = none := by rfl) :
    SG X cls (.Tuple ts k pos) is (gTup n g2) := by
  obtain ⟨t2, p2, h2⟩ := h2
  refine ⟨_, pg_tup hc p2 hn hst, fun v d σ w ρ μ Q S E r h => ?_⟩
  cases d with
  | tup ds =>
    simp only [gTup] at h
    split at h
    · rename_i hl
      obtain ⟨a, vs, e, t, q⟩ := r
      exact ⟨a, vs, e, t.sq, by rw [q.length]; exact hl, h2 vs ds σ w ρ μ Q S E q h⟩
    · exact h.elim
  | _ => exact h.elim
theorem sg_ix {o i : Expr} {fo fi : FE} (ho : SE X cls o fo) (hi : SE X cls i fi)
    (ha : ∀ v, assign (.Subscript o i pos) X.env v = (do
      let ov ← holding [v] (eval o X.env)
      let iv ← holding [v, ov] (eval i X.env)
      standAt pos
      holding [v, ov, iv] (setItem ov iv v)
      release [v, ov, iv] []) := by intro _; rfl) : SG X cls (.Subscript o i pos) [] (gIx fo fi) := by
  obtain ⟨t1, p1, h1⟩ := ho
  obtain ⟨t2, p2, h2⟩ := hi
  refine ⟨_, pg_sub p1 p2 set_list ha, fun v d σ w ρ μ Q S E r h => ?_⟩
  refine h1 σ _ w ρ μ S E ((PostR.bind h).imp fun w1 d1 s1 ⟨μ1, S1, q1⟩ v1 r1 => ?_)
  refine h2 σ _ w1 ρ μ1 S1 (E.mono s1.kp) ((PostR.bind q1).imp fun w2 d2 s2 ⟨μ2, S2, q2⟩ v2 r2 => ?_)
  cases d1 with
  | loc n =>
    cases d2 with
    | int i =>
      simp only at q2
      split at q2
      · rename_i es hc
        split at q2
        · rename_i j hj
          obtain ⟨a, vs, ex, hn, h3, h4⟩ := S2.lst (r1.mono s2.kp) hc
          have rv := r.mono (s1.trans s2).kp
          exact ⟨a, vs, i, j, ex, r2, h3, by rw [h4.length]; exact hj, q2 (w2.up a (.lst (vs.set j v))) (Step.write hn) (wlst S2 hn (RVs.set rv j h4)) σ (E.mono ((s1.trans s2).trans (Step.write hn)).kp) Off.refl⟩
        · exact q2.elim
      · exact q2.elim
    | _ => exact q2.elim
  | _ => cases d2 <;> exact q2.elim
theorem ss_asg {tg : Expr} {is : List Nat} {g1 : D → Env → Store → Res Env} (he : SE X cls e fe) (hg : SG X cls tg is g1) (hs : swapsWithSole [tg] e pos.line X.env = pure false := by rfl) (hw : swappedStores [tg] e X.env = pure none := by rfl)
    (h1 : (assignEach [tg] X.env).map (·.2) = [assign tg X.env] := by rfl) : SS X cls (.Assign [tg] e pos) (sAsg g1 fe) := by
  obtain ⟨t1, p1, h1'⟩ := he
  obtain ⟨t2, p2, h2⟩ := hg
  refine ⟨_, ps_asg p1 p2 hs hw h1, fun D σ w ρ μ S E h => ?_⟩
  refine h1' σ _ w ρ μ S E ((PostS.bind h).imp fun w1 d s1 ⟨μ1, S1, q1⟩ v r1 => ?_)
  exact h2 v d σ w1 ρ μ1 D.nx S1 (E.mono s1.kp) r1 ((PostS.bind q1).imp fun w2 ρ2 s2 ⟨μ2, S2, q2⟩ σ2 E2 _ => q2 w2 σ2 Step.refl S2 E2)
theorem ss_set (i : Nat) {x : Str} {pos' : Pos} (hN : X.N.Nodup) (he : SE X cls e fe) (hi : X.N[i]? = some x := by rfl) (hx : Loc X.env.scope x := by first | exact .inl rfl | exact .inr rfl) (hs : swapsWith e (some (.Name x pos')) pos.line X.env = pure false := by rfl)
    (hf : X.fn x = true ∨ X.env.scope.names.lookup x = some .local := by first | exact .inl rfl | exact .inr rfl) : SS X cls (.Assign [.Name x pos'] e pos) (sAsg (gVar i) fe) := by
  obtain ⟨t1, p1, h1⟩ := he
  refine ⟨_, ps_set hN hi hx p1 hs hf, fun D σ w ρ μ S E h => ?_⟩
  refine h1 σ _ w ρ μ S E ((PostS.bind h).imp fun w1 d s1 ⟨μ1, S1, q1⟩ v r1 => ?_)
  unfold gVar at q1
  split at q1
  · exact q1 w1 _ Step.refl S1 ((E.mono s1.kp).set r1)
  · exact q1.elim
/-- a, b = x, y on plain local names -/
def sPar (i j : Nat) (fa fb : FE) : FS := fun ρ μ => rS (fa ρ μ) fun x μ1 => rS (fb ρ μ1) fun y μ2 => if i < ρ.length ∧ j < ρ.length then .nx ((ρ.set i (some x)).set j (some y)) μ2 else .stuck
theorem ss_par (i j : Nat) {x y : Str} {a b : Expr} {fa fb : FE} {px py pt : Pos} {kt k2 pt2} (hc : X.calm = true) (hN : X.N.Nodup) (ha : SE X cls a fa) (hb : SE X cls b fb) (hi : X.N[i]? = some x := by rfl) (hj : X.N[j]? = some y := by rfl) (hij : i ≠ j := by decide)
    (hx : X.env.scope.names.lookup x = some .local := by rfl) (hy : X.env.scope.names.lookup y = some .local := by rfl) (hs1 : starEach [a, b] X.env = (false, eval a X.env) :: starEach [b] X.env := by rfl) (hs2 : starEach [b] X.env = (false, eval b X.env) :: starEach [] X.env := by rfl)
    (hw : swappedStores [.Tuple [.Name x px, .Name y py] kt pt] (.Tuple [a, b] k2 pt2) X.env = pure (some [x, y]) := by rfl)
    (hs : swapsWithSole [.Tuple [.Name x px, .Name y py] kt pt] (.Tuple [a, b] k2 pt2) pos.line X.env = pure false := by rfl) :
    SS X cls (.Assign [.Tuple [.Name x px, .Name y py] kt pt] (.Tuple [a, b] k2 pt2) pos) (sPar i j fa fb) := by
  obtain ⟨t1, p1, h1⟩ := ha
  obtain ⟨t2, p2, h2⟩ := hb
  refine ⟨_, ps_par hc hN hi hj hij hx hy (pa_cons p1 (pa_cons p2 pa_nil hs2) hs1) hw hs, fun D σ w ρ μ S E h => ?_⟩
  refine h1 σ _ w ρ μ S E ((PostS.bind h).imp fun w1 d s1 ⟨μ1, S1, q1⟩ v r1 => ?_)
  refine h2 σ _ w1 ρ μ1 S1 (E.mono s1.kp) ((PostS.bind q1).imp fun w2 d2 s2 ⟨μ2, S2, q2⟩ v2 r2 => ?_)
  split at q2
  · exact ⟨v, v2, rfl, q2 w2 _ Step.refl S2 (((E.mono (s1.trans s2).kp).set (r1.mono s2.kp)).set r2)⟩
  · exact q2.elim
/-- a = b = e -/
def sAsg2 (g1 g2 : D → Env → Store → Res Env) (fe : FE) : FS := fun ρ μ => rS (fe ρ μ) fun d μ1 => rS (g1 d ρ μ1) fun ρ1 μ2 => rS (g2 d ρ1 μ2) fun ρ2 μ3 => .nx ρ2 μ3
theorem ss_asg2 {t1 t2 : Expr} {is js : List Nat} {g1 g2 : D → Env → Store → Res Env} (he : SE X cls e fe) (h1 : SG X cls t1 is g1) (h2 : SG X cls t2 js g2)
    (k : ∀ {te : TE} {u1 u2 : TG}, PE X e te → PG X t1 u1 → PG X t2 u2 → PS X (.Assign [t1, t2] e pos) (tAsg2 te u1 u2) := by exact fun p q r => ps_asg2 p q r) : SS X cls (.Assign [t1, t2] e pos) (sAsg2 g1 g2 fe) := by
  obtain ⟨t0, p0, h0⟩ := he
  obtain ⟨t1, p1, h1⟩ := h1
  obtain ⟨t2, p2, h2⟩ := h2
  refine ⟨_, k p0 p1 p2, fun D σ w ρ μ S E h => ?_⟩
  refine h0 σ _ w ρ μ S E ((PostS.bind h).imp fun w1 d s1 ⟨μ1, S1, q1⟩ v r1 => ?_)
  refine h1 v d σ w1 ρ μ1 _ S1 (E.mono s1.kp) r1 ((PostS.bind q1).imp fun w2 ρ2 s2 ⟨μ2, S2, q2⟩ σ2 E2 _ => ?_)
  exact h2 v d σ2 w2 ρ2 μ2 D.nx S2 E2 (r1.mono s2.kp) ((PostS.bind q2).imp fun w3 ρ3 s3 ⟨μ3, S3, q3⟩ σ3 E3 _ => q3 w3 σ3 Step.refl S3 E3)
/-- ints: x += e -/
def oAddI : D → D → Store → Res D := fun d e μ => match d, e with
  | .int i, .int j => .ok (.int (i + j)) μ
  | _, _ => .stuck
theorem ss_augAdd (i : Nat) {x : Str} {pos' : Pos} (hN : X.N.Nodup) (he : SE X cls e fe) (hi : X.N[i]? = some x := by rfl) (hx : Loc X.env.scope x := by first | exact .inl rfl | exact .inr rfl) (hf : X.fn x = true ∨ X.env.scope.names.lookup x = some .local := by first | exact .inl rfl | exact .inr rfl) :
    SS X cls (.AugAssign (.Name x pos') .Add e pos) (sAug i oAddI fe) := by
  obtain ⟨t1, p1, h1⟩ := he
  refine ⟨_, ps_aug hN hi hx p1 ip_add hf, fun D σ w ρ μ S E h => ?_⟩
  unfold sAug at h
  split at h
  · rename_i d hd
    obtain ⟨v, e1, r⟩ := E.2 i d hd
    refine ⟨v, e1, h1 σ _ w ρ μ S E ((PostS.bind h).imp fun w1 y s1 ⟨μ1, S1, q1⟩ u r1 => ?_)⟩
    have r := r.mono s1.kp
    cases d with
    | int i =>
      cases y with
      | int j =>
        refine ⟨i, j, r, r1, ?_⟩
        simp only [oAddI, rS_ok] at q1
        split at q1
        · exact q1 w1 _ Step.refl S1 ((E.mono s1.kp).set rfl)
        · exact q1.elim
      | _ => exact q1.elim
    | _ => cases y <;> exact q1.elim
  · exact h.elim
end
end Fw

set_option Elab.async false
set_option linter.all false
set_option maxRecDepth 100000
set_option autoImplicit false
/-! Loops, comprehensions, defs. -/
namespace Fw
open PySem L2 PyProof.Rows

/-! ### the readings as such -/
section
variable {X : Cx} {cls : Nat → Option Addr}
def TEof (K : PySem.W.Frag) (cls : Nat → Option Addr) (f : FE) : TE := fun σ H Q => ∃ (w : Wd) (ρ : Env) (μ : Store), w.H = H ∧ RelS K cls w μ ∧ RelE K cls w ρ σ ∧ PostR K cls w (fun w' d => ∀ v, RV K cls w' d v → Q v w'.H) (f ρ μ)
theorem SE.pe {e : Expr} {f : FE} (h : SE X cls e f) : PE X e (TEof X.K cls f) := by
  obtain ⟨t, p, k⟩ := h
  refine ⟨fun pins s σ H Q I z => ?_⟩
  obtain ⟨w, ρ, μ, rfl, S, E, q⟩ := z
  exact p.run pins s σ w.H Q I (k σ Q w ρ μ S E q)
def TTof (K : PySem.W.Frag) (cls : Nat → Option Addr) (f : FT) : TT := fun σ H Q => ∃ (w : Wd) (ρ : Env) (μ : Store), w.H = H ∧ RelS K cls w μ ∧ RelE K cls w ρ σ ∧ PostR K cls w (fun w' b => Q b w'.H) (f ρ μ)
def STs (X : Cx) (cls : Nat → Option Addr) (es : List Expr) (f : FT) : Prop := PTs X es (TTof X.K cls f)
theorem sts_nil : STs X cls [] (fun _ μ => .ok true μ) := by
  refine ⟨fun pins s σ H Q I z => ?_⟩
  obtain ⟨w, ρ, μ, rfl, S, E, q⟩ := z
  exact pts_nil.run pins s σ w.H Q I (q w Step.refl S)
theorem sts_one {e : Expr} {f : FT} (h : ST X cls e f) : STs X cls [e] f := by
  obtain ⟨t, p, k⟩ := h
  refine ⟨fun pins s σ H Q I z => ?_⟩
  obtain ⟨w, ρ, μ, rfl, S, E, q⟩ := z
  exact (pts_one p).run pins s σ w.H Q I (k σ Q w ρ μ S E q)
def TGof (K : PySem.W.Frag) (cls : Nat → Option Addr) (is : List Nat) (g : D → Env → Store → Res Env) : TG := fun v σ H Q => ∃ (w : Wd) (ρ : Env) (μ : Store) (d : D), w.H = H ∧ RelS K cls w μ ∧ RelE K cls w ρ σ ∧ RV K cls w d v ∧
  PostR K cls w (fun w' ρ' => ∀ σ', RelE K cls w' ρ' σ' → Off is σ σ' → Q σ' w'.H) (g d ρ μ)
theorem SG.pg {e : Expr} {is : List Nat} {g : D → Env → Store → Res Env} (h : SG X cls e is g) : PG X e (TGof X.K cls is g) := by
  obtain ⟨t, p, k⟩ := h
  refine ⟨fun pins s σ H v u Q I r z => ?_⟩
  obtain ⟨w, ρ, μ, d, rfl, S, E, rd, q⟩ := z
  exact p.run pins s σ w.H v u Q I r (k v d σ w ρ μ Q S E rd q)
end

/-! ### what is walked -/
abbrev FI := Env → Store → Res (List D × Option Nat)
def srcOk (src : Option Nat) (items : List D) (μ : Store) : Bool := match src with
  | none => true
  | some n => decide (μ[n]? = some (.lst items))
def Wk (K : PySem.W.Frag) (cls : Nat → Option Addr) (J : It) (w : Wd) (items : List D) (src : Option Nat) : Prop :=
  ∀ (i : Nat) (w' : Wd) (μ' : Store), Kp w w' → RelS K cls w' μ' → srcOk src items μ' = true →
    (∀ d, items[i]? = some d → J.go i w'.H ∧ ∀ x H2, J.yld i w'.H x H2 → ∃ w2 : Wd, w2.H = H2 ∧ Step w' w2 ∧ RelS K cls w2 μ' ∧ RV K cls w2 d x) ∧
    (items.length ≤ i → J.stop i w'.H)
def SI (X : Cx) (cls : Nat → Option Addr) (tg iter : Expr) (f : FI) : Prop := ∃ wi, PI X tg iter wi ∧ ∀ (σ : L2.St) (R : It → Hp → Prop) (w : Wd) (ρ : Env) (μ : Store), RelS X.K cls w μ → RelE X.K cls w ρ σ →
  PostR X.K cls w (fun w' it => ∀ J, Wk X.K cls J w' it.1 it.2 → R J w'.H) (f ρ μ) → wi σ w.H R
theorem pi_or {X : Cx} {tg iter : Expr} {a b : TI} (h : PI X tg iter a) (h' : PI X tg iter b) : PI X tg iter (fun σ H R => a σ H R ∨ b σ H R) :=
  ⟨fun pins s σ H R I z => z.elim (h.run pins s σ H R I) (h'.run pins s σ H R I)⟩
def oWalk (d : D) (μ : Store) : Res (List D × Option Nat) := match d with
  | .lst ds => .ok (ds, none) μ
  | .flst is => .ok (is.map .int, none) μ
  | .tup ds => .ok (ds, none) μ
  | .str s => .ok (s.map fun c => .str [c], none) μ
  | .loc n => match μ[n]? with
    | some (.lst ds) => .ok (ds, some n) μ
    | _ => .stuck
  | _ => .stuck
def iOf (fe : FE) : FI := fun ρ μ => (fe ρ μ).bind fun d μ1 => oWalk d μ1
section
variable {K : PySem.W.Frag} {cls : Nat → Option Addr} {w : Wd} {μ : Store}
theorem wk_list {a : Addr} {ds : List D} {src : Option Nat} (h : ∀ (w' : Wd) (μ' : Store), Kp w w' → RelS K cls w' μ' → srcOk src ds μ' = true → ∃ vs, SqL K w'.H a vs ∧ RVs K cls w' ds vs) : Wk K cls (Itl K a) w ds src := by
  intro i w' μ' k S' so
  obtain ⟨vs, h1, h2⟩ := h w' μ' k S' so
  refine ⟨fun d hd => ?_, fun hi => ⟨vs, h1, by rw [h2.length]; exact hi⟩⟩
  obtain ⟨v, hv, rv⟩ := h2.get hd
  refine ⟨⟨vs, v, h1, hv⟩, fun x H2 ⟨e, y⟩ => ⟨w', e.symm, Step.refl, S', ?_⟩⟩
  have := y vs h1
  rw [hv] at this
  cases this
  exact rv
theorem wk_tup {a : Addr} {ds : List D} (h : ∀ (w' : Wd), Kp w w' → ∃ vs, SqT K w'.H a vs ∧ RVs K cls w' ds vs) : Wk K cls (Itt K a) w ds none := by
  intro i w' μ' k S' so
  obtain ⟨vs, h1, h2⟩ := h w' k
  refine ⟨fun d hd => ?_, fun hi => ⟨vs, h1, by rw [h2.length]; exact hi⟩⟩
  obtain ⟨v, hv, rv⟩ := h2.get hd
  refine ⟨⟨vs, v, h1, hv⟩, fun x H2 ⟨e, y⟩ => ⟨w', e.symm, Step.refl, S', ?_⟩⟩
  have := y vs h1
  rw [hv] at this
  cases this
  exact rv
theorem wk_str {s : List Nat} : Wk K cls (Its ⟨s.toArray⟩) w (s.map fun c => .str [c]) none := by
  intro i w' μ' k S' so
  refine ⟨fun d hd => ?_, fun hi => ?_⟩
  · rw [List.getElem?_map, Option.map_eq_some_iff] at hd
    obtain ⟨c, hc, rfl⟩ := hd
    have hi : i < s.length := (List.getElem?_eq_some_iff.mp hc).1
    refine ⟨by show i < s.toArray.size; simpa using hi, fun x H2 ⟨e, c', h1, h2⟩ => ⟨w', e.symm, Step.refl, S', ?_⟩⟩
    have h1 : s.toArray[i]? = some c' := h1
    rw [List.getElem?_toArray, hc] at h1
    cases h1
    rw [h2]
    rfl
  · show s.toArray.size ≤ i
    simpa using hi
theorem wk_range {lo : Int} {n : Nat} : Wk K cls (Itr lo n) w ((List.range n).map fun i => .int (lo + (i : Nat))) none := by
  intro i w' μ' k S' so
  refine ⟨fun d hd => ?_, fun hi => ?_⟩
  · rw [List.getElem?_map, Option.map_eq_some_iff] at hd
    obtain ⟨c, hc, rfl⟩ := hd
    obtain ⟨hi, e⟩ := List.getElem?_eq_some_iff.mp hc
    rw [List.length_range] at hi
    rw [List.getElem_range] at e
    subst e
    exact ⟨hi, fun x H2 ⟨e, h2⟩ => ⟨w', e.symm, Step.refl, S', h2⟩⟩
  · rw [List.length_map, List.length_range] at hi
    exact hi
end
section
variable {X : Cx} {cls : Nat → Option Addr} {tg e a b : Expr} {fe fa fb : FE} {p pos : Pos}
theorem si_of (he : SE X cls e fe) : SI X cls tg e (iOf fe) := by
  obtain ⟨t, p, k⟩ := he
  refine ⟨_, pi_or (pi_list p) (pi_or (pi_tup p) (pi_str p)), fun σ R w ρ μ S E h => ?_⟩
  have h := PostR.bind h
  cases hf : fe ρ μ with
  | stuck => rw [hf] at h; exact h.elim
  | ok d μ1 =>
    have go := k σ
    rw [hf] at h
    cases d with
    | lst ds =>
      refine .inl (go _ w ρ μ S E ?_)
      rw [hf]
      intro w1 s1 S1 v r1
      obtain ⟨μ', S2, q⟩ := h w1 s1 S1
      obtain ⟨a, vs, e1, h1, h2⟩ := r1
      refine ⟨a, e1, ⟨vs, .inl (.inl h1.1)⟩, q w1 Step.refl S2 _ (wk_list fun w' μ' kp S' _ => ?_)⟩
      exact ⟨vs, .inl (.inl (kp.at_ a _ h1.2.1 h1.2.2 h1.1).1), h2.mono kp⟩
    | flst is =>
      refine .inl (go _ w ρ μ S E ?_)
      rw [hf]
      intro w1 s1 S1 v r1
      obtain ⟨μ', S2, q⟩ := h w1 s1 S1
      obtain ⟨a, e1, h1⟩ := r1
      refine ⟨a, e1, ⟨_, h1.sq⟩, q w1 Step.refl S2 _ (wk_list fun w' μ' kp S' _ => ?_)⟩
      exact ⟨_, (h1.mono kp).sq, RVs.ints⟩
    | loc n =>
      refine .inl (go _ w ρ μ S E ?_)
      rw [hf]
      intro w1 s1 S1 v r1
      obtain ⟨μ', S2, q⟩ := h w1 s1 S1
      simp only [oWalk] at q
      split at q
      · rename_i ds hc
        obtain ⟨a, vs, e1, hn, h1, h2⟩ := S2.lst r1 hc
        refine ⟨a, e1, ⟨vs, .inl (.inl h1)⟩, q w1 Step.refl S2 _ (wk_list fun w' μ' kp S' so => ?_)⟩
        have so : μ'[n]? = some (.lst ds) := of_decide_eq_true so
        obtain ⟨a', vs', e2, hn', h3, h4⟩ := S'.lst (x := .ref a) ⟨a, rfl, kp.loc n a hn⟩ so
        cases e2
        exact ⟨vs', .inl (.inl h3), h4⟩
      · exact q.elim
    | tup ds =>
      refine .inr (.inl (go _ w ρ μ S E ?_))
      rw [hf]
      intro w1 s1 S1 v r1
      obtain ⟨μ', S2, q⟩ := h w1 s1 S1
      obtain ⟨a, vs, e1, h1, h2⟩ := r1
      refine ⟨a, e1, ⟨vs, h1.sq⟩, q w1 Step.refl S2 _ (wk_tup fun w' kp => ?_)⟩
      exact ⟨vs, (h1.mono kp).sq, h2.mono kp⟩
    | str s =>
      refine .inr (.inr (go _ w ρ μ S E ?_))
      rw [hf]
      intro w1 s1 S1 v r1
      obtain ⟨μ', S2, q⟩ := h w1 s1 S1
      exact ⟨_, r1, q w1 Step.refl S2 _ wk_str⟩
    | non =>
      refine .inl (go _ w ρ μ S E ?_)
      rw [hf]
      intro w1 s1 S1 v r1
      obtain ⟨μ', S2, q⟩ := h w1 s1 S1
      exact q.elim
    | bl _ =>
      refine .inl (go _ w ρ μ S E ?_)
      rw [hf]
      intro w1 s1 S1 v r1
      obtain ⟨μ', S2, q⟩ := h w1 s1 S1
      exact q.elim
    | int _ =>
      refine .inl (go _ w ρ μ S E ?_)
      rw [hf]
      intro w1 s1 S1 v r1
      obtain ⟨μ', S2, q⟩ := h w1 s1 S1
      exact q.elim
    | obj _ _ _ =>
      refine .inl (go _ w ρ μ S E ?_)
      rw [hf]
      intro w1 s1 S1 v r1
      obtain ⟨μ', S2, q⟩ := h w1 s1 S1
      exact q.elim
def iRange1 (fa : FE) : FI := fun ρ μ => (fa ρ μ).bind fun d μ1 => match d with
  | .int j => if -1000000 ≤ j ∧ j ≤ 1000000 then .ok ((List.range j.toNat).map fun i => .int (0 + (i : Nat)), none) μ1 else .stuck
  | _ => .stuck
theorem si_range1 (hg : Gl X "range") (hm : X.mg "range" = none) (ha : SE X cls a fa) (hs : starEach [a] X.env = [(false, eval a X.env)] := by rfl) : SI X cls tg (.Call (.Name "range" p) [a] [] pos) (iRange1 fa) := by
  obtain ⟨t, p, k⟩ := ha
  refine ⟨_, pi_range1 hg hm (pa_cons p pa_nil hs) hs, fun σ R w ρ μ S E h => ?_⟩
  refine k σ _ w ρ μ S E ((PostR.bind h).imp fun w1 d s1 ⟨μ1, S1, q1⟩ v r1 => ?_)
  cases d with
  | int j =>
    simp only at q1
    split at q1
    · rename_i hj
      exact ⟨j, by rw [show v = V.int j from r1], by omega, by omega, q1 w1 Step.refl S1 _ wk_range⟩
    · exact q1.elim
  | _ => exact q1.elim
def iRange2 (fa fb : FE) : FI := fun ρ μ => (fa ρ μ).bind fun d μ1 => (fb ρ μ1).bind fun e μ2 => match d, e with
  | .int i, .int j => if -1000000 ≤ i ∧ i ≤ 1000000 ∧ -1000000 ≤ j ∧ j ≤ 1000000 then .ok ((List.range (j - i).toNat).map fun k => .int (i + (k : Nat)), none) μ2 else .stuck
  | _, _ => .stuck
theorem si_range2 (hg : Gl X "range") (hm : X.mg "range" = none) (ha : SE X cls a fa) (hb : SE X cls b fb) (hs : starEach [a, b] X.env = [(false, eval a X.env), (false, eval b X.env)] := by rfl) (hs2 : starEach [b] X.env = [(false, eval b X.env)] := by rfl) :
    SI X cls tg (.Call (.Name "range" p) [a, b] [] pos) (iRange2 fa fb) := by
  obtain ⟨t, p, k⟩ := ha
  obtain ⟨t2, p2, k2⟩ := hb
  refine ⟨_, pi_range2 hg hm (pa_cons p (pa_cons p2 pa_nil hs2) (by rw [hs, hs2])) hs hs2, fun σ R w ρ μ S E h => ?_⟩
  refine k σ _ w ρ μ S E ((PostR.bind h).imp fun w1 d s1 ⟨μ1, S1, q1⟩ v r1 => ?_)
  refine k2 σ _ w1 ρ μ1 S1 (E.mono s1.kp) ((PostR.bind q1).imp fun w2 d2 s2 ⟨μ2, S2, q2⟩ v2 r2 => ?_)
  cases d with
  | int i =>
    cases d2 with
    | int j =>
      simp only at q2
      split at q2
      · rename_i hj
        exact ⟨i, j, by rw [show v = V.int i from r1, show v2 = V.int j from r2], ⟨by omega, by omega, by omega, by omega⟩, q2 w2 Step.refl S2 _ wk_range⟩
      · exact q2.elim
    | _ => exact q2.elim
  | _ => cases d2 <;> exact q2.elim
end

/-- what comes first, the rest at the base -/
theorem PostS.bind0 {α : Type} {K : PySem.W.Frag} {cls : Nat → Option Addr} {w w' : Wd} {D : Ends} {r : Res α} {f : α → Store → SR}
    (h : PostS K cls w D (rS r f)) : PostR K cls w' (fun w3 a => Step w' w3 ∧ ∃ μ', RelS K cls w3 μ' ∧ PostS K cls w D (f a μ')) r := by
  cases r with
  | ok a μ => exact fun w3 s S => ⟨s, μ, S, h⟩
  | stuck => exact h
theorem PostR.bind0 {α β : Type} {K : PySem.W.Frag} {cls : Nat → Option Addr} {w w' : Wd} {R : Wd → β → Prop} {r : Res α} {f : α → Store → Res β}
    (h : PostR K cls w R (r.bind f)) : PostR K cls w' (fun w3 a => Step w' w3 ∧ ∃ μ', RelS K cls w3 μ' ∧ PostR K cls w R (f a μ')) r := by
  cases r with
  | ok a μ => exact fun w3 s S => ⟨s, μ, S, h⟩
  | stuck => exact h

/-! ### for -/
def forL (items : List D) (src : Option Nat) (g : D → Env → Store → Res Env) (body : FS) : List D → Env → Store → SR
  | [], ρ, μ => if srcOk src items μ = true then .nx ρ μ else .stuck
  | d :: ds, ρ, μ => if srcOk src items μ = true then rS (g d ρ μ) fun ρ1 μ1 => match body ρ1 μ1 with
      | .nx ρ2 μ2 => forL items src g body ds ρ2 μ2
      | .ct ρ2 μ2 => forL items src g body ds ρ2 μ2
      | .bk ρ2 μ2 => .nx ρ2 μ2
      | .rt d μ2 => .rt d μ2
      | .stuck => .stuck
    else .stuck
def sFor (fi : FI) (g : D → Env → Store → Res Env) (body : FS) : FS := fun ρ μ => rS (fi ρ μ) fun it μ1 => forL it.1 it.2 g body it.1 ρ μ1
theorem ss_for {X : Cx} {cls : Nat → Option Addr} {tg iter : Expr} {body : List Stmt} {pos : Pos} {fi : FI} {is : List Nat} {g : D → Env → Store → Res Env} {fb : FS} (hp : PassesOwn (model X.prog X.w) X.A X.env X.xe) (hc : X.calm = true)
    (hi : SI X cls tg iter fi) (hg : SG X cls tg is g) (hb : SSs X cls body fb) (hs : ∀ x, foldedSetIterable iter X.env x = pure x := by intro _; rfl) : SS X cls (.For tg iter body [] pos) (sFor fi g fb) := by
  obtain ⟨t1, p1, h1⟩ := hi
  obtain ⟨t2, p2, h2⟩ := hg
  obtain ⟨t3, p3, h3⟩ := hb
  refine ⟨_, ps_for hp hc p1 p2 p3 hs, fun D σ w ρ μ S E h => ?_⟩
  refine h1 σ _ w ρ μ S E ((PostS.bind h).imp fun w1 it s1 ⟨μ1, S1, q1⟩ J wk => ?_)
  obtain ⟨items, src⟩ := it
  have E1 := E.mono s1.kp
  refine ⟨fun i m σ' H' => m = items.length - i ∧ i ≤ items.length ∧ ∃ (w' : Wd) (ρ' : Env) (μ' : Store), w'.H = H' ∧ Step w1 w' ∧ RelS X.K cls w' μ' ∧ RelE X.K cls w' ρ' σ' ∧ PostS X.K cls w1 D (forL items src g fb (items.drop i) ρ' μ'),
    ⟨items.length, by simp, Nat.zero_le _, w1, ρ, μ1, rfl, Step.refl, S1, E1, by simpa using q1⟩, ?_⟩
  rintro i m σ' H' ⟨rfl, hle, w', ρ', μ', rfl, st, S', E', q⟩
  by_cases hlt : i < items.length
  · rw [List.drop_eq_getElem_cons hlt] at q
    simp only [forL] at q
    split at q
    · rename_i so
      obtain ⟨wd, _⟩ := wk i w' μ' st.kp S' so
      obtain ⟨go, yld⟩ := wd items[i] (List.getElem?_eq_getElem hlt)
      refine .inr ⟨go, fun σ2 H2 => ∃ (w2 : Wd) (ρ2 : Env) (μ2 : Store), w2.H = H2 ∧ Step w1 w2 ∧ RelS X.K cls w2 μ2 ∧ RelE X.K cls w2 ρ2 σ2 ∧ PostS X.K cls w1 D (forL items src g fb (items.drop (i + 1)) ρ2 μ2), ?_, fun x H2 y => ?_⟩
      · rintro σ2 H2 ⟨w2, ρ2, μ2, e, st2, S2, E2, q2⟩
        exact ⟨_, by omega, rfl, hlt, w2, ρ2, μ2, e, st2, S2, E2, q2⟩
      · obtain ⟨w2, rfl, st2, S2, rx⟩ := yld x H2 y
        refine h2 x items[i] σ' w2 ρ' μ' _ S2 (E'.mono st2.kp) rx ((PostS.bind0 q).imp fun w3 ρ3 _ ⟨st3, μ3, S3, q3⟩ σ3 E3 _ => ?_)
        have st13 := (st.trans st2).trans st3
        refine h3 _ σ3 w3 ρ3 μ3 S3 E3 ?_
        split at q3
        · rename_i ρ4 μ4 hf
          rw [hf]
          exact fun w4 σ4 s4 S4 E4 => ⟨w4, ρ4, μ4, rfl, st13.trans s4, S4, E4, q3⟩
        · rename_i ρ4 μ4 hf
          rw [hf]
          exact fun w4 σ4 s4 S4 E4 => ⟨w4, ρ4, μ4, rfl, st13.trans s4, S4, E4, q3⟩
        · rename_i ρ4 μ4 hf
          rw [hf]
          exact fun w4 σ4 s4 S4 E4 => q3 w4 σ4 (st13.trans s4) S4 E4
        · rename_i d μ4 hf
          rw [hf]
          exact fun w4 σ4 s4 S4 E4 => q3 w4 σ4 (st13.trans s4) S4 E4
        · exact q3.elim
    · exact q.elim
  · have e : i = items.length := by omega
    subst e
    rw [List.drop_length] at q
    simp only [forL] at q
    split at q
    · rename_i so
      obtain ⟨_, stop⟩ := wk items.length w' μ' st.kp S' so
      exact .inl ⟨stop (Nat.le_refl _), q w' σ' st S' E'⟩
    · exact q.elim

/-! ### while -/
def whileL (c : FT) (body : FS) : Nat → Env → Store → SR
  | 0, _, _ => .stuck
  | n + 1, ρ, μ => rS (c ρ μ) fun b μ1 => if b = true then match body ρ μ1 with
      | .nx ρ2 μ2 => whileL c body n ρ2 μ2
      | .ct ρ2 μ2 => whileL c body n ρ2 μ2
      | .bk ρ2 μ2 => .nx ρ2 μ2
      | .rt d μ2 => .rt d μ2
      | .stuck => .stuck
    else .nx ρ μ1
def sWhile (n : Nat) (c : FT) (body : FS) : FS := fun ρ μ => whileL c body n ρ μ
theorem ss_while (n : Nat) {X : Cx} {cls : Nat → Option Addr} {c : Expr} {body : List Stmt} {pos : Pos} {fc : FT} {fb : FS} (hp : PassesOwn (model X.prog X.w) X.A X.env X.xe) (hc : ST X cls c fc) (hb : SSs X cls body fb) :
    SS X cls (.While c body [] pos) (sWhile n fc fb) := by
  obtain ⟨t1, p1, h1⟩ := hc
  obtain ⟨t3, p3, h3⟩ := hb
  refine ⟨_, ps_while hp p1 p3, fun D σ w ρ μ S E h => ?_⟩
  refine ⟨fun m σ' H' => ∃ (w' : Wd) (ρ' : Env) (μ' : Store), w'.H = H' ∧ Step w w' ∧ RelS X.K cls w' μ' ∧ RelE X.K cls w' ρ' σ' ∧ PostS X.K cls w D (whileL fc fb m ρ' μ'), ⟨n, w, ρ, μ, rfl, Step.refl, S, E, h⟩, ?_⟩
  rintro m σ' H' ⟨w', ρ', μ', rfl, st, S', E', q⟩
  cases m with
  | zero => exact q.elim
  | succ m =>
    simp only [whileL] at q
    refine h1 σ' _ w' ρ' μ' S' E' ((PostS.bind0 q).imp fun w3 b _ ⟨st3, μ3, S3, q3⟩ => ?_)
    have st13 := st.trans st3
    have E3 := E'.mono st3.kp
    cases b with
    | false => exact q3 w3 σ' st13 S3 E3
    | true =>
      refine ⟨fun σ2 H2 => ∃ (w2 : Wd) (ρ2 : Env) (μ2 : Store), w2.H = H2 ∧ Step w w2 ∧ RelS X.K cls w2 μ2 ∧ RelE X.K cls w2 ρ2 σ2 ∧ PostS X.K cls w D (whileL fc fb m ρ2 μ2), fun σ2 H2 z => ⟨m, Nat.lt_succ_self _, z⟩, ?_⟩
      refine h3 _ σ' w3 ρ' μ3 S3 E3 ?_
      simp only [if_true] at q3
      split at q3
      · rename_i ρ4 μ4 hf
        rw [hf]
        exact fun w4 σ4 s4 S4 E4 => ⟨w4, ρ4, μ4, rfl, st13.trans s4, S4, E4, q3⟩
      · rename_i ρ4 μ4 hf
        rw [hf]
        exact fun w4 σ4 s4 S4 E4 => ⟨w4, ρ4, μ4, rfl, st13.trans s4, S4, E4, q3⟩
      · rename_i ρ4 μ4 hf
        rw [hf]
        exact fun w4 σ4 s4 S4 E4 => q3 w4 σ4 (st13.trans s4) S4 E4
      · rename_i d μ4 hf
        rw [hf]
        exact fun w4 σ4 s4 S4 E4 => q3 w4 σ4 (st13.trans s4) S4 E4
      · exact q3.elim

/-! ### a comprehension -/
def wipeE (ρ : Env) : List Nat → Env
  | [] => ρ
  | v :: vs => (wipeE ρ vs).set v none
def lcL (items : List D) (src : Option Nat) (g : D → Env → Store → Res Env) (ft : FT) (fe : FE) (ρ : Env) : List D → Store → List D → Res D
  | [], μ, acc => if srcOk src items μ = true then .ok (.lst acc) μ else .stuck
  | d :: ds, μ, acc => if srcOk src items μ = true then (g d ρ μ).bind fun ρ1 μ1 => (ft ρ1 μ1).bind fun b μ2 =>
      if b = true then (fe ρ1 μ2).bind fun y μ3 => if acc.length < LIM then lcL items src g ft fe ρ ds μ3 (acc ++ [y]) else .stuck
      else lcL items src g ft fe ρ ds μ2 acc
    else .stuck
def eLc (vs : List Nat) (fi : FI) (g : D → Env → Store → Res Env) (ft : FT) (fe : FE) : FE := fun ρ μ => (fi ρ μ).bind fun it μ1 => lcL it.1 it.2 g ft fe (wipeE ρ vs) it.1 μ1 []
section
variable {K : PySem.W.Frag} {cls : Nat → Option Addr} {w : Wd} {μ : Store}
theorem RelE.setN {ρ : Env} {σ : L2.St} {i : Nat} (h : RelE K cls w ρ σ) : RelE K cls w (ρ.set i none) (σ.set i none) := by
  refine ⟨by rw [List.length_set, List.length_set]; exact h.1, fun j d' e => ?_⟩
  by_cases hj : i = j
  · subst hj
    by_cases hl : i < ρ.length
    · rw [List.getElem?_set_self hl] at e
      cases e
    · rw [List.getElem?_eq_none (by rw [List.length_set]; omega)] at e
      cases e
  · rw [List.getElem?_set_ne hj] at e
    obtain ⟨v', h1, h2⟩ := h.2 j d' e
    exact ⟨v', by rw [List.getElem?_set_ne hj]; exact h1, h2⟩
theorem RelE.wipe {ρ : Env} {σ : L2.St} (h : RelE K cls w ρ σ) : ∀ vs : List Nat, RelE K cls w (wipeE ρ vs) (L2.wipe σ vs)
  | [] => h
  | v :: vs => (RelE.wipe h vs).setN
theorem wipe_in {σ : L2.St} {i : Nat} : ∀ {vs : List Nat}, i ∈ vs → i < σ.length → (L2.wipe σ vs)[i]? = some none
  | [], h, _ => absurd h (by simp)
  | v :: vs, h, hl => by
    unfold L2.wipe
    by_cases e : v = i
    · subst e
      rw [List.getElem?_set_self (by rw [wipe_length]; exact hl)]
    · rw [List.getElem?_set_ne e]
      exact wipe_in (by simpa [Ne.symm e] using h) hl
theorem wipe_off {σ σ2 : L2.St} {is vs : List Nat} (h : Off is (L2.wipe σ vs) σ2) (hs : is.all (vs.contains ·) = true) : L2.wipe σ2 vs = L2.wipe σ vs := by
  have hl : σ2.length = σ.length := by rw [h.1, wipe_length]
  refine List.ext_getElem? fun i => ?_
  by_cases hi : i ∈ vs
  · by_cases hlt : i < σ.length
    · rw [wipe_in hi (by rw [hl]; exact hlt), wipe_in hi hlt]
    · rw [List.getElem?_eq_none (by rw [wipe_length, hl]; omega), List.getElem?_eq_none (by rw [wipe_length]; omega)]
  · rw [wipe_out hi]
    refine h.2 i fun z => hi ?_
    have := List.all_eq_true.mp hs i z
    simpa using this
/-- one more banned -/
theorem RelS.ban1 (S : RelS K cls w μ) {p : Addr} {o : HO} (h : w.H p = none) : RelS K cls ⟨w.ι, p :: w.B, upd w.H p o⟩ μ where
  len := S.len
  nd := S.nd
  ban := fun b hb => by
    rcases List.mem_cons.mp hb with e | hb
    · subst e
      exact ⟨(S.free h).1, o, upd_same⟩
    · obtain ⟨h1, u, h2⟩ := S.ban b hb
      exact ⟨h1, u, by show upd w.H p o b = some u; rw [upd_ne (ne_of_none h2 h)]; exact h2⟩
  cell := fun n c e => by
    obtain ⟨a, h1, h2⟩ := S.cell n c e
    refine ⟨a, h1, h2.mono (kp_ban h) fun u e => ?_⟩
    show upd w.H p o a = some u
    rw [upd_ne (ne_of_none e h)]
    exact e
where
  kp_ban {p : Addr} {o : HO} (h : w.H p = none) : Kp w ⟨w.ι, p :: w.B, upd w.H p o⟩ := ⟨fun a u hi hb e => ⟨by
    show upd w.H p o a = some u
    rw [upd_ne (ne_of_none e h)]
    exact e, hi, fun z => (List.mem_cons.mp z).elim (fun e1 => ne_of_none e h e1) hb⟩, fun n a e => e⟩
end

section
variable {K : PySem.W.Frag} {cls : Nat → Option Addr} {w w1 w' w4 : Wd} {μ : Store}
theorem kp_bump {p : Addr} {o : HO} (hp : p ∈ w.B) : Kp w ⟨w.ι, w.B, upd w.H p o⟩ := ⟨fun a u hi hb e => ⟨by
    show upd w.H p o a = some u
    rw [upd_ne fun z => hb (by rw [z]; exact hp)]
    exact e, hi, hb⟩, fun n a e => e⟩
theorem RelS.bump (S : RelS K cls w μ) {p : Addr} {o : HO} (hp : p ∈ w.B) : RelS K cls ⟨w.ι, w.B, upd w.H p o⟩ μ where
  len := S.len
  nd := S.nd
  ban := fun b hb => by
    obtain ⟨h1, u, h2⟩ := S.ban b hb
    refine ⟨h1, ?_⟩
    by_cases e : b = p
    · subst e
      exact ⟨o, upd_same⟩
    · exact ⟨u, by show upd w.H p o b = some u; rw [upd_ne e]; exact h2⟩
  cell := fun n c e => by
    obtain ⟨a, h1, h2⟩ := S.cell n c e
    refine ⟨a, h1, h2.mono (kp_bump hp) fun u e => ?_⟩
    show upd w.H p o a = some u
    rw [upd_ne fun z => (S.ban p hp).1 (by rw [← z]; exact List.mem_of_getElem? h1)]
    exact e
theorem Step.under {B : List Addr} (st : Step w1 ⟨w'.ι, B, w'.H⟩) (s : Step w' w4) : Step w1 ⟨w4.ι, B, w4.H⟩ where
  keep := fun a o hi e => s.keep a o (st.notin e hi) (st.keep a o hi e)
  pre := by
    obtain ⟨l, e⟩ := st.pre
    obtain ⟨l', e'⟩ := s.pre
    exact ⟨l ++ l', by show w4.ι = _; rw [e', show w'.ι = _ from e, List.append_assoc]⟩
  fresh := fun a h n => by
    by_cases q : a ∈ w'.ι
    · exact st.fresh a q n
    · have z := s.fresh a h q
      cases e : w1.H a with
      | none => rfl
      | some o =>
        have := st.keep a o n e
        rw [show w'.H a = none from z] at this
        cases this
  ban := st.ban
theorem Step.bumped {B : List Addr} {p : Addr} {o : HO} (st : Step w1 ⟨w'.ι, B, w'.H⟩) (h : w1.H p = none) : Step w1 ⟨w'.ι, B, upd w'.H p o⟩ where
  keep := fun a u hi e => by
    show upd w'.H p o a = some u
    rw [upd_ne (ne_of_none e h)]
    exact st.keep a u hi e
  pre := st.pre
  fresh := st.fresh
  ban := st.ban
theorem kp_unban {B : List Addr} {p : Addr} (hB : w.B = p :: B) : Kp w ⟨w.ι, B, w.H⟩ := ⟨fun a o hi hb e => ⟨e, hi, fun z => hb (by rw [hB]; exact List.mem_cons_of_mem _ z)⟩, fun n a e => e⟩
theorem RelS.unban {B : List Addr} {p : Addr} (S : RelS K cls w μ) (hB : w.B = p :: B) : RelS K cls ⟨w.ι, B, w.H⟩ μ := by
  have kp : Kp w ⟨w.ι, B, w.H⟩ := kp_unban hB
  exact ⟨S.len, S.nd, fun b hb => S.ban b (by rw [hB]; exact List.mem_cons_of_mem _ hb), fun n c e => by
    obtain ⟨a, h1, h2⟩ := S.cell n c e
    exact ⟨a, h1, h2.mono kp fun u e => e⟩⟩
theorem RVs.unban {B : List Addr} {p : Addr} {ds : List D} {vs : List V} (r : RVs K cls w ds vs) (hB : w.B = p :: B) : RVs K cls ⟨w.ι, B, w.H⟩ ds vs :=
  RVs.mono (kp_unban hB) r
theorem lc_ok {wi : TI} {fi : FI} {is vs : List Nat} {g : D → Env → Store → Res Env} {ft : FT} {fe : FE}
    (h1 : ∀ (σ : L2.St) (R : It → Hp → Prop) (w : Wd) (ρ : Env) (μ : Store), RelS K cls w μ → RelE K cls w ρ σ → PostR K cls w (fun w' it => ∀ J, Wk K cls J w' it.1 it.2 → R J w'.H) (fi ρ μ) → wi σ w.H R)
    (hs : is.all (vs.contains ·) = true) {σ : L2.St} {Q : VK} {ρ : Env} (S : RelS K cls w μ) (E : RelE K cls w ρ σ) (h : PostR K cls w (fun w' d => ∀ v, RV K cls w' d v → Q v w'.H) (eLc vs fi g ft fe ρ μ)) :
    tLc wi (TGof K cls is g) (TTof K cls ft) (TEof K cls fe) vs σ w.H Q := by
  refine h1 σ _ w ρ μ S E ((PostR.bind h).imp fun w1 it s1 ⟨μ1, S1, q1⟩ J wk => ?_)
  obtain ⟨items, src⟩ := it
  have E1 := E.mono s1.kp
  intro p hp
  refine ⟨fun i m H => m = items.length - i ∧ i ≤ items.length ∧ ∃ (w' : Wd) (μ' : Store) (acc : List D) (us : List V), w'.H = H ∧ w'.B = p :: w1.B ∧ Step w1 ⟨w'.ι, w1.B, w'.H⟩ ∧ RelS K cls w' μ' ∧ H p = some (.lst us) ∧
      RVs K cls w' acc us ∧ PostR K cls w1 (fun w' d => ∀ v, RV K cls w' d v → Q v w'.H) (lcL items src g ft fe (wipeE ρ vs) (items.drop i) μ' acc),
    ⟨items.length, by simp, Nat.zero_le _, ⟨w1.ι, p :: w1.B, upd w1.H p (.lst [])⟩, μ1, [], [], rfl, rfl, step_new hp, S1.ban1 hp, upd_same, rfl, by simpa using q1⟩, ?_⟩
  rintro i m H ⟨rfl, hle, w', μ', acc, us, rfl, hB, st, S', hD, racc, q⟩
  have kp : Kp w1 w' := ⟨fun a o hi hb e => ⟨st.keep a o hi e, st.notin e hi, fun z => by
      rw [hB] at z
      rcases List.mem_cons.mp z with e1 | z
      · exact ne_of_none e hp e1
      · exact hb z⟩, fun n a e => st.loc e⟩
  have E' := (E1.mono kp).wipe vs
  by_cases hlt : i < items.length
  · rw [List.drop_eq_getElem_cons hlt] at q
    simp only [lcL] at q
    split at q
    · rename_i so
      obtain ⟨wd, _⟩ := wk i w' μ' kp S' so
      obtain ⟨go, yld⟩ := wd items[i] (List.getElem?_eq_getElem hlt)
      refine .inr ⟨go, fun H => ∃ (w' : Wd) (μ' : Store) (acc : List D) (us : List V), w'.H = H ∧ w'.B = p :: w1.B ∧ Step w1 ⟨w'.ι, w1.B, w'.H⟩ ∧ RelS K cls w' μ' ∧ H p = some (.lst us) ∧
          RVs K cls w' acc us ∧ PostR K cls w1 (fun w' d => ∀ v, RV K cls w' d v → Q v w'.H) (lcL items src g ft fe (wipeE ρ vs) (items.drop (i + 1)) μ' acc), fun H z => ⟨_, by omega, rfl, hlt, z⟩, fun x H2 y => ?_⟩
      obtain ⟨w2, rfl, st2, S2, rx⟩ := yld x H2 y
      refine ⟨w2, wipeE ρ vs, μ', items[i], rfl, S2, E'.mono st2.kp, rx, (PostR.bind0 q).imp fun w3 ρ3 _ ⟨st3, μ3, S3, q3⟩ σ3 E3 off => ⟨wipe_off off hs, w3, ρ3, μ3, rfl, S3, E3, (PostR.bind0 q3).imp fun w4 b _ ⟨st4, μ4, S4, q4⟩ => ?_⟩⟩
      have st14 : Step w' w4 := (st2.trans st3).trans st4
      have stw := st.under st14
      have hpB : p ∈ w'.B := by rw [hB]; exact List.mem_cons_self
      cases b with
      | false =>
        refine iteF ?_
        exact ⟨w4, μ4, acc, us, rfl, st14.ban.trans hB, stw, S4, st14.keep p _ (S'.ban p hpB).1 hD, racc.mono st14.kp, by simpa using q4⟩
      | true =>
        refine iteT ?_
        simp only [if_true] at q4
        refine ⟨w4, ρ3, μ4, rfl, S4, E3.mono st4.kp, (PostR.bind0 q4).imp fun w5 y _ ⟨st5, μ5, S5, q5⟩ v rv => ?_⟩
        have st15 : Step w' w5 := st14.trans st5
        split at q5
        · rename_i hl
          have hB5 : w5.B = p :: w1.B := st15.ban.trans hB
          have hp5 : p ∈ w5.B := by rw [hB5]; exact List.mem_cons_self
          refine ⟨us, st15.keep p _ (S'.ban p hpB).1 hD, by rw [racc.length]; exact lim_lt hl, ⟨w5.ι, w5.B, upd w5.H p (.lst (us ++ [v]))⟩, μ5, acc ++ [y], us ++ [v], rfl, hB5, (st.under st15).bumped hp, S5.bump hp5, upd_same, ?_, q5⟩
          exact ((racc.mono st15.kp).append (.cons rv .nil)).mono (kp_bump hp5)
        · exact q5.elim
    · exact q.elim
  · have e : i = items.length := by omega
    subst e
    rw [List.drop_length] at q
    simp only [lcL] at q
    split at q
    · rename_i so
      obtain ⟨_, stop⟩ := wk items.length w' μ' kp S' so
      refine .inl ⟨stop (Nat.le_refl _), q ⟨w'.ι, w1.B, w'.H⟩ st (S'.unban hB) _ ⟨p, us, rfl, ⟨hD, (S'.ban p (by rw [hB]; exact List.mem_cons_self)).1, (S1.free hp).2⟩, racc.unban hB⟩⟩
    · exact q.elim
end
section
variable {X : Cx} {cls : Nat → Option Addr} {elt tg iter : Expr} {ifs : List Expr} {scope : Scope} {own : List (Str × Nat)} {pos : Pos} {is : List Nat} {fi : FI} {g : D → Env → Store → Res Env} {ft : FT} {fe : FE}
theorem se_lc (hc : X.calm = true) (hN : X.N.Nodup) (hi : SI X cls tg iter fi) (ok : BlkOk X.N X.env.scope scope own)
    (hg : ∀ (s : Shared) (H : Hp) (C : Addr) (cl : List (Str × Addr)) (fp : List Addr), SG (X.blk s H scope (compEnvC scope cl C X.env) fp) cls tg is g) (ht : ∀ (s : Shared) (H : Hp) (C : Addr) (cl : List (Str × Addr)) (fp : List Addr), STs (X.blk s H scope (compEnvC scope cl C X.env) fp) cls ifs ft)
    (he : ∀ (s : Shared) (H : Hp) (C : Addr) (cl : List (Str × Addr)) (fp : List Addr), SE (X.blk s H scope (compEnvC scope cl C X.env) fp) cls elt fe) (hs : is.all ((own.map (·.2)).contains ·) = true := by decide) (hf : ∀ x, foldedSetIterable iter X.env x = pure x := by intro _; rfl) :
    SE X cls (.ListComp elt [⟨tg, iter, ifs, 0⟩] scope pos) (eLc (own.map (·.2)) fi g ft fe) := by
  obtain ⟨t1, p1, h1⟩ := hi
  exact ⟨_, pe_lc (g := TGof X.K cls is g) (tt := TTof X.K cls ft) (te := TEof X.K cls fe) hc hN p1 ok (fun s H C cl fp => (hg s H C cl fp).pg) ht (fun s H C cl fp => (he s H C cl fp).pe) hf, fun σ Q w ρ μ S E h => lc_ok h1 hs S E h⟩
theorem ss_setLc {i : Nat} {y : Str} {py spos : Pos} (hc : X.calm = true) (hN : X.N.Nodup) (hy : X.N[i]? = some y) (hyl : X.env.scope.names.lookup y = some .local) (hsw : swapsWith (.ListComp elt [⟨tg, iter, ifs, 0⟩] scope pos) (some (.Name y py)) spos.line X.env = pure true)
    (hi : SI X cls tg iter fi) (ok : BlkOk X.N X.env.scope scope own)
    (hg : ∀ (s : Shared) (H : Hp) (C : Addr) (cl : List (Str × Addr)) (fp : List Addr), SG (X.blk s H scope (compEnvC scope cl C X.env) fp) cls tg is g) (ht : ∀ (s : Shared) (H : Hp) (C : Addr) (cl : List (Str × Addr)) (fp : List Addr), STs (X.blk s H scope (compEnvC scope cl C X.env) fp) cls ifs ft)
    (he : ∀ (s : Shared) (H : Hp) (C : Addr) (cl : List (Str × Addr)) (fp : List Addr), SE (X.blk s H scope (compEnvC scope cl C X.env) fp) cls elt fe) (hs : is.all ((own.map (·.2)).contains ·) = true := by decide) (hf : ∀ x, foldedSetIterable iter X.env x = pure x := by intro _; rfl) :
    SS X cls (.Assign [.Name y py] (.ListComp elt [⟨tg, iter, ifs, 0⟩] scope pos) spos) (sAsg (gVar i) (eLc (own.map (·.2)) fi g ft fe)) := by
  obtain ⟨t1, p1, h1⟩ := hi
  refine ⟨_, ps_setLc (g := TGof X.K cls is g) (tt := TTof X.K cls ft) (te := TEof X.K cls fe) hc hN hy hyl hsw p1 ok (fun s H C cl fp => (hg s H C cl fp).pg) ht (fun s H C cl fp => (he s H C cl fp).pe) hf, fun D σ w ρ μ S E h => ?_⟩
  refine lc_ok (Q := fun x H1 => L2.gName i x σ H1 D.nx) h1 hs S E ((PostS.bind h).imp fun w1 d s1 ⟨μ1, S1, q1⟩ v r1 => ?_)
  unfold gVar at q1
  split at q1
  · exact q1 w1 _ Step.refl S1 ((E.mono s1.kp).set r1)
  · exact q1.elim
end

/-! ### a list that changes: it becomes a place -/
/-- xs = [..] (the list is new and nothing else) becomes the next place -/
def sNewL (i : Nat) (fs : FA) : FS := fun ρ μ => rS (fs ρ μ) fun ds μ1 => if ds.length ≤ LIM ∧ i < ρ.length then .nx (ρ.set i (some (.loc μ1.length))) (μ1 ++ [.lst ds]) else .stuck
section
variable {K : PySem.W.Frag} {cls : Nat → Option Addr} {w : Wd} {μ : Store}
theorem kp_add {p : Addr} {o : HO} (h : w.H p = none) : Kp w ⟨w.ι ++ [p], w.B, upd w.H p o⟩ := ⟨fun a u hi hb e => ⟨by
    show upd w.H p o a = some u
    rw [upd_ne (ne_of_none e h)]
    exact e, fun z => (List.mem_append.mp z).elim hi fun z => ne_of_none e h (by simpa using z), hb⟩, fun n a e => by
    rw [List.getElem?_append_left (List.getElem?_eq_some_iff.mp e).1]
    exact e⟩
theorem step_add {p : Addr} {o : HO} (h : w.H p = none) : Step w ⟨w.ι ++ [p], w.B, upd w.H p o⟩ where
  keep := fun a u hi e => by
    show upd w.H p o a = some u
    rw [upd_ne (ne_of_none e h)]
    exact e
  pre := ⟨[p], rfl⟩
  fresh := fun a hm hn => by
    have : a = p := (List.mem_append.mp hm).elim (fun z => absurd z hn) fun z => by simpa using z
    rw [this]
    exact h
  ban := rfl
theorem RelS.add (S : RelS K cls w μ) {p : Addr} {o : HO} {c : Cell} (h : w.H p = none) (hc : CellOk K cls ⟨w.ι ++ [p], w.B, upd w.H p o⟩ p c) : RelS K cls ⟨w.ι ++ [p], w.B, upd w.H p o⟩ (μ ++ [c]) where
  len := by rw [List.length_append, List.length_append, S.len]; rfl
  nd := by
    rw [List.nodup_append]
    refine ⟨S.nd, by simp, fun a ha b hb e => ?_⟩
    have hb : b = p := by simpa using hb
    rw [e, hb] at ha
    exact (S.free h).1 ha
  ban := fun b hb => by
    obtain ⟨h1, u, h2⟩ := S.ban b hb
    have hbp : b ≠ p := ne_of_none h2 h
    exact ⟨fun z => (List.mem_append.mp z).elim h1 fun z => hbp (by simpa using z), u, by show upd w.H p o b = some u; rw [upd_ne hbp]; exact h2⟩
  cell := fun n c' e => by
    by_cases hn : n < μ.length
    · rw [List.getElem?_append_left hn] at e
      obtain ⟨a, h1, h2⟩ := S.cell n c' e
      refine ⟨a, by rw [List.getElem?_append_left (by rw [S.len]; exact hn)]; exact h1, h2.mono (kp_add h) fun u e => ?_⟩
      show upd w.H p o a = some u
      rw [upd_ne (ne_of_none e h)]
      exact e
    · rw [List.getElem?_append_right (by omega)] at e
      have hn2 : n - μ.length = 0 := by
        have := (List.getElem?_eq_some_iff.mp e).1
        simp at this
        omega
      rw [hn2] at e
      cases e
      refine ⟨p, ?_, hc⟩
      rw [List.getElem?_append_right (by rw [S.len]; omega), S.len, hn2]
      rfl
end
section
variable {X : Cx} {cls : Nat → Option Addr} {es : List Expr} {fs : FA} {pos pos2 : Pos}
theorem ss_newL (i : Nat) {x : Str} {pos' : Pos} (hN : X.N.Nodup) (he : SA X cls es fs) (hi : X.N[i]? = some x := by rfl) (hx : Loc X.env.scope x := by first | exact .inl rfl | exact .inr rfl) (hs : swapsWith (.List es pos2) (some (.Name x pos')) pos.line X.env = pure false := by rfl)
    (hf : X.fn x = true ∨ X.env.scope.names.lookup x = some .local := by first | exact .inl rfl | exact .inr rfl) : SS X cls (.Assign [.Name x pos'] (.List es pos2) pos) (sNewL i fs) := by
  obtain ⟨t1, p1, h1⟩ := he
  refine ⟨_, ps_set hN hi hx (pe_lst p1) hs hf, fun D σ w ρ μ S E h => ?_⟩
  refine h1 σ _ w ρ μ S E ((PostS.bind h).imp fun w1 d s1 ⟨μ1, S1, q1⟩ v r1 => ?_)
  split at q1
  · rename_i hl
    refine ⟨by rw [r1.length]; exact lim_le hl.1, fun p hp => ?_⟩
    refine q1 ⟨w1.ι ++ [p], w1.B, upd w1.H p (.lst v)⟩ _ (step_add hp) (S1.add hp ⟨v, upd_same, r1.mono (kp_add hp)⟩) (((E.mono s1.kp).mono (kp_add hp)).set (v := .ref p) ⟨p, rfl, ?_⟩)
    rw [List.getElem?_append_right (by rw [S1.len]; omega), S1.len, Nat.sub_self]
    rfl
  · exact q1.elim
end

/-! ### a def -/
def mD (m : Nat) (g : FS) : List D → Store → Res D := fun ds μ => match g (ds.map some ++ List.replicate (m - ds.length) none) μ with
  | .rt d μ' => .ok d μ'
  | .nx _ μ' => .ok .non μ'
  | _ => .stuck
mutual
/-- no place from n on in it -/
def low (n : Nat) : D → Bool
  | .tup ds => lows n ds
  | .lst ds => lows n ds
  | .obj _ _ ds => lows n ds
  | .loc k => decide (k < n)
  | _ => true
def lows (n : Nat) : List D → Bool
  | [] => true
  | d :: ds => low n d && lows n ds
end
def lowC (n : Nat) : Cell → Bool
  | .lst ds => lows n ds
  | .ins _ _ ds => lows n ds
/-- a def's own lists are gone behind it; one that it hands back is frozen -/
def fin (n : Nat) : Res D → Res D
  | .ok d μ => match d with
    | .loc k => if k < n then (if (μ.take n).all (lowC n) = true then .ok (.loc k) (μ.take n) else .stuck) else match μ[k]? with
      | some (.lst ds) => if (lows n ds && (μ.take n).all (lowC n)) = true then .ok (.lst ds) (μ.take n) else .stuck
      | _ => .stuck
    | d => if (low n d && (μ.take n).all (lowC n)) = true then .ok d (μ.take n) else .stuck
  | .stuck => .stuck
def mDf (m : Nat) (g : FS) : List D → Store → Res D := fun ds μ => fin μ.length (mD m g ds μ)
end Fw

set_option Elab.async false
set_option linter.all false
set_option maxRecDepth 100000
set_option autoImplicit false
/-! New lists as places, defs. -/
namespace Fw
open PySem L2 PyProof.Rows

def thaw : Res D → Res D
  | .ok (.lst ds) μ => .ok (.loc μ.length) (μ ++ [.lst ds])
  | _ => .stuck
def eThaw (f : FE) : FE := fun ρ μ => thaw (f ρ μ)
section
variable {K : PySem.W.Frag} {cls : Nat → Option Addr} {w : Wd} {μ : Store} {Q : VK}
/-- a list is laid at p and becomes the next place -/
theorem thaw_new (S : RelS K cls w μ) {ds : List D} {vs : List V} (r : RVs K cls w ds vs) (h : PostR K cls w (fun w' d => ∀ v, RV K cls w' d v → Q v w'.H) (thaw (.ok (.lst ds) μ))) {p : Addr} (hp : w.H p = none) : Q (.ref p) (upd w.H p (.lst vs)) := by
  refine h ⟨w.ι ++ [p], w.B, upd w.H p (.lst vs)⟩ (step_add hp) (S.add hp ⟨vs, upd_same, r.mono (kp_add hp)⟩) _ ⟨p, rfl, ?_⟩
  show (w.ι ++ [p])[μ.length]? = some p
  rw [List.getElem?_append_right (by rw [S.len]; omega), S.len, Nat.sub_self]
  rfl
theorem PostR.thaw {α : Type} {R : Wd → D → Prop} {r : Res α} {f : α → Store → Res D} (h : PostR K cls w R (thaw (r.bind f))) : PostR K cls w (fun w' a => ∃ μ', RelS K cls w' μ' ∧ PostR K cls w' R (thaw (f a μ'))) r := by
  cases r with
  | ok a μ => exact fun w' s S => ⟨μ, S, PostR.step s h⟩
  | stuck => exact h
end
section
variable {X : Cx} {cls : Nat → Option Addr} {a b : Expr} {fa fb : FE} {es : List Expr} {fs : FA} {p pos : Pos}
theorem se_lstT (ha : SA X cls es fs) : SE X cls (.List es pos) (eThaw (eLst fs)) := by
  obtain ⟨t1, p1, h1⟩ := ha
  refine ⟨_, pe_lst p1, fun σ Q w ρ μ S E h => ?_⟩
  refine h1 σ _ w ρ μ S E ((PostR.thaw h).imp fun w1 d s1 ⟨μ1, S1, q1⟩ v r1 => ?_)
  by_cases hl : d.length ≤ LIM
  · rw [if_pos hl] at q1
    exact ⟨by rw [r1.length]; exact lim_le hl, fun p hp => thaw_new S1 r1 q1 hp⟩
  · rw [if_neg hl] at q1
    exact q1.elim
theorem se_listT (hg : Gl X "list") (hm : X.mg "list" = none) (ha : SE X cls a fa) (hs : starEach [a] X.env = (false, eval a X.env) :: starEach [] X.env := by rfl) (hpl : (backTo pos (starEach [] X.env)).any (·.1) = false := by rfl) :
    SE X cls (.Call (.Name "list" p) [a] [] pos) (eThaw (eCall cList (aCons fa aNil))) := by
  obtain ⟨t1, p1, h1⟩ := ha
  refine ⟨_, pe_callTy call_list_of hg hm (by decide +kernel) (pa_cons p1 pa_nil hs) (by decide +kernel) (by decide +kernel) hs hpl, fun σ Q w ρ μ S E h => ?_⟩
  have h : PostR X.K cls w (fun w' d => ∀ v, RV X.K cls w' d v → Q v w'.H) (thaw ((fa ρ μ).bind fun d μ1 => cList [d] μ1)) := by
    unfold eThaw eCall aCons aNil at h
    cases hf : fa ρ μ with
    | ok d μ1 => rw [hf] at h; exact h
    | stuck => rw [hf] at h; exact h
  refine h1 σ _ w ρ μ S E ((PostR.thaw h).imp fun w1 d s1 ⟨μ1, S1, q1⟩ v r1 => ?_)
  simp only [cList] at q1
  split at q1
  · rename_i es hd
    obtain ⟨l, vs, e, h3, h4⟩ := seqOf_at S1 r1 hd
    exact ⟨l, vs, congrArg (fun z => [z]) e, h3, fun p hp => thaw_new S1 h4 q1 hp⟩
  · exact q1.elim
theorem se_repT (ha : SE X cls a fa) (hb : SE X cls b fb) : SE X cls (.BinOp a .Mult b pos) (eThaw (eBin oMul fa fb)) := by
  obtain ⟨t1, p1, h1⟩ := ha
  obtain ⟨t2, p2, h2⟩ := hb
  refine ⟨_, pe_op op_rep p1 p2, fun σ Q w ρ μ S E h => ?_⟩
  refine h1 σ _ w ρ μ S E ((PostR.thaw h).imp fun w1 d s1 ⟨μ1, S1, q1⟩ v r1 => ?_)
  refine h2 σ _ w1 ρ μ1 S1 (E.mono s1.kp) ((PostR.thaw q1).imp fun w2 e s2 ⟨μ2, S2, q2⟩ u r2 => ?_)
  have r1 := r1.mono s2.kp
  unfold oMul at q2
  split at q2
  · split at q2 <;> exact q2.elim
  · split at q2 <;> exact q2.elim
  · split at q2
    · rename_i a ha
      split at q2
      · rename_i hs
        obtain ⟨l, vs, e1, h1, h2⟩ := lstOf_at S2 r1 ha
        have hm : ∀ n : Nat, n ≤ 1000 → vs.length * n ≤ sizeLine := fun n hn => by
          rw [h2.length]
          exact lim_le (Nat.mul_le_mul hs.2.2 hn)
        exact ⟨l, _, vs, e1, r2, h1, by omega, by omega, hm _ (by omega), fun p hp => thaw_new S2 (h2.rep _) q2 hp⟩
      · exact q2.elim
    · exact q2.elim
  · exact q2.elim
/-- tuple(range(..)), list(range(..)) -/
def eTupRg (fi : FI) : FE := fun ρ μ => (fi ρ μ).bind fun it μ1 => .ok (.tup it.1) μ1
theorem se_tupRg1 (hc : X.calm = true) (hg : Gl X "tuple") (hm : X.mg "tuple" = none) (hg2 : Gl X "range") (hm2 : X.mg "range" = none) (ha : SE X cls a fa) {p2 pos2 : Pos} (na : starEach [a] X.env = (false, eval a X.env) :: starEach [] X.env := by rfl)
    (na2 : starEach [.Call (.Name "range" p2) [a] [] pos2] X.env = (false, eval (.Call (.Name "range" p2) [a] [] pos2) X.env) :: starEach [] X.env := by rfl) :
    SE X cls (.Call (.Name "tuple" p) [.Call (.Name "range" p2) [a] [] pos2] [] pos) (eTupRg (iRange1 fa)) := by
  obtain ⟨t1, p1, h1⟩ := ha
  refine ⟨_, pe_tupRg hc hg hm (prg_1 hg2 hm2 p1 na) na2, fun σ Q w ρ μ S E h => ?_⟩
  have h := PostR.bind h
  refine h1 σ _ w ρ μ S E ((PostR.bind h).imp fun w1 d s1 ⟨μ1, S1, q1⟩ v r1 => ?_)
  cases d with
  | int j =>
    refine ⟨j, r1, ?_⟩
    simp only at q1
    split at q1
    · rename_i hj
      obtain ⟨μ2, S2, q2⟩ := q1 w1 Step.refl S1
      refine ⟨⟨by omega, by omega, by omega, by omega, by omega⟩, fun p hp => ?_⟩
      have r : RVs X.K cls w1 ((List.range j.toNat).map fun i => D.int (0 + (i : Nat))) (rgV 0 j) := by
        have e : rgV 0 j = ((List.range j.toNat).map fun i => (0 + (i : Nat) : Int)).map V.int := by
          unfold rgV
          rw [List.map_map, show (j - 0).toNat = j.toNat by omega]
          rfl
        have e2 : ((List.range j.toNat).map fun i => D.int (0 + (i : Nat))) = ((List.range j.toNat).map fun i => (0 + (i : Nat) : Int)).map D.int := by
          rw [List.map_map]
          rfl
        rw [e, e2]
        exact RVs.ints
      exact q2 (w1.up p (.tup (rgV 0 j))) (step_new hp) (S2.new hp) _ (new_tup S2 hp r)
    · exact q1.elim
  | _ => exact q1.elim
end

/-! ### a def -/
section
variable {K : PySem.W.Frag} {cls : Nat → Option Addr} {w w' : Wd} {μ : Store}
/-- kept but for the places from n on -/
structure Kl (n : Nat) (w w' : Wd) : Prop where
  at_ : ∀ a o, a ∉ w.ι → a ∉ w.B → w.H a = some o → w'.H a = some o ∧ a ∉ w'.ι ∧ a ∉ w'.B
  loc : ∀ (k : Nat) (a : Addr), k < n → w.ι[k]? = some a → w'.ι[k]? = some a
mutual
theorem RV.low {n : Nat} (s : Kl n w w') : ∀ {d : D} {v : V}, low n d = true → RV K cls w d v → RV K cls w' d v
  | .non, _, _, h => h
  | .bl _, _, _, h => h
  | .int _, _, _, h => h
  | .str _, _, _, h => h
  | .tup ds, _, l, ⟨a, vs, e, h, r⟩ => ⟨a, vs, e, (match h with
    | .inl ⟨h, m, b⟩ => .inl (s.at_ a _ m b h)
    | .inr h => .inr h), RVs.low s l r⟩
  | .lst ds, _, l, ⟨a, vs, e, ⟨h, m, b⟩, r⟩ => ⟨a, vs, e, s.at_ a _ m b h, RVs.low s l r⟩
  | .flst _, _, _, ⟨a, e, h⟩ => ⟨a, e, match h with
    | .inl ⟨⟨o, h⟩, m, b⟩ => let z := s.at_ a _ m b h; .inl ⟨⟨o, z.1⟩, z.2⟩
    | .inr h => .inr h⟩
  | .obj _ _ ds, _, l, ⟨a, C, dx, vs, e, c, ⟨h, m, b⟩, hl, r⟩ => ⟨a, C, dx, vs, e, c, s.at_ a _ m b h, hl, RVs.low s l r⟩
  | .loc _, _, l, ⟨a, e, h⟩ => ⟨a, e, s.loc _ _ (of_decide_eq_true l) h⟩
theorem RVs.low {n : Nat} (s : Kl n w w') : ∀ {ds : List D} {vs : List V}, lows n ds = true → RVs K cls w ds vs → RVs K cls w' ds vs
  | [], _, _, h => h
  | d :: ds, _, l, ⟨v, r, e, h, t⟩ => by
    have l : Fw.low n d = true ∧ lows n ds = true := by simpa [lows] using l
    exact ⟨v, r, e, RV.low s l.1 h, RVs.low s l.2 t⟩
end
/-- the places from the entry's on are gone -/
theorem kl_cut (s : Step w w') : Kl w.ι.length w' ⟨w.ι, w'.B, w'.H⟩ := ⟨fun a o hi hb e => ⟨e, fun z => hi (by obtain ⟨l, e⟩ := s.pre; rw [e]; exact List.mem_append_left _ z), hb⟩, fun k a hk e => by
  obtain ⟨l, el⟩ := s.pre
  rw [el, List.getElem?_append_left hk] at e
  exact e⟩
theorem step_cut (s : Step w w') : Step w ⟨w.ι, w'.B, w'.H⟩ := ⟨s.keep, ⟨[], by simp⟩, fun a h n => absurd h n, s.ban⟩
theorem RelS.cut (S : RelS K cls w μ) {μ' : Store} (s : Step w w') (S' : RelS K cls w' μ') (h : (μ'.take μ.length).all (lowC μ.length) = true) : RelS K cls ⟨w.ι, w'.B, w'.H⟩ (μ'.take μ.length) := by
  have hle : μ.length ≤ μ'.length := by
    obtain ⟨l, e⟩ := s.pre
    rw [← S.len, ← S'.len, e, List.length_append]
    omega
  refine ⟨by rw [List.length_take, S.len]; omega, S.nd, fun b hb => ?_, fun n c e => ?_⟩
  · obtain ⟨h1, h2⟩ := S'.ban b hb
    exact ⟨fun z => h1 (by obtain ⟨l, e⟩ := s.pre; rw [e]; exact List.mem_append_left _ z), h2⟩
  · have hn : n < μ.length := by
      have := (List.getElem?_eq_some_iff.mp e).1
      rw [List.length_take] at this
      omega
    have lc : lowC μ.length c = true := List.all_eq_true.mp h c (List.mem_of_getElem? e)
    rw [List.getElem?_take_of_lt hn] at e
    obtain ⟨a, h1, h2⟩ := S'.cell n c e
    have hk := kl_cut s
    rw [S.len] at hk
    refine ⟨a, hk.loc n a hn h1, ?_⟩
    cases c with
    | lst ds =>
      obtain ⟨vs, e1, r⟩ := h2
      exact ⟨vs, e1, RVs.low hk lc r⟩
    | ins cn ns ds =>
      obtain ⟨C, dx, vs, e0, e1, e2, r⟩ := h2
      exact ⟨C, dx, vs, e0, e1, e2, RVs.low hk lc r⟩
theorem fin_ok {Q : VK} (S : RelS K cls w μ) {r : Res D} (h : PostR K cls w (fun w' d => ∀ v, RV K cls w' d v → Q v w'.H) (fin μ.length r)) : PostR K cls w (fun w' d => ∀ v, RV K cls w' d v → Q v w'.H) r := by
  cases r with
  | stuck => exact h
  | ok d μ' =>
    intro w' s S' v rv
    have hk := kl_cut s
    rw [S.len] at hk
    have plain : (low μ.length d && (μ'.take μ.length).all (lowC μ.length)) = true → PostR K cls w (fun w' d => ∀ v, RV K cls w' d v → Q v w'.H) (.ok d (μ'.take μ.length)) → Q v w'.H := fun hc h => by
      rw [Bool.and_eq_true] at hc
      exact h ⟨w.ι, w'.B, w'.H⟩ (step_cut s) (S.cut s S' hc.2) v (RV.low hk hc.1 rv)
    cases d with
    | loc k =>
      simp only [fin] at h
      split at h
      · rename_i hlt
        split at h
        · rename_i hc
          exact plain (by rw [hc]; simp [low, hlt]) h
        · exact h.elim
      · rename_i hge
        split at h
        · rename_i ds he
          split at h
          · rename_i hc
            rw [Bool.and_eq_true] at hc
            obtain ⟨a, vs, ex, hn, h3, h4⟩ := S'.lst rv he
            refine h ⟨w.ι, w'.B, w'.H⟩ (step_cut s) (S.cut s S' hc.2) v ⟨a, vs, ex, ⟨h3, fun z => ?_, (fun z => (S'.ban a z).1 (List.mem_of_getElem? hn))⟩, RVs.low hk hc.1 h4⟩
            obtain ⟨l, el⟩ := s.pre
            obtain ⟨j, hj, ej⟩ := List.getElem_of_mem z
            have hj : j < w.ι.length := hj
            have hj' : w'.ι[j]? = some a := by rw [el, List.getElem?_append_left hj, List.getElem?_eq_getElem hj, ej]
            obtain ⟨l1, e1⟩ := List.getElem?_eq_some_iff.mp hn
            obtain ⟨l2, e2⟩ := List.getElem?_eq_some_iff.mp hj'
            have : k = j := (List.getElem_inj S'.nd).mp (e1.trans e2.symm)
            have hw : w.ι.length = μ.length := S.len
            omega
          · exact h.elim
        · exact h.elim
    | non => simp only [fin] at h; split at h; exact plain (by assumption) h; exact h.elim
    | bl _ => simp only [fin] at h; split at h; exact plain (by assumption) h; exact h.elim
    | int _ => simp only [fin] at h; split at h; exact plain (by assumption) h; exact h.elim
    | str _ => simp only [fin] at h; split at h; exact plain (by assumption) h; exact h.elim
    | tup _ => simp only [fin] at h; split at h; exact plain (by assumption) h; exact h.elim
    | lst _ => simp only [fin] at h; split at h; exact plain (by assumption) h; exact h.elim
    | flst _ => simp only [fin] at h; split at h; exact plain (by assumption) h; exact h.elim
    | obj _ _ _ => simp only [fin] at h; split at h; exact plain (by assumption) h; exact h.elim
theorem relE_start {N : List Str} : ∀ {ds : List D} {vs : List V}, RVs K cls w ds vs → RelE K cls w (ds.map some ++ List.replicate (N.length - ds.length) none) (L2.start N vs) := fun {ds vs} r => by
  unfold L2.start
  rw [r.length]
  refine ⟨by simp [r.length], fun i d e => ?_⟩
  by_cases hi : i < ds.length
  · rw [List.getElem?_append_left (by simpa using hi), List.getElem?_map, Option.map_eq_some_iff] at e
    obtain ⟨d', e1, e2⟩ := e
    cases e2
    obtain ⟨v, hv, rv⟩ := r.get e1
    refine ⟨v, ?_, rv⟩
    rw [List.getElem?_append_left (by rw [List.length_map, r.length]; exact hi), List.getElem?_map, hv]
    rfl
  · rw [List.getElem?_append_right (by simpa using hi)] at e
    have := List.mem_replicate.mp (List.mem_of_getElem? e)
    cases this.2
end
section
variable {P : Program} {W : World} {K : PySem.W.Frag} {cls : Nat → Option Addr} {mg : Str → Option Value} {base : Heap} {x qual : Str} {st : Stmt} {f : Addr} {fd : FuncData} {N ps : List Str} {k : Nat} {g : FS}
theorem fn_mk (F : Fun K x qual st f fd) (S : FnScope N ps (defScope st))
    (hb : ∀ (cdv : Value) (A : Around) (outer : List PySem.Env) (s : Shared) (H : Hp) (E : XK), Room k (A.deeper (envOfC qual (defScope st) s.heap.objs.size f cdv)) → SSs (cxOf CX0 P W K mg base N qual (defScope st) f cdv A outer s H E).nox cls (defBody st) g) :
    FnOk P W K mg base CX0 (k + 1) f fd ps (spD K cls (mD N.length g) ps.length) := by
  refine F.ok S (fun vs H Q E h => ?_) fun cdv A outer s H vs Q E hr h => ?_
  · obtain ⟨w, ds, μ, _, hl, _, r, _⟩ := h
    rw [r.length, hl]
  · obtain ⟨w, ds, μ, rfl, hl, S', r, h⟩ := h
    obtain ⟨t, p, hk⟩ := hb cdv A outer s w.H E hr
    refine ⟨t, p, hk _ _ w _ μ S' (relE_start r) ?_⟩
    unfold mD at h
    cases hg : g (ds.map some ++ List.replicate (N.length - ds.length) none) μ with
    | nx ρ μ1 => rw [hg] at h; exact fun w' σ s S1 E1 => h w' s S1 _ rfl
    | rt d μ1 => rw [hg] at h; exact fun w' v s S1 r1 => h w' s S1 v r1
    | bk ρ μ1 => rw [hg] at h; exact h.elim
    | ct ρ μ1 => rw [hg] at h; exact h.elim
    | stuck => rw [hg] at h; exact h
theorem df_mk (F : Fun K x qual st f fd) (b : Binds K fd ps []) (hm : mg x = some (.ref f)) (S : FnScope N ps (defScope st))
    (hb : ∀ (cdv : Value) (A : Around) (outer : List PySem.Env) (s : Shared) (H : Hp) (E : XK), Room k (A.deeper (envOfC qual (defScope st) s.heap.objs.size f cdv)) → SSs (cxOf CX0 P W K mg base N qual (defScope st) f cdv A outer s H E).nox cls (defBody st) g) :
    Df P W K cls mg base (k + 1) x ps.length (mD N.length g) := ⟨f, fd, ps, fn_mk F S hb, hm, F.kp, b, rfl⟩
theorem Df.fin {n m : Nat} {g : FS} (h : Df P W K cls mg base k x n (mD m g)) : Df P W K cls mg base k x n (mDf m g) := by
  obtain ⟨f, fd, ps, hf, hm, hk, hb, hn⟩ := h.ex
  refine ⟨f, fd, ps, hf.imp fun vs H Q E h => ?_, hm, hk, hb, hn⟩
  obtain ⟨w, ds, μ, e, hl, S, r, h⟩ := h
  exact ⟨w, ds, μ, e, hl, S, r, fin_ok S h⟩
end
end Fw

set_option Elab.async false
set_option linter.all false
set_option maxRecDepth 100000
set_option autoImplicit false
/-! enumerate over a tuple; more. -/
namespace Fw
open PySem L2 PyProof.Rows

set_option maxHeartbeats 1000000 in
theorem meets_enum1 {v : Value} {o : Obj} {H : Heap → Prop} (B : Begins v o H) :
    Meets (Builtin.«enumerate.__new__» ⟨[.type "enumerate", v], []⟩) (fun _ R s => H s.heap ∧
      R (.ok (.ret (.ref (s.heap.push o).objs.size))) { s with heap := (s.heap.push o).push { cls := .type "enumerate", data := .fields #[.none, .bool false, .ref s.heap.objs.size, rawInt 0, .none, .none] } }) :=
  .of_wp fun prog w A R s h => by
    obtain ⟨hp, g, d, tk, os⟩ := s; obtain ⟨h1, h⟩ := h
    have hsub := sub_enumerate
    have q1 : ∀ {A' : Around} {E : Value → Shared → Prop} {Q : Value → Shared → Prop}, Q (.ref hp.objs.size) ⟨hp.push o, g, d, tk, os⟩ → wpAny (model prog w) A' (pyIter v) Q E ⟨hp, g, d, tk, os⟩ :=
      fun q => B.iter prog w _ _ ⟨hp, g, d, tk, os⟩ _ h1 q
    wp_walk using q1
    refine wpAny_stack_any fun st => wpAny_pure ?_
    split
    · rename_i c _ _ _ _ _
      cases (c == Value.type "enumerate")
      · wp_walk using q1
        exact ⟨_, rfl, h⟩
      · wp_walk using q1
        exact ⟨_, rfl, h⟩
    · wp_walk using q1
      exact ⟨_, rfl, h⟩
section
variable {prog : Program} {w : World} {A : Around} {E : Value → Shared → Prop} {s : Shared}
theorem enum_begins1 {v : Value} {o : Obj} {H : Heap → Prop} {Q : Value → Shared → Prop} (B : Begins v o H) (h1 : H s.heap)
    (h : ∀ h', IsEnum h' (s.heap.objs.size + 1) s.heap.objs.size 0 .none → h'.get? s.heap.objs.size = some o → h'.objs.size = s.heap.objs.size + 2 →
      (∀ b o, s.heap.get? b = some o → h'.get? b = some o) → Q (.ref (s.heap.objs.size + 1)) { s with heap := h' }) :
    wpAny (model prog w) A (call (.type "enumerate") [v]) Q E s := by
  refine callType_new F.called_enumerate (by decide) (F.typeCall_enumerate_1 _) (F.newCall_enumerate_1 _) (fun obj => F.args_object_init_2 obj _) F.entry_enumerate_new
    (meets_enum1 B) ⟨h1, ?_⟩
  have hz : (s.heap.push o).objs.size = s.heap.objs.size + 1 := Heap.size_push ..
  show _ ∧ _
  rw [hz]
  have hg : ((s.heap.push o).push { cls := .type "enumerate", data := .fields #[.none, .bool false, .ref s.heap.objs.size, rawInt 0, .none, .none] }).get? (s.heap.objs.size + 1) =
      some { cls := .type "enumerate", data := .fields #[.none, .bool false, .ref s.heap.objs.size, rawInt 0, .none, .none] } := by
    rw [← hz]
    exact Heap.get?_push_size _ rfl
  refine ⟨⟨_, hg, rfl⟩, h _ hg (Heap.get?_push_of_some _ (Heap.get?_push_size _ B.free)) (by rw [Heap.size_push, hz]) fun b o e => Heap.get?_push_of_some _ (Heap.get?_push_of_some _ e)⟩
end

/-- the tuple at a, each item in a new pair -/
def IteT (K : PySem.W.Frag) (a : Addr) : It :=
  ⟨fun i H => ∃ (xs : List V) (x : V), SqT K H a xs ∧ xs[i]? = some x, fun i H v H' => ∃ T x, v = .ref T ∧ H T = none ∧ H' = upd H T (.tup [.int (i : Nat), x]) ∧ ∀ xs, SqT K H a xs → xs[i]? = some x, fun i H => ∃ xs : List V, SqT K H a xs ∧ xs.length ≤ i⟩
theorem turn_enumT {P : Program} {w : World} {K : PySem.W.Frag} {elts : List Expr} {kk : Nat} {tpos : Pos} (a e it : Addr) :
    Turn P w K (.Tuple elts kk tpos) (IteT K a) [e, it] e (fun i h => (∃ old, IsEnum h e it ((i : Nat) : Int) old) ∧ h.IsTupleIter it a i ∧ e ≠ it) where
  mem := by simp
  obj := fun i h st b hb => by
    obtain ⟨⟨old, he⟩, ⟨o, ho, hc, hd⟩, _⟩ := st
    have e' : b = e ∨ b = it := by simpa using hb
    rcases e' with z | z
    · rw [z]; exact ⟨_, he, fun v q => nomatch q⟩
    · rw [z]; exact ⟨o, ho, fun v q => by rw [hd] at q; cases q⟩
  keep := fun i h h' st k => let ⟨⟨old, he⟩, hi, hne⟩ := st; ⟨⟨old, k e (by simp) _ he⟩, hi.at fun o q => k it (by simp) o q, hne⟩
  item := by
    intro X hP hw hK hc i pins s σ H E I hf st hg
    subst hP hw hK
    obtain ⟨⟨old, he⟩, hit, hne⟩ := st
    obtain ⟨xs, x, hq, hx⟩ := hg
    obtain ⟨its, rv, p, hz⟩ := I.tuple hq
    obtain ⟨u, hu, ru⟩ := rv.get hx
    have hel : e < s.heap.objs.size := Heap.lt_size he
    have hil : it < s.heap.objs.size := by obtain ⟨_, q, _⟩ := hit; exact Heap.lt_size q
    have hai : a ≠ it := fun z => by
      obtain ⟨o, ho, hc2, n, hd⟩ := p
      obtain ⟨o', ho', hc', _⟩ := hit
      rw [z, ho'] at ho
      cases ho
      rw [hc'] at hc2
      injection hc2 with z
      exact absurd z (by decide)
    have hae : e ≠ a := fun z => by
      obtain ⟨o, ho, hc2, n, hd⟩ := p
      rw [← z, show s.heap.get? e = _ from he] at ho
      cases ho
      injection hc2 with z
      exact absurd z (by decide)
    have hlt : i < its.toArray.size := by simpa using (List.getElem?_eq_some_iff.mp hu).1
    refine wpAny_pyNext_enum_itemD (Draws.tuple (prog := X.prog) (w := X.w) (A := X.A.in1) (I.ok.hd hc) it a hai its.toArray) he ⟨hit, p⟩ hlt hne (by simp [hne, hae]) fun x' h' tk hP ho hst hT hsz hk => ?_
    have hP : its.toArray[i]? = some x' := hP
    have ex : x' = u := by
      rw [List.getElem?_toArray, hu] at hP
      exact (Option.some.inj hP).symm
    subst ex
    refine ⟨_, rfl, wpAny_letOwnedTupleGo_enum (s := { s with heap := h', toks := tk + 1 }) ho fun h'' he' sb => ?_⟩
    have hT2 : h''.get? s.heap.objs.size = some { cls := .type "tuple", data := .seq #[.int i tk, x'] } := (sb.2 _ (Nat.ne_of_gt hel)).trans hT
    have new : ObjOk X.prog X.w (upd H s.heap.objs.size (.tup [.int (i : Nat), x])) h'' s.heap.objs.size (.tup [.int (i : Nat), x]) :=
      ⟨by show 2 ≤ sizeLine; decide, [.int i tk, x'], .cons ⟨_, rfl⟩ (.cons ru .nil), ⟨_, hT2, rfl, _, rfl⟩⟩
    have I1 : Inv X pins σ (upd H s.heap.objs.size (.tup [.int (i : Nat), x])) { s with heap := h'', toks := tk + 1 } :=
      I.turnedNew (ch := [e, it]) (fun b ob hb q => (sb.2 b (fun z => hb (by simp [z]))).trans (hk b ob (fun z => hb (by simp [z])) (fun z => hb (by simp [z])) q)) hf (Nat.le_refl _) new
    refine ⟨.ref s.heap.objs.size, _, I1, rfl, ⟨_, x, rfl, I.hok.fresh (Nat.le_refl _), rfl, fun ys hy => by rw [I.tuple_inj hy hq]; exact hx⟩, ⟨⟨x', ?_⟩, hst.1.at fun o q => (sb.2 it (Ne.symm hne)).trans q, hne⟩, fun b hb => ?_⟩
    · have e1 : ((i + 1 : Nat) : Int) = (i : Int) + 1 := by omega
      rw [e1]; exact he'
    · have hb' : b < s.heap.objs.size := by
        have e' : b = e ∨ b = it := by simpa using hb
        rcases e' with z | z
        · rw [z]; exact hel
        · rw [z]; exact hil
      rw [upd_ne (Nat.ne_of_lt hb')]
      exact (hf b hb).1
  done := by
    intro X hP hw hK hc i pins s σ H E I hf st hg
    subst hP hw hK
    obtain ⟨⟨old, he⟩, hit, hne⟩ := st
    obtain ⟨xs, hq, hx⟩ := hg
    obtain ⟨its, rv, p, hz⟩ := I.tuple hq
    obtain ⟨f0, f1, f2, f3, f4, f5⟩ := hf it (by simp)
    have hl := rv.length
    have hai : a ≠ it := fun z => by
      obtain ⟨o, ho, hc2, n, hd⟩ := p
      obtain ⟨o', ho', hc', _⟩ := hit
      rw [z, ho'] at ho
      cases ho
      rw [hc'] at hc2
      injection hc2 with z
      exact absurd z (by decide)
    have hge : its.toArray.size ≤ i := by simp; omega
    have D : Draws X.prog X.w X.A.in1 it [it, a] i (fun i v => its.toArray[i]? = some v) (fun k h => k = i ∧ h.IsTupleIter it a i ∧ h.IsTuple a its.toArray) := {
      live := fun _ _ st => let ⟨o, ho, _⟩ := st.2.1; ⟨o, ho⟩
      frame := fun _ _ _ st hk => ⟨st.1, st.2.1.at fun o e => hk it (by simp) o e, st.2.2.at fun o e => hk a (by simp) o e⟩
      item := fun j s Q E hj st hQ => absurd st.1 (Nat.ne_of_lt hj)
      done := fun s Q E st hE => wpAny_nextOf_tuple_end (I.ok.hd hc) st.2.1 st.2.2 (by simp; omega) hE }
    exact wpAny_pyNext_enum_endD D he ⟨rfl, hit, p⟩ fun h' eb => ⟨rfl, I.turned (t' := s.toks) (fun b o hb q => eb b o hb q) f0 f1 f3 f4 f5⟩
  self := fun A i s Q E st h => let ⟨⟨_, he⟩, _⟩ := st; wpAny_pyIter_enum he h
def iEnumT (K : PySem.W.Frag) (ta : TA) : TI := fun σ H R => ta σ H fun vs H1 => ∃ a xs, vs = [.ref a] ∧ SqT K H1 a xs ∧ R (IteT K a) H1
theorem pi_enumT {X : Cx} {e : Expr} {ta : TA} {p pos tpos : Pos} {elts : List Expr} {kk : Nat} (hg : Gl X "enumerate") (hm : X.mg "enumerate" = none) (ha : PA X [e] ta) (hs : starEach [e] X.env = [(false, eval e X.env)] := by rfl) :
    PI X (.Tuple elts kk tpos) (.Call (.Name "enumerate" p) [e] [] pos) (iEnumT X.K ta) := by
  refine ⟨fun pins s σ H R I h => ?_⟩
  refine Call_ (ld_blt I hg hm boot_enumerate (PyProof.Rows.callWith_type1 (thn (ha.run pos pins s σ H _ I h) fun us s1 ⟨vs, H1, I1, r1, q1⟩ => ?_) hs rfl))
  obtain ⟨a, xs, ex, hq, q⟩ := q1
  subst ex
  cases r1 with
  | cons r rr =>
    cases rr
    cases r
    obtain ⟨its, rv, p', hz⟩ := I1.tuple hq
    refine enum_begins1 (begins_tuple a its.toArray) p' fun h' he hit hsz hk => wpAny_pyIter_enum he ?_
    have I2 : Inv X pins σ H1 { s1 with heap := h' } := I1.kept (t' := s1.toks) hk
    refine ⟨s1.heap.objs.size + 1, [s1.heap.objs.size + 1, s1.heap.objs.size], _, _, H1, rfl, I2, turn_enumT a (s1.heap.objs.size + 1) s1.heap.objs.size, ⟨⟨.none, he⟩, ⟨_, hit, rfl, rfl⟩, Nat.succ_ne_self _⟩, fun b hb => ?_, q⟩
    have e' : b = s1.heap.objs.size + 1 ∨ b = s1.heap.objs.size := by simpa using hb
    have hle : s1.heap.objs.size ≤ b := by
      rcases e' with z | z
      · rw [z]; exact Nat.le_add_right _ _
      · rw [z]; exact Nat.le_refl _
    exact I1.fpOk hle (I1.hok.fresh hle)

def enumD (ds : List D) : List D := (ds.zipIdx).map fun p => .tup [.int (p.2 : Nat), p.1]
def oEnum (d : D) (μ : Store) : Res (List D × Option Nat) := match d with
  | .lst ds => .ok (enumD ds, none) μ
  | .tup ds => .ok (enumD ds, none) μ
  | _ => .stuck
def iEnumD (fe : FE) : FI := fun ρ μ => (fe ρ μ).bind fun d μ1 => oEnum d μ1
section
variable {K : PySem.W.Frag} {cls : Nat → Option Addr} {w : Wd} {μ : Store}
theorem enumD_get {ds : List D} {i : Nat} {d : D} (h : (enumD ds)[i]? = some d) : ∃ e, ds[i]? = some e ∧ d = .tup [.int (i : Nat), e] := by
  unfold enumD at h
  rw [List.getElem?_map, Option.map_eq_some_iff] at h
  obtain ⟨⟨e, j⟩, h1, rfl⟩ := h
  rw [List.getElem?_zipIdx, Option.map_eq_some_iff] at h1
  obtain ⟨e', h2, h3⟩ := h1
  simp at h3
  obtain ⟨rfl, rfl⟩ := h3
  exact ⟨_, h2, by simp⟩
theorem wk_enumG {J : It} {ds : List D} (h : ∀ (w' : Wd), Kp w w' → ∃ vs, RVs K cls w' ds vs ∧ (∀ i v, vs[i]? = some v → J.go i w'.H ∧ ∀ x H2, J.yld i w'.H x H2 → ∃ T, x = .ref T ∧ w'.H T = none ∧ H2 = upd w'.H T (.tup [.int (i : Nat), v])) ∧ (∀ i, vs.length ≤ i → J.stop i w'.H)) : Wk K cls J w (enumD ds) none := by
  intro i w' μ' k S' so
  obtain ⟨vs, h1, h2, h3⟩ := h w' k
  refine ⟨fun d hd => ?_, fun hi => h3 i (by rw [h1.length]; simpa [enumD] using hi)⟩
  obtain ⟨e, he, rfl⟩ := enumD_get hd
  obtain ⟨v, hv, rv⟩ := h1.get he
  obtain ⟨go, yld⟩ := h2 i v hv
  refine ⟨go, fun x H2 y => ?_⟩
  obtain ⟨T, rfl, hT, rfl⟩ := yld x H2 y
  exact ⟨w'.up T (.tup [.int (i : Nat), v]), rfl, step_new hT, S'.new hT, new_tup S' hT (.cons rfl (.cons rv .nil))⟩
end
theorem si_enum {X : Cx} {cls : Nat → Option Addr} {e : Expr} {fe : FE} {p pos tpos : Pos} {elts : List Expr} {kk : Nat} (hg : Gl X "enumerate") (hm : X.mg "enumerate" = none) (he : SE X cls e fe) (hs : starEach [e] X.env = [(false, eval e X.env)] := by rfl) :
    SI X cls (.Tuple elts kk tpos) (.Call (.Name "enumerate" p) [e] [] pos) (iEnumD fe) := by
  obtain ⟨t, p1, k⟩ := he
  refine ⟨_, pi_or (pi_enum hg hm (pa_cons p1 pa_nil hs) hs) (pi_enumT hg hm (pa_cons p1 pa_nil hs) hs), fun σ R w ρ μ S E h => ?_⟩
  have h := PostR.bind h
  cases hf : fe ρ μ with
  | stuck => rw [hf] at h; exact h.elim
  | ok d μ1 =>
    rw [hf] at h
    have go := k σ
    cases d with
    | lst ds =>
      refine .inl (go _ w ρ μ S E ?_)
      rw [hf]
      intro w1 s1 S1 v r1
      obtain ⟨μ', S2, q⟩ := h w1 s1 S1
      obtain ⟨a, vs, e1, h1, h2⟩ := r1
      refine ⟨a, vs, congrArg (fun z => [z]) e1, .inl (.inl h1.1), q w1 Step.refl S2 _ (wk_enumG fun w' kp => ?_)⟩
      have hL : SqL X.K w'.H a vs := .inl (.inl (kp.at_ a _ h1.2.1 h1.2.2 h1.1).1)
      refine ⟨vs, h2.mono kp, fun i v hv => ⟨⟨vs, v, hL, hv⟩, fun x H2 ⟨T, x', ex, hT, hH, hx⟩ => ⟨T, ex, hT, ?_⟩⟩, fun i hi => ⟨vs, hL, hi⟩⟩
      have := hx vs hL
      rw [hv] at this
      cases this
      exact hH
    | tup ds =>
      refine .inr (go _ w ρ μ S E ?_)
      rw [hf]
      intro w1 s1 S1 v r1
      obtain ⟨μ', S2, q⟩ := h w1 s1 S1
      obtain ⟨a, vs, e1, h1, h2⟩ := r1
      refine ⟨a, vs, congrArg (fun z => [z]) e1, h1.sq, q w1 Step.refl S2 _ (wk_enumG fun w' kp => ?_)⟩
      have hL : SqT X.K w'.H a vs := (h1.mono kp).sq
      refine ⟨vs, h2.mono kp, fun i v hv => ⟨⟨vs, v, hL, hv⟩, fun x H2 ⟨T, x', ex, hT, hH, hx⟩ => ⟨T, ex, hT, ?_⟩⟩, fun i hi => ⟨vs, hL, hi⟩⟩
      have := hx vs hL
      rw [hv] at this
      cases this
      exact hH
    | non => exact .inl (go _ w ρ μ S E (by rw [hf]; intro w1 s1 S1 v r1; obtain ⟨μ', S2, q⟩ := h w1 s1 S1; exact q.elim))
    | bl _ => exact .inl (go _ w ρ μ S E (by rw [hf]; intro w1 s1 S1 v r1; obtain ⟨μ', S2, q⟩ := h w1 s1 S1; exact q.elim))
    | int _ => exact .inl (go _ w ρ μ S E (by rw [hf]; intro w1 s1 S1 v r1; obtain ⟨μ', S2, q⟩ := h w1 s1 S1; exact q.elim))
    | str _ => exact .inl (go _ w ρ μ S E (by rw [hf]; intro w1 s1 S1 v r1; obtain ⟨μ', S2, q⟩ := h w1 s1 S1; exact q.elim))
    | flst _ => exact .inl (go _ w ρ μ S E (by rw [hf]; intro w1 s1 S1 v r1; obtain ⟨μ', S2, q⟩ := h w1 s1 S1; exact q.elim))
    | obj _ _ _ => exact .inl (go _ w ρ μ S E (by rw [hf]; intro w1 s1 S1 v r1; obtain ⟨μ', S2, q⟩ := h w1 s1 S1; exact q.elim))
    | loc _ => exact .inl (go _ w ρ μ S E (by rw [hf]; intro w1 s1 S1 v r1; obtain ⟨μ', S2, q⟩ := h w1 s1 S1; exact q.elim))
end Fw

set_option Elab.async false
set_option linter.all false
set_option maxRecDepth 100000
set_option autoImplicit false
/-! Instances of own classes. -/
namespace Fw
open PySem L2 PyProof.Rows

/-- a method as the top has left it -/
structure Dm (P : Program) (W : World) (K : PySem.W.Frag) (cls : Nat → Option Addr) (mg : Str → Option Value) (base : Heap) (k : Nat) (f : Addr) (n : Nat) (F : List D → Store → Res D) : Prop where
  ex : ∃ (fd : FuncData) (ps : List Str), FnOk P W K mg base CX0 k f fd ps (spD K cls F n) ∧ Binds K fd ps [] ∧ ps.length = n
/-- an own class -/
structure Kl1 (K : PySem.W.Frag) (cls : Nat → Option Addr) (c : Nat) (C : Addr) : Prop where
  at_ : cls c = some C
  cl : Cls K C
def putNs (f : Str) : List Str → List Str
  | [] => [f]
  | g :: r => if g = f then g :: r else g :: putNs f r
def putXs {α : Type} (f : Str) (d : α) : List Str → List α → List α
  | g :: r, x :: xs => if g = f then d :: xs else x :: putXs f d r xs
  | _, _ => [d]
theorem putF_zip (f : Str) (y : V) : ∀ (ns : List Str) (vs : List V), ns.length = vs.length → putF f y (ns.zip vs) = (putNs f ns).zip (putXs f y ns vs)
  | [], [], _ => rfl
  | g :: r, x :: xs, h => by
    show (if g = f then (g, y) :: r.zip xs else (g, x) :: putF f y (r.zip xs)) = (if g = f then g :: r else g :: putNs f r).zip (if g = f then y :: xs else x :: putXs f y r xs)
    by_cases e : g = f
    · rw [if_pos e, if_pos e, if_pos e]; rfl
    · rw [if_neg e, if_neg e, if_neg e, putF_zip f y r xs (by simpa using h)]; rfl
theorem put_len {α : Type} (f : Str) (y : α) : ∀ (ns : List Str) (vs : List α), ns.length = vs.length → (putNs f ns).length = (putXs f y ns vs).length
  | [], [], _ => rfl
  | g :: r, x :: xs, h => by
    show (if g = f then g :: r else g :: putNs f r).length = (if g = f then y :: xs else x :: putXs f y r xs).length
    have := put_len f y r xs (by simpa using h)
    split <;> simp_all
theorem RVs.put {K : PySem.W.Frag} {cls : Nat → Option Addr} {w : Wd} {f : Str} {d : D} {y : V} (h : RV K cls w d y) : ∀ {ns : List Str} {ds : List D} {vs : List V}, RVs K cls w ds vs → RVs K cls w (putXs f d ns ds) (putXs f y ns vs)
  | [], _, _, _ => ⟨y, [], rfl, h, rfl⟩
  | g :: r, [], _, t => by rw [show _ = [] from t]; exact ⟨y, [], rfl, h, rfl⟩
  | g :: r, e :: ds, _, ⟨v, vs, q, t1, t2⟩ => by
    rw [q]
    show RVs K cls w (if g = f then d :: ds else e :: putXs f d r ds) (if g = f then y :: vs else v :: putXs f y r vs)
    split
    · exact ⟨y, vs, rfl, h, t2⟩
    · exact ⟨v, _, rfl, t1, RVs.put h t2⟩
theorem RVs.lookup {K : PySem.W.Frag} {cls : Nat → Option Addr} {w : Wd} {f : Str} {d : D} : ∀ {ns : List Str} {ds : List D} {vs : List V}, RVs K cls w ds vs → (ns.zip ds).lookup f = some d → ∃ v, (ns.zip vs).lookup f = some v ∧ RV K cls w d v
  | [], _, _, _, h => by simp at h
  | g :: r, [], _, _, h => by simp at h
  | g :: r, e :: ds, _, ⟨v, vs, q, t1, t2⟩, h => by
    rw [q]
    rw [List.zip_cons_cons, List.lookup_cons] at h ⊢
    by_cases e : (f == g) = true
    · rw [e] at h ⊢
      cases h
      exact ⟨v, rfl, t1⟩
    · have e : (f == g) = false := by simpa using e
      rw [e] at h ⊢
      exact RVs.lookup t2 h

/-! ### x.f -/
def insOf (c : Nat) (μ : Store) : D → Option (List Str × List D)
  | .obj c' ns ds => if c' = c then some (ns, ds) else none
  | .loc n => match μ[n]? with
    | some (.ins c' ns ds) => if c' = c then some (ns, ds) else none
    | _ => none
  | _ => none
theorem insOf_at {K : PySem.W.Frag} {cls : Nat → Option Addr} {w : Wd} {μ : Store} (S : RelS K cls w μ) {c : Nat} {C : Addr} (hc : cls c = some C) {d : D} {x : V} {ns : List Str} {ds : List D} (r : RV K cls w d x) (h : insOf c μ d = some (ns, ds)) :
    ∃ a dx vs, x = .ref a ∧ w.H a = some (.ins C dx (ns.zip vs)) ∧ ns.length = vs.length ∧ RVs K cls w ds vs := by
  cases d with
  | obj c' ns' ds' =>
    simp only [insOf] at h
    split at h
    · rename_i e
      cases h
      subst e
      obtain ⟨a, C', dx, vs, e1, e2, ⟨e3, _⟩, e4, e5⟩ := r
      rw [hc] at e2
      cases e2
      exact ⟨a, dx, vs, e1, e3, e4, e5⟩
    · cases h
  | loc n =>
    simp only [insOf] at h
    split at h
    · rename_i c' ns' ds' hm
      split at h
      · rename_i e
        cases h
        subst e
        obtain ⟨a, e1, hn⟩ := r
        obtain ⟨a', h1, C', dx, vs, e2, e3, e4, e5⟩ := S.cell n _ hm
        rw [hn] at h1
        cases h1
        rw [hc] at e2
        cases e2
        exact ⟨a, dx, vs, e1, e3, e4, e5⟩
      · cases h
    · cases h
  | _ => cases h
def eFld (c : Nat) (f : Str) (fa : FE) : FE := fun ρ μ => (fa ρ μ).bind fun d μ1 => match insOf c μ1 d with
  | some (ns, ds) => match (ns.zip ds).lookup f with
    | some e => .ok e μ1
    | none => .stuck
  | none => .stuck
def eProp (c : Nat) (F : List D → Store → Res D) (fa : FE) : FE := fun ρ μ => (fa ρ μ).bind fun d μ1 => match insOf c μ1 d with
  | some _ => F [d] μ1
  | none => .stuck
def sFld (c : Nat) (f : Str) (fo fv : FE) : FS := fun ρ μ => rS (fv ρ μ) fun e μ1 => rS (fo ρ μ1) fun d μ2 => match d with
  | .loc n => match μ2[n]? with
    | some (.ins c' ns ds) => if c' = c ∧ ns.length < 900 then .nx ρ (μ2.set n (.ins c (putNs f ns) (putXs f e ns ds))) else .stuck
    | _ => .stuck
  | _ => .stuck
def cLenO (c : Nat) (F : List D → Store → Res D) : List D → Store → Res D := fun ds μ => match ds with
  | [d] => match insOf c μ d with
    | some _ => (F [d] μ).bind fun e μ1 => match e with
      | .int n => if 0 ≤ n ∧ n < 1000000 then .ok (.int n) μ1 else .stuck
      | _ => .stuck
    | none => cLen [d] μ
  | _ => .stuck
/-- C(..) -/
def eMake (c n : Nat) (F : List D → Store → Res D) (fs : FA) : FE := fun ρ μ => (fs ρ μ).bind fun ds μ1 => if ds.length + 1 = n then match F (.loc μ1.length :: ds) (μ1 ++ [.ins c [] []]) with
    | .ok .non μ2 => match μ2[μ1.length]? with
      | some (.ins c' ns es) => if (decide (c' = c) && decide (μ2.length = μ1.length + 1) && lows μ1.length es && (μ2.take μ1.length).all (lowC μ1.length)) = true then .ok (.obj c ns es) (μ2.take μ1.length) else .stuck
      | _ => .stuck
    | _ => .stuck
  else .stuck
section
variable {X : Cx} {cls : Nat → Option Addr} {e o v : Expr} {fe fo fv : FE} {c : Nat} {C : Addr} {f : Str} {pos pos' : Pos}
theorem se_fld (T : Kl1 X.K cls c C) (hn : NoAttr X.K C f) (he : SE X cls e fe) (hb : attributeBase e f X.env (eval e X.env) = eval e X.env := by rfl) : SE X cls (.Attribute e f pos) (eFld c f fe) := by
  obtain ⟨t1, p1, h1⟩ := he
  refine ⟨_, pe_fld p1 hb, fun σ Q w ρ μ S E h => ?_⟩
  refine h1 σ _ w ρ μ S E ((PostR.bind h).imp fun w1 d s1 ⟨μ1, S1, q1⟩ x r1 => ?_)
  split at q1
  · rename_i ns ds hd
    split at q1
    · rename_i y hy
      obtain ⟨a, dx, vs, e1, e2, e3, e4⟩ := insOf_at S1 T.at_ r1 hd
      obtain ⟨u, hu, ru⟩ := e4.lookup hy
      exact ⟨a, C, dx, _, u, e1, e2, T.cl, hn, hu, q1 w1 Step.refl S1 u ru⟩
    · exact q1.elim
  · exact q1.elim
theorem se_prop {p g : Addr} {k : Nat} {F : List D → Store → Res D} (T : Kl1 X.K cls c C) (hp : PropOf X.K C f p g) (G : Dm X.prog X.w X.K cls X.mg X.base k g 1 F) (hr : Room (k + 1) X.A) (he : SE X cls e fe) (hb : attributeBase e f X.env (eval e X.env) = eval e X.env := by rfl) :
    SE X cls (.Attribute e f pos) (eProp c F fe) := by
  obtain ⟨t1, p1, h1⟩ := he
  obtain ⟨fd, ps, hf, hbd, hl⟩ := G.ex
  refine ⟨_, pe_prop p1 T.cl hp hf hr hbd .nil pass0 hb, fun σ Q w ρ μ S E h => ?_⟩
  refine h1 σ _ w ρ μ S E ((PostR.bind h).imp fun w1 d s1 ⟨μ1, S1, q1⟩ x r1 => ?_)
  split at q1
  · rename_i hd
    obtain ⟨a, dx, vs, e1, e2, e3, e4⟩ := insOf_at S1 T.at_ r1 hd
    subst e1
    exact ⟨a, dx, _, rfl, e2, w1, [d], μ1, rfl, rfl, S1, .cons r1 .nil, q1⟩
  · exact q1.elim
theorem ss_fld (T : Kl1 X.K cls c C) (hn : NoAttr X.K C f) (ho : SE X cls o fo) (hv : SE X cls v fv) (hs : swapsWith v (some (.Attribute o f pos')) pos.line X.env = pure false := by rfl) : SS X cls (.Assign [.Attribute o f pos'] v pos) (sFld c f fo fv) := by
  obtain ⟨t1, p1, h1⟩ := ho
  obtain ⟨t2, p2, h2⟩ := hv
  refine ⟨_, ps_fld p1 p2 hs, fun D σ w ρ μ S E h => ?_⟩
  refine h2 σ _ w ρ μ S E ((PostS.bind h).imp fun w1 d s1 ⟨μ1, S1, q1⟩ x r1 => ?_)
  refine h1 σ _ w1 ρ μ1 S1 (E.mono s1.kp) ((PostS.bind q1).imp fun w2 e s2 ⟨μ2, S2, q2⟩ y r2 => ?_)
  cases e with
  | loc n =>
    simp only at q2
    split at q2
    · rename_i c' ns ds hm
      split at q2
      · rename_i hc
        obtain ⟨rfl, hl⟩ := hc
        obtain ⟨a, e1, hn'⟩ := r2
        obtain ⟨a', h1', C', dx, vs, e2, e3, e4, e5⟩ := S2.cell n _ hm
        rw [hn'] at h1'
        cases h1'
        rw [T.at_] at e2
        cases e2
        refine ⟨a, C, dx, _, e1, e3, T.cl, hn, by rw [List.length_zip, ← e4]; omega, ?_⟩
        have kw := (Step.write (o := .ins C dx (putF f x (ns.zip vs))) hn').kp
        refine q2 (w2.up a (.ins C dx (putF f x (ns.zip vs)))) σ (Step.write hn') (S2.write hn' ⟨C, dx, putXs f x ns vs, T.at_, ?_, put_len f x ns vs e4, (e5.mono kw).put ((r1.mono s2.kp).mono kw)⟩) (E.mono ((s1.trans s2).trans (Step.write hn')).kp)
        show upd w2.H a _ a = _
        rw [upd_same, putF_zip f x ns vs e4]
      · exact q2.elim
    · exact q2.elim
  | _ => exact q2.elim
theorem call_lenOwn {k : Nat} {g : Addr} {F : List D → Store → Res D} (T : Kl1 X.K cls c C) (hs : PySem.W.findIn X.K (.ref C) "__len__" = some (some (.ref g))) (hf : PySem.W.isFn X.K (.ref g) = true) (G : Dm X.prog X.w X.K cls X.mg X.base k g 1 F) (hr : Room (k + 1) X.A) :
    CallR X (.builtin "len") (fun xs H Q => ∃ a dx fs, xs = [.ref a] ∧ H a = some (.ins C dx fs) ∧ spD X.K cls F 1 [.ref a] H (fun v H' => ∃ n, v = .int n ∧ 0 ≤ n ∧ n < 2 ^ 63 ∧ Q (.int n) H') E0) := by
  intro pins s σ H xs us Q I r h
  obtain ⟨a, dx, fs, rfl, ea, hsp⟩ := h
  obtain ⟨u, rfl, ru⟩ := vals1 r
  cases ru
  obtain ⟨mA, O, _⟩ := ins_get I.hok ea
  obtain ⟨od, J, _⟩ := O.look
  obtain ⟨m, hF⟩ := I.fr
  obtain ⟨fd, ps, hfn, hbd, hl⟩ := G.ex
  refine PySem.W.len_K hF I.ok.mod.kin J hs hf ?_
  have hb := hbd s [.ref a] I.kIn (by simpa using hl.symm)
  refine wpAny_call (codeAny_mono (hfn.run X.A.in1 X.stack s H ⟨[.ref a], []⟩ [.ref a] [.ref a] _ E0 hr.in1 I.env0.in1 (by simpa using hb) (.cons rfl .nil) hsp) fun r s' hq => ?_)
  cases r with
  | error er => exact False.elim hq
  | ok fl =>
    cases fl with
    | ret u =>
      obtain ⟨v, H', I3, rv, n, ev, h0, h1, q3⟩ := I.after hq
      subst ev
      obtain ⟨t, rfl⟩ := rv
      exact ⟨⟨h0, h1⟩, .int n, H', I3.tok _, ⟨_, rfl⟩, q3⟩
    | next => exact False.elim hq
    | brk => exact False.elim hq
    | cont => exact False.elim hq
theorem cv_lenO {k : Nat} {g : Addr} {F : List D → Store → Res D} (T : Kl1 X.K cls c C) (hs : PySem.W.findIn X.K (.ref C) "__len__" = some (some (.ref g))) (hf : PySem.W.isFn X.K (.ref g) = true) (G : Dm X.prog X.w X.K cls X.mg X.base k g 1 F) (hr : Room (k + 1) X.A) :
    CV X cls (.builtin "len") (cLenO c F) := by
  obtain ⟨r0, c0, h0⟩ := cv_len (X := X) (cls := cls)
  refine ⟨_, c0.or (call_lenOwn T hs hf G hr), fun w μ ds xs Q S r h => ?_⟩
  unfold cLenO at h
  split at h
  · rename_i d
    split at h
    · rename_i ns ds hd
      obtain ⟨x, rfl, r1⟩ := r.one
      obtain ⟨a, dx, vs, e1, e2, e3, e4⟩ := insOf_at S T.at_ r1 hd
      subst e1
      refine .inr ⟨a, dx, _, rfl, e2, w, [d], μ, rfl, rfl, S, r, (PostR.bind h).imp fun w1 e s1 ⟨μ1, S1, q1⟩ v rv => ?_⟩
      cases e with
      | int n =>
        simp only at q1
        split at q1
        · rename_i hn
          exact ⟨n, rv, hn.1, by omega, q1 w1 Step.refl S1 _ rfl⟩
        · exact q1.elim
      | _ => exact q1.elim
    · exact .inl (h0 w μ [d] xs Q S r h)
  · exact h.elim
theorem se_make {k n : Nat} {g : Addr} {x : Str} {p : Pos} {a : Expr} {es : List Expr} {fs : FA} {F : List D → Store → Res D} (T : Kl1 X.K cls c C) (M : Mk X.K C g) (G : Dm X.prog X.w X.K cls X.mg X.base k g n F) (hr : Room (k + 1) X.A) (hg : Gl X x) (hm : X.mg x = some (.ref C)) (ha : SA X cls (a :: es) fs)
    (hdb : (x == ("__debug__" : Str)) = false := by decide +kernel) (he : starEach (a :: es) X.env = (false, eval a X.env) :: starEach es X.env := by rfl) (hpl : (backTo pos (starEach es X.env)).any (·.1) = false := by rfl) :
    SE X cls (.Call (.Name x p) (a :: es) [] pos) (eMake c n F fs) := by
  obtain ⟨t1, p1, h1⟩ := ha
  obtain ⟨fd, ps, hf, hbd, hl⟩ := G.ex
  refine ⟨_, pe_make M hf hr hg hm hbd .nil pass0 p1 hdb he hpl, fun σ Q w ρ μ S E h => ?_⟩
  refine h1 σ _ w ρ μ S E ((PostR.bind h).imp fun w1 ds s1 ⟨μ1, S1, q1⟩ vs r1 => ?_)
  split at q1
  · rename_i hn
    intro y dy hy hdy hne
    rw [List.append_nil]
    have hy2 : (w1.up dy (.own y)).H y = none := by
      show upd w1.H dy _ y = none
      rw [upd_ne (Ne.symm hne)]
      exact hy
    have S2 := (S1.new (o := .own y) hdy).add (c := .ins c [] []) (o := .ins C dy []) hy2 ⟨C, dy, [], T.at_, upd_same, rfl, rfl⟩
    have st : Step w1 ⟨w1.ι ++ [y], w1.B, upd (upd w1.H dy (.own y)) y (.ins C dy [])⟩ := (step_new hdy).trans (step_add hy2)
    refine ⟨_, .loc μ1.length :: ds, μ1 ++ [.ins c [] []], rfl, hn, S2, ⟨.ref y, vs, rfl, ⟨y, rfl, ?_⟩, r1.mono st.kp⟩, ?_⟩
    · show (w1.ι ++ [y])[μ1.length]? = some y
      rw [List.getElem?_append_right (by rw [S1.len]; omega), S1.len, Nat.sub_self]
      rfl
    · cases hF : F (.loc μ1.length :: ds) (μ1 ++ [.ins c [] []]) with
      | stuck => rw [hF] at q1; exact q1.elim
      | ok d μ2 =>
        rw [hF] at q1
        cases d with
        | non =>
          simp only at q1
          split at q1
          · rename_i c' ns es hm2
            split at q1
            · rename_i hcond
              simp only [Bool.and_eq_true, decide_eq_true_eq] at hcond
              obtain ⟨⟨⟨hcc, hlen⟩, hlow⟩, hall⟩ := hcond
              subst hcc
              intro w' s' S' v rv
              have stt := st.trans s'
              obtain ⟨a', h3, C', dx, us, e2, e3, e4, e5⟩ := S'.cell μ1.length _ hm2
              have hy3 : w'.ι[μ1.length]? = some y := s'.loc (by
                show (w1.ι ++ [y])[μ1.length]? = some y
                rw [List.getElem?_append_right (by rw [S1.len]; omega), S1.len, Nat.sub_self]
                rfl)
              rw [hy3] at h3
              cases h3
              rw [T.at_] at e2
              cases e2
              have hk := kl_cut stt
              rw [S1.len] at hk
              refine ⟨rv, q1 ⟨w1.ι, w'.B, w'.H⟩ (step_cut stt) (S1.cut stt S' hall) _ ⟨y, C, dx, us, rfl, T.at_, ⟨e3, (S1.free hy).1, ?_⟩, e4, RVs.low hk hlow e5⟩⟩
              show y ∉ w'.B
              rw [stt.ban]
              exact (S1.free hy).2
            · exact q1.elim
          · exact q1.elim
        | _ => exact q1.elim
  · exact q1.elim
end
end Fw

set_option Elab.async false
set_option linter.all false
set_option maxRecDepth 100000
set_option autoImplicit false
namespace Fw
open PySem L2 PyProof.Rows
abbrev lit (s : String) : List Nat := (PySem.Str.ofString s).cps.toList
/-- a module's constant, whatever object it is -/
structure Gv (K : PySem.W.Frag) (cls : Nat → Option Addr) (mg : Str → Option Value) (x : Str) (d : D) : Prop where
  ex : ∃ (v : V) (u : Value), mg x = some u ∧ RelV v u ∧ ∀ w, RV K cls w d v
section
variable {X : Cx} {cls : Nat → Option Addr} {a b c : Expr} {fa fb fc : FE} {pos : Pos}
theorem se_globG {x : Str} {d : D} (hg : Gl X x) (G : Gv X.K cls X.mg x d) (hd : (x == ("__debug__" : Str)) = false := by decide +kernel) : SE X cls (.Name x pos) (eC d) := by
  obtain ⟨v, u, hm, r, rd⟩ := G.ex
  exact se_glob hg hm r rd hd
def eNeg (fa : FE) : FE := fun ρ μ => (fa ρ μ).bind fun x μ1 => match x with
  | .int i => .ok (.int (-i)) μ1
  | _ => .stuck
theorem se_neg (ha : SE X cls a fa) : SE X cls (.UnaryOp .USub a pos) (eNeg fa) := by
  obtain ⟨t1, p1, h1⟩ := ha
  refine ⟨_, pe_un un_neg p1, fun σ Q w ρ μ S E h => ?_⟩
  refine h1 σ _ w ρ μ S E ((PostR.bind h).imp fun w1 d s1 ⟨μ1, S1, q1⟩ v r1 => ?_)
  cases d with
  | int i => exact ⟨i, r1, q1 w1 Step.refl S1 _ rfl⟩
  | _ => exact q1.elim
theorem st_chain {op op' : CmpOp} {g g' : D → D → Store → Res D} (ho : OV X cls (compareOp op) g) (ho' : OV X cls (compareOp op') g') (ha : SE X cls a fa) (hb : SE X cls b fb) (hc : SE X cls c fc)
    (k : ∀ {r r' : R2} {t1 t2 t3 : TE}, OpR X (compareOp op) r → OpR X (compareOp op') r' → PE X a t1 → PE X b t2 → PE X c t3 → PT X (.Compare a [op, op'] [b, c] pos) (tTest (tChain r r' t1 t2 t3)) := by exact fun o o' p1 p2 p3 => pt_chain o o' p1 p2 p3) :
    ST X cls (.Compare a [op, op'] [b, c] pos) (Fw.tB (eChain g g' fa fb fc)) := by
  obtain ⟨r, o, ho⟩ := ho
  obtain ⟨r', o', ho'⟩ := ho'
  obtain ⟨t1, p1, h1⟩ := ha
  obtain ⟨t2, p2, h2⟩ := hb
  obtain ⟨t3, p3, h3⟩ := hc
  refine ⟨_, k o o' p1 p2 p3, fun σ Q w ρ μ S E h => ?_⟩
  have h := PostR.bind h
  refine h1 σ _ w ρ μ S E ((PostR.bind h).imp fun w1 d s1 ⟨μ1, S1, q1⟩ v r1 => ?_)
  refine h2 σ _ w1 ρ μ1 S1 (E.mono s1.kp) ((PostR.bind q1).imp fun w2 e s2 ⟨μ2, S2, q2⟩ u r2 => ?_)
  refine ho w2 μ2 d e v u _ S2 (r1.mono s2.kp) r2 ((PostR.bind q2).imp fun w3 z s3 ⟨μ3, S3, q3⟩ x rx => ?_)
  cases z with
  | bl k =>
    refine ⟨k, rx, ?_⟩
    cases k with
    | true =>
      refine h3 σ _ w3 ρ μ3 S3 (E.mono ((s1.trans s2).trans s3).kp) ((PostR.bind q3).imp fun w4 z4 s4 ⟨μ4, S4, q4⟩ x4 rx4 => ?_)
      refine ho' w4 μ4 e z4 u x4 _ S4 (r2.mono (s3.trans s4).kp) rx4 ((PostR.bind q4).imp fun w5 z5 s5 ⟨μ5, S5, q5⟩ x5 rx5 => ?_)
      cases z5 with
      | bl k' =>
        obtain ⟨μ6, S6, q6⟩ := q5 w5 Step.refl S5
        exact ⟨k', rx5, q6 w5 Step.refl S6⟩
      | _ => exact q5.elim
    | false =>
      obtain ⟨μ6, S6, q6⟩ := q3 w3 Step.refl S3
      exact ⟨false, rfl, q6 w3 Step.refl S6⟩
  | _ => exact q3.elim
end
section
variable {P : Program} {W : World} {K : PySem.W.Frag} {cls : Nat → Option Addr} {mg : Str → Option Value} {base : Heap} {x qual : Str} {st : Stmt} {f : Addr} {fd : FuncData} {N ps : List Str} {k : Nat} {g : FS}
theorem dm_mk (F : Fun K x qual st f fd) (b : Binds K fd ps []) (S : FnScope N ps (defScope st))
    (hb : ∀ (cdv : Value) (A : Around) (outer : List PySem.Env) (s : Shared) (H : Hp) (E : XK), Room k (A.deeper (envOfC qual (defScope st) s.heap.objs.size f cdv)) → SSs (cxOf CX0 P W K mg base N qual (defScope st) f cdv A outer s H E).nox cls (defBody st) g) :
    Dm P W K cls mg base (k + 1) f ps.length (mD N.length g) := ⟨fd, ps, fn_mk F S hb, b, rfl⟩
end
end Fw

set_option Elab.async false
set_option linter.all false
set_option maxRecDepth 100000
set_option autoImplicit false
namespace Fw
open PySem L2 PyProof.Rows
section
variable {K : PySem.W.Frag} {cls : Nat → Option Addr} {h : Heap} {mg : Str → Option Value} {x : Str}
theorem gv_int {i : Int} {t : Tok} (X : K.In h) (G : h.Ns mainGlobals mg) (a : PySem.W.nsIn K mainGlobals x = some (some (.int i t))) : Gv K cls mg x (.int i) := ⟨.int i, .int i t, PySem.W.mg_of X G a, ⟨t, rfl⟩, fun _ => rfl⟩
theorem gv_str {s : String} {t : Tok} (X : K.In h) (G : h.Ns mainGlobals mg) (a : PySem.W.nsIn K mainGlobals x = some (some (.str (PySem.Str.ofString s) t))) : Gv K cls mg x (.str (lit s)) :=
  ⟨.str (PySem.Str.ofString s), .str _ t, PySem.W.mg_of X G a, ⟨t, rfl⟩, fun _ => by
    show V.str _ = V.str ⟨(PySem.Str.ofString s).cps.toList.toArray⟩
    rw [Array.toArray_toList]⟩
theorem gv_tup {p : Addr} {dd : Option Addr} {its : Array Value} {n : Nat} {sl : Array (Option Value)} {vs : List V} {ds : List D} (X : K.In h) (G : h.Ns mainGlobals mg) (a : PySem.W.nsIn K mainGlobals x = some (some (.ref p)))
    (l : K.lookup p = some ⟨.type "tuple", dd, .seq its n, sl⟩) (hz : its.size ≤ LIM) (hv : Vals vs its.toList) (hr : ∀ w, RVs K cls w ds vs) : Gv K cls mg x (.tup ds) :=
  ⟨.ref p, .ref p, PySem.W.mg_of X G a, rfl, fun w => ⟨p, vs, rfl, .inr (.inr ⟨_, its, n, l, rfl, rfl, lim_le hz, hv⟩), hr w⟩⟩
theorem fn_fin {P : Program} {W : World} {base : Heap} {k : Nat} {f : Addr} {fd : FuncData} {ps : List Str} {m n : Nat} {g : FS} (hf : FnOk P W K mg base CX0 k f fd ps (spD K cls (mD m g) n)) : FnOk P W K mg base CX0 k f fd ps (spD K cls (mDf m g) n) :=
  hf.imp fun vs H Q E h => by
    obtain ⟨w, ds, μ, e, hl, S, r, h⟩ := h
    exact ⟨w, ds, μ, e, hl, S, r, fin_ok S h⟩
theorem law_sp {F : List D → Store → Res D} (hF : ∀ ns : List Int, ns.length ≤ 63 → ∃ μ, F [.flst ns] [] = .ok (.bl true) μ) {H : Hp} {a : Addr} {ns : List Int} (hl : ns.length ≤ 63) (hO : Only H) (hS : SqL K H a (ns.map V.int)) :
    spD K cls F 1 [.ref a] H (fun v _ => v = .bl true) (fun _ _ _ => False) := by
  obtain ⟨μ, e⟩ := hF ns hl
  refine ⟨⟨[], [], H⟩, [.flst ns], [], rfl, rfl, ⟨rfl, List.nodup_nil, (fun b hb => by simp at hb), (fun n c e => by simp at e)⟩, .cons ⟨a, rfl, ?_⟩ .nil, ?_⟩
  · rcases hS with (hS | ⟨o, hS⟩) | hS
    · rcases hO a with z | ⟨o, xs, z⟩
      · rw [hS] at z; cases z
      · rw [hS] at z; cases z
    · exact .inl ⟨⟨o, hS⟩, by simp, by simp⟩
    · exact .inr (.inr hS)
  · rw [e]
    exact fun w' s S v r => r
end
/-- the law's promise, whatever the classes' places -/
def spA (K : PySem.W.Frag) (F : List D → Store → Res D) : Sp := fun vs H Q E => ∀ cls, spD K cls F 1 vs H Q E
theorem fn_any {P : Program} {W : World} {K : PySem.W.Frag} {cls : Nat → Option Addr} {mg : Str → Option Value} {base : Heap} {k : Nat} {f : Addr} {fd : FuncData} {ps : List Str} {F : List D → Store → Res D} (hf : FnOk P W K mg base CX0 k f fd ps (spD K cls F 1)) : FnOk P W K mg base CX0 k f fd ps (spA K F) :=
  hf.imp fun vs H Q E h => h cls
theorem law_spA {K : PySem.W.Frag} {F : List D → Store → Res D} (hF : ∀ ns : List Int, ns.length ≤ 63 → ∃ μ, F [.flst ns] [] = .ok (.bl true) μ) {H : Hp} {a : Addr} {ns : List Int} (hl : ns.length ≤ 63) (hO : Only H) (hS : SqL K H a (ns.map V.int)) :
    spA K F [.ref a] H (fun v _ => v = .bl true) (fun _ _ _ => False) := fun _ => law_sp hF hl hO hS
end Fw

set_option Elab.async false
set_option linter.all false
set_option maxRecDepth 100000
set_option autoImplicit false
namespace Fw
open PySem L2
/-! ### the readings, one step at a time -/
section
variable {α β : Type} {ρ : Env} {μ : Store} {fa fb fc fd fe fo fi fv : FE} {fs fr : FA} {ft c c' : FT} {g g' : D → D → Store → Res D} {F : List D → Store → Res D} {n i j k : Nat} {s s' : FS}
theorem bok {a : α} {f : α → Store → Res β} : (Res.ok a μ).bind f = f a μ := (rfl)
theorem sok {a : α} {f : α → Store → SR} : rS (.ok a μ) f = f a μ := (rfl)
@[simp] theorem eVar_ev : eVar i ρ μ = match ρ[i]? with | some (some d) => .ok d μ | _ => .stuck := (rfl)
@[simp] theorem eC_ev {d : D} : eC d ρ μ = .ok d μ := (rfl)
@[simp] theorem eBin_ev : eBin g fa fb ρ μ = (fa ρ μ).bind fun x μ1 => (fb ρ μ1).bind fun y μ2 => g x y μ2 := (rfl)
@[simp] theorem aNil_ev : aNil ρ μ = .ok [] μ := (rfl)
@[simp] theorem aCons_ev : aCons fa fr ρ μ = (fa ρ μ).bind fun x μ1 => (fr ρ μ1).bind fun xs μ2 => .ok (x :: xs) μ2 := (rfl)
@[simp] theorem eTup_ev : eTup fs ρ μ = (fs ρ μ).bind fun ds μ1 => if ds.length ≤ LIM then .ok (.tup ds) μ1 else .stuck := (rfl)
@[simp] theorem eLst_ev : eLst fs ρ μ = (fs ρ μ).bind fun ds μ1 => if ds.length ≤ LIM then .ok (.lst ds) μ1 else .stuck := (rfl)
@[simp] theorem eCall_ev : eCall F fs ρ μ = (fs ρ μ).bind fun ds μ1 => F ds μ1 := (rfl)
@[simp] theorem eCallD_ev : eCallD n F fs ρ μ = (fs ρ μ).bind fun ds μ1 => if ds.length = n then F ds μ1 else .stuck := (rfl)
@[simp] theorem tB_ev : tB fa ρ μ = (fa ρ μ).bind fun x μ1 => match x with | .bl b => .ok b μ1 | _ => .stuck := (rfl)
@[simp] theorem tNot_ev : tNot c ρ μ = (c ρ μ).bind fun b μ1 => .ok (!b) μ1 := (rfl)
@[simp] theorem tAnd_ev : tAnd c c' ρ μ = (c ρ μ).bind fun b μ1 => if b then c' ρ μ1 else .ok false μ1 := (rfl)
@[simp] theorem tOr_ev : tOr c c' ρ μ = (c ρ μ).bind fun b μ1 => if b then .ok true μ1 else c' ρ μ1 := (rfl)
@[simp] theorem eIf_ev : eIf c fa fb ρ μ = (c ρ μ).bind fun b μ1 => if b then fa ρ μ1 else fb ρ μ1 := (rfl)
@[simp] theorem eNot_ev : eNot fa ρ μ = (fa ρ μ).bind fun x μ1 => match x with | .bl b => .ok (.bl (!b)) μ1 | _ => .stuck := (rfl)
@[simp] theorem eAnd_ev : eAnd fa fb ρ μ = (fa ρ μ).bind fun x μ1 => match x with | .bl b => if b then fb ρ μ1 else .ok (.bl false) μ1 | _ => .stuck := (rfl)
@[simp] theorem eOr_ev : eOr fa fb ρ μ = (fa ρ μ).bind fun x μ1 => match x with | .bl b => if b then .ok (.bl true) μ1 else fb ρ μ1 | _ => .stuck := (rfl)
@[simp] theorem eChain_ev : eChain g g' fa fb fc ρ μ = (fa ρ μ).bind fun x μ1 => (fb ρ μ1).bind fun y μ2 => (g x y μ2).bind fun z μ3 => match z with
  | .bl b => if b then (fc ρ μ3).bind fun u μ4 => (g' y u μ4).bind fun z' μ5 => match z' with
      | .bl b' => .ok (.bl b') μ5
      | _ => .stuck
    else .ok (.bl false) μ3
  | _ => .stuck := (rfl)
@[simp] theorem oNone_ev : oNone ρ μ = .ok none μ := (rfl)
@[simp] theorem oSome_ev : oSome fa ρ μ = (fa ρ μ).bind fun d μ1 => match d with | .int i => .ok (some i) μ1 | _ => .stuck := (rfl)
@[simp] theorem eCut_ev {fl fh : FO} : eCut fa fl fh ρ μ = (fa ρ μ).bind fun d μ1 => (fl ρ μ1).bind fun l μ2 => (fh ρ μ2).bind fun u μ3 => oCut d l u μ3 := (rfl)
@[simp] theorem eIsi_ev {T : String} : eIsi T fa ρ μ = (fa ρ μ).bind fun d μ1 => match tyName μ1 d with
  | some t => match kitB t T with
    | some b => .ok (.bl b) μ1
    | none => .stuck
  | none => .stuck := (rfl)
@[simp] theorem eJoin_ev : eJoin fo fe ρ μ = (fo ρ μ).bind fun d μ1 => match d with | .str s => (fe ρ μ1).bind fun e μ2 => oJoin (.str s) e μ2 | _ => .stuck := (rfl)
@[simp] theorem eLm_ev : eLm g fo fe ρ μ = (fo ρ μ).bind fun d μ1 => if isL μ1 d = true then (fe ρ μ1).bind fun e μ2 => g d e μ2 else .stuck := (rfl)
@[simp] theorem sNext_ev : sNext ρ μ = .nx ρ μ := (rfl)
@[simp] theorem sSeq_ev : sSeq s s' ρ μ = match s ρ μ with | .nx ρ1 μ1 => s' ρ1 μ1 | r => r := (rfl)
@[simp] theorem sIf_ev : sIf c s s' ρ μ = rS (c ρ μ) fun b μ1 => if b = true then s ρ μ1 else s' ρ μ1 := (rfl)
@[simp] theorem sRet_ev : sRet fe ρ μ = rS (fe ρ μ) fun d μ1 => .rt d μ1 := (rfl)
@[simp] theorem sExpr_ev : sExpr fe ρ μ = rS (fe ρ μ) fun _ μ1 => .nx ρ μ1 := (rfl)
@[simp] theorem sNever_ev : sNever ρ μ = .stuck := (rfl)
@[simp] theorem sAsg_ev {g : D → Env → Store → Res Env} : sAsg g fe ρ μ = rS (fe ρ μ) fun d μ1 => rS (g d ρ μ1) fun ρ1 μ2 => .nx ρ1 μ2 := (rfl)
@[simp] theorem gVar_ev {d : D} : gVar i d ρ μ = if i < ρ.length then .ok (ρ.set i (some d)) μ else .stuck := (rfl)
@[simp] theorem gNil_ev : gNil [] ρ μ = .ok ρ μ := (rfl)
@[simp] theorem gCons_ev {g : D → Env → Store → Res Env} {h : List D → Env → Store → Res Env} {d : D} {r : List D} : gCons g h (d :: r) ρ μ = (g d ρ μ).bind fun ρ1 μ1 => h r ρ1 μ1 := (rfl)
@[simp] theorem gTup_ev {h : List D → Env → Store → Res Env} {ds : List D} : gTup n h (.tup ds) ρ μ = if ds.length = n then h ds ρ μ else .stuck := (rfl)
@[simp] theorem gIx_ev {v : D} : gIx fo fi v ρ μ = (fo ρ μ).bind fun d μ1 => (fi ρ μ1).bind fun e μ2 => match d, e with
  | .loc n, .int i => match μ2[n]? with
    | some (.lst es) => match ixN es.length i with
      | some j => .ok ρ (μ2.set n (.lst (es.set j v)))
      | none => .stuck
    | _ => .stuck
  | _, _ => .stuck := (rfl)
@[simp] theorem sAug_ev : sAug i g fe ρ μ = match ρ[i]? with
  | some (some x) => rS (fe ρ μ) fun y μ1 => rS (g x y μ1) fun z μ2 => if i < ρ.length then .nx (ρ.set i (some z)) μ2 else .stuck
  | _ => .stuck := (rfl)
@[simp] theorem sPar_ev : sPar i j fa fb ρ μ = rS (fa ρ μ) fun x μ1 => rS (fb ρ μ1) fun y μ2 => if i < ρ.length ∧ j < ρ.length then .nx ((ρ.set i (some x)).set j (some y)) μ2 else .stuck := (rfl)
@[simp] theorem sAsg2_ev {g1 g2 : D → Env → Store → Res Env} : sAsg2 g1 g2 fe ρ μ = rS (fe ρ μ) fun d μ1 => rS (g1 d ρ μ1) fun ρ1 μ2 => rS (g2 d ρ1 μ2) fun ρ2 μ3 => .nx ρ2 μ3 := (rfl)
@[simp] theorem iOf_ev : iOf fe ρ μ = (fe ρ μ).bind fun d μ1 => oWalk d μ1 := (rfl)
@[simp] theorem iEnumD_ev : iEnumD fe ρ μ = (fe ρ μ).bind fun d μ1 => oEnum d μ1 := (rfl)
def rangeR (d : D) (μ : Store) : Res (List D × Option Nat) := match d with
  | .int j => if -1000000 ≤ j ∧ j ≤ 1000000 then .ok ((List.range j.toNat).map fun i => .int (0 + (i : Nat)), none) μ else .stuck
  | _ => .stuck
def rg (n : Nat) : List D := (List.range n).map fun i => .int (i : Nat)
@[simp] theorem iRange1_ev : iRange1 fa ρ μ = (fa ρ μ).bind fun d μ1 => rangeR d μ1 := (rfl)
theorem rangeR_nat (h : n ≤ 1000000) : rangeR (.int (n : Nat)) μ = .ok (rg n, none) μ := by
  have h1 : (-1000000 : Int) ≤ (n : Nat) ∧ ((n : Nat) : Int) ≤ 1000000 := by omega
  simp only [rangeR, if_pos h1, rg, Int.toNat_natCast, Int.zero_add]
@[simp] theorem sFor_ev {fi : FI} {g : D → Env → Store → Res Env} : sFor fi g s ρ μ = rS (fi ρ μ) fun it μ1 => forL it.1 it.2 g s it.1 ρ μ1 := (rfl)
@[simp] theorem eLc_ev {vs : List Nat} {fi : FI} {g : D → Env → Store → Res Env} : eLc vs fi g ft fe ρ μ = (fi ρ μ).bind fun it μ1 => lcL it.1 it.2 g ft fe (wipeE ρ vs) it.1 μ1 [] := (rfl)
@[simp] theorem mD_ev {ds : List D} : mD n s ds μ = match s (ds.map some ++ List.replicate (n - ds.length) none) μ with
  | .rt d μ' => .ok d μ'
  | .nx _ μ' => .ok .non μ'
  | _ => .stuck := (rfl)
@[simp] theorem mDf_ev {ds : List D} : mDf n s ds μ = fin μ.length (mD n s ds μ) := (rfl)
@[simp] theorem thaw_ev {ds : List D} : thaw (.ok (.lst ds) μ) = .ok (.loc μ.length) (μ ++ [.lst ds]) := (rfl)
@[simp] theorem eThaw_ev : eThaw fe ρ μ = thaw (fe ρ μ) := (rfl)
@[simp] theorem eTupRg_ev {fi : FI} : eTupRg fi ρ μ = (fi ρ μ).bind fun it μ1 => .ok (.tup it.1) μ1 := (rfl)
@[simp] theorem eNeg_ev : eNeg fa ρ μ = (fa ρ μ).bind fun x μ1 => match x with | .int i => .ok (.int (-i)) μ1 | _ => .stuck := (rfl)
@[simp] theorem eFld_ev {f : Str} : eFld k f fa ρ μ = (fa ρ μ).bind fun d μ1 => match insOf k μ1 d with
  | some (ns, ds) => match (ns.zip ds).lookup f with
    | some e => .ok e μ1
    | none => .stuck
  | none => .stuck := (rfl)
@[simp] theorem eProp_ev : eProp k F fa ρ μ = (fa ρ μ).bind fun d μ1 => match insOf k μ1 d with
  | some _ => F [d] μ1
  | none => .stuck := (rfl)
@[simp] theorem sFld_ev {f : Str} : sFld k f fo fv ρ μ = rS (fv ρ μ) fun e μ1 => rS (fo ρ μ1) fun d μ2 => match d with
  | .loc n => match μ2[n]? with
    | some (.ins c' ns ds) => if c' = k ∧ ns.length < 900 then .nx ρ (μ2.set n (.ins k (putNs f ns) (putXs f e ns ds))) else .stuck
    | _ => .stuck
  | _ => .stuck := (rfl)
@[simp] theorem eMake_ev : eMake k n F fs ρ μ = (fs ρ μ).bind fun ds μ1 => if ds.length + 1 = n then match F (.loc μ1.length :: ds) (μ1 ++ [.ins k [] []]) with
    | .ok .non μ2 => match μ2[μ1.length]? with
      | some (.ins c' ns es) => if (decide (c' = k) && decide (μ2.length = μ1.length + 1) && lows μ1.length es && (μ2.take μ1.length).all (lowC μ1.length)) = true then .ok (.obj k ns es) (μ2.take μ1.length) else .stuck
      | _ => .stuck
    | _ => .stuck
  else .stuck := (rfl)
@[simp] theorem oAdd_int {a b : Int} : oAdd (.int a) (.int b) μ = .ok (.int (a + b)) μ := (rfl)
@[simp] theorem oAddI_int {a b : Int} : oAddI (.int a) (.int b) μ = .ok (.int (a + b)) μ := (rfl)
@[simp] theorem oSub_int {a b : Int} : oSub (.int a) (.int b) μ = .ok (.int (a - b)) μ := (rfl)
theorem oMul_int {a b : Int} (h : (Sm a || Sm b) = true) : oMul (.int a) (.int b) μ = .ok (.int (a * b)) μ := by simp [oMul, h]
theorem oMod_int {a b : Int} (h : 0 < b) : oMod (.int a) (.int b) μ = .ok (.int (a % b)) μ := by simp [oMod, h]
theorem oFdv_wide {a b : Int} (h : 0 < b) (h2 : b < 4611686018427387904) : oFdv (.int a) (.int b) μ = .ok (.int (a / b)) μ := by
  have h3 : b.natAbs.log2 < 9000 := by
    have h4 : b.natAbs < 2 ^ 62 := by omega
    exact Nat.lt_of_lt_of_le (PySem.Flt.log2_lt_of (by decide) h4) (by decide)
  simp [oFdv, h, h3]
theorem oFdv_int {a b : Int} (h : 0 < b) (h2 : b < 1073741824) : oFdv (.int a) (.int b) μ = .ok (.int (a / b)) μ := oFdv_wide h (by omega)
@[simp] theorem oI_int {p : Int → Int → Bool} {a b : Int} : oI p (.int a) (.int b) μ = .ok (.bl (p a b)) μ := (rfl)
@[simp] theorem oLt_int {a b : Int} : oLt (.int a) (.int b) μ = .ok (.bl (decide (a < b))) μ := (rfl)
@[simp] theorem oLe_int {a b : Int} : oLe (.int a) (.int b) μ = .ok (.bl (decide (a ≤ b))) μ := (rfl)
@[simp] theorem oGt_int {a b : Int} : oGt (.int a) (.int b) μ = .ok (.bl (decide (b < a))) μ := (rfl)
@[simp] theorem oGe_int {a b : Int} : oGe (.int a) (.int b) μ = .ok (.bl (decide (b ≤ a))) μ := (rfl)
@[simp] theorem oNotN_ev {d : D} : oNotN d .non μ = .ok (.bl (!d.isNon)) μ := (rfl)
@[simp] theorem oIsN_ev {d : D} : oIsN d .non μ = .ok (.bl d.isNon) μ := (rfl)
@[simp] theorem cInt_int {a : Int} : cInt [.int a] μ = .ok (.int a) μ := (rfl)
@[simp] theorem cInt_bl {b : Bool} : cInt [.bl b] μ = .ok (.int (if b then 1 else 0)) μ := (rfl)
@[simp] theorem cMax2_ev {a b : Int} : cMax2 [.int a, .int b] μ = .ok (.int (if b > a then b else a)) μ := (rfl)
end
/-! ### plain data -/
mutual
def pl : Nat → D → Bool
  | _, .int _ => true
  | _, .str s => s.all (· < 0x110000)
  | k + 1, .tup ds => pls k ds
  | k + 1, .lst ds => pls k ds
  | _, _ => false
def pls : Nat → List D → Bool
  | _, [] => true
  | k, d :: ds => pl k d && pls k ds
end
theorem pls_iff {k : Nat} {ds : List D} : pls k ds = true ↔ ∀ d ∈ ds, pl k d = true := by
  induction ds with
  | nil => simp [pls]
  | cons d ds ih => simp [pls, ih]
mutual
theorem pl_lay : ∀ {k : Nat} {d : D}, pl k d = true → (toPy d).canLay0 = true ∧ (toPy d).depth ≤ k + 1
  | _, .int _, _ => by simp [toPy, PyData.canLay0, PyData.depth]
  | _, .str s, h => by
    simp only [pl] at h
    simp [toPy, PyData.canLay0, PyData.depth, PyData.strOk]
    simpa using h
  | 0, .tup ds, h => by simp [pl] at h
  | 0, .lst ds, h => by simp [pl] at h
  | k + 1, .tup ds, h => by
    have := pls_lay (k := k) (ds := ds) (by simpa [pl] using h)
    simp only [toPy, PyData.canLay0, PyData.depth]
    exact ⟨this.1, by omega⟩
  | k + 1, .lst ds, h => by
    have := pls_lay (k := k) (ds := ds) (by simpa [pl] using h)
    simp only [toPy, PyData.canLay0, PyData.depth]
    exact ⟨this.1, by omega⟩
  | 0, .non, h => by simp [pl] at h
  | k + 1, .non, h => by simp [pl] at h
  | 0, .bl _, h => by simp [pl] at h
  | k + 1, .bl _, h => by simp [pl] at h
  | 0, .flst _, h => by simp [pl] at h
  | k + 1, .flst _, h => by simp [pl] at h
  | 0, .obj _ _ _, h => by simp [pl] at h
  | k + 1, .obj _ _ _, h => by simp [pl] at h
  | 0, .loc _, h => by simp [pl] at h
  | k + 1, .loc _, h => by simp [pl] at h
theorem pls_lay : ∀ {k : Nat} {ds : List D}, pls k ds = true → PyData.canLayAll0 (toPys ds) = true ∧ PyData.depthAll (toPys ds) ≤ k + 1
  | _, [], _ => by simp [toPys, PyData.canLayAll0, PyData.depthAll]
  | k, d :: ds, h => by
    simp only [pls, Bool.and_eq_true] at h
    have h1 := pl_lay h.1
    have h2 := pls_lay h.2
    simp only [toPys, PyData.canLayAll0, PyData.depthAll, h1.1, h2.1]
    exact ⟨rfl, by omega⟩
end
theorem pl_ok {k : Nat} {d : D} (h : pl k d = true) (hk : k ≤ 60 := by decide) : okD (toPy d) = true := by
  have := pl_lay h
  unfold okD SeqAt.shaped
  simp only [this.1, Bool.true_and, decide_eq_true_eq]
  omega
mutual
theorem pl_eqv : ∀ {k j : Nat} {d e : D}, pl k d = true → pl j e = true → (PyData.eqv (toPy d) (toPy e) = true ↔ d = e)
  | _, _, .int _, .int _, _, _ => by simp [toPy, PyData.eqv]
  | _, _, .str _, .str _, _, _ => by simp [toPy, PyData.eqv]
  | k + 1, j + 1, .tup ds, .tup es, h, h2 => by simpa [toPy, PyData.eqv] using pls_eqv (k := k) (j := j) (by simpa [pl] using h) (by simpa [pl] using h2)
  | k + 1, j + 1, .lst ds, .lst es, h, h2 => by simpa [toPy, PyData.eqv] using pls_eqv (k := k) (j := j) (by simpa [pl] using h) (by simpa [pl] using h2)
  | _, _, .int _, .str _, _, _ => by simp [toPy, PyData.eqv]
  | _, _, .int _, .tup _, _, _ => by simp [toPy, PyData.eqv]
  | _, _, .int _, .lst _, _, _ => by simp [toPy, PyData.eqv]
  | _, _, .str _, .int _, _, _ => by simp [toPy, PyData.eqv]
  | _, _, .str _, .tup _, _, _ => by simp [toPy, PyData.eqv]
  | _, _, .str _, .lst _, _, _ => by simp [toPy, PyData.eqv]
  | _, _, .tup _, .int _, _, _ => by simp [toPy, PyData.eqv]
  | _, _, .tup _, .str _, _, _ => by simp [toPy, PyData.eqv]
  | _, _, .tup _, .lst _, _, _ => by simp [toPy, PyData.eqv]
  | _, _, .lst _, .int _, _, _ => by simp [toPy, PyData.eqv]
  | _, _, .lst _, .str _, _, _ => by simp [toPy, PyData.eqv]
  | _, _, .lst _, .tup _, _, _ => by simp [toPy, PyData.eqv]
  | 0, _, .tup _, _, h, _ => by simp [pl] at h
  | 0, _, .lst _, _, h, _ => by simp [pl] at h
  | _, 0, _, .tup _, _, h => by simp [pl] at h
  | _, 0, _, .lst _, _, h => by simp [pl] at h
  | 0, _, .non, _, h, _ => by simp [pl] at h
  | k + 1, _, .non, _, h, _ => by simp [pl] at h
  | 0, _, .bl _, _, h, _ => by simp [pl] at h
  | k + 1, _, .bl _, _, h, _ => by simp [pl] at h
  | 0, _, .flst _, _, h, _ => by simp [pl] at h
  | k + 1, _, .flst _, _, h, _ => by simp [pl] at h
  | 0, _, .obj _ _ _, _, h, _ => by simp [pl] at h
  | k + 1, _, .obj _ _ _, _, h, _ => by simp [pl] at h
  | 0, _, .loc _, _, h, _ => by simp [pl] at h
  | k + 1, _, .loc _, _, h, _ => by simp [pl] at h
  | _, 0, _, .non, _, h => by simp [pl] at h
  | _, k + 1, _, .non, _, h => by simp [pl] at h
  | _, 0, _, .bl _, _, h => by simp [pl] at h
  | _, k + 1, _, .bl _, _, h => by simp [pl] at h
  | _, 0, _, .flst _, _, h => by simp [pl] at h
  | _, k + 1, _, .flst _, _, h => by simp [pl] at h
  | _, 0, _, .obj _ _ _, _, h => by simp [pl] at h
  | _, k + 1, _, .obj _ _ _, _, h => by simp [pl] at h
  | _, 0, _, .loc _, _, h => by simp [pl] at h
  | _, k + 1, _, .loc _, _, h => by simp [pl] at h
theorem pls_eqv : ∀ {k j : Nat} {ds es : List D}, pls k ds = true → pls j es = true → (PyData.eqvAll (toPys ds) (toPys es) = true ↔ ds = es)
  | _, _, [], [], _, _ => by simp [toPys, PyData.eqvAll]
  | _, _, [], _ :: _, _, _ => by simp [toPys, PyData.eqvAll]
  | _, _, _ :: _, [], _, _ => by simp [toPys, PyData.eqvAll]
  | k, j, d :: ds, e :: es, h, h2 => by
    simp only [pls, Bool.and_eq_true] at h h2
    simp [toPys, PyData.eqvAll, pl_eqv h.1 h2.1, pls_eqv h.2 h2.2]
end
/-- what stands at a place -/
def rd (μ : Store) : D → D
  | .loc n => match μ[n]? with
    | some (.lst ds) => .lst ds
    | _ => .loc n
  | d => d
theorem toPyM_rd {μ : Store} {d : D} : toPyM μ d = toPy (rd μ d) := by
  cases d <;> try rfl
  rename_i n
  simp only [toPyM, rd]
  cases h : μ[n]? with
  | none => rfl
  | some c => cases c <;> rfl
theorem oEq_pl {k j : Nat} {d e : D} {μ : Store} (h : pl k (rd μ d) = true) (h2 : pl j (rd μ e) = true) (hk : k ≤ 60 := by decide) (hj : j ≤ 60 := by decide) : oEq d e μ = .ok (.bl (decide (rd μ d = rd μ e))) μ := by
  unfold oEq
  simp only [toPyM_rd, pl_ok h hk, pl_ok h2 hj, Bool.and_true, if_true]
  congr 2
  rw [Bool.eq_iff_iff, decide_eq_true_eq]
  exact pl_eqv h h2
theorem oNe_pl {k j : Nat} {d e : D} {μ : Store} (h : pl k (rd μ d) = true) (h2 : pl j (rd μ e) = true) (hk : k ≤ 60 := by decide) (hj : j ≤ 60 := by decide) : oNe d e μ = .ok (.bl (!decide (rd μ d = rd μ e))) μ := by
  unfold oNe
  simp only [toPyM_rd, pl_ok h hk, pl_ok h2 hj, Bool.and_true, if_true]
  congr 3
  rw [Bool.eq_iff_iff, decide_eq_true_eq]
  exact pl_eqv h h2
@[simp] theorem oEq_bl {a b : Bool} {μ : Store} : oEq (.bl a) (.bl b) μ = .ok (.bl (a == b)) μ := by cases a <;> cases b <;> rfl
@[simp] theorem oNe_bl {a b : Bool} {μ : Store} : oNe (.bl a) (.bl b) μ = .ok (.bl (a != b)) μ := by cases a <;> cases b <;> rfl
@[simp] theorem oEq_int {a b : Int} {μ : Store} : oEq (.int a) (.int b) μ = .ok (.bl (decide (a = b))) μ := by
  rw [oEq_pl (k := 0) (j := 0) rfl rfl]; simp [rd]
@[simp] theorem oNe_int {a b : Int} {μ : Store} : oNe (.int a) (.int b) μ = .ok (.bl (!decide (a = b))) μ := by
  rw [oNe_pl (k := 0) (j := 0) rfl rfl]; simp [rd]
/-! ### comprehensions -/
theorem lc_pure {items : List D} {g : D → Env → Store → Res Env} {ft : FT} {fe : FE} {ρ : Env} {μ : Store} (p : D → Bool) (f : D → D) {ds : List D} {acc : List D}
    (h : ∀ d ∈ ds, ∃ ρ1, g d ρ μ = .ok ρ1 μ ∧ ft ρ1 μ = .ok (p d) μ ∧ (p d = true → fe ρ1 μ = .ok (f d) μ)) (hl : acc.length + ds.length ≤ LIM) :
    lcL items none g ft fe ρ ds μ acc = .ok (.lst (acc ++ (ds.filter p).map f)) μ := by
  induction ds generalizing acc with
  | nil => simp [lcL, srcOk]
  | cons d ds ih =>
    obtain ⟨ρ1, h1, h2, h3⟩ := h d (by simp)
    simp only [lcL, srcOk, if_true, h1, Res.bind_ok, h2]
    simp only [List.length_cons] at hl
    cases hp : p d with
    | false =>
      simp only [Bool.false_eq_true, if_false]
      rw [ih (fun d' m => h d' (by simp [m])) (by omega)]
      simp [hp]
    | true =>
      simp only [if_true, h3 hp, Res.bind_ok]
      rw [if_pos (by omega), ih (fun d' m => h d' (by simp [m])) (by simp; omega)]
      simp [hp]
inductive F2 {α β : Type} (P : α → β → Prop) : List α → List β → Prop
  | nil : F2 P [] []
  | cons {a : α} {b : β} {r : List α} {s : List β} (h : P a b) (t : F2 P r s) : F2 P (a :: r) (b :: s)
theorem F2.length_eq {α β : Type} {P : α → β → Prop} {r : List α} {s : List β} (h : F2 P r s) : r.length = s.length := by
  induction h with
  | nil => rfl
  | cons _ _ ih => simp [ih]
theorem F2.all {α β : Type} {P : α → β → Prop} {r : List α} {s : List β} (h : F2 P r s) : ∀ b ∈ s, ∃ a ∈ r, P a b := by
  induction h with
  | nil => simp
  | cons h _ ih =>
    intro b hb
    rcases List.mem_cons.mp hb with rfl | hb
    · exact ⟨_, by simp, h⟩
    · obtain ⟨a, m, p⟩ := ih b hb
      exact ⟨a, by simp [m], p⟩
/-- a comprehension with a state: what holds of the state goes on to hold, what holds of each thing holds of all -/
theorem lc_st {items : List D} {g : D → Env → Store → Res Env} {ft : FT} {fe : FE} {ρ : Env} (I : Store → Prop) (P : D → D → Prop) {ds : List D} {acc : List D} {μ : Store} (hI : I μ)
    (h : ∀ d ∈ ds, ∀ μ, I μ → ∃ ρ1 μ1, g d ρ μ = .ok ρ1 μ1 ∧ ∃ b μ2, ft ρ1 μ1 = .ok b μ2 ∧ (b = false → I μ2) ∧ (b = true → ∃ y μ3, fe ρ1 μ2 = .ok y μ3 ∧ I μ3 ∧ P d y)) (hl : acc.length + ds.length ≤ LIM) :
    ∃ ys zs μ', lcL items none g ft fe ρ ds μ acc = .ok (.lst (acc ++ ys)) μ' ∧ I μ' ∧ zs.Sublist ds ∧ F2 P zs ys := by
  induction ds generalizing acc μ with
  | nil => exact ⟨[], [], μ, by simp [lcL, srcOk], hI, .slnil, .nil⟩
  | cons d ds ih =>
    obtain ⟨ρ1, μ1, h1, b, μ2, h2, h3, h4⟩ := h d (by simp) μ hI
    simp only [lcL, srcOk, if_true, h1, Res.bind_ok, h2]
    simp only [List.length_cons] at hl
    cases b with
    | false =>
      simp only [Bool.false_eq_true, if_false]
      obtain ⟨ys, zs, μ', e, i, s, f⟩ := ih (acc := acc) (h3 rfl) (fun d' m => h d' (by simp [m])) (by omega)
      exact ⟨ys, zs, μ', e, i, s.cons _, f⟩
    | true =>
      obtain ⟨y, μ3, h5, h6, h7⟩ := h4 rfl
      simp only [if_true, h5, Res.bind_ok]
      rw [if_pos (by omega)]
      obtain ⟨ys, zs, μ', e, i, s, f⟩ := ih (acc := acc ++ [y]) h6 (fun d' m => h d' (by simp [m])) (by simp; omega)
      exact ⟨y :: ys, d :: zs, μ', by rw [e]; simp, i, s.cons₂ _, .cons h7 f⟩
theorem lc_all {items : List D} {g : D → Env → Store → Res Env} {ft : FT} {fe : FE} {ρ : Env} (I : Store → Prop) (P : D → D → Prop) {ds : List D} {acc : List D} {μ : Store} (hI : I μ)
    (h : ∀ d ∈ ds, ∀ μ, I μ → ∃ ρ1 μ1, g d ρ μ = .ok ρ1 μ1 ∧ ∃ μ2, ft ρ1 μ1 = .ok true μ2 ∧ ∃ y μ3, fe ρ1 μ2 = .ok y μ3 ∧ I μ3 ∧ P d y) (hl : acc.length + ds.length ≤ LIM) :
    ∃ ys μ', lcL items none g ft fe ρ ds μ acc = .ok (.lst (acc ++ ys)) μ' ∧ I μ' ∧ F2 P ds ys := by
  induction ds generalizing acc μ with
  | nil => exact ⟨[], μ, by simp [lcL, srcOk], hI, .nil⟩
  | cons d ds ih =>
    obtain ⟨ρ1, μ1, h1, μ2, h2, y, μ3, h5, h6, h7⟩ := h d (by simp) μ hI
    simp only [lcL, srcOk, if_true, h1, Res.bind_ok, h2, h5]
    simp only [List.length_cons] at hl
    rw [if_pos (by omega)]
    obtain ⟨ys, μ', e, i, f⟩ := ih (acc := acc ++ [y]) h6 (fun d' m => h d' (by simp [m])) (by simp; omega)
    exact ⟨y :: ys, μ', by rw [e]; simp, i, .cons h7 f⟩
theorem F2.map_of {α β γ : Type} {P : α → β → Prop} {Q : γ → Prop} {f : γ → β} (h : ∀ a b, P a b → ∃ c, b = f c ∧ Q c) {r : List α} {s : List β} (t : F2 P r s) : ∃ cs : List γ, s = cs.map f ∧ cs.length = r.length ∧ ∀ c ∈ cs, Q c := by
  induction t with
  | nil => exact ⟨[], rfl, rfl, by simp⟩
  | cons p _ ih =>
    obtain ⟨c, rfl, q⟩ := h _ _ p
    obtain ⟨cs, rfl, l, qs⟩ := ih
    exact ⟨c :: cs, rfl, by simp [l], by simp [q]; exact qs⟩
theorem join_one : ∀ {cs : List Nat}, joinD [] (cs.map fun c => [c]) = cs
  | [] => rfl
  | [c] => rfl
  | c :: d :: r => by
    have := join_one (cs := d :: r)
    simp only [List.map_cons] at this ⊢
    simp only [joinD, this]
    rfl
theorem strs_one : ∀ {cs : List Nat}, strsOf (cs.map fun c => D.str [c]) = some (cs.map fun c => [c])
  | [] => rfl
  | c :: r => by simp [strsOf, strs_one (cs := r)]
theorem oJoin_one {cs : List Nat} {μ : Store} (h : cs.length ≤ LIM) : oJoin (.str []) (.lst (cs.map fun c => D.str [c])) μ = .ok (.str cs) μ := by
  simp [oJoin, seqOf, strs_one, join_one, Function.comp_def]
  have : ∀ l : List Nat, (List.map (fun c : Nat => 1) l).sum = l.length := fun l => by induction l <;> simp_all; omega
  rw [this]
  exact h
theorem for_cons {items : List D} {g : D → Env → Store → Res Env} {body : FS} {d : D} {ds : List D} {ρ : Env} {μ : Store} : forL items none g body (d :: ds) ρ μ = rS (g d ρ μ) fun ρ1 μ1 => match body ρ1 μ1 with
      | .nx ρ2 μ2 => forL items none g body ds ρ2 μ2
      | .ct ρ2 μ2 => forL items none g body ds ρ2 μ2
      | .bk ρ2 μ2 => .nx ρ2 μ2
      | .rt d μ2 => .rt d μ2
      | .stuck => .stuck := by rw [forL, if_pos (show srcOk none items μ = true from rfl)] <;> rfl
theorem for_nil {items : List D} {g : D → Env → Store → Res Env} {body : FS} {ρ : Env} {μ : Store} : forL items none g body [] ρ μ = .nx ρ μ := by rw [forL, if_pos (show srcOk none items μ = true from rfl)]
theorem getElem?_mid {α : Type} {μ r : List α} {x : α} : (μ ++ x :: r)[μ.length]? = some x := by simp
theorem set_mid {α : Type} {μ r : List α} {x y : α} : (μ ++ x :: r).set μ.length y = μ ++ y :: r := by simp
/-- a loop that keeps something -/
theorem for_inv {items : List D} {g : D → Env → Store → Res Env} {body : FS} (J : List D → Env → Store → Prop) {ds : List D} {ρ : Env} {μ : Store} (hJ : J ds ρ μ)
    (h : ∀ d r ρ μ, J (d :: r) ρ μ → ∃ ρ1 μ1 ρ2 μ2, g d ρ μ = .ok ρ1 μ1 ∧ body ρ1 μ1 = .nx ρ2 μ2 ∧ J r ρ2 μ2) :
    ∃ ρ' μ', forL items none g body ds ρ μ = .nx ρ' μ' ∧ J [] ρ' μ' := by
  induction ds generalizing ρ μ with
  | nil => exact ⟨ρ, μ, by simp [forL, srcOk], hJ⟩
  | cons d ds ih =>
    obtain ⟨ρ1, μ1, ρ2, μ2, h1, h2, h3⟩ := h d ds ρ μ hJ
    obtain ⟨ρ', μ', e, j⟩ := ih h3
    exact ⟨ρ', μ', by simp only [forL, srcOk, if_true, h1, rS_ok, h2, e], j⟩

end Fw

set_option Elab.async false
set_option linter.all false
set_option maxRecDepth 100000
set_option autoImplicit false
namespace Fw
open PySem L2 PyProof.Rows
/-! ### a comprehension with two fors -/
theorem Kp.refl' {w : Wd} : Kp w w := ⟨fun _ _ h1 h2 h3 => ⟨h3, h1, h2⟩, fun _ _ h => h⟩
theorem Kp.trans' {w w1 w2 : Wd} (h : Kp w w1) (g : Kp w1 w2) : Kp w w2 := ⟨fun a o h1 h2 h3 => by
    obtain ⟨x, y, z⟩ := h.at_ a o h1 h2 h3
    exact g.at_ a o y z x, fun n a e => g.loc n a (h.loc n a e)⟩
def lcL2 (items : List D) (src : Option Nat) (g : D → Env → Store → Res Env) (ft : FT) (fi1 : FI) (g1 : D → Env → Store → Res Env) (ft1 : FT) (fe : FE) (vs1 : List Nat) (ρ : Env) : List D → Store → List D → Res D
  | [], μ, acc => if srcOk src items μ = true then .ok (.lst acc) μ else .stuck
  | d :: ds, μ, acc => if srcOk src items μ = true then (g d ρ μ).bind fun ρ1 μ1 => (ft ρ1 μ1).bind fun b μ2 =>
      if b = true then (fi1 ρ1 μ2).bind fun it μ3 => (lcL it.1 it.2 g1 ft1 fe (wipeE ρ1 vs1) it.1 μ3 acc).bind fun d μ4 => match d with
        | .lst acc' => lcL2 items src g ft fi1 g1 ft1 fe vs1 ρ ds μ4 acc'
        | _ => .stuck
      else lcL2 items src g ft fi1 g1 ft1 fe vs1 ρ ds μ2 acc
    else .stuck
def eLc2 (vs vs1 : List Nat) (fi : FI) (g : D → Env → Store → Res Env) (ft : FT) (fi1 : FI) (g1 : D → Env → Store → Res Env) (ft1 : FT) (fe : FE) : FE := fun ρ μ => (fi ρ μ).bind fun it μ1 => lcL2 it.1 it.2 g ft fi1 g1 ft1 fe vs1 (wipeE ρ vs) it.1 μ1 []
section
variable {K : PySem.W.Frag} {cls : Nat → Option Addr} {w w1 w' w4 : Wd} {μ : Store}
theorem lc2_ok {wi wi1 : TI} {fi fi1 : FI} {is is1 vs vs1 : List Nat} {g g1 : D → Env → Store → Res Env} {ft ft1 : FT} {fe : FE}
    (h1 : ∀ (σ : L2.St) (R : It → Hp → Prop) (w : Wd) (ρ : Env) (μ : Store), RelS K cls w μ → RelE K cls w ρ σ → PostR K cls w (fun w' it => ∀ J, Wk K cls J w' it.1 it.2 → R J w'.H) (fi ρ μ) → wi σ w.H R)
    (h2 : ∀ (σ : L2.St) (R : It → Hp → Prop) (w : Wd) (ρ : Env) (μ : Store), RelS K cls w μ → RelE K cls w ρ σ → PostR K cls w (fun w' it => ∀ J, Wk K cls J w' it.1 it.2 → R J w'.H) (fi1 ρ μ) → wi1 σ w.H R)
    (hs : is.all (vs.contains ·) = true) (hs1 : is1.all (vs1.contains ·) = true) {σ : L2.St} {Q : VK} {ρ : Env} (S : RelS K cls w μ) (E : RelE K cls w ρ σ) (h : PostR K cls w (fun w' d => ∀ v, RV K cls w' d v → Q v w'.H) (eLc2 vs vs1 fi g ft fi1 g1 ft1 fe ρ μ)) :
    tLc2 wi (TGof K cls is g) (TTof K cls ft) wi1 (TGof K cls is1 g1) (TTof K cls ft1) (TEof K cls fe) vs vs1 σ w.H Q := by
  refine h1 σ _ w ρ μ S E ((PostR.bind h).imp fun w1 it s1 ⟨μ1, S1, q1⟩ J wk => ?_)
  obtain ⟨items, src⟩ := it
  have E1 := E.mono s1.kp
  intro p hp
  refine ⟨fun i m H => m = items.length - i ∧ i ≤ items.length ∧ ∃ (w' : Wd) (μ' : Store) (acc : List D) (us : List V), w'.H = H ∧ w'.B = p :: w1.B ∧ Step w1 ⟨w'.ι, w1.B, w'.H⟩ ∧ RelS K cls w' μ' ∧ H p = some (.lst us) ∧
      RVs K cls w' acc us ∧ PostR K cls w1 (fun w' d => ∀ v, RV K cls w' d v → Q v w'.H) (lcL2 items src g ft fi1 g1 ft1 fe vs1 (wipeE ρ vs) (items.drop i) μ' acc),
    ⟨items.length, by simp, Nat.zero_le _, ⟨w1.ι, p :: w1.B, upd w1.H p (.lst [])⟩, μ1, [], [], rfl, rfl, step_new hp, S1.ban1 hp, upd_same, rfl, by simpa using q1⟩, ?_⟩
  rintro i m H ⟨rfl, hle, w', μ', acc, us, rfl, hB, st, S', hD, racc, q⟩
  have kp : Kp w1 w' := ⟨fun a o hi hb e => ⟨st.keep a o hi e, st.notin e hi, fun z => by
      rw [hB] at z
      rcases List.mem_cons.mp z with e1 | z
      · exact ne_of_none e hp e1
      · exact hb z⟩, fun n a e => st.loc e⟩
  have E' := (E1.mono kp).wipe vs
  by_cases hlt : i < items.length
  · rw [List.drop_eq_getElem_cons hlt] at q
    simp only [lcL2] at q
    split at q
    · rename_i so
      obtain ⟨wd, _⟩ := wk i w' μ' kp S' so
      obtain ⟨go, yld⟩ := wd items[i] (List.getElem?_eq_getElem hlt)
      refine .inr ⟨go, fun H => ∃ (w' : Wd) (μ' : Store) (acc : List D) (us : List V), w'.H = H ∧ w'.B = p :: w1.B ∧ Step w1 ⟨w'.ι, w1.B, w'.H⟩ ∧ RelS K cls w' μ' ∧ H p = some (.lst us) ∧
          RVs K cls w' acc us ∧ PostR K cls w1 (fun w' d => ∀ v, RV K cls w' d v → Q v w'.H) (lcL2 items src g ft fi1 g1 ft1 fe vs1 (wipeE ρ vs) (items.drop (i + 1)) μ' acc), fun H z => ⟨_, by omega, rfl, hlt, z⟩, fun x H2 y => ?_⟩
      obtain ⟨w2, rfl, st2, S2, rx⟩ := yld x H2 y
      refine ⟨w2, wipeE ρ vs, μ', items[i], rfl, S2, E'.mono st2.kp, rx, (PostR.bind0 q).imp fun w3 ρ3 _ ⟨st3, μ3, S3, q3⟩ σ3 E3 off => ⟨wipe_off off hs, w3, ρ3, μ3, rfl, S3, E3, (PostR.bind0 q3).imp fun w4 b _ ⟨st4, μ4, S4, q4⟩ => ?_⟩⟩
      have st14 : Step w' w4 := (st2.trans st3).trans st4
      have stw := st.under st14
      have hpB : p ∈ w'.B := by rw [hB]; exact List.mem_cons_self
      cases b with
      | false =>
        refine iteF ?_
        exact ⟨w4, μ4, acc, us, rfl, st14.ban.trans hB, stw, S4, st14.keep p _ (S'.ban p hpB).1 hD, racc.mono st14.kp, by simpa using q4⟩
      | true =>
        refine iteT ?_
        simp only [if_true] at q4
        refine h2 σ3 _ w4 ρ3 μ4 S4 (E3.mono st4.kp) ((PostR.bind0 q4).imp fun w5 it1 _ ⟨st5, μ5, S5, q5⟩ J1 wk1 => ?_)
        obtain ⟨items1, src1⟩ := it1
        have st15 : Step w' w5 := st14.trans st5
        have E5 : RelE K cls w5 ρ3 σ3 := (E3.mono st4.kp).mono st5.kp
        have hB5 : w5.B = p :: w1.B := st15.ban.trans hB
        refine ⟨fun j k H => k = items1.length - j ∧ j ≤ items1.length ∧ ∃ (w' : Wd) (μ' : Store) (acc : List D) (us : List V), w'.H = H ∧ w'.B = p :: w1.B ∧ Kp w5 w' ∧ Step w1 ⟨w'.ι, w1.B, w'.H⟩ ∧ RelS K cls w' μ' ∧ H p = some (.lst us) ∧
            RVs K cls w' acc us ∧ PostR K cls w1 (fun w' d => ∀ v, RV K cls w' d v → Q v w'.H) ((lcL items1 src1 g1 ft1 fe (wipeE ρ3 vs1) (items1.drop j) μ' acc).bind fun d μ4 => match d with
              | .lst acc' => lcL2 items src g ft fi1 g1 ft1 fe vs1 (wipeE ρ vs) (items.drop (i + 1)) μ4 acc'
              | _ => .stuck),
          ⟨items1.length, by simp, Nat.zero_le _, w5, μ5, acc, us, rfl, hB5, Kp.refl', st.under st15, S5, st15.keep p _ (S'.ban p hpB).1 hD, racc.mono st15.kp, by simpa using q5⟩, ?_⟩
        rintro j k H ⟨rfl, hle1, w6, μ6, acc6, us6, rfl, hB6, kp6, stw6, S6, hD6, racc6, q6⟩
        have hp6 : p ∈ w6.B := by rw [hB6]; exact List.mem_cons_self
        have E6 := (E5.mono kp6).wipe vs1
        by_cases hlt1 : j < items1.length
        · rw [List.drop_eq_getElem_cons hlt1] at q6
          simp only [lcL] at q6
          split at q6
          · rename_i so1
            obtain ⟨wd1, _⟩ := wk1 j w6 μ6 kp6 S6 so1
            obtain ⟨go1, yld1⟩ := wd1 items1[j] (List.getElem?_eq_getElem hlt1)
            refine .inr ⟨go1, fun H => ∃ (w' : Wd) (μ' : Store) (acc : List D) (us : List V), w'.H = H ∧ w'.B = p :: w1.B ∧ Kp w5 w' ∧ Step w1 ⟨w'.ι, w1.B, w'.H⟩ ∧ RelS K cls w' μ' ∧ H p = some (.lst us) ∧
                RVs K cls w' acc us ∧ PostR K cls w1 (fun w' d => ∀ v, RV K cls w' d v → Q v w'.H) ((lcL items1 src1 g1 ft1 fe (wipeE ρ3 vs1) (items1.drop (j + 1)) μ' acc).bind fun d μ4 => match d with
                  | .lst acc' => lcL2 items src g ft fi1 g1 ft1 fe vs1 (wipeE ρ vs) (items.drop (i + 1)) μ4 acc'
                  | _ => .stuck), fun H z => ⟨_, by omega, rfl, hlt1, z⟩, fun x1 H7 y1 => ?_⟩
            obtain ⟨w7, rfl, st7, S7, rx7⟩ := yld1 x1 H7 y1
            have q6' : PostR K cls w1 (fun w' d => ∀ v, RV K cls w' d v → Q v w'.H) ((g1 items1[j] (wipeE ρ3 vs1) μ6).bind fun ρ1 μ1 => (ft1 ρ1 μ1).bind fun b μ2 =>
                if b = true then (fe ρ1 μ2).bind fun y μ3 => if acc6.length < LIM then (lcL items1 src1 g1 ft1 fe (wipeE ρ3 vs1) (items1.drop (j + 1)) μ3 (acc6 ++ [y])).bind fun d μ4 => match d with
                    | .lst acc' => lcL2 items src g ft fi1 g1 ft1 fe vs1 (wipeE ρ vs) (items.drop (i + 1)) μ4 acc'
                    | _ => .stuck
                  else .stuck
                else (lcL items1 src1 g1 ft1 fe (wipeE ρ3 vs1) (items1.drop (j + 1)) μ2 acc6).bind fun d μ4 => match d with
                  | .lst acc' => lcL2 items src g ft fi1 g1 ft1 fe vs1 (wipeE ρ vs) (items.drop (i + 1)) μ4 acc'
                  | _ => .stuck) := by
              cases hg1 : g1 items1[j] (wipeE ρ3 vs1) μ6 with
              | stuck => simpa [hg1] using q6
              | ok ρ1 μ1 =>
                simp only [hg1, Res.bind_ok] at q6 ⊢
                cases hft : ft1 ρ1 μ1 with
                | stuck => simpa [hft] using q6
                | ok b μ2 =>
                  simp only [hft, Res.bind_ok] at q6 ⊢
                  cases b with
                  | false => simpa using q6
                  | true =>
                    simp only [if_true] at q6 ⊢
                    cases hfe : fe ρ1 μ2 with
                    | stuck => simpa [hfe] using q6
                    | ok y μ3 =>
                      simp only [hfe, Res.bind_ok] at q6 ⊢
                      by_cases hl : acc6.length < LIM
                      · simpa [hl] using q6
                      · simpa [hl] using q6
            refine ⟨w7, wipeE ρ3 vs1, μ6, items1[j], rfl, S7, E6.mono st7.kp, rx7, (PostR.bind0 q6').imp fun w8 ρ8 _ ⟨st8, μ8, S8, q8⟩ σ8 E8 off8 => ⟨wipe_off off8 hs1, w8, ρ8, μ8, rfl, S8, E8, (PostR.bind0 q8).imp fun w9 b9 _ ⟨st9, μ9, S9, q9⟩ => ?_⟩⟩
            have st69 : Step w6 w9 := (st7.trans st8).trans st9
            cases b9 with
            | false =>
              refine iteF ?_
              exact ⟨w9, μ9, acc6, us6, rfl, st69.ban.trans hB6, kp6.trans' st69.kp, stw6.under st69, S9, st69.keep p _ (S6.ban p hp6).1 hD6, racc6.mono st69.kp, by simpa using q9⟩
            | true =>
              refine iteT ?_
              simp only [if_true] at q9
              refine ⟨w9, ρ8, μ9, rfl, S9, E8.mono st9.kp, (PostR.bind0 q9).imp fun wa y _ ⟨sta, μa, Sa, qa⟩ v rv => ?_⟩
              have st6a : Step w6 wa := st69.trans sta
              split at qa
              · rename_i hl
                have hBa : wa.B = p :: w1.B := st6a.ban.trans hB6
                have hpa : p ∈ wa.B := by rw [hBa]; exact List.mem_cons_self
                refine ⟨us6, st6a.keep p _ (S6.ban p hp6).1 hD6, by rw [racc6.length]; exact lim_lt hl, ⟨wa.ι, wa.B, upd wa.H p (.lst (us6 ++ [v]))⟩, μa, acc6 ++ [y], us6 ++ [v], rfl, hBa, (kp6.trans' st6a.kp).trans' (kp_bump hpa), (stw6.under st6a).bumped hp, Sa.bump hpa, upd_same, ?_, qa⟩
                exact ((racc6.mono st6a.kp).append (.cons rv .nil)).mono (kp_bump hpa)
              · exact qa.elim
          · exact q6.elim
        · have e : j = items1.length := by omega
          subst e
          rw [List.drop_length] at q6
          simp only [lcL] at q6
          split at q6
          · rename_i so1
            obtain ⟨_, stop⟩ := wk1 items1.length w6 μ6 kp6 S6 so1
            exact .inl ⟨stop (Nat.le_refl _), w6, μ6, acc6, us6, rfl, hB6, stw6, S6, hD6, racc6, q6⟩
          · exact q6.elim
    · exact q.elim
  · have e : i = items.length := by omega
    subst e
    rw [List.drop_length] at q
    simp only [lcL2] at q
    split at q
    · rename_i so
      obtain ⟨_, stop⟩ := wk items.length w' μ' kp S' so
      refine .inl ⟨stop (Nat.le_refl _), q ⟨w'.ι, w1.B, w'.H⟩ st (S'.unban hB) _ ⟨p, us, rfl, ⟨hD, (S'.ban p (by rw [hB]; exact List.mem_cons_self)).1, (S1.free hp).2⟩, racc.unban hB⟩⟩
    · exact q.elim
end
def TIof (K : PySem.W.Frag) (cls : Nat → Option Addr) (f : FI) : TI := fun σ H R => ∃ (w : Wd) (ρ : Env) (μ : Store), w.H = H ∧ RelS K cls w μ ∧ RelE K cls w ρ σ ∧ PostR K cls w (fun w' it => ∀ J, Wk K cls J w' it.1 it.2 → R J w'.H) (f ρ μ)
section
variable {X : Cx} {cls : Nat → Option Addr} {elt tg iter tg1 iter1 : Expr} {ifs ifs1 : List Expr} {scope : Scope} {own : List (Str × Nat)} {vs1 : List Nat} {pos : Pos} {is is1 : List Nat} {fi fi1 : FI} {g g1 : D → Env → Store → Res Env} {ft ft1 : FT} {fe : FE}
theorem SI.pi (h : SI X cls tg iter fi) : PI X tg iter (TIof X.K cls fi) := by
  obtain ⟨t, p, k⟩ := h
  refine ⟨fun pins s σ H R I z => ?_⟩
  obtain ⟨w, ρ, μ, rfl, S, E, q⟩ := z
  exact p.run pins s σ w.H R I (k σ R w ρ μ S E q)
theorem se_lc2 (vs1 : List Nat) (hc : X.calm = true) (hN : X.N.Nodup) (hi : SI X cls tg iter fi) (ok : BlkOk X.N X.env.scope scope own)
    (hg : ∀ (s : Shared) (H : Hp) (C : Addr) (cl : List (Str × Addr)) (fp : List Addr), SG (X.blk s H scope (compEnvC scope cl C X.env) fp) cls tg is g) (ht : ∀ (s : Shared) (H : Hp) (C : Addr) (cl : List (Str × Addr)) (fp : List Addr), STs (X.blk s H scope (compEnvC scope cl C X.env) fp) cls ifs ft)
    (hi1 : ∀ (s : Shared) (H : Hp) (C : Addr) (cl : List (Str × Addr)) (fp : List Addr), SI (X.blk s H scope (compEnvC scope cl C X.env) fp) cls tg1 iter1 fi1)
    (hg1 : ∀ (s : Shared) (H : Hp) (C : Addr) (cl : List (Str × Addr)) (fp : List Addr), SG (X.blk s H scope (compEnvC scope cl C X.env) fp) cls tg1 is1 g1) (ht1 : ∀ (s : Shared) (H : Hp) (C : Addr) (cl : List (Str × Addr)) (fp : List Addr), STs (X.blk s H scope (compEnvC scope cl C X.env) fp) cls ifs1 ft1)
    (he : ∀ (s : Shared) (H : Hp) (C : Addr) (cl : List (Str × Addr)) (fp : List Addr), SE (X.blk s H scope (compEnvC scope cl C X.env) fp) cls elt fe) (hv : vs1.all ((own.map (·.2)).contains ·) = true := by decide) (hs : is.all ((own.map (·.2)).contains ·) = true := by decide) (hs1 : is1.all (vs1.contains ·) = true := by decide)
    (hf : ∀ x, foldedSetIterable iter X.env x = pure x := by intro _; rfl) (hf1 : ∀ env x, foldedSetIterable iter1 env x = pure x := by intro _ _; rfl) :
    SE X cls (.ListComp elt [⟨tg, iter, ifs, 0⟩, ⟨tg1, iter1, ifs1, 0⟩] scope pos) (eLc2 (own.map (·.2)) vs1 fi g ft fi1 g1 ft1 fe) := by
  obtain ⟨t1, p1, h1⟩ := hi
  exact ⟨_, pe_lc2 (g := TGof X.K cls is g) (tt := TTof X.K cls ft) (te := TEof X.K cls fe) (wi1 := TIof X.K cls fi1) (g1 := TGof X.K cls is1 g1) (tt1 := TTof X.K cls ft1) (vs1 := vs1) hc hN p1 ok (fun i hi => by have := List.all_eq_true.mp hv i hi; simpa using this) (fun s H C cl fp => (hg s H C cl fp).pg) ht (fun s H C cl fp => (hi1 s H C cl fp).pi) (fun s H C cl fp => (hg1 s H C cl fp).pg) ht1 (fun s H C cl fp => (he s H C cl fp).pe) hf hf1,
    fun σ Q w ρ μ S E h => lc2_ok h1 (fun σ R w ρ μ S E z => ⟨w, ρ, μ, rfl, S, E, z⟩) hs hs1 S E h⟩
theorem ss_setLc2 (vs1 : List Nat) {i : Nat} {y : Str} {py spos : Pos} (hc : X.calm = true) (hN : X.N.Nodup) (hy : X.N[i]? = some y) (hyl : X.env.scope.names.lookup y = some .local) (hsw : swapsWith (.ListComp elt [⟨tg, iter, ifs, 0⟩, ⟨tg1, iter1, ifs1, 0⟩] scope pos) (some (.Name y py)) spos.line X.env = pure true)
    (hi : SI X cls tg iter fi) (ok : BlkOk X.N X.env.scope scope own)
    (hg : ∀ (s : Shared) (H : Hp) (C : Addr) (cl : List (Str × Addr)) (fp : List Addr), SG (X.blk s H scope (compEnvC scope cl C X.env) fp) cls tg is g) (ht : ∀ (s : Shared) (H : Hp) (C : Addr) (cl : List (Str × Addr)) (fp : List Addr), STs (X.blk s H scope (compEnvC scope cl C X.env) fp) cls ifs ft)
    (hi1 : ∀ (s : Shared) (H : Hp) (C : Addr) (cl : List (Str × Addr)) (fp : List Addr), SI (X.blk s H scope (compEnvC scope cl C X.env) fp) cls tg1 iter1 fi1)
    (hg1 : ∀ (s : Shared) (H : Hp) (C : Addr) (cl : List (Str × Addr)) (fp : List Addr), SG (X.blk s H scope (compEnvC scope cl C X.env) fp) cls tg1 is1 g1) (ht1 : ∀ (s : Shared) (H : Hp) (C : Addr) (cl : List (Str × Addr)) (fp : List Addr), STs (X.blk s H scope (compEnvC scope cl C X.env) fp) cls ifs1 ft1)
    (he : ∀ (s : Shared) (H : Hp) (C : Addr) (cl : List (Str × Addr)) (fp : List Addr), SE (X.blk s H scope (compEnvC scope cl C X.env) fp) cls elt fe) (hv : vs1.all ((own.map (·.2)).contains ·) = true := by decide) (hs : is.all ((own.map (·.2)).contains ·) = true := by decide) (hs1 : is1.all (vs1.contains ·) = true := by decide)
    (hf : ∀ x, foldedSetIterable iter X.env x = pure x := by intro _; rfl) (hf1 : ∀ env x, foldedSetIterable iter1 env x = pure x := by intro _ _; rfl) :
    SS X cls (.Assign [.Name y py] (.ListComp elt [⟨tg, iter, ifs, 0⟩, ⟨tg1, iter1, ifs1, 0⟩] scope pos) spos) (sAsg (gVar i) (eLc2 (own.map (·.2)) vs1 fi g ft fi1 g1 ft1 fe)) := by
  obtain ⟨t1, p1, h1⟩ := hi
  refine ⟨_, ps_setLc2 (g := TGof X.K cls is g) (tt := TTof X.K cls ft) (te := TEof X.K cls fe) (wi1 := TIof X.K cls fi1) (g1 := TGof X.K cls is1 g1) (tt1 := TTof X.K cls ft1) (vs1 := vs1) hc hN hy hyl hsw p1 ok (fun i hi => by have := List.all_eq_true.mp hv i hi; simpa using this) (fun s H C cl fp => (hg s H C cl fp).pg) ht (fun s H C cl fp => (hi1 s H C cl fp).pi) (fun s H C cl fp => (hg1 s H C cl fp).pg) ht1 (fun s H C cl fp => (he s H C cl fp).pe) hf hf1, fun D σ w ρ μ S E h => ?_⟩
  refine lc2_ok (Q := fun x H1 => L2.gName i x σ H1 D.nx) h1 (fun σ R w ρ μ S E z => ⟨w, ρ, μ, rfl, S, E, z⟩) hs hs1 S E ((PostS.bind h).imp fun w1 d s1 ⟨μ1, S1, q1⟩ v r1 => ?_)
  unfold gVar at q1
  split at q1
  · exact q1 w1 _ Step.refl S1 ((E.mono s1.kp).set r1)
  · exact q1.elim
end
end Fw

set_option Elab.async false
set_option linter.all false
set_option maxRecDepth 100000
set_option autoImplicit false
/-! A range that goes down, x -= e. -/
namespace Fw
open PySem L2 PyProof.Rows
section
variable {K : PySem.W.Frag} {cls : Nat → Option Addr} {w : Wd}
theorem wk_rangeC {lo c : Int} {n : Nat} : Wk K cls (Itc lo c n) w ((List.range n).map fun i => .int (lo + (i : Nat) * c)) none := by
  intro i w' μ' k S' so
  refine ⟨fun d hd => ?_, fun hi => ?_⟩
  · rw [List.getElem?_map, Option.map_eq_some_iff] at hd
    obtain ⟨m, hm, rfl⟩ := hd
    obtain ⟨hi, e⟩ := List.getElem?_eq_some_iff.mp hm
    rw [List.length_range] at hi
    rw [List.getElem_range] at e
    subst e
    exact ⟨hi, fun x H2 ⟨e, h2⟩ => ⟨w', e.symm, Step.refl, S', h2⟩⟩
  · rw [List.length_map, List.length_range] at hi
    exact hi
end
section
variable {X : Cx} {cls : Nat → Option Addr} {tg a b c e : Expr} {fa fb fe : FE} {p pos : Pos}
/-- range(a, b, -1) -/
def iDown (fa fb : FE) : FI := fun ρ μ => (fa ρ μ).bind fun d μ1 => (fb ρ μ1).bind fun e μ2 => match d, e with
  | .int i, .int j => if -1000000 ≤ i ∧ i ≤ 1000000 ∧ -1000000 ≤ j ∧ j ≤ 1000000 then .ok ((List.range (i - j).toNat).map fun k => .int (i + (k : Nat) * (-1)), none) μ2 else .stuck
  | _, _ => .stuck
theorem pe_minus1 {j1 p1 p2} : PE X (.UnaryOp .USub (.Constant (.int 1) j1 p1) p2) (tC (.int (-1))) := ⟨fun pins s σ H Q I h => (pe_un un_neg (pe_int (X := X) (i := 1) (j := j1) (pos := p1))).run pins s σ H Q I ⟨1, rfl, h⟩⟩
theorem si_down {j1 p1 p2} (hg : Gl X "range") (hm : X.mg "range" = none) (ha : SE X cls a fa) (hb : SE X cls b fb)
    (hs : starEach [a, b, .UnaryOp .USub (.Constant (.int 1) j1 p1) p2] X.env = [(false, eval a X.env), (false, eval b X.env), (false, eval (.UnaryOp .USub (.Constant (.int 1) j1 p1) p2) X.env)] := by rfl)
    (hs2 : starEach [b, .UnaryOp .USub (.Constant (.int 1) j1 p1) p2] X.env = [(false, eval b X.env), (false, eval (.UnaryOp .USub (.Constant (.int 1) j1 p1) p2) X.env)] := by rfl)
    (hs3 : starEach [.UnaryOp .USub (.Constant (.int 1) j1 p1) p2] X.env = [(false, eval (.UnaryOp .USub (.Constant (.int 1) j1 p1) p2) X.env)] := by rfl) :
    SI X cls tg (.Call (.Name "range" p) [a, b, .UnaryOp .USub (.Constant (.int 1) j1 p1) p2] [] pos) (iDown fa fb) := by
  obtain ⟨t, q1, k⟩ := ha
  obtain ⟨t2, q2, k2⟩ := hb
  refine ⟨_, pi_range3 hg hm (pa_cons q1 (pa_cons q2 (pa_cons pe_minus1 pa_nil hs3) (by rw [hs2, hs3])) (by rw [hs, hs2])) (by rw [hs, hs2]) (by rw [hs2]; rfl), fun σ R w ρ μ S E h => ?_⟩
  refine k σ _ w ρ μ S E ((PostR.bind h).imp fun w1 d s1 ⟨μ1, S1, q1⟩ v r1 => ?_)
  refine k2 σ _ w1 ρ μ1 S1 (E.mono s1.kp) ((PostR.bind q1).imp fun w2 d2 s2 ⟨μ2, S2, q2⟩ v2 r2 => ?_)
  cases d with
  | int i =>
    cases d2 with
    | int j =>
      simp only at q2
      split at q2
      · exact ⟨i, j, -1, (i - j).toNat, by rw [show v = V.int i from r1, show v2 = V.int j from r2], RgC.neg (by omega) (by omega) (by omega) (by omega), q2 w2 Step.refl S2 _ wk_rangeC⟩
      · exact q2.elim
    | _ => exact q2.elim
  | _ => cases d2 <;> exact q2.elim
/-- ints: x -= e -/
def oSubI : D → D → Store → Res D := fun d e μ => match d, e with
  | .int i, .int j => .ok (.int (i - j)) μ
  | _, _ => .stuck
theorem ss_augSub (i : Nat) {x : Str} {pos' : Pos} (hN : X.N.Nodup) (he : SE X cls e fe) (hi : X.N[i]? = some x := by rfl) (hx : Loc X.env.scope x := by first | exact .inl rfl | exact .inr rfl)
    (hf : X.fn x = true ∨ X.env.scope.names.lookup x = some .local := by first | exact .inl rfl | exact .inr rfl) :
    SS X cls (.AugAssign (.Name x pos') .Sub e pos) (sAug i oSubI fe) := by
  obtain ⟨t1, p1, h1⟩ := he
  refine ⟨_, ps_aug hN hi hx p1 ip_sub hf, fun D σ w ρ μ S E h => ?_⟩
  unfold sAug at h
  split at h
  · rename_i d hd
    obtain ⟨v, e1, r⟩ := E.2 i d hd
    refine ⟨v, e1, h1 σ _ w ρ μ S E ((PostS.bind h).imp fun w1 y s1 ⟨μ1, S1, q1⟩ u r1 => ?_)⟩
    have r := r.mono s1.kp
    cases d with
    | int i =>
      cases y with
      | int j =>
        refine ⟨i, j, r, r1, ?_⟩
        simp only [oSubI, rS_ok] at q1
        split at q1
        · exact q1 w1 _ Step.refl S1 ((E.mono s1.kp).set rfl)
        · exact q1.elim
      | _ => exact q1.elim
    | _ => cases y <;> exact q1.elim
  · exact h.elim
end
end Fw

set_option Elab.async false
set_option linter.all false
set_option maxRecDepth 100000
set_option autoImplicit false
/-! sorted(set(xs)) of a list of whole numbers. -/
namespace Fw
open PySem PySem.Spec PyProof.Rows L2
/-- the set that is made first -/
abbrev eS (w : World) : Obj := { cls := .type "set", dict := none, data := .set #[] 0 (.fresh 0 0 (!w.params.followText "set-order")) }
section
variable {P : Program} {w : World} {A : Around} {E : Value → Shared → Prop} {s : Shared}
set_option maxHeartbeats 6000000 in
theorem set_of_list {l : Addr} {items : Array Value} (ns : List Int) {Q : Value → Shared → Prop} (nh : A.handled = none) (hl : s.heap.IsList l items) (hi : IntsAre items.toList ns) (room : ns.length + 1 < scanBound)
    (h : ∀ (h' : Heap) (tk c : Nat), SetR w h' s.heap.objs.size (fun j => decide (j ∈ ns)) c → c ≤ ns.length → (∀ b o, s.heap.get? b = some o → h'.get? b = some o) → Q (.ref s.heap.objs.size) { s with heap := h', toks := tk }) :
    wpAny (model P w) A (call (.type "set") [.ref l]) Q E s := by
  have many : items.size = ns.length := (Array.length_toList (xs := items)) ▸ IntsAre.length hi
  have ⟨c0, t0, mro0⟩ := F.called_set.mro; have made0 := F.called_set.made; have sub0 := F.called_set.sub
  refine wpAny_call (codeAny_of_tree (show wpAny _ _ (callAny (.type "set") _) _ _ _ from wpAny_pure ⟨Code.quiet_builtin _ (by decide +kernel), codeAny_builtin F.entry_type_call ?_⟩))
  rw [Around.under_plain (weight_type_call_type "set" [.ref l] []) rfl]
  have f1 := F.called_set.notType; have f2 := F.called_set.canCreate; have f3 := F.typeCall_set_1 (.ref l)
  repeat any_goals first | assumption | wp_step
  refine codeAny_mono (code_set_led1 (.ref l) (E := E) (Q₁ := fun o z => o = .ref s.heap.objs.size ∧ z = { s with heap := s.heap.push (eS w) }) ⟨rfl, rfl⟩) fun r z hr => ?_
  rcases r with e | fl
  · exact hr
  cases fl with
  | ret o =>
    obtain ⟨rfl, rfl⟩ := hr
    have g0 : (s.heap.push (eS w)).get? s.heap.objs.size = some (eS w) := Heap.get?_push_size _ rfl
    have ty : Shared.TypeIs { s with heap := s.heap.push (eS w) } (.ref s.heap.objs.size) "set" := ⟨_, g0, rfl⟩
    have f4 := F.called_set.init.lookup; have f5 := F.called_set.init.bind (.ref s.heap.objs.size)
    repeat any_goals first | assumption | wp_step
    refine codeAny_mono (codeAny_call_builtin (R := wants (fun r z => r = .none ∧ ∃ h' tk c, z = { s with heap := h', toks := tk } ∧ SetR w h' s.heap.objs.size (fun j => decide (j ∈ ns)) c ∧ c ≤ ns.length ∧
      (∀ b o, s.heap.get? b = some o → h'.get? b = some o)) E) F.called_set.init.plain F.entry_set_init (check_set_init_1 ty ?_)) fun r z hr => ?_
    · obtain ⟨⟨oc, od, ox, os⟩, e0, ec, m, ex⟩ := hl
      simp only at ec ex; subst ec ex
      have e1 : (s.heap.push (eS w)).get? l = some { cls := .type "list", dict := od, data := .seq items m, slots := os } := Heap.get?_push_of_some _ e0
      have f6 := F.sub_list_set; have f7 := F.sub_list_frozenset
      have f8 : (Value.type "list" == Value.type "dict") = false := by decide
      have l1 : (s.heap.push (eS w)).IsList l items := ⟨_, e1, rfl, m, rfl⟩
      unfold Builtin.«set.__init__» noKeywords Builtin.Frozenset.updateFrom
      generalize hIt : pyIter = It0; wp_walk; subst hIt
      have lt := Heap.lt_size e0
      have z1 : (s.heap.push (eS w)).objs.size = s.heap.objs.size + 1 := Heap.size_push ..
      refine wpAny_pyIter_list l1 (wpAny_bind (wpAny_runValue ?_))
      refine set_update_ints ((Walks.list (show A.in1.in1.in1.handled = none by simp [nh]) _ l (show l ≠ (s.heap.push (eS w)).objs.size from fun q => absurd (q.trans z1) (Nat.ne_of_lt (Nat.lt_succ_of_lt lt))) items).toS) s.heap.objs.size
        (show s.heap.objs.size ∉ [(s.heap.push (eS w)).objs.size, l] by
          rw [z1]
          intro z
          rcases List.mem_cons.mp z with z | z
          · exact absurd z (Nat.ne_of_lt (Nat.lt_succ_self _))
          · exact absurd (List.mem_singleton.mp z).symm (Nat.ne_of_lt lt)) ns many room (fun i v hv => ?_) (items.size - 0) 0 _ (by omega) (Nat.zero_le _)
        ⟨⟨_, Heap.get?_push_size _ rfl, rfl, rfl⟩, l1.push _⟩ ⟨0, Nat.le_refl 0, setR_new_at (Heap.get?_push_of_some _ g0)⟩ (fun z c mv hc R => ?_)
      · have lt : i < ns.length := many ▸ (Array.getElem?_eq_some_iff.mp hv).1
        obtain ⟨t, e⟩ := IntsAre.int_at hi i v (by rw [Array.getElem?_toList]; exact hv)
        exact ⟨ns[i], t, List.getElem?_eq_getElem lt, by rw [e, List.getD_eq_getElem?_getD, List.getElem?_eq_getElem lt] <;> rfl⟩
      · obtain ⟨zh, zg, zd, zt, zo⟩ := z
        cases (show zg = s.gens from mv.gens); cases (show zd = s.drawn from mv.drawn); cases (show zo = s.os from mv.os)
        refine show wpAny _ _ _ _ _ _ from wpAny_pure (show wpAny _ _ (ret Value.none) _ _ _ from ?_)
        refine wpAny_pure ⟨rfl, zh, zt, c, rfl, R, by omega, fun b o e => ?_⟩
        have lb := Heap.lt_size e
        refine mv.heap b o (fun q => ?_) (Heap.get?_push_of_some _ (Heap.get?_push_of_some _ e))
        rcases List.mem_cons.mp q with q | q
        · exact absurd q (Nat.ne_of_lt lb)
        · exact absurd ((List.mem_singleton.mp q).trans z1) (Nat.ne_of_lt (Nat.lt_succ_of_lt lb))
    · rcases r with e | fl
      · exact hr
      cases fl with
      | ret r =>
        obtain ⟨rfl, h', tk, c, rfl, R, hc, k⟩ := hr
        repeat any_goals first | assumption | wp_step
        exact h _ _ _ R hc k
      | _ => exact hr.elim
  | _ => exact hr.elim
end
section
variable {X : Cx}
def rSetL (K : PySem.W.Frag) (w : World) : List V → Hp → VK → Prop := fun xs H Q => ∃ (l : Addr) (ns : List Int), xs = [V.ref l] ∧ SqL K H l (ns.map V.int) ∧ ns.length < 64 ∧
  ∀ a n, H a = none → n ≤ ns.length → Q (.ref a) (upd H a (SetO w a (fun j => decide (j ∈ ns)) n))
theorem cr_setL (hc : X.calm = true) : CallR X (.type "set") (rSetL X.K X.w) := by
  intro pins s σ H xs us Q I r h
  obtain ⟨l, ns, rfl, hl, h64, q⟩ := h
  rw [Vals.ref1 r]
  obtain ⟨its, rv, pl, hz⟩ := I.list hl
  refine set_of_list (P := X.prog) (w := X.w) ns (I.ok.hd hc) pl.isList (ints_of_vals rv) (by unfold scanBound; omega) fun h' tk c R hcn k => ?_
  exact ⟨.ref s.heap.objs.size, upd H s.heap.objs.size (SetO X.w s.heap.objs.size (fun j => decide (j ∈ ns)) c), I.laid (t' := tk) k (Nat.le_refl _) (setO_new R), rfl, q _ c (I.hok.fresh (Nat.le_refl _)) hcn⟩
end

/-! ### the members of a list of whole numbers, ascending -/
def insS (x : Int) : List Int → List Int
  | [] => [x]
  | y :: r => if x < y then x :: y :: r else if x = y then y :: r else y :: insS x r
def sset (is : List Int) : List Int := is.foldr insS []
theorem mem_insS {x z : Int} : ∀ {l : List Int}, z ∈ insS x l ↔ z = x ∨ z ∈ l
  | [] => by simp [insS]
  | y :: r => by
    unfold insS
    split
    · simp
    · split
      · rename_i h
        subst h
        simp
      · rw [List.mem_cons, mem_insS, List.mem_cons]
        constructor
        · rintro (h | h | h) <;> simp [h]
        · rintro (h | h | h) <;> simp [h]
theorem asc_insS {x : Int} : ∀ {l : List Int}, l.Pairwise (· < ·) → (insS x l).Pairwise (· < ·)
  | [], _ => List.pairwise_singleton _ _
  | y :: r, h => by
    obtain ⟨h1, h2⟩ := List.pairwise_cons.mp h
    unfold insS
    split
    · rename_i hx
      refine List.pairwise_cons.mpr ⟨fun z hz => ?_, h⟩
      rcases List.mem_cons.mp hz with e | e
      · rw [e]; exact hx
      · have := h1 z e
        omega
    · split
      · exact h
      · refine List.pairwise_cons.mpr ⟨fun z hz => ?_, asc_insS h2⟩
        rcases mem_insS.mp hz with e | e
        · omega
        · exact h1 z e
theorem mem_sset {z : Int} : ∀ {l : List Int}, z ∈ sset l ↔ z ∈ l
  | [] => by simp [sset]
  | y :: r => by
    show z ∈ insS y (sset r) ↔ _
    rw [mem_insS, mem_sset, List.mem_cons]
theorem asc_sset : ∀ {l : List Int}, (sset l).Pairwise (· < ·)
  | [] => List.Pairwise.nil
  | y :: r => asc_insS (asc_sset (l := r))
theorem insS_len {x : Int} : ∀ {l : List Int}, (insS x l).length ≤ l.length + 1
  | [] => by simp [insS]
  | y :: r => by
    unfold insS
    split
    · simp
    · split
      · simp
      · have := insS_len (x := x) (l := r)
        simp only [List.length_cons]
        omega
theorem sset_len : ∀ {l : List Int}, (sset l).length ≤ l.length
  | [] => Nat.le_refl _
  | y :: r => by
    have h1 := insS_len (x := y) (l := sset r)
    have h2 := sset_len (l := r)
    show (insS y (sset r)).length ≤ r.length + 1
    omega
theorem asc_unique : ∀ {l m : List Int}, l.Pairwise (· < ·) → m.Pairwise (· < ·) → (∀ z, z ∈ l ↔ z ∈ m) → l = m
  | [], [], _, _, _ => rfl
  | [], y :: m, _, _, h => absurd ((h y).mpr (List.mem_cons_self ..)) (by simp)
  | x :: l, [], _, _, h => absurd ((h x).mp (List.mem_cons_self ..)) (by simp)
  | x :: l, y :: m, hl, hm, h => by
    obtain ⟨h1, h2⟩ := List.pairwise_cons.mp hl
    obtain ⟨h3, h4⟩ := List.pairwise_cons.mp hm
    have e : x = y := by
      have hx := (h x).mp (List.mem_cons_self ..)
      have hy := (h y).mpr (List.mem_cons_self ..)
      rcases List.mem_cons.mp hx with e | e
      · exact e
      · rcases List.mem_cons.mp hy with e' | e'
        · exact e'.symm
        · have := h3 x e
          have := h1 y e'
          omega
    subst e
    rw [asc_unique h2 h4 fun z => ?_]
    constructor
    · intro hz
      rcases List.mem_cons.mp ((h z).mp (List.mem_cons_of_mem _ hz)) with e | e
      · have := h1 z hz
        omega
      · exact e
    · intro hz
      rcases List.mem_cons.mp ((h z).mpr (List.mem_cons_of_mem _ hz)) with e | e
      · have := h3 z hz
        omega
      · exact e

/-- sorted(set(e)) -/
def eSortSet (fa : FE) : FE := fun ρ μ => (fa ρ μ).bind fun d μ1 => match lintsOf μ1 d with
  | some is => if is.length < 64 then .ok (.lst ((sset is).map .int)) μ1 else .stuck
  | none => .stuck
section
variable {X : Cx} {cls : Nat → Option Addr} {a : Expr} {fa : FE} {p p2 q pos : Pos}
theorem se_sortSet (hc : X.calm = true) (hg : Gl X "sorted") (hm : X.mg "sorted" = none) (hg2 : Gl X "set") (hm2 : X.mg "set" = none) (ha : SE X cls a fa)
    (hs : starEach [a] X.env = [(false, eval a X.env)] := by rfl)
    (hs2 : starEach [.Call (.Name "set" p2) [a] [] q] X.env = [(false, eval (.Call (.Name "set" p2) [a] [] q) X.env)] := by rfl) :
    SE X cls (.Call (.Name "sorted" p) [.Call (.Name "set" p2) [a] [] q] [] pos) (eSortSet fa) := by
  obtain ⟨t1, p1, h1⟩ := ha
  refine ⟨_, pe_callB (cr_sortedSet hc) hg hm (by decide +kernel) (pa_cons (pe_callTy (cr_setL hc) hg2 hm2 (by decide +kernel) (pa_cons p1 pa_nil hs) (by decide +kernel) (by decide +kernel) hs rfl) pa_nil hs2) (by decide +kernel) (by decide +kernel) hs2 rfl, fun σ Q w ρ μ S E h => ?_⟩
  refine h1 σ _ w ρ μ S E ((PostR.bind h).imp fun w1 d s1 ⟨μ1, S1, q1⟩ v r1 => ?_)
  split at q1
  · rename_i is he
    split at q1
    · rename_i hl
      obtain ⟨l, rfl, sq⟩ := lintsOf_at S1 r1 he
      refine ⟨l, is, rfl, sq, hl, fun b n hb hn => ⟨b, _, n, rfl, upd_same, by omega, fun ns c asc mem _ hcn => ?_⟩⟩
      have e : ns = sset is := asc_unique asc asc_sset fun z => by rw [mem, mem_sset, decide_eq_true_eq]
      subst e
      have S2 : RelS X.K cls (w1.up b (SetO X.w b (fun j => decide (j ∈ is)) n)) μ1 := S1.new hb
      have hcn2 : (w1.up b (SetO X.w b (fun j => decide (j ∈ is)) n)).H c = none := hcn
      refine q1 ((w1.up b (SetO X.w b (fun j => decide (j ∈ is)) n)).up c (.lst ((sset is).map V.int))) ((step_new hb).trans (step_new hcn2)) (S2.new hcn2) _ (new_lst S2 hcn2 ?_)
      exact RVs.ints
    · exact q1.elim
  · exact q1.elim
end
end Fw

set_option Elab.async false
set_option linter.all false
set_option maxRecDepth 100000
set_option autoImplicit false
/-! list(text). -/
namespace Fw
open PySem PySem.Spec PyProof.Rows L2
def rLstS : List V → Hp → VK → Prop := fun xs H Q => ∃ x : Str, xs = [V.str x] ∧ x.cps.size ≤ sizeLine ∧ ∀ p, H p = none → Q (.ref p) (upd H p (.lst (x.cps.toList.map fun c => V.str ⟨#[c]⟩)))
theorem vals_signs {x : Str} : ∀ {cs : List Nat} {us : List Value} (k : Nat), x.cps.toList.drop k = cs → us.length = cs.length → (∀ j v, us[j]? = some v → SignAt x (k + j) v) → Vals (cs.map fun c => V.str ⟨#[c]⟩) us
  | [], us, k, _, hl, _ => by
    rw [List.length_eq_zero_iff.mp hl]
    exact .nil
  | c :: cs, [], k, _, hl, _ => by simp at hl
  | c :: cs, u :: us, k, e, hl, h => by
    obtain ⟨c', t, h1, h2⟩ := h 0 u rfl
    have e1 : x.cps[k]? = some c := by
      have : (x.cps.toList.drop k)[0]? = some c := by rw [e]; rfl
      rw [List.getElem?_drop, Nat.add_zero, Array.getElem?_toList] at this
      exact this
    rw [Nat.add_zero, e1] at h1
    cases h1
    refine .cons ⟨t, h2⟩ (vals_signs (k + 1) (by rw [← List.drop_drop, e]; rfl) (by simpa using hl) fun j v hj => ?_)
    have := h (j + 1) v (by simpa using hj)
    rwa [show k + (j + 1) = k + 1 + j from by omega] at this
theorem cr_listS {X : Cx} (hc : X.calm = true) : CallR X (.type "list") rLstS := by
  intro pins s σ H xs us Q I r h
  obtain ⟨x, rfl, hl, q⟩ := h
  cases r with
  | cons r0 r1 =>
    cases r1
    obtain ⟨t, rfl⟩ := r0
    refine call_list_str (I.ok.hd hc) x t (fun h' tk acc' c' k e items => ?_) hl
    have hv : Vals (x.cps.toList.map fun c => V.str ⟨#[c]⟩) acc'.toList := vals_signs 0 rfl (by rw [Array.length_toList, items.1, Array.length_toList]) fun j v hj => by
      rw [Nat.zero_add]
      exact items.2 j v (by rw [← Array.getElem?_toList]; exact hj)
    have hz : (x.cps.toList.map fun c => V.str ⟨#[c]⟩).length ≤ sizeLine := by rw [List.length_map, Array.length_toList]; exact hl
    exact ⟨.ref s.heap.objs.size, _, I.laid (t' := tk) k (Nat.le_refl _) (show ObjOk X.prog X.w _ h' _ (.lst _) from ⟨hz, acc'.toList, c', hv, e⟩), rfl, q _ (I.hok.fresh (Nat.le_refl _))⟩
def cListA : List D → Store → Res D := fun ds μ => match ds with
  | [.str s] => if s.length ≤ LIM then .ok (.lst (s.map fun c => .str [c])) μ else .stuck
  | ds => cList ds μ
theorem rvs_signs {K : PySem.W.Frag} {cls : Nat → Option Addr} {w : Wd} : ∀ {s : List Nat}, RVs K cls w (s.map fun c => .str [c]) (s.map fun c => V.str ⟨#[c]⟩)
  | [] => rfl
  | c :: s => ⟨_, _, rfl, rfl, rvs_signs⟩
section
variable {X : Cx} {cls : Nat → Option Addr} {a : Expr} {fa : FE} {p pos : Pos}
theorem cv_listA (hc : X.calm = true) : CV X cls (.type "list") cListA := by
  obtain ⟨r, c, h0⟩ := cv_list (X := X) (cls := cls)
  refine ⟨_, (cr_listS hc).or c, fun w μ ds xs Q S r0 h => ?_⟩
  unfold cListA at h
  split at h
  · rename_i s
    obtain ⟨x, rfl, rx⟩ := r0.one
    split at h
    · rename_i hl
      refine .inl ⟨⟨s.toArray⟩, congrArg (fun z => [z]) rx, by rw [List.size_toArray]; exact lim_le hl, fun p hp => ?_⟩
      exact h (w.up p (.lst _)) (step_new hp) (S.new hp) _ (new_lst S hp rvs_signs)
    · exact h.elim
  · exact .inr (h0 w μ ds xs Q S r0 h)
theorem se_listTA (hc : X.calm = true) (hg : Gl X "list") (hm : X.mg "list" = none) (ha : SE X cls a fa) (hs : starEach [a] X.env = (false, eval a X.env) :: starEach [] X.env := by rfl) (hpl : (backTo pos (starEach [] X.env)).any (·.1) = false := by rfl) :
    SE X cls (.Call (.Name "list" p) [a] [] pos) (eThaw (eCall cListA (aCons fa aNil))) := by
  obtain ⟨t1, p1, h1⟩ := ha
  refine ⟨_, pe_callTy ((cr_listS hc).or call_list_of) hg hm (by decide +kernel) (pa_cons p1 pa_nil hs) (by decide +kernel) (by decide +kernel) hs hpl, fun σ Q w ρ μ S E h => ?_⟩
  have h : PostR X.K cls w (fun w' d => ∀ v, RV X.K cls w' d v → Q v w'.H) (thaw ((fa ρ μ).bind fun d μ1 => cListA [d] μ1)) := by
    unfold eThaw eCall aCons aNil at h
    cases hf : fa ρ μ with
    | ok d μ1 => rw [hf] at h; exact h
    | stuck => rw [hf] at h; exact h
  refine h1 σ _ w ρ μ S E ((PostR.thaw h).imp fun w1 d s1 ⟨μ1, S1, q1⟩ v r1 => ?_)
  unfold cListA at q1
  split at q1
  · rename_i s e
    cases e
    split at q1
    · rename_i hl
      exact .inl ⟨⟨s.toArray⟩, congrArg (fun z => [z]) r1, by rw [List.size_toArray]; exact lim_le hl, fun p hp => thaw_new S1 rvs_signs q1 hp⟩
    · exact q1.elim
  · simp only [cList] at q1
    split at q1
    · rename_i es hd
      obtain ⟨l, vs, e, h3, h4⟩ := seqOf_at S1 r1 hd
      exact .inr ⟨l, vs, congrArg (fun z => [z]) e, h3, fun p hp => thaw_new S1 h4 q1 hp⟩
    · exact q1.elim
end
end Fw

set_option Elab.async false
set_option linter.all false
set_option maxRecDepth 100000
set_option autoImplicit false
namespace K14
open PySem L2 Fw

def B_l_taken : FS :=
  sSeq (sIf (tB (eBin oGt (eBin oIx (eVar 0) (eC (.int 3))) (eC (.int 0)))) (
  sSeq (sAsg (gVar 2) (eBin oMod (eCall cInt (aCons (eBin oIx (eVar 0) (eC (.int 3))) (aNil))) (eVar 1))) (
  sSeq (sAsg (gIx (eVar 0) (eC (.int 3))) (eBin oFdv (eBin oIx (eVar 0) (eC (.int 3))) (eVar 1))) (
  sRet (eVar 2)))) (
  sNext)) (
  sSeq (sAsg (gIx (eVar 0) (eC (.int 1))) (eBin oAdd (eBin oIx (eVar 0) (eC (.int 1))) (eC (.int 1)))) (
  sSeq (sIf (tB (eBin oGt (eBin oIx (eVar 0) (eC (.int 1))) (eCall cLen (aCons (eBin oIx (eVar 0) (eC (.int 0))) (aNil))))) (
  sSeq (sAsg (gIx (eVar 0) (eC (.int 2))) (eBin oMod (eCall cInt (aCons (eBin oAdd (eBin oMul (eBin oIx (eVar 0) (eC (.int 2))) (eC (.int 48271))) (eC (.int 11))) (aNil))) (eC (.int 2147483647)))) (
  sRet (eBin oMod (eCall cInt (aCons (eBin oFdv (eBin oIx (eVar 0) (eC (.int 2))) (eC (.int 7))) (aNil))) (eVar 1)))) (
  sNext)) (
  sSeq (sAsg (gVar 3) (eBin oIx (eBin oIx (eVar 0) (eC (.int 0))) (eBin oSub (eBin oIx (eVar 0) (eC (.int 1))) (eC (.int 1))))) (
  sSeq (sAsg (gIx (eVar 0) (eC (.int 2))) (eBin oMod (eCall cInt (aCons (eBin oAdd (eBin oAdd (eBin oMul (eBin oIx (eVar 0) (eC (.int 2))) (eC (.int 48271))) (eVar 3)) (eC (.int 11))) (aNil))) (eC (.int 2147483647)))) (
  sSeq (sAsg (gIx (eVar 0) (eC (.int 3))) (eIf (tB (eBin oGe (eVar 3) (eBin oPow (eC (.int 10)) (eC (.int 18))))) (eBin oFdv (eVar 3) (eVar 1)) (eC (.int 0)))) (
  sRet (eBin oMod (eCall cInt (aCons (eVar 3) (aNil))) (eVar 1))))))))
def M_l_taken : List D → Store → Res D := mD 4 B_l_taken
def B_l_weight : FS :=
  sRet (eBin oIx (eLst (aCons (eC (.int 16)) (aCons (eC (.int 8)) (aCons (eC (.int 4)) (aCons (eC (.int 2)) (aCons (eC (.int 1)) (aNil))))))) (eCall cInt (aCons (eVar 0) (aNil))))
def M_l_weight : List D → Store → Res D := mD 1 B_l_weight
def B_is_number : FS :=
  sRet (eAnd (eIsi "int" (eVar 0)) (eAnd (eNot (eIsi "bool" (eVar 0))) (eChain oLe oLe (eVar 1) (eVar 0) (eVar 2))))
def M_is_number : List D → Store → Res D := mD 3 B_is_number
def B_check_number : FS :=
  sIf (tNot (tB (eCallD 3 M_is_number (aCons (eVar 0) (aCons (eVar 1) (aCons (eVar 2) (aNil))))))) (
  sNever) (
  sNext)
def M_check_number : List D → Store → Res D := mD 3 B_check_number
def B_check_fading : FS :=
  sSeq (sExpr (eCallD 3 M_check_number (aCons (eVar 0) (aCons (eC (.int 1)) (aCons (eC (.int 1000000000000000)) (aNil)))))) (
  sSeq (sExpr (eCallD 3 M_check_number (aCons (eVar 1) (aCons (eC (.int 0)) (aCons (eC (.int 1000000000000000000)) (aNil)))))) (
  sExpr (eCallD 3 M_check_number (aCons (eVar 2) (aCons (eC (.int 0)) (aCons (eC (.int 4)) (aNil)))))))
def M_check_fading : List D → Store → Res D := mD 3 B_check_fading
def B_faded : FS :=
  sSeq (sExpr (eCallD 3 M_check_fading (aCons (eVar 0) (aCons (eVar 1) (aCons (eVar 2) (aNil)))))) (
  sSeq (sAsg (gVar 3) (eC (.int 0))) (
  sSeq (sFor (iDown (eC (.int 16)) (eC (.int 0))) (gVar 4) (
  sSeq (sAsg (gVar 5) (eCall cMin2 (aCons (eVar 0) (aCons (eVar 1) (aNil))))) (
  sSeq (sAug 3 oAddI (eBin oMul (eBin oMul (eVar 5) (eVar 4)) (eBin oIx (eC (.tup [.int 16, .int 8, .int 4, .int 2, .int 1])) (eVar 2)))) (
  sAug 1 oSubI (eVar 5))))) (
  sRet (eVar 3))))
def M_faded : List D → Store → Res D := mD 6 B_faded
def B_ticks_to : FS :=
  sRet (eBin oFdv (eBin oSub (eBin oAdd (eVar 0) (eVar 1)) (eC (.int 1))) (eVar 1))
def M_ticks_to : List D → Store → Res D := mD 2 B_ticks_to
def B_ticks_until : FS :=
  sSeq (sExpr (eCallD 3 M_check_fading (aCons (eVar 0) (aCons (eVar 1) (aCons (eVar 2) (aNil)))))) (
  sSeq (sAsg (gVar 3) (eC (.int 0))) (
  sSeq (sFor (iDown (eC (.int 16)) (eC (.int 0))) (gVar 4) (
  sSeq (sAsg (gVar 5) (eBin oMul (eVar 4) (eBin oIx (eC (.tup [.int 16, .int 8, .int 4, .int 2, .int 1])) (eVar 2)))) (
  sSeq (sIf (tB (eBin oLe (eVar 1) (eBin oMul (eVar 0) (eVar 5)))) (
  sRet (eBin oAdd (eVar 3) (eCallD 2 M_ticks_to (aCons (eVar 1) (aCons (eVar 5) (aNil)))))) (
  sNext)) (
  sSeq (sAug 1 oSubI (eBin oMul (eVar 0) (eVar 5))) (
  sAug 3 oAddI (eVar 0)))))) (
  sRet (eC .non))))
def M_ticks_until : List D → Store → Res D := mD 6 B_ticks_until
def B_law : FS :=
  sSeq (sAsg (gVar 1) (eThaw (eLst (aCons (eVar 0) (aCons (eC (.int 0)) (aCons (eC (.int 0)) (aCons (eC (.int 0)) (aNil)))))))) (
  sSeq (sPar 2 3 (eBin oAdd (eC (.int 1)) (eCallD 2 M_l_taken (aCons (eVar 1) (aCons (eC (.int 9)) (aNil))))) (eCallD 2 M_l_taken (aCons (eVar 1) (aCons (eC (.int 5)) (aNil))))) (
  sSeq (sAsg (gVar 4) (eThaw (eLst (aCons (eC (.int 0)) (aNil))))) (
  sSeq (sFor (iRange1 (eBin oAdd (eBin oMul (eC (.int 16)) (eVar 2)) (eC (.int 5)))) (gVar 5) (
  sExpr (eLm oApp (eVar 4) (eBin oAdd (eBin oIx (eVar 4) (eNeg (eC (.int 1)))) (eBin oMul (eCall cMax2 (aCons (eC (.int 0)) (aCons (eBin oSub (eC (.int 16)) (eBin oFdv (eVar 5) (eVar 2))) (aNil)))) (eCallD 1 M_l_weight (aCons (eVar 3) (aNil)))))))) (
  sSeq (sFor (iOf (eTup (aCons (eC (.int 0)) (aCons (eCallD 2 M_l_taken (aCons (eVar 1) (aCons (eCall cLen (aCons (eVar 4) (aNil))) (aNil)))) (aCons (eBin oSub (eCall cLen (aCons (eVar 4) (aNil))) (eC (.int 1))) (aNil)))))) (gVar 6) (
  sIf (tB (eBin oNe (eCallD 3 M_faded (aCons (eVar 2) (aCons (eVar 6) (aCons (eVar 3) (aNil))))) (eBin oIx (eVar 4) (eVar 6)))) (
  sRet (eC (.bl false))) (
  sNext))) (
  sSeq (sFor (iOf (eTup (aCons (eC (.int 0)) (aCons (eC (.int 1)) (aCons (eCallD 2 M_l_taken (aCons (eVar 1) (aCons (eBin oAdd (eBin oIx (eVar 4) (eNeg (eC (.int 1)))) (eC (.int 1))) (aNil)))) (aCons (eBin oIx (eVar 4) (eNeg (eC (.int 1)))) (aCons (eBin oAdd (eBin oIx (eVar 4) (eNeg (eC (.int 1)))) (eC (.int 1))) (aNil)))))))) (gVar 7) (
  sSeq (sAsg (gVar 8) (eLc [14] (iRange1 (eCall cLen (aCons (eVar 4) (aNil)))) (gVar 14) (tB (eBin oGe (eBin oIx (eVar 4) (eVar 14)) (eVar 7))) (eVar 14))) (
  sIf (tB (eBin oNe (eCallD 3 M_ticks_until (aCons (eVar 2) (aCons (eVar 7) (aCons (eVar 3) (aNil))))) (eIf (tB (eBin oNe (eVar 8) (eLst (aNil)))) (eBin oIx (eVar 8) (eC (.int 0))) (eC .non)))) (
  sRet (eC (.bl false))) (
  sNext)))) (
  sSeq (sAsg (gVar 9) (eBin oAdd (eBin oPow (eC (.int 10)) (eC (.int 12))) (eCallD 2 M_l_taken (aCons (eVar 1) (aCons (eBin oPow (eC (.int 10)) (eC (.int 9))) (aNil)))))) (
  sSeq (sPar 10 11 (eCallD 2 M_l_taken (aCons (eVar 1) (aCons (eC (.int 16)) (aNil)))) (eCallD 2 M_l_taken (aCons (eVar 1) (aCons (eVar 9) (aNil))))) (
  sSeq (sAsg (gVar 12) (eBin oAdd (eBin oMul (eVar 9) (eCall cSum (aCons (eLc [14] (iRange1 (eVar 10)) (gVar 14) (fun _ μ => .ok true μ) (eBin oSub (eC (.int 16)) (eVar 14))) (aNil)))) (eBin oMul (eVar 11) (eBin oSub (eC (.int 16)) (eVar 10))))) (
  sSeq (sIf (tB (eBin oNe (eCallD 3 M_faded (aCons (eVar 9) (aCons (eBin oAdd (eBin oMul (eVar 10) (eVar 9)) (eVar 11)) (aCons (eVar 3) (aNil))))) (eBin oMul (eVar 12) (eCallD 1 M_l_weight (aCons (eVar 3) (aNil)))))) (
  sRet (eC (.bl false))) (
  sNext)) (
  sSeq (sAsg (gVar 13) (eCallD 3 M_ticks_until (aCons (eVar 9) (aCons (eBin oMul (eVar 12) (eCallD 1 M_l_weight (aCons (eVar 3) (aNil)))) (aCons (eVar 3) (aNil)))))) (
  sSeq (sIf (tAnd (tB (eBin oNe (eVar 13) (eBin oAdd (eBin oMul (eVar 10) (eVar 9)) (eVar 11)))) (tOr (tB (eBin oGt (eVar 11) (eC (.int 0)))) (tB (eBin oGt (eVar 10) (eC (.int 0)))))) (
  sRet (eC (.bl false))) (
  sNext)) (
  sRet (eAnd (eBin oEq (eCallD 3 M_faded (aCons (eVar 9) (aCons (eBin oPow (eC (.int 10)) (eC (.int 18))) (aCons (eVar 3) (aNil))))) (eBin oMul (eBin oMul (eC (.int 136)) (eVar 9)) (eCallD 1 M_l_weight (aCons (eVar 3) (aNil))))) (eBin oEq (eCallD 3 M_faded (aCons (eVar 9) (aCons (eBin oMul (eC (.int 16)) (eVar 9)) (aCons (eC (.int 4)) (aNil))))) (eBin oMul (eC (.int 136)) (eVar 9))))))))))))))))
def M_law : List D → Store → Res D := mDf 15 B_law
end K14

set_option Elab.async false
set_option linter.all false
set_option maxRecDepth 100000
set_option autoImplicit false
namespace K14
open PySem L2 Fw

def top (i : Nat) : Stmt := PySem.Challenge.pw_maskedprints_k14_whole_lamps_that_fade.main.body.getD i (.Pass ⟨0, 0, 0, 0⟩)
abbrev s_l_taken : Stmt := top 17
abbrev s_l_weight : Stmt := top 18
abbrev s_is_number : Stmt := top 6
abbrev s_check_number : Stmt := top 7
abbrev s_check_fading : Stmt := top 15
abbrev s_faded : Stmt := top 13
abbrev s_ticks_to : Stmt := top 8
abbrev s_ticks_until : Stmt := top 14
abbrev s_law : Stmt := top 19
structure Tx (P : Program) (W : World) (K : PySem.W.Frag) (cls : Nat → Option Addr) (mg : Str → Option Value) : Prop where
  n_bool : mg "bool" = none
  n_int : mg "int" = none
  n_isinstance : mg "isinstance" = none
  n_len : mg "len" = none
  n_max : mg "max" = none
  n_min : mg "min" = none
  n_range : mg "range" = none
  n_sum : mg "sum" = none
  c_DENSEST : Gv K cls mg "DENSEST" (.int 4)
  c_FULL_LIGHT : Gv K cls mg "FULL_LIGHT" (.int 16)
  c_LONGEST_LIFE : Gv K cls mg "LONGEST_LIFE" (.int 1000000000000000)
  c_MOST_FADED : Gv K cls mg "MOST_FADED" (.int 1000000000000000000)
  c_UNITS : Gv K cls mg "UNITS" (.tup [.int 16, .int 8, .int 4, .int 2, .int 1])
section
variable {P : Program} {W : World} {K : PySem.W.Frag} {cls : Nat → Option Addr} {mg : Str → Option Value} {base : Heap} {f : Addr} {fd : FuncData}
theorem sc_l_taken : FnScope ["_law_row", "_law_many", "_law_found", "_law_cell"] ["_law_row", "_law_many"] (defScope s_l_taken) := ⟨rfl, rfl, rfl, by decide +kernel, rfl, by decide +kernel, by decide +kernel⟩
theorem df_l_taken (F : Fun K "_law_taken" "_law_taken" s_l_taken f fd) (b : Binds K fd ["_law_row", "_law_many"] []) (hm : mg "_law_taken" = some (.ref f)) (T : Tx P W K cls mg) : Df P W K cls mg base 1 "_law_taken" 2 M_l_taken :=
  (df_mk (N := ["_law_row", "_law_many", "_law_found", "_law_cell"]) (ps := ["_law_row", "_law_many"]) (g := B_l_taken) F b hm sc_l_taken (fun cdv A outer s H E hr => (
  sss_cons (ss_if (st_cmp ov_gt (se_ix (se_var 0) (se_int)) (se_int)) (
  sss_cons (ss_set 2 sc_l_taken.nd (se_bin ov_mod (se_callTy cv_int rfl T.n_int (by decide +kernel) (sa_cons (se_ix (se_var 0) (se_int)) (sa_nil))) (se_var 1))) (
  sss_cons (ss_asg (se_bin ov_fdv (se_ix (se_var 0) (se_int)) (se_var 1)) (sg_ix (se_var 0) (se_int))) (
  sss_one (ss_ret (se_var 2))))) (
  sss_nil)) (
  sss_cons (ss_asg (se_bin ov_add (se_ix (se_var 0) (se_int)) (se_int)) (sg_ix (se_var 0) (se_int))) (
  sss_cons (ss_if (st_cmp ov_gt (se_ix (se_var 0) (se_int)) (se_callB cv_len rfl T.n_len (by decide +kernel) (sa_cons (se_ix (se_var 0) (se_int)) (sa_nil)))) (
  sss_cons (ss_asg (se_bin ov_mod (se_callTy cv_int rfl T.n_int (by decide +kernel) (sa_cons (se_bin ov_add (se_bin ov_mul (se_ix (se_var 0) (se_int)) (se_int)) (se_int)) (sa_nil))) (se_int)) (sg_ix (se_var 0) (se_int))) (
  sss_one (ss_ret (se_bin ov_mod (se_callTy cv_int rfl T.n_int (by decide +kernel) (sa_cons (se_bin ov_fdv (se_ix (se_var 0) (se_int)) (se_int)) (sa_nil))) (se_var 1))))) (
  sss_nil)) (
  sss_cons (ss_set 3 sc_l_taken.nd (se_ix (se_ix (se_var 0) (se_int)) (se_bin ov_sub (se_ix (se_var 0) (se_int)) (se_int)))) (
  sss_cons (ss_asg (se_bin ov_mod (se_callTy cv_int rfl T.n_int (by decide +kernel) (sa_cons (se_bin ov_add (se_bin ov_add (se_bin ov_mul (se_ix (se_var 0) (se_int)) (se_int)) (se_var 3)) (se_int)) (sa_nil))) (se_int)) (sg_ix (se_var 0) (se_int))) (
  sss_cons (ss_asg (se_if (st_cmp ov_ge (se_var 3) (se_bin ov_pow (se_int) (se_int))) (se_bin ov_fdv (se_var 3) (se_var 1)) (se_int)) (sg_ix (se_var 0) (se_int))) (
  sss_one (ss_ret (se_bin ov_mod (se_callTy cv_int rfl T.n_int (by decide +kernel) (sa_cons (se_var 3) (sa_nil))) (se_var 1))))))))))))
theorem sc_l_weight : FnScope ["_law_figure"] ["_law_figure"] (defScope s_l_weight) := ⟨rfl, rfl, rfl, by decide +kernel, rfl, by decide +kernel, by decide +kernel⟩
theorem df_l_weight (F : Fun K "_law_weight" "_law_weight" s_l_weight f fd) (b : Binds K fd ["_law_figure"] []) (hm : mg "_law_weight" = some (.ref f)) (T : Tx P W K cls mg) : Df P W K cls mg base 1 "_law_weight" 1 M_l_weight :=
  (df_mk (N := ["_law_figure"]) (ps := ["_law_figure"]) (g := B_l_weight) F b hm sc_l_weight (fun cdv A outer s H E hr => (
  sss_one (ss_ret (se_ix (se_lst (sa_cons (se_int) (sa_cons (se_int) (sa_cons (se_int) (sa_cons (se_int) (sa_cons (se_int) (sa_nil))))))) (se_callTy cv_int rfl T.n_int (by decide +kernel) (sa_cons (se_var 0) (sa_nil))))))))
theorem sc_is_number : FnScope ["value", "least", "most"] ["value", "least", "most"] (defScope s_is_number) := ⟨rfl, rfl, rfl, by decide +kernel, rfl, by decide +kernel, by decide +kernel⟩
theorem df_is_number (F : Fun K "is_number" "is_number" s_is_number f fd) (b : Binds K fd ["value", "least", "most"] []) (hm : mg "is_number" = some (.ref f)) (T : Tx P W K cls mg) : Df P W K cls mg base 1 "is_number" 3 M_is_number :=
  (df_mk (N := ["value", "least", "most"]) (ps := ["value", "least", "most"]) (g := B_is_number) F b hm sc_is_number (fun cdv A outer s H E hr => (
  sss_one (ss_ret (se_and (se_isi (T := "int") (se_var 0) rfl T.n_isinstance (by decide +kernel) rfl T.n_int (by decide +kernel)) (se_and (se_not (se_isi (T := "bool") (se_var 0) rfl T.n_isinstance (by decide +kernel) rfl T.n_bool (by decide +kernel))) (se_one (se_chain ov_le ov_le (se_var 1) (se_var 0) (se_var 2)))))))))
theorem sc_check_number : FnScope ["value", "least", "most"] ["value", "least", "most"] (defScope s_check_number) := ⟨rfl, rfl, rfl, by decide +kernel, rfl, by decide +kernel, by decide +kernel⟩
theorem df_check_number (F : Fun K "check_number" "check_number" s_check_number f fd) (b : Binds K fd ["value", "least", "most"] []) (hm : mg "check_number" = some (.ref f)) (T : Tx P W K cls mg) (G_is_number : Df P W K cls mg base 1 "is_number" 3 M_is_number) : Df P W K cls mg base 2 "check_number" 3 M_check_number :=
  (df_mk (N := ["value", "least", "most"]) (ps := ["value", "least", "most"]) (g := B_check_number) F b hm sc_check_number (fun cdv A outer s H E hr => (
  sss_one (ss_if (st_not (st_val (se_call G_is_number (hr.mono (by decide)) rfl (sa_cons (se_var 0) (sa_cons (se_var 1) (sa_cons (se_var 2) (sa_nil))))))) (
  sss_one (ss_never)) (
  sss_nil)))))
theorem sc_check_fading : FnScope ["life", "amount", "density"] ["life", "amount", "density"] (defScope s_check_fading) := ⟨rfl, rfl, rfl, by decide +kernel, rfl, by decide +kernel, by decide +kernel⟩
theorem df_check_fading (F : Fun K "check_fading" "check_fading" s_check_fading f fd) (b : Binds K fd ["life", "amount", "density"] []) (hm : mg "check_fading" = some (.ref f)) (T : Tx P W K cls mg) (G_check_number : Df P W K cls mg base 2 "check_number" 3 M_check_number) : Df P W K cls mg base 3 "check_fading" 3 M_check_fading :=
  (df_mk (N := ["life", "amount", "density"]) (ps := ["life", "amount", "density"]) (g := B_check_fading) F b hm sc_check_fading (fun cdv A outer s H E hr => (
  sss_cons (ss_expr (se_call G_check_number (hr.mono (by decide)) rfl (sa_cons (se_var 0) (sa_cons (se_int) (sa_cons (se_globG rfl T.c_LONGEST_LIFE) (sa_nil)))))) (
  sss_cons (ss_expr (se_call G_check_number (hr.mono (by decide)) rfl (sa_cons (se_var 1) (sa_cons (se_int) (sa_cons (se_globG rfl T.c_MOST_FADED) (sa_nil)))))) (
  sss_one (ss_expr (se_call G_check_number (hr.mono (by decide)) rfl (sa_cons (se_var 2) (sa_cons (se_int) (sa_cons (se_globG rfl T.c_DENSEST) (sa_nil)))))))))))
theorem sc_faded : FnScope ["life", "ticks", "density", "light", "share", "shone"] ["life", "ticks", "density"] (defScope s_faded) := ⟨rfl, rfl, rfl, by decide +kernel, rfl, by decide +kernel, by decide +kernel⟩
theorem df_faded (F : Fun K "faded" "faded" s_faded f fd) (b : Binds K fd ["life", "ticks", "density"] []) (hm : mg "faded" = some (.ref f)) (T : Tx P W K cls mg) (G_check_fading : Df P W K cls mg base 3 "check_fading" 3 M_check_fading) : Df P W K cls mg base 4 "faded" 3 M_faded :=
  (df_mk (N := ["life", "ticks", "density", "light", "share", "shone"]) (ps := ["life", "ticks", "density"]) (g := B_faded) F b hm sc_faded (fun cdv A outer s H E hr => (
  sss_cons (ss_expr (se_call G_check_fading (hr.mono (by decide)) rfl (sa_cons (se_var 0) (sa_cons (se_var 1) (sa_cons (se_var 2) (sa_nil)))))) (
  sss_cons (ss_set 3 sc_faded.nd (se_int)) (
  sss_cons (ss_for PassesOwn.never rfl (si_down rfl T.n_range (se_globG rfl T.c_FULL_LIGHT) (se_int)) (sg_var 4 sc_faded.nd) (
  sss_cons (ss_set 5 sc_faded.nd (se_callB (cv_min2 rfl) rfl T.n_min (by decide +kernel) (sa_cons (se_var 0) (sa_cons (se_var 1) (sa_nil))))) (
  sss_cons (ss_augAdd 3 sc_faded.nd (se_bin ov_mul (se_bin ov_mul (se_var 5) (se_var 4)) (se_ix (se_globG rfl T.c_UNITS) (se_var 2)))) (
  sss_one (ss_augSub 1 sc_faded.nd (se_var 5)))))) (
  sss_one (ss_ret (se_var 3))))))))
theorem sc_ticks_to : FnScope ["light", "units"] ["light", "units"] (defScope s_ticks_to) := ⟨rfl, rfl, rfl, by decide +kernel, rfl, by decide +kernel, by decide +kernel⟩
theorem df_ticks_to (F : Fun K "ticks_to" "ticks_to" s_ticks_to f fd) (b : Binds K fd ["light", "units"] []) (hm : mg "ticks_to" = some (.ref f)) (T : Tx P W K cls mg) : Df P W K cls mg base 1 "ticks_to" 2 M_ticks_to :=
  (df_mk (N := ["light", "units"]) (ps := ["light", "units"]) (g := B_ticks_to) F b hm sc_ticks_to (fun cdv A outer s H E hr => (
  sss_one (ss_ret (se_bin ov_fdv (se_bin ov_sub (se_bin ov_add (se_var 0) (se_var 1)) (se_int)) (se_var 1))))))
theorem sc_ticks_until : FnScope ["life", "light", "density", "ticks", "share", "each"] ["life", "light", "density"] (defScope s_ticks_until) := ⟨rfl, rfl, rfl, by decide +kernel, rfl, by decide +kernel, by decide +kernel⟩
theorem df_ticks_until (F : Fun K "ticks_until" "ticks_until" s_ticks_until f fd) (b : Binds K fd ["life", "light", "density"] []) (hm : mg "ticks_until" = some (.ref f)) (T : Tx P W K cls mg) (G_check_fading : Df P W K cls mg base 3 "check_fading" 3 M_check_fading) (G_ticks_to : Df P W K cls mg base 1 "ticks_to" 2 M_ticks_to) : Df P W K cls mg base 4 "ticks_until" 3 M_ticks_until :=
  (df_mk (N := ["life", "light", "density", "ticks", "share", "each"]) (ps := ["life", "light", "density"]) (g := B_ticks_until) F b hm sc_ticks_until (fun cdv A outer s H E hr => (
  sss_cons (ss_expr (se_call G_check_fading (hr.mono (by decide)) rfl (sa_cons (se_var 0) (sa_cons (se_var 1) (sa_cons (se_var 2) (sa_nil)))))) (
  sss_cons (ss_set 3 sc_ticks_until.nd (se_int)) (
  sss_cons (ss_for PassesOwn.never rfl (si_down rfl T.n_range (se_globG rfl T.c_FULL_LIGHT) (se_int)) (sg_var 4 sc_ticks_until.nd) (
  sss_cons (ss_set 5 sc_ticks_until.nd (se_bin ov_mul (se_var 4) (se_ix (se_globG rfl T.c_UNITS) (se_var 2)))) (
  sss_cons (ss_if (st_cmp ov_le (se_var 1) (se_bin ov_mul (se_var 0) (se_var 5))) (
  sss_one (ss_ret (se_bin ov_add (se_var 3) (se_call G_ticks_to (hr.mono (by decide)) rfl (sa_cons (se_var 1) (sa_cons (se_var 5) (sa_nil))))))) (
  sss_nil)) (
  sss_cons (ss_augSub 1 sc_ticks_until.nd (se_bin ov_mul (se_var 0) (se_var 5))) (
  sss_one (ss_augAdd 3 sc_ticks_until.nd (se_var 0))))))) (
  sss_one (ss_ret (se_non))))))))
theorem sc_law : FnScope ["_law_script", "_law_row", "_law_life", "_law_density", "_law_rows", "_law_tick", "_law_ticks", "_law_light", "_law_good", "_law_far", "_law_lives", "_law_rest", "_law_due", "_law_found", "_law_k"] ["_law_script"] (defScope s_law) := ⟨rfl, rfl, rfl, by decide +kernel, rfl, by decide +kernel, by decide +kernel⟩
theorem fn_law (F : Fun K "law" "law" s_law f fd) (T : Tx P W K cls mg) (G_l_taken : Df P W K cls mg base 1 "_law_taken" 2 M_l_taken) (G_l_weight : Df P W K cls mg base 1 "_law_weight" 1 M_l_weight) (G_faded : Df P W K cls mg base 4 "faded" 3 M_faded) (G_ticks_until : Df P W K cls mg base 4 "ticks_until" 3 M_ticks_until) : FnOk P W K mg base CX0 5 f fd ["_law_script"] (spD K cls M_law 1) :=
  fn_fin (fn_mk (N := ["_law_script", "_law_row", "_law_life", "_law_density", "_law_rows", "_law_tick", "_law_ticks", "_law_light", "_law_good", "_law_far", "_law_lives", "_law_rest", "_law_due", "_law_found", "_law_k"]) (ps := ["_law_script"]) (g := B_law) F sc_law (fun cdv A outer s H E hr => (
  sss_cons (ss_set 1 sc_law.nd (se_lstT (sa_cons (se_var 0) (sa_cons (se_int) (sa_cons (se_int) (sa_cons (se_int) (sa_nil))))))) (
  sss_cons (ss_par 2 3 rfl sc_law.nd (se_bin ov_add (se_int) (se_call G_l_taken (hr.mono (by decide)) rfl (sa_cons (se_var 1) (sa_cons (se_int) (sa_nil))))) (se_call G_l_taken (hr.mono (by decide)) rfl (sa_cons (se_var 1) (sa_cons (se_int) (sa_nil))))) (
  sss_cons (ss_set 4 sc_law.nd (se_lstT (sa_cons (se_int) (sa_nil)))) (
  sss_cons (ss_for PassesOwn.never rfl (si_range1 rfl T.n_range (se_bin ov_add (se_bin ov_mul (se_int) (se_var 2)) (se_int))) (sg_var 5 sc_law.nd) (
  sss_one (ss_expr (se_lm (se_var 4) (se_bin ov_add (se_ix (se_var 4) (se_neg (se_int))) (se_bin ov_mul (se_callB (cv_max2 rfl) rfl T.n_max (by decide +kernel) (sa_cons (se_int) (sa_cons (se_bin ov_sub (se_int) (se_bin ov_fdv (se_var 5) (se_var 2))) (sa_nil)))) (se_call G_l_weight (hr.mono (by decide)) rfl (sa_cons (se_var 3) (sa_nil))))) (fun p1 p2 => pe_bm PySem.F.plainAttrs_list PySem.F.slot_list_append PySem.F.type_list_append mt_append p1 p2) (fun S r1 r2 q => app_val S r1 r2 q))))) (
  sss_cons (ss_for PassesOwn.never rfl (si_of (se_tup (sa_cons (se_int) (sa_cons (se_call G_l_taken (hr.mono (by decide)) rfl (sa_cons (se_var 1) (sa_cons (se_callB cv_len rfl T.n_len (by decide +kernel) (sa_cons (se_var 4) (sa_nil))) (sa_nil)))) (sa_cons (se_bin ov_sub (se_callB cv_len rfl T.n_len (by decide +kernel) (sa_cons (se_var 4) (sa_nil))) (se_int)) (sa_nil)))))) (sg_var 6 sc_law.nd) (
  sss_one (ss_if (st_cmp (ov_ne hr.units) (se_call G_faded (hr.mono (by decide)) rfl (sa_cons (se_var 2) (sa_cons (se_var 6) (sa_cons (se_var 3) (sa_nil))))) (se_ix (se_var 4) (se_var 6))) (
  sss_one (ss_ret (se_bl))) (
  sss_nil)))) (
  sss_cons (ss_for PassesOwn.never rfl (si_of (se_tup (sa_cons (se_int) (sa_cons (se_int) (sa_cons (se_call G_l_taken (hr.mono (by decide)) rfl (sa_cons (se_var 1) (sa_cons (se_bin ov_add (se_ix (se_var 4) (se_neg (se_int))) (se_int)) (sa_nil)))) (sa_cons (se_ix (se_var 4) (se_neg (se_int))) (sa_cons (se_bin ov_add (se_ix (se_var 4) (se_neg (se_int))) (se_int)) (sa_nil)))))))) (sg_var 7 sc_law.nd) (
  sss_cons (ss_setLc (i := 8) (own := [("_law_k", 14)]) rfl sc_law.nd rfl rfl (sw_true rfl rfl rfl (by decide +kernel)) (si_range1 rfl T.n_range (se_callB cv_len rfl T.n_len (by decide +kernel) (sa_cons (se_var 4) (sa_nil)))) (blkOk_by (N := ["_law_script", "_law_row", "_law_life", "_law_density", "_law_rows", "_law_tick", "_law_ticks", "_law_light", "_law_good", "_law_far", "_law_lives", "_law_rest", "_law_due", "_law_found", "_law_k"]) (sc := defScope s_law) (own := [("_law_k", 14)]) (by decide +kernel)) (fun _ _ _ _ _ => sg_var 14 sc_law.nd) (fun _ _ _ _ _ => sts_one (st_cmp ov_ge (se_ix (se_var 4) (se_var 14)) (se_var 7))) (fun _ _ _ _ _ => se_var 14)) (
  sss_one (ss_if (st_cmp (ov_ne hr.units) (se_call G_ticks_until (hr.mono (by decide)) rfl (sa_cons (se_var 2) (sa_cons (se_var 7) (sa_cons (se_var 3) (sa_nil))))) (se_if (st_cmp (ov_ne hr.units) (se_var 8) (se_lst (sa_nil))) (se_ix (se_var 8) (se_int)) (se_non))) (
  sss_one (ss_ret (se_bl))) (
  sss_nil))))) (
  sss_cons (ss_set 9 sc_law.nd (se_bin ov_add (se_bin ov_pow (se_int) (se_int)) (se_call G_l_taken (hr.mono (by decide)) rfl (sa_cons (se_var 1) (sa_cons (se_bin ov_pow (se_int) (se_int)) (sa_nil)))))) (
  sss_cons (ss_par 10 11 rfl sc_law.nd (se_call G_l_taken (hr.mono (by decide)) rfl (sa_cons (se_var 1) (sa_cons (se_int) (sa_nil)))) (se_call G_l_taken (hr.mono (by decide)) rfl (sa_cons (se_var 1) (sa_cons (se_var 9) (sa_nil))))) (
  sss_cons (ss_set 12 sc_law.nd (se_bin ov_add (se_bin ov_mul (se_var 9) (se_callB (cv_sum rfl) rfl T.n_sum (by decide +kernel) (sa_cons (se_lc (own := [("_law_k", 14)]) rfl sc_law.nd (si_range1 rfl T.n_range (se_var 10)) (blkOk_by (N := ["_law_script", "_law_row", "_law_life", "_law_density", "_law_rows", "_law_tick", "_law_ticks", "_law_light", "_law_good", "_law_far", "_law_lives", "_law_rest", "_law_due", "_law_found", "_law_k"]) (sc := defScope s_law) (own := [("_law_k", 14)]) (by decide +kernel)) (fun _ _ _ _ _ => sg_var 14 sc_law.nd) (fun _ _ _ _ _ => sts_nil) (fun _ _ _ _ _ => se_bin ov_sub (se_int) (se_var 14))) (sa_nil)))) (se_bin ov_mul (se_var 11) (se_bin ov_sub (se_int) (se_var 10))))) (
  sss_cons (ss_if (st_cmp (ov_ne hr.units) (se_call G_faded (hr.mono (by decide)) rfl (sa_cons (se_var 9) (sa_cons (se_bin ov_add (se_bin ov_mul (se_var 10) (se_var 9)) (se_var 11)) (sa_cons (se_var 3) (sa_nil))))) (se_bin ov_mul (se_var 12) (se_call G_l_weight (hr.mono (by decide)) rfl (sa_cons (se_var 3) (sa_nil))))) (
  sss_one (ss_ret (se_bl))) (
  sss_nil)) (
  sss_cons (ss_set 13 sc_law.nd (se_call G_ticks_until (hr.mono (by decide)) rfl (sa_cons (se_var 9) (sa_cons (se_bin ov_mul (se_var 12) (se_call G_l_weight (hr.mono (by decide)) rfl (sa_cons (se_var 3) (sa_nil)))) (sa_cons (se_var 3) (sa_nil)))))) (
  sss_cons (ss_if (SW.st (sw_and (st_cmp (ov_ne hr.units) (se_var 13) (se_bin ov_add (se_bin ov_mul (se_var 10) (se_var 9)) (se_var 11))) (sw_and1 (SW.st (sw_or (st_cmp ov_gt (se_var 11) (se_int)) (sw_or1 (st_cmp ov_gt (se_var 10) (se_int)))))))) (
  sss_one (ss_ret (se_bl))) (
  sss_nil)) (
  sss_one (ss_ret (se_and (se_cmp (ov_eq hr.units) (se_call G_faded (hr.mono (by decide)) rfl (sa_cons (se_var 9) (sa_cons (se_bin ov_pow (se_int) (se_int)) (sa_cons (se_var 3) (sa_nil))))) (se_bin ov_mul (se_bin ov_mul (se_int) (se_var 9)) (se_call G_l_weight (hr.mono (by decide)) rfl (sa_cons (se_var 3) (sa_nil))))) (se_one (se_cmp (ov_eq hr.units) (se_call G_faded (hr.mono (by decide)) rfl (sa_cons (se_var 9) (sa_cons (se_bin ov_mul (se_int) (se_var 9)) (sa_cons (se_int) (sa_nil))))) (se_bin ov_mul (se_int) (se_var 9)))))))))))))))))))))
end
end K14

set_option Elab.async false
set_option linter.all false
set_option maxRecDepth 100000
set_option autoImplicit false
namespace K14
open PySem L2 Fw
/-! ### the drawn numbers -/
/-- the script's row stands at place 0 -/
def Row0 (c : Cell) : Prop := ∃ (ns : List Int) (a b d : Int), ns.length ≤ 63 ∧ c = .lst [.flst ns, .int a, .int b, .int d] ∧ 0 ≤ a
theorem ixN_in {n : Nat} {i : Int} (h : 0 ≤ i) (h2 : i < n) : ixN n i = some i.toNat := by simp [ixN, h, h2]
theorem atI_in {α : Type} {xs : List α} {i : Int} (h : 0 ≤ i) (h2 : i < xs.length) : atI xs i = xs[i.toNat]? := by simp [atI, ixN_in h h2]
theorem oPow18 {μ : Store} : oPow (.int 10) (.int 18) μ = .ok (.int 1000000000000000000) μ := by rfl
theorem taken {c : Cell} {r : Store} {m : Int} (hc : Row0 c) (h0 : 0 < m) (hm : m < 4611686018427387904) : ∃ (k : Int) (c' : Cell), M_l_taken [.loc 0, .int m] (c :: r) = .ok (.int k) (c' :: r) ∧ Row0 c' ∧ 0 ≤ k ∧ k < m := by
  obtain ⟨ns, a, b, d, hn, rfl, ha⟩ := hc
  unfold M_l_taken B_l_taken
  by_cases h : 0 < d
  · refine ⟨d % m, .lst [.flst ns, .int a, .int b, .int (d / m)], ?_, ⟨ns, a, b, _, hn, rfl, ha⟩, Int.emod_nonneg _ (by omega), Int.emod_lt_of_pos _ h0⟩
    simp [oIx, seqOf, ixN, atI, h, oMod_int h0, oFdv_wide h0 hm, List.replicate]
  · by_cases h2 : (ns.length : Int) < a + 1
    · refine ⟨(b * 48271 + 11) % 2147483647 / 7 % m, .lst [.flst ns, .int (a + 1), .int ((b * 48271 + 11) % 2147483647), .int d], ?_, ⟨ns, _, _, _, hn, rfl, by omega⟩, Int.emod_nonneg _ (by omega), Int.emod_lt_of_pos _ h0⟩
      simp [oIx, seqOf, ixN, atI, h, oMod_int, oFdv_int, List.replicate, cLen, h2, oMul_int, Sm, h0]
    · have hi : ∃ x, ns[a.toNat]? = some x := by
        rw [List.getElem?_eq_getElem (by omega)]; exact ⟨_, rfl⟩
      obtain ⟨x, hx⟩ := hi
      refine ⟨x % m, .lst [.flst ns, .int (a + 1), .int ((b * 48271 + x + 11) % 2147483647), .int (if 1000000000000000000 ≤ x then x / m else 0)], ?_, ⟨ns, _, _, _, hn, rfl, by omega⟩, Int.emod_nonneg _ (by omega), Int.emod_lt_of_pos _ h0⟩
      have e : atI (ns.map D.int) a = some (.int x) := by
        rw [atI_in (by omega) (by simp; omega)]; simp [hx]
      by_cases h4 : 1000000000000000000 ≤ x
      all_goals simp [oIx, seqOf, ixN, h, oMod_int, oFdv_wide h0 hm, List.replicate, cLen, h2, oMul_int, Sm, h0, oPow18, h4, e, show ∀ (a b c d : D) , atI [a, b, c, d] 0 = some a from fun _ _ _ _ => rfl, show ∀ (a b c d : D) , atI [a, b, c, d] 1 = some b from fun _ _ _ _ => rfl, show ∀ (a b c d : D) , atI [a, b, c, d] 2 = some c from fun _ _ _ _ => rfl, show ∀ (a b c d : D) , atI [a, b, c, d] 3 = some d from fun _ _ _ _ => rfl]


/-- the light of the first t ticks, share by share -/
def fad (life u : Int) : Nat → Int → Int
  | 0, _ => 0
  | s + 1, t => (if t < life then t else life) * ((s : Int) + 1) * u + fad life u s (t - (if t < life then t else life))
/-- tick by tick -/
def gs (life : Nat) (u : Int) (s : Int) : Nat → Int
  | 0 => 0
  | t + 1 => gs life u s t + (if s - (t : Int) / life > 0 then s - (t : Int) / life else 0) * u
def unt (life u : Int) : Nat → Int → Int → Option Int
  | 0, _, _ => none
  | s + 1, L, acc => if L ≤ life * (((s : Int) + 1) * u) then some (acc + (L + ((s : Int) + 1) * u - 1) / (((s : Int) + 1) * u)) else unt life u s (L - life * (((s : Int) + 1) * u)) (acc + life)
theorem fad_zero {life u : Int} (h : 0 < life) : ∀ s, fad life u s 0 = 0
  | 0 => rfl
  | s + 1 => by
    unfold fad
    rw [if_pos h, Int.sub_zero, fad_zero h s]
    simp
theorem gs_first {life : Nat} {u s : Int} (h : 0 < life) (hs : 0 < s) : ∀ t, t ≤ life → gs life u s t = t * s * u
  | 0, _ => by simp [gs]
  | t + 1, ht => by
    have e : (t : Int) / life = 0 := Int.ediv_eq_zero_of_lt (by omega) (by omega)
    have ih := gs_first (u := u) (s := s) h hs t (by omega)
    simp only [gs, ih, e, Int.sub_zero]
    rw [if_pos (by omega)]
    push_cast
    rw [Int.add_mul, Int.add_mul]
    simp
theorem gs_next {life : Nat} {u s : Int} (h : 0 < life) (hs : 0 < s) : ∀ t, gs life u s (life + t) = (life : Int) * s * u + gs life u (s - 1) t
  | 0 => by rw [Nat.add_zero, gs_first h hs life (Nat.le_refl _)]; simp [gs]
  | t + 1 => by
    have ih := gs_next (u := u) (s := s) h hs t
    have e : ((life + t : Nat) : Int) / life = 1 + (t : Int) / life := by
      push_cast
      rw [Int.add_comm, Int.add_ediv_of_dvd_right (Int.dvd_refl _), Int.ediv_self (by omega)]
      omega
    show gs life u s (life + t) + (if s - ((life + t : Nat) : Int) / life > 0 then s - ((life + t : Nat) : Int) / life else 0) * u = _
    rw [ih, e]
    simp only [gs]
    rw [show s - (1 + (t : Int) / life) = s - 1 - (t : Int) / life by omega]
    omega
theorem gs_zero {life : Nat} {u : Int} : ∀ t, gs life u 0 t = 0
  | 0 => rfl
  | t + 1 => by
    have e : (0 : Int) ≤ (t : Int) / life := Int.ediv_nonneg (by omega) (by omega)
    simp only [gs, gs_zero t]
    rw [if_neg (by omega)]
    simp
theorem fad_gs {life : Nat} {u : Int} (h : 0 < life) : ∀ (s : Nat) (t : Nat), fad life u s t = gs life u s t
  | 0, t => by simp only [fad]; exact (gs_zero t).symm
  | s + 1, t => by
    unfold fad
    by_cases ht : (t : Int) < life
    · rw [if_pos ht, Int.sub_self, fad_zero (by omega)]
      have := gs_first (u := u) (s := ((s + 1 : Nat) : Int)) h (by omega) t (by omega)
      rw [this]
      push_cast
      omega
    · rw [if_neg ht]
      obtain ⟨t', rfl⟩ : ∃ t', t = life + t' := ⟨t - life, by omega⟩
      have e := gs_next (u := u) (s := ((s + 1 : Nat) : Int)) h (by omega) t'
      rw [e, show ((s + 1 : Nat) : Int) - 1 = (s : Nat) by omega, ← fad_gs h s t', show ((life + t' : Nat) : Int) - life = (t' : Nat) by omega]
      push_cast
      rfl
theorem mul_le_l {a b c : Int} (h : a ≤ b) (hc : 0 ≤ c) : a * c ≤ b * c := Int.mul_le_mul_of_nonneg_right h hc
theorem unt_spec {life : Nat} {u : Int} (h : 0 < life) (hu : 0 < u) : ∀ (s : Nat) (L acc : Int), 0 ≤ L → (s = 0 → 0 < L) →
    (unt life u s L acc = none ∧ ∀ k, gs life u s k < L) ∨ ∃ k : Nat, unt life u s L acc = some (acc + k) ∧ k ≤ s * life ∧ L ≤ gs life u s k ∧ ∀ j, j < k → gs life u s j < L
  | 0, L, acc, h0, hL => by
    refine .inl ⟨rfl, fun k => ?_⟩
    have := gs_zero (life := life) (u := u) k
    have h2 := hL rfl
    show gs life u 0 k < L
    omega
  | s + 1, L, acc, h0, _ => by
    have he : 0 < ((s : Int) + 1) * u := Int.mul_pos (by omega) hu
    have hfst : ∀ j : Nat, j ≤ life → gs life u ((s + 1 : Nat) : Int) j = j * (((s : Int) + 1) * u) := fun j hj => by
      rw [gs_first h (by omega) j hj]
      push_cast
      rw [Int.mul_assoc]
    have hnx : ∀ t : Nat, gs life u ((s + 1 : Nat) : Int) (life + t) = life * (((s : Int) + 1) * u) + gs life u s t := fun t => by
      rw [gs_next h (by omega) t, show ((s + 1 : Nat) : Int) - 1 = (s : Nat) by omega]
      push_cast
      rw [Int.mul_assoc]
    generalize hE : ((s : Int) + 1) * u = e at he hfst hnx
    unfold unt
    rw [hE]
    by_cases hc : L ≤ life * e
    · rw [if_pos hc]
      have hq0 : 0 ≤ (L + e - 1) / e := Int.ediv_nonneg (by omega) (by omega)
      have hm := Int.emod_add_mul_ediv (L + e - 1) e
      have hm0 := Int.emod_nonneg (L + e - 1) (show e ≠ 0 by omega)
      have hm1 := Int.emod_lt_of_pos (L + e - 1) he
      generalize hq : (L + e - 1) / e = q at hq0 hm
      rw [Int.mul_comm] at hm
      have hql : q ≤ life := by
        apply Decidable.byContradiction
        intro hn
        have h1 : ((life : Int) + 1) * e ≤ q * e := mul_le_l (by omega) (by omega)
        rw [Int.add_mul] at h1
        omega
      refine .inr ⟨q.toNat, by rw [Int.toNat_of_nonneg hq0], ?_, ?_, fun j hj => ?_⟩
      · have : life ≤ (s + 1) * life := Nat.le_mul_of_pos_left _ (by omega)
        omega
      · rw [hfst _ (by omega), Int.toNat_of_nonneg hq0]
        omega
      · rw [hfst _ (by omega)]
        have h1 : ((j : Int) + 1) * e ≤ q * e := mul_le_l (by omega) (by omega)
        rw [Int.add_mul] at h1
        omega
    · rw [if_neg hc]
      have hj0 : ∀ j : Nat, j ≤ life → gs life u ((s + 1 : Nat) : Int) j < L := fun j hj => by
        rw [hfst j hj]
        have := mul_le_l (show (j : Int) ≤ life by omega) (show 0 ≤ e by omega)
        omega
      rcases unt_spec h hu s (L - life * e) (acc + life) (by omega) (fun _ => by omega) with ⟨e1, f⟩ | ⟨k, e1, hk, h1, h2⟩
      · refine .inl ⟨e1, fun k => ?_⟩
        by_cases hk : k ≤ life
        · exact hj0 k hk
        · obtain ⟨t, rfl⟩ : ∃ t, k = life + t := ⟨k - life, by omega⟩
          have := f t
          rw [hnx]
          omega
      · refine .inr ⟨life + k, by rw [e1]; push_cast; rw [Int.add_assoc], by rw [Nat.add_mul]; omega, by rw [hnx]; omega, fun j hj => ?_⟩
        by_cases hk : j ≤ life
        · exact hj0 j hk
        · obtain ⟨t, rfl⟩ : ∃ t, j = life + t := ⟨j - life, by omega⟩
          have := h2 t (by omega)
          rw [hnx]
          omega
/-- the shares of so many lives -/
def shs (s : Int) : Nat → Int
  | 0 => 0
  | n + 1 => shs s n + (s - n)
theorem shs_next {s : Int} : ∀ n, shs s (n + 1) = s + shs (s - 1) n
  | 0 => by simp [shs]
  | n + 1 => by
    have := shs_next (s := s) n
    show shs s (n + 1) + _ = _
    rw [this]
    simp only [shs]
    push_cast
    omega
theorem fad_far {life u : Int} (h : 0 < life) : ∀ (n s : Nat) (r : Int), n ≤ s → 0 ≤ r → (r < life ∨ n = s) → fad life u s (n * life + r) = (life * shs s n + r * (s - n)) * u
  | 0, 0, r, _, h0, _ => by simp [fad, shs]
  | 0, s + 1, r, _, h0, hr => by
    have hr : r < life := hr.resolve_right (by omega)
    unfold fad
    have e : ((0 : Nat) : Int) * life + r = r := by simp
    rw [e, if_pos hr, Int.sub_self, fad_zero h]
    simp [shs]
  | n + 1, 0, r, hn, _, _ => by omega
  | n + 1, s + 1, r, hn, h0, hr => by
    have hp : 0 ≤ (n : Int) * life := Int.mul_nonneg (by omega) (by omega)
    have e : ((n + 1 : Nat) : Int) * life + r = life + (n * life + r) := by
      push_cast
      rw [Int.add_mul, Int.one_mul]
      omega
    have ih := fad_far (u := u) h n s r (by omega) h0 (by omega)
    unfold fad
    rw [e, if_neg (by omega), show life + (n * life + r) - life = n * life + r by omega, ih, shs_next, show ((s + 1 : Nat) : Int) - 1 = s by omega]
    push_cast
    rw [show (s : Int) + 1 - (n + 1) = s - n by omega, ← Int.add_mul, Int.mul_add]
    rw [Int.mul_add, Int.mul_one, Int.mul_add, Int.mul_one]
    congr 1
    omega
theorem gs_mono {life : Nat} {u s : Int} (hu : 0 < u) {j : Nat} : ∀ d, gs life u s j ≤ gs life u s (j + d)
  | 0 => Int.le_refl _
  | d + 1 => by
    have := gs_mono (life := life) (s := s) hu (j := j) d
    show _ ≤ gs life u s (j + d) + (if s - ((j + d : Nat) : Int) / life > 0 then s - ((j + d : Nat) : Int) / life else 0) * u
    split
    · have : 0 < (s - ((j + d : Nat) : Int) / life) * u := Int.mul_pos (by omega) hu
      omega
    · omega
theorem gs_strict {life : Nat} {u s : Int} (h : 0 < life) (hu : 0 < u) {j k : Nat} (hjk : j < k) (hk : (k : Int) ≤ s * life) : gs life u s j < gs life u s k := by
  obtain ⟨d, rfl⟩ : ∃ d, k = j + 1 + d := ⟨k - (j + 1), by omega⟩
  have h1 := gs_mono (life := life) (s := s) hu (j := j + 1) d
  have h2 : (j : Int) / life < s := Int.ediv_lt_of_lt_mul (by omega) (by omega)
  have h3 : 0 < (s - (j : Int) / life) * u := Int.mul_pos (by omega) hu
  have h4 : gs life u s (j + 1) = gs life u s j + (s - (j : Int) / life) * u := by
    simp only [gs]
    rw [if_pos (by omega)]
  omega
theorem is_number {v a b : Int} {μ : Store} : M_is_number [.int v, .int a, .int b] μ = .ok (.bl (decide (a ≤ v) && decide (v ≤ b))) μ := by
  have e1 : ∀ (ρ : Fw.Env) μ, eIsi "int" (eVar 0) (some (.int v) :: ρ) μ = .ok (.bl true) μ := fun ρ μ => by rfl
  have e2 : ∀ (ρ : Fw.Env) μ, eIsi "bool" (eVar 0) (some (.int v) :: ρ) μ = .ok (.bl false) μ := fun ρ μ => by rfl
  unfold M_is_number B_is_number
  by_cases h : a ≤ v
  all_goals simp only [mD_ev, sSeq_ev, sAsg_ev, eCallD_ev, eCall_ev, aCons_ev, aNil_ev, eVar_ev, List.map_cons, List.map_nil, List.length_cons, List.length_nil, List.cons_append, List.nil_append, Nat.reduceAdd, Nat.reduceSub, List.reduceReplicate, List.getElem?_cons_zero, List.getElem?_cons_succ, bok, if_true, eC_ev, sok, gVar_ev, List.set_cons_succ, List.set_cons_zero, Nat.reduceLT, eBin_ev, eLc_ev, iOf_ev, oWalk, wipeE, gTup_ev, gCons_ev, gNil_ev, eLst_ev, eTup_ev, eJoin_ev, iRange1_ev, sRet_ev, sIf_ev, tB_ev, tAnd_ev, tOr_ev, tNot_ev, eNot_ev, eAnd_ev, eIf_ev, sNext_ev, sExpr_ev, sPar_ev, sAug_ev, sAsg2_ev, sFor_ev, and_self, eThaw_ev, thaw_ev, e1, e2, Bool.not_false, eChain_ev, oLe_int, h, decide_true, decide_false, Bool.false_eq_true, if_false, Bool.true_and, Bool.false_and]

/-! ### the program's functions -/
theorem sm_of {a : Int} (h : -1000000 ≤ a) (h2 : a ≤ 1000000) : Sm a = true := by
  simp [Sm]; omega
theorem min_ev {a b : Int} {μ : Store} : cMin2 [.int a, .int b] μ = .ok (.int (if b < a then b else a)) μ := (rfl)
theorem subI_ev {a b : Int} {μ : Store} : oSubI (.int a) (.int b) μ = .ok (.int (a - b)) μ := (rfl)
theorem down_ev {fa fb : FE} {ρ : Fw.Env} {μ : Store} : iDown fa fb ρ μ = (fa ρ μ).bind fun d μ1 => (fb ρ μ1).bind fun e μ2 => match d, e with
  | .int i, .int j => if -1000000 ≤ i ∧ i ≤ 1000000 ∧ -1000000 ≤ j ∧ j ≤ 1000000 then .ok ((List.range (i - j).toNat).map fun k => .int (i + (k : Nat) * (-1)), none) μ2 else .stuck
  | _, _ => .stuck := (rfl)
theorem check_number {v a b : Int} {μ : Store} (h : a ≤ v) (h2 : v ≤ b) : M_check_number [.int v, .int a, .int b] μ = .ok .non μ := by
  unfold M_check_number B_check_number
  simp only [mD_ev, sSeq_ev, sAsg_ev, eCallD_ev, eCall_ev, aCons_ev, aNil_ev, eVar_ev, List.map_cons, List.map_nil, List.length_cons, List.length_nil, List.cons_append, List.nil_append, Nat.reduceAdd, Nat.reduceSub, List.reduceReplicate, List.getElem?_cons_zero, List.getElem?_cons_succ, bok, if_true, eC_ev, sok, gVar_ev, List.set_cons_succ, List.set_cons_zero, Nat.reduceLT, eBin_ev, eLc_ev, iOf_ev, oWalk, wipeE, gTup_ev, gCons_ev, gNil_ev, eLst_ev, eTup_ev, eJoin_ev, iRange1_ev, sRet_ev, sIf_ev, tB_ev, tAnd_ev, tOr_ev, tNot_ev, eNot_ev, eAnd_ev, eIf_ev, sNext_ev, sExpr_ev, sPar_ev, sAug_ev, sAsg2_ev, sFor_ev, and_self, eThaw_ev, thaw_ev, is_number, h, h2, decide_true, Bool.and_self, Bool.not_true, Bool.false_eq_true, if_false]
theorem check_fading {l t k : Int} {μ : Store} (hl : 1 ≤ l ∧ l ≤ 1000000000000000) (ht : 0 ≤ t ∧ t ≤ 1000000000000000000) (hk : 0 ≤ k ∧ k ≤ 4) : M_check_fading [.int l, .int t, .int k] μ = .ok .non μ := by
  unfold M_check_fading B_check_fading
  simp only [mD_ev, sSeq_ev, sAsg_ev, eCallD_ev, eCall_ev, aCons_ev, aNil_ev, eVar_ev, List.map_cons, List.map_nil, List.length_cons, List.length_nil, List.cons_append, List.nil_append, Nat.reduceAdd, Nat.reduceSub, List.reduceReplicate, List.getElem?_cons_zero, List.getElem?_cons_succ, bok, if_true, eC_ev, sok, gVar_ev, List.set_cons_succ, List.set_cons_zero, Nat.reduceLT, eBin_ev, eLc_ev, iOf_ev, oWalk, wipeE, gTup_ev, gCons_ev, gNil_ev, eLst_ev, eTup_ev, eJoin_ev, iRange1_ev, sRet_ev, sIf_ev, tB_ev, tAnd_ev, tOr_ev, tNot_ev, eNot_ev, eAnd_ev, eIf_ev, sNext_ev, sExpr_ev, sPar_ev, sAug_ev, sAsg2_ev, sFor_ev, and_self, eThaw_ev, thaw_ev, check_number hl.1 hl.2, check_number ht.1 ht.2, check_number hk.1 hk.2]
abbrev T5 : D := .tup [.int 16, .int 8, .int 4, .int 2, .int 1]
structure Wt (k u : Int) : Prop where
  ix : ∀ μ, oIx T5 (.int k) μ = .ok (.int u) μ
  we : ∀ μ, M_l_weight [.int k] μ = .ok (.int u) μ
  pos : 0 < u
  le : u ≤ 16
  k0 : 0 ≤ k
  k4 : k ≤ 4
theorem wt_of {k : Int} (h : 0 ≤ k) (h2 : k < 5) : ∃ u, Wt k u := by
  have : k = 0 ∨ k = 1 ∨ k = 2 ∨ k = 3 ∨ k = 4 := by omega
  rcases this with rfl | rfl | rfl | rfl | rfl
  · exact ⟨16, fun μ => by rfl, fun μ => by rfl, by decide, by decide, by decide, by decide⟩
  · exact ⟨8, fun μ => by rfl, fun μ => by rfl, by decide, by decide, by decide, by decide⟩
  · exact ⟨4, fun μ => by rfl, fun μ => by rfl, by decide, by decide, by decide, by decide⟩
  · exact ⟨2, fun μ => by rfl, fun μ => by rfl, by decide, by decide, by decide, by decide⟩
  · exact ⟨1, fun μ => by rfl, fun μ => by rfl, by decide, by decide, by decide, by decide⟩
theorem wt4 : Wt 4 1 := ⟨fun μ => by rfl, fun μ => by rfl, by decide, by decide, by decide, by decide⟩
def dn : Nat → List D
  | 0 => []
  | s + 1 => .int ((s : Int) + 1) :: dn s
theorem dn16 : ((List.range ((16 : Int) - 0).toNat).map fun k => D.int (16 + ((k : Nat) : Int) * (-1))) = dn 16 := by rfl
theorem faded_in {life k u : Int} (W : Wt k u) {items : List D} {μ : Store} : ∀ (s : Nat), s ≤ 16 → ∀ (t light : Int) (x y : Option D), ∃ t' x' y', forL items none (gVar 4) (
  sSeq (sAsg (gVar 5) (eCall cMin2 (aCons (eVar 0) (aCons (eVar 1) (aNil))))) (
  sSeq (sAug 3 oAddI (eBin oMul (eBin oMul (eVar 5) (eVar 4)) (eBin oIx (eC (.tup [.int 16, .int 8, .int 4, .int 2, .int 1])) (eVar 2)))) (
  sAug 1 oSubI (eVar 5)))) (dn s) [some (.int life), some (.int t), some (.int k), some (.int light), x, y] μ = .nx [some (.int life), some (.int t'), some (.int k), some (.int (light + fad life u s t)), x', y'] μ
  | 0, _, t, light, x, y => ⟨t, x, y, by rw [dn, for_nil]; simp [fad]⟩
  | s + 1, hs, t, light, x, y => by
    obtain ⟨t', x', y', e⟩ := faded_in W (items := items) (μ := μ) s (by omega) (t - (if t < life then t else life)) (light + (if t < life then t else life) * ((s : Int) + 1) * u) (some (.int ((s : Int) + 1))) (some (.int (if t < life then t else life)))
    refine ⟨t', x', y', ?_⟩
    have h1 : ∀ a : Int, oMul (.int a) (.int ((s : Int) + 1)) μ = .ok (.int (a * ((s : Int) + 1))) μ := fun a => oMul_int (by rw [sm_of (a := (s : Int) + 1) (by omega) (by omega)]; simp)
    have h2 : ∀ a : Int, oMul (.int a) (.int u) μ = .ok (.int (a * u)) μ := fun a => oMul_int (by rw [sm_of (a := u) (by have := W.pos; omega) (by have := W.le; omega)]; simp)
    rw [dn, for_cons]
    simp only [mD_ev, sSeq_ev, sAsg_ev, eCallD_ev, eCall_ev, aCons_ev, aNil_ev, eVar_ev, List.map_cons, List.map_nil, List.length_cons, List.length_nil, List.cons_append, List.nil_append, Nat.reduceAdd, Nat.reduceSub, List.reduceReplicate, List.getElem?_cons_zero, List.getElem?_cons_succ, bok, if_true, eC_ev, sok, gVar_ev, List.set_cons_succ, List.set_cons_zero, Nat.reduceLT, eBin_ev, eLc_ev, iOf_ev, oWalk, wipeE, gTup_ev, gCons_ev, gNil_ev, eLst_ev, eTup_ev, eJoin_ev, iRange1_ev, sRet_ev, sIf_ev, tB_ev, tAnd_ev, tOr_ev, tNot_ev, eNot_ev, eAnd_ev, eIf_ev, sNext_ev, sExpr_ev, sPar_ev, sAug_ev, sAsg2_ev, sFor_ev, and_self, eThaw_ev, thaw_ev, min_ev, h1, W.ix, h2, oAddI_int, subI_ev]
    rw [e]
    simp only [fad, Int.add_assoc]
theorem faded {life t k u : Int} (W : Wt k u) {μ : Store} (hl : 1 ≤ life ∧ life ≤ 1000000000000000) (ht : 0 ≤ t ∧ t ≤ 1000000000000000000) : M_faded [.int life, .int t, .int k] μ = .ok (.int (fad life u 16 t)) μ := by
  obtain ⟨t', x', y', e⟩ := faded_in (life := life) W (items := dn 16) (μ := μ) 16 (Nat.le_refl _) t 0 none none
  rw [Int.zero_add] at e
  have hd : (-1000000 : Int) ≤ 16 ∧ (16 : Int) ≤ 1000000 ∧ (-1000000 : Int) ≤ 0 ∧ (0 : Int) ≤ 1000000 := by decide
  unfold M_faded B_faded
  simp only [mD_ev, sSeq_ev, sAsg_ev, eCallD_ev, eCall_ev, aCons_ev, aNil_ev, eVar_ev, List.map_cons, List.map_nil, List.length_cons, List.length_nil, List.cons_append, List.nil_append, Nat.reduceAdd, Nat.reduceSub, List.reduceReplicate, List.getElem?_cons_zero, List.getElem?_cons_succ, bok, if_true, eC_ev, sok, gVar_ev, List.set_cons_succ, List.set_cons_zero, Nat.reduceLT, eBin_ev, eLc_ev, iOf_ev, oWalk, wipeE, gTup_ev, gCons_ev, gNil_ev, eLst_ev, eTup_ev, eJoin_ev, iRange1_ev, sRet_ev, sIf_ev, tB_ev, tAnd_ev, tOr_ev, tNot_ev, eNot_ev, eAnd_ev, eIf_ev, sNext_ev, sExpr_ev, sPar_ev, sAug_ev, sAsg2_ev, sFor_ev, and_self, eThaw_ev, thaw_ev, check_fading hl ht ⟨W.k0, W.k4⟩, down_ev, if_pos hd, dn16, e]
theorem ticks_to {L e : Int} {μ : Store} (h : 0 < e) (h2 : e < 1073741824) : M_ticks_to [.int L, .int e] μ = .ok (.int ((L + e - 1) / e)) μ := by
  unfold M_ticks_to B_ticks_to
  simp only [mD_ev, sSeq_ev, sAsg_ev, eCallD_ev, eCall_ev, aCons_ev, aNil_ev, eVar_ev, List.map_cons, List.map_nil, List.length_cons, List.length_nil, List.cons_append, List.nil_append, Nat.reduceAdd, Nat.reduceSub, List.reduceReplicate, List.getElem?_cons_zero, List.getElem?_cons_succ, bok, if_true, eC_ev, sok, gVar_ev, List.set_cons_succ, List.set_cons_zero, Nat.reduceLT, eBin_ev, eLc_ev, iOf_ev, oWalk, wipeE, gTup_ev, gCons_ev, gNil_ev, eLst_ev, eTup_ev, eJoin_ev, iRange1_ev, sRet_ev, sIf_ev, tB_ev, tAnd_ev, tOr_ev, tNot_ev, eNot_ev, eAnd_ev, eIf_ev, sNext_ev, sExpr_ev, sPar_ev, sAug_ev, sAsg2_ev, sFor_ev, and_self, eThaw_ev, thaw_ev, oAdd_int, oSub_int, oFdv_int h h2]
def oD : Option Int → D
  | some v => .int v
  | none => .non
theorem until_in {life k u : Int} (W : Wt k u) {items : List D} {μ : Store} : ∀ (s : Nat), s ≤ 16 → ∀ (L acc : Int) (x y : Option D), 
    (∃ v, unt life u s L acc = some v ∧ forL items none (gVar 4) (
  sSeq (sAsg (gVar 5) (eBin oMul (eVar 4) (eBin oIx (eC (.tup [.int 16, .int 8, .int 4, .int 2, .int 1])) (eVar 2)))) (
  sSeq (sIf (tB (eBin oLe (eVar 1) (eBin oMul (eVar 0) (eVar 5)))) (
  sRet (eBin oAdd (eVar 3) (eCallD 2 M_ticks_to (aCons (eVar 1) (aCons (eVar 5) (aNil)))))) (
  sNext)) (
  sSeq (sAug 1 oSubI (eBin oMul (eVar 0) (eVar 5))) (
  sAug 3 oAddI (eVar 0))))) (dn s) [some (.int life), some (.int L), some (.int k), some (.int acc), x, y] μ = .rt (.int v) μ) ∨
    (unt life u s L acc = none ∧ ∃ ρ, forL items none (gVar 4) (
  sSeq (sAsg (gVar 5) (eBin oMul (eVar 4) (eBin oIx (eC (.tup [.int 16, .int 8, .int 4, .int 2, .int 1])) (eVar 2)))) (
  sSeq (sIf (tB (eBin oLe (eVar 1) (eBin oMul (eVar 0) (eVar 5)))) (
  sRet (eBin oAdd (eVar 3) (eCallD 2 M_ticks_to (aCons (eVar 1) (aCons (eVar 5) (aNil)))))) (
  sNext)) (
  sSeq (sAug 1 oSubI (eBin oMul (eVar 0) (eVar 5))) (
  sAug 3 oAddI (eVar 0))))) (dn s) [some (.int life), some (.int L), some (.int k), some (.int acc), x, y] μ = .nx ρ μ)
  | 0, _, L, acc, x, y => .inr ⟨rfl, _, by rw [dn, for_nil]⟩
  | s + 1, hs, L, acc, x, y => by
    have ih := until_in (life := life) W (items := items) (μ := μ) s (by omega) (L - life * (((s : Int) + 1) * u)) (acc + life) (some (.int ((s : Int) + 1))) (some (.int (((s : Int) + 1) * u)))
    have p := W.pos
    have l := W.le
    have e0 : 0 < ((s : Int) + 1) * u := Int.mul_pos (by omega) p
    have e1 : ((s : Int) + 1) * u ≤ 256 := by
      have h1 : ((s : Int) + 1) * u ≤ 16 * u := Int.mul_le_mul_of_nonneg_right (by omega) (by omega)
      omega
    have h2 : ∀ a : Int, oMul (.int a) (.int u) μ = .ok (.int (a * u)) μ := fun a => oMul_int (by rw [sm_of (a := u) (by omega) (by omega)]; simp)
    have h3 : oMul (.int life) (.int (((s : Int) + 1) * u)) μ = .ok (.int (life * (((s : Int) + 1) * u))) μ := oMul_int (by rw [sm_of (a := ((s : Int) + 1) * u) (by omega) (by omega)]; simp)
    by_cases hc : L ≤ life * (((s : Int) + 1) * u)
    · refine .inl ⟨_, by rw [unt, if_pos hc], ?_⟩
      rw [dn, for_cons]
      simp only [mD_ev, sSeq_ev, sAsg_ev, eCallD_ev, eCall_ev, aCons_ev, aNil_ev, eVar_ev, List.map_cons, List.map_nil, List.length_cons, List.length_nil, List.cons_append, List.nil_append, Nat.reduceAdd, Nat.reduceSub, List.reduceReplicate, List.getElem?_cons_zero, List.getElem?_cons_succ, bok, if_true, eC_ev, sok, gVar_ev, List.set_cons_succ, List.set_cons_zero, Nat.reduceLT, eBin_ev, eLc_ev, iOf_ev, oWalk, wipeE, gTup_ev, gCons_ev, gNil_ev, eLst_ev, eTup_ev, eJoin_ev, iRange1_ev, sRet_ev, sIf_ev, tB_ev, tAnd_ev, tOr_ev, tNot_ev, eNot_ev, eAnd_ev, eIf_ev, sNext_ev, sExpr_ev, sPar_ev, sAug_ev, sAsg2_ev, sFor_ev, and_self, eThaw_ev, thaw_ev, W.ix, h2, h3, oLe_int, hc, decide_true, ticks_to e0 (by omega), oAdd_int]
    · have st : forL items none (gVar 4) (
  sSeq (sAsg (gVar 5) (eBin oMul (eVar 4) (eBin oIx (eC (.tup [.int 16, .int 8, .int 4, .int 2, .int 1])) (eVar 2)))) (
  sSeq (sIf (tB (eBin oLe (eVar 1) (eBin oMul (eVar 0) (eVar 5)))) (
  sRet (eBin oAdd (eVar 3) (eCallD 2 M_ticks_to (aCons (eVar 1) (aCons (eVar 5) (aNil)))))) (
  sNext)) (
  sSeq (sAug 1 oSubI (eBin oMul (eVar 0) (eVar 5))) (
  sAug 3 oAddI (eVar 0))))) (dn (s + 1)) [some (.int life), some (.int L), some (.int k), some (.int acc), x, y] μ = forL items none (gVar 4) (
  sSeq (sAsg (gVar 5) (eBin oMul (eVar 4) (eBin oIx (eC (.tup [.int 16, .int 8, .int 4, .int 2, .int 1])) (eVar 2)))) (
  sSeq (sIf (tB (eBin oLe (eVar 1) (eBin oMul (eVar 0) (eVar 5)))) (
  sRet (eBin oAdd (eVar 3) (eCallD 2 M_ticks_to (aCons (eVar 1) (aCons (eVar 5) (aNil)))))) (
  sNext)) (
  sSeq (sAug 1 oSubI (eBin oMul (eVar 0) (eVar 5))) (
  sAug 3 oAddI (eVar 0))))) (dn s) [some (.int life), some (.int (L - life * (((s : Int) + 1) * u))), some (.int k), some (.int (acc + life)), some (.int ((s : Int) + 1)), some (.int (((s : Int) + 1) * u))] μ := by
        rw [dn, for_cons]
        simp only [mD_ev, sSeq_ev, sAsg_ev, eCallD_ev, eCall_ev, aCons_ev, aNil_ev, eVar_ev, List.map_cons, List.map_nil, List.length_cons, List.length_nil, List.cons_append, List.nil_append, Nat.reduceAdd, Nat.reduceSub, List.reduceReplicate, List.getElem?_cons_zero, List.getElem?_cons_succ, bok, if_true, eC_ev, sok, gVar_ev, List.set_cons_succ, List.set_cons_zero, Nat.reduceLT, eBin_ev, eLc_ev, iOf_ev, oWalk, wipeE, gTup_ev, gCons_ev, gNil_ev, eLst_ev, eTup_ev, eJoin_ev, iRange1_ev, sRet_ev, sIf_ev, tB_ev, tAnd_ev, tOr_ev, tNot_ev, eNot_ev, eAnd_ev, eIf_ev, sNext_ev, sExpr_ev, sPar_ev, sAug_ev, sAsg2_ev, sFor_ev, and_self, eThaw_ev, thaw_ev, W.ix, h2, h3, oLe_int, hc, decide_false, Bool.false_eq_true, if_false, subI_ev, oAddI_int]
      rw [unt, if_neg hc, st]
      exact ih
theorem ticks_until {life L k u : Int} (W : Wt k u) {μ : Store} (hl : 1 ≤ life ∧ life ≤ 1000000000000000) (hL : 0 ≤ L ∧ L ≤ 1000000000000000000) : M_ticks_until [.int life, .int L, .int k] μ = .ok (oD (unt life u 16 L 0)) μ := by
  have hd : (-1000000 : Int) ≤ 16 ∧ (16 : Int) ≤ 1000000 ∧ (-1000000 : Int) ≤ 0 ∧ (0 : Int) ≤ 1000000 := by decide
  unfold M_ticks_until B_ticks_until
  rcases until_in (life := life) W (items := dn 16) (μ := μ) 16 (Nat.le_refl _) L 0 none none with ⟨v, e, f⟩ | ⟨e, ρ, f⟩
  · rw [e]
    simp only [mD_ev, sSeq_ev, sAsg_ev, eCallD_ev, eCall_ev, aCons_ev, aNil_ev, eVar_ev, List.map_cons, List.map_nil, List.length_cons, List.length_nil, List.cons_append, List.nil_append, Nat.reduceAdd, Nat.reduceSub, List.reduceReplicate, List.getElem?_cons_zero, List.getElem?_cons_succ, bok, if_true, eC_ev, sok, gVar_ev, List.set_cons_succ, List.set_cons_zero, Nat.reduceLT, eBin_ev, eLc_ev, iOf_ev, oWalk, wipeE, gTup_ev, gCons_ev, gNil_ev, eLst_ev, eTup_ev, eJoin_ev, iRange1_ev, sRet_ev, sIf_ev, tB_ev, tAnd_ev, tOr_ev, tNot_ev, eNot_ev, eAnd_ev, eIf_ev, sNext_ev, sExpr_ev, sPar_ev, sAug_ev, sAsg2_ev, sFor_ev, and_self, eThaw_ev, thaw_ev, check_fading hl hL ⟨W.k0, W.k4⟩, down_ev, if_pos hd, dn16, f]
    rfl
  · rw [e]
    simp only [mD_ev, sSeq_ev, sAsg_ev, eCallD_ev, eCall_ev, aCons_ev, aNil_ev, eVar_ev, List.map_cons, List.map_nil, List.length_cons, List.length_nil, List.cons_append, List.nil_append, Nat.reduceAdd, Nat.reduceSub, List.reduceReplicate, List.getElem?_cons_zero, List.getElem?_cons_succ, bok, if_true, eC_ev, sok, gVar_ev, List.set_cons_succ, List.set_cons_zero, Nat.reduceLT, eBin_ev, eLc_ev, iOf_ev, oWalk, wipeE, gTup_ev, gCons_ev, gNil_ev, eLst_ev, eTup_ev, eJoin_ev, iRange1_ev, sRet_ev, sIf_ev, tB_ev, tAnd_ev, tOr_ev, tNot_ev, eNot_ev, eAnd_ev, eIf_ev, sNext_ev, sExpr_ev, sPar_ev, sAug_ev, sAsg2_ev, sFor_ev, and_self, eThaw_ev, thaw_ev, check_fading hl hL ⟨W.k0, W.k4⟩, down_ev, if_pos hd, dn16, f]
    rfl
end K14

set_option Elab.async false
set_option linter.all false
set_option maxRecDepth 100000
set_option autoImplicit false
namespace K14
open PySem L2 Fw
/-! ### the law's rows -/
def rl (l : Nat) (u : Int) (j : Nat) : List D := (List.range (j + 1)).map fun i => D.int (gs l u 16 i)
theorem rl_len {l j : Nat} {u : Int} : (rl l u j).length = j + 1 := by simp [rl]
theorem rl_next {l j : Nat} {u : Int} : rl l u j ++ [.int (gs l u 16 (j + 1))] = rl l u (j + 1) := by
  unfold rl
  rw [List.range_succ (n := j + 1), List.map_append]
  rfl
theorem rl_at {l j i : Nat} {u : Int} (h : i ≤ j) : (rl l u j)[i]? = some (.int (gs l u 16 i)) := by
  unfold rl
  rw [List.getElem?_map, List.getElem?_range (by omega)]
  rfl
theorem rl_last {l j : Nat} {u : Int} {c : Cell} : oIx (.loc 1) (.int (-1)) [c, .lst (rl l u j)] = .ok (.int (gs l u 16 j)) [c, .lst (rl l u j)] := by
  have h : atI (rl l u j) (-1) = some (.int (gs l u 16 j)) := by
    have h1 : ixN (rl l u j).length (-1) = some j := by
      rw [rl_len]
      simp only [ixN]
      rw [if_neg (by omega), if_pos (by omega)]
      congr 1
      omega
    simp only [atI, h1, Option.bind_some]
    exact rl_at (Nat.le_refl _)
  simp only [oIx, seqOf, List.getElem?_cons_succ, List.getElem?_cons_zero, h]
theorem rl_ix {l j i : Nat} {u : Int} (hi : i ≤ j) {c : Cell} : oIx (.loc 1) (.int (i : Nat)) [c, .lst (rl l u j)] = .ok (.int (gs l u 16 i)) [c, .lst (rl l u j)] := by
  have h : atI (rl l u j) (i : Nat) = some (.int (gs l u 16 i)) := by
    rw [atI_in (by omega) (by rw [rl_len]; omega), Int.toNat_natCast]
    exact rl_at hi
  simp only [oIx, seqOf, List.getElem?_cons_succ, List.getElem?_cons_zero, h]
theorem mul_u {k u : Int} (W : Wt k u) {a : Int} {μ : Store} : oMul (.int a) (.int u) μ = .ok (.int (a * u)) μ := oMul_int (by rw [sm_of (a := u) (by have := W.pos; omega) (by have := W.le; omega)]; simp)
theorem max_ev {a b : Int} {μ : Store} : cMax2 [.int a, .int b] μ = .ok (.int (if b > a then b else a)) μ := (rfl)

theorem rows_in {l : Nat} {k u : Int} (W : Wt k u) (hl : 1 ≤ l ∧ l ≤ 9) {items : List D} {c : Cell} {p0 p1 : Option D} : ∀ (m j : Nat) (x : Option D), j + m ≤ 1000 → ∃ y, forL items none (gVar 5) (   sExpr (eLm oApp (eVar 4) (eBin oAdd (eBin oIx (eVar 4) (eNeg (eC (.int 1)))) (eBin oMul (eCall cMax2 (aCons (eC (.int 0)) (aCons (eBin oSub (eC (.int 16)) (eBin oFdv (eVar 5) (eVar 2))) (aNil)))) (eCallD 1 M_l_weight (aCons (eVar 3) (aNil))))))) ((List.range' j m).map fun i => .int (i : Nat)) [p0, p1, some (.int (l : Nat)), some (.int k), some (.loc 1), x, none, none, none, none, none, none, none, none, none] [c, .lst (rl l u j)] = .nx [p0, p1, some (.int (l : Nat)), some (.int k), some (.loc 1), y, none, none, none, none, none, none, none, none, none] [c, .lst (rl l u (j + m))]
  | 0, j, x, _ => ⟨x, by rw [List.range'_zero, List.map_nil, for_nil, Nat.add_zero]⟩
  | m + 1, j, x, h => by
    obtain ⟨y, e⟩ := rows_in W hl (items := items) (c := c) (p0 := p0) (p1 := p1) m (j + 1) (some (.int (j : Nat))) (by omega)
    refine ⟨y, ?_⟩
    have e1 : ∀ μ, oFdv (.int (j : Nat)) (.int (l : Nat)) μ = .ok (.int ((j : Int) / l)) μ := fun μ => oFdv_int (by omega) (by omega)
    have e2 : isL [c, .lst (rl l u j)] (.loc 1) = true := rfl
    have e3 : ∀ d, oApp (.loc 1) d [c, .lst (rl l u j)] = .ok .non [c, .lst (rl l u j ++ [d])] := fun d => by
      have : (rl l u j).length < LIM := by rw [rl_len]; show _ < 1000000; omega
      simp only [oApp, List.getElem?_cons_succ, List.getElem?_cons_zero, this, if_true, List.set_cons_succ, List.set_cons_zero]
    rw [List.range'_succ, List.map_cons, for_cons]
    simp only [mD_ev, sSeq_ev, sAsg_ev, eCallD_ev, eCall_ev, aCons_ev, aNil_ev, eVar_ev, List.map_cons, List.map_nil, List.length_cons, List.length_nil, List.cons_append, List.nil_append, Nat.reduceAdd, Nat.reduceSub, List.reduceReplicate, List.getElem?_cons_zero, List.getElem?_cons_succ, bok, if_true, eC_ev, sok, gVar_ev, List.set_cons_succ, List.set_cons_zero, Nat.reduceLT, eBin_ev, eLc_ev, iOf_ev, oWalk, wipeE, gTup_ev, gCons_ev, gNil_ev, eLst_ev, eTup_ev, eJoin_ev, iRange1_ev, sRet_ev, sIf_ev, tB_ev, tAnd_ev, tOr_ev, tNot_ev, eNot_ev, eAnd_ev, eIf_ev, sNext_ev, sExpr_ev, sPar_ev, sAug_ev, sAsg2_ev, sFor_ev, and_self, eThaw_ev, thaw_ev, eLm_ev, e2, eNeg_ev, rl_last, e1, oSub_int, max_ev, W.we, mul_u W, oAdd_int, e3]
    rw [show gs l u 16 j + (if 16 - (j : Int) / l > 0 then 16 - (j : Int) / l else 0) * u = gs l u 16 (j + 1) from rfl, rl_next, e]
    rw [show j + 1 + m = j + (m + 1) from by omega]
theorem tick_in {l : Nat} {k u : Int} (W : Wt k u) (hl : 1 ≤ l ∧ l ≤ 9) {J : Nat} (hJ : J ≤ 1000) {items : List D} {c : Cell} {p0 p1 x5 : Option D} : ∀ (ts : List Nat) (x : Option D), (∀ t ∈ ts, t ≤ J) → ∃ y, forL items none (gVar 6) (   sIf (tB (eBin oNe (eCallD 3 M_faded (aCons (eVar 2) (aCons (eVar 6) (aCons (eVar 3) (aNil))))) (eBin oIx (eVar 4) (eVar 6)))) (   sRet (eC (.bl false))) (   sNext)) (ts.map fun i => .int (i : Nat)) [p0, p1, some (.int (l : Nat)), some (.int k), some (.loc 1), x5, x, none, none, none, none, none, none, none, none] [c, .lst (rl l u J)] = .nx [p0, p1, some (.int (l : Nat)), some (.int k), some (.loc 1), x5, y, none, none, none, none, none, none, none, none] [c, .lst (rl l u J)]
  | [], x, _ => ⟨x, by rw [List.map_nil, for_nil]⟩
  | t :: ts, x, h => by
    obtain ⟨y, e⟩ := tick_in W hl hJ (items := items) (c := c) (p0 := p0) (p1 := p1) (x5 := x5) ts (some (.int (t : Nat))) (fun t m => h t (by simp [m]))
    refine ⟨y, ?_⟩
    have ht := h t (by simp)
    have e1 : ∀ μ, M_faded [.int (l : Nat), .int (t : Nat), .int k] μ = .ok (.int (gs l u 16 t)) μ := fun μ => by
      rw [faded W (by omega) (by omega)]
      have := fad_gs (u := u) (show 0 < l by omega) 16 t
      rw [this]
      rfl
    rw [List.map_cons, for_cons]
    simp only [mD_ev, sSeq_ev, sAsg_ev, eCallD_ev, eCall_ev, aCons_ev, aNil_ev, eVar_ev, List.map_cons, List.map_nil, List.length_cons, List.length_nil, List.cons_append, List.nil_append, Nat.reduceAdd, Nat.reduceSub, List.reduceReplicate, List.getElem?_cons_zero, List.getElem?_cons_succ, bok, if_true, eC_ev, sok, gVar_ev, List.set_cons_succ, List.set_cons_zero, Nat.reduceLT, eBin_ev, eLc_ev, iOf_ev, oWalk, wipeE, gTup_ev, gCons_ev, gNil_ev, eLst_ev, eTup_ev, eJoin_ev, iRange1_ev, sRet_ev, sIf_ev, tB_ev, tAnd_ev, tOr_ev, tNot_ev, eNot_ev, eAnd_ev, eIf_ev, sNext_ev, sExpr_ev, sPar_ev, sAug_ev, sAsg2_ev, sFor_ev, and_self, eThaw_ev, thaw_ev, e1, rl_ix ht, oNe_int, decide_true, Bool.not_true, Bool.false_eq_true, if_false]
    exact e
theorem filter_first {p : Nat → Bool} {N k : Nat} (hk : k < N) (h : p k = true) (h2 : ∀ j, j < k → p j = false) : ∃ r, (List.range N).filter p = k :: r := by
  obtain ⟨d, rfl⟩ : ∃ d, N = k + (d + 1) := ⟨N - k - 1, by omega⟩
  rw [List.range_add, List.filter_append, List.filter_eq_nil_iff.mpr (fun j hj => by rw [h2 j (List.mem_range.mp hj)]; decide), List.nil_append, List.range_succ_eq_map, List.map_cons, List.filter_cons, Nat.add_zero, if_pos h]
  exact ⟨_, rfl⟩
theorem light_in {l : Nat} {k u : Int} (W : Wt k u) (hl : 1 ≤ l ∧ l ≤ 9) {J : Nat} (hJ : J = 16 * l + 5) {items : List D} {c : Cell} {p0 p1 x5 x6 : Option D} : ∀ (Ls : List Int) (x y : Option D), (∀ L ∈ Ls, 0 ≤ L ∧ L ≤ 1000000000000000000) → ∃ x' y', forL items none (gVar 7) (   sSeq (sAsg (gVar 8) (eLc [14] (iRange1 (eCall cLen (aCons (eVar 4) (aNil)))) (gVar 14) (tB (eBin oGe (eBin oIx (eVar 4) (eVar 14)) (eVar 7))) (eVar 14))) (   sIf (tB (eBin oNe (eCallD 3 M_ticks_until (aCons (eVar 2) (aCons (eVar 7) (aCons (eVar 3) (aNil))))) (eIf (tB (eBin oNe (eVar 8) (eLst (aNil)))) (eBin oIx (eVar 8) (eC (.int 0))) (eC .non)))) (   sRet (eC (.bl false))) (   sNext))) (Ls.map .int) [p0, p1, some (.int (l : Nat)), some (.int k), some (.loc 1), x5, x6, x, y, none, none, none, none, none, none] [c, .lst (rl l u J)] = .nx [p0, p1, some (.int (l : Nat)), some (.int k), some (.loc 1), x5, x6, x', y', none, none, none, none, none, none] [c, .lst (rl l u J)]
  | [], x, y, _ => ⟨x, y, by rw [List.map_nil, for_nil]⟩
  | L :: Ls, x, y, h => by
    obtain ⟨x', y', e⟩ := light_in W hl hJ (items := items) (c := c) (p0 := p0) (p1 := p1) (x5 := x5) (x6 := x6) Ls (some (.int L)) (some (.lst (((List.range (J + 1)).filter fun i => decide (L ≤ gs l u 16 i)).map fun i => .int (i : Nat)))) (fun t m => h t (by simp [m]))
    refine ⟨x', y', ?_⟩
    have hL := h L (by simp)
    have e1 := fun μ => ticks_until (L := L) W (μ := μ) (show 1 ≤ (l : Int) ∧ (l : Int) ≤ 1000000000000000 by omega) hL
    have e2 : ∀ μ : Store, cLen [.loc 1] [c, .lst (rl l u J)] = .ok (.int ((J + 1 : Nat) : Int)) [c, .lst (rl l u J)] := fun μ => by
      simp only [cLen, seqOf, List.getElem?_cons_succ, List.getElem?_cons_zero, rl_len]
    have e3 := lc_pure (items := rg (J + 1)) (g := gVar 14) (ft := (tB (eBin oGe (eBin oIx (eVar 4) (eVar 14)) (eVar 7)))) (fe := eVar 14) (ρ := [p0, p1, some (.int (l : Nat)), some (.int k), some (.loc 1), x5, x6, some (.int L), y, none, none, none, none, none, none]) (μ := [c, .lst (rl l u J)])
      (fun d => match d with | .int i => decide (L ≤ gs l u 16 i.toNat) | _ => false) (fun d => d) (ds := rg (J + 1)) (acc := [])
      (by
        intro d hd
        obtain ⟨i, hi, rfl⟩ := List.mem_map.mp hd
        have hi := List.mem_range.mp hi
        exact ⟨_, rfl, by simp only [mD_ev, sSeq_ev, sAsg_ev, eCallD_ev, eCall_ev, aCons_ev, aNil_ev, eVar_ev, List.map_cons, List.map_nil, List.length_cons, List.length_nil, List.cons_append, List.nil_append, Nat.reduceAdd, Nat.reduceSub, List.reduceReplicate, List.getElem?_cons_zero, List.getElem?_cons_succ, bok, if_true, eC_ev, sok, gVar_ev, List.set_cons_succ, List.set_cons_zero, Nat.reduceLT, eBin_ev, eLc_ev, iOf_ev, oWalk, wipeE, gTup_ev, gCons_ev, gNil_ev, eLst_ev, eTup_ev, eJoin_ev, iRange1_ev, sRet_ev, sIf_ev, tB_ev, tAnd_ev, tOr_ev, tNot_ev, eNot_ev, eAnd_ev, eIf_ev, sNext_ev, sExpr_ev, sPar_ev, sAug_ev, sAsg2_ev, sFor_ev, and_self, eThaw_ev, thaw_ev, rl_ix (show i ≤ J by omega), oGe_int, Int.toNat_natCast], fun _ => by simp only [mD_ev, sSeq_ev, sAsg_ev, eCallD_ev, eCall_ev, aCons_ev, aNil_ev, eVar_ev, List.map_cons, List.map_nil, List.length_cons, List.length_nil, List.cons_append, List.nil_append, Nat.reduceAdd, Nat.reduceSub, List.reduceReplicate, List.getElem?_cons_zero, List.getElem?_cons_succ, bok, if_true, eC_ev, sok, gVar_ev, List.set_cons_succ, List.set_cons_zero, Nat.reduceLT, eBin_ev, eLc_ev, iOf_ev, oWalk, wipeE, gTup_ev, gCons_ev, gNil_ev, eLst_ev, eTup_ev, eJoin_ev, iRange1_ev, sRet_ev, sIf_ev, tB_ev, tAnd_ev, tOr_ev, tNot_ev, eNot_ev, eAnd_ev, eIf_ev, sNext_ev, sExpr_ev, sPar_ev, sAug_ev, sAsg2_ev, sFor_ev, and_self, eThaw_ev, thaw_ev]⟩)
      (by show 0 + (rg (J + 1)).length ≤ 1000000; simp [rg]; omega)
    have e4 : ((rg (J + 1)).filter (fun d => match d with | .int i => decide (L ≤ gs l u 16 i.toNat) | _ => false)).map (fun d => d) = ((List.range (J + 1)).filter fun i => decide (L ≤ gs l u 16 i)).map fun i => .int (i : Nat) := by
      rw [List.map_id', rg, List.filter_map]
      congr 1
    rw [e4, List.nil_append] at e3
    have hr : ∀ μ, rangeR (.int ((J + 1 : Nat) : Int)) μ = .ok (rg (J + 1), none) μ := fun μ => rangeR_nat (by omega)
    have hL0 : (0 : Nat) ≤ LIM := Nat.zero_le _
    rw [List.map_cons, for_cons]
    rcases unt_spec (show 0 < l by omega) W.pos 16 L 0 hL.1 (fun h => by omega) with ⟨u1, u2⟩ | ⟨q, u1, u2, u3, u4⟩
    · have z : ((List.range (J + 1)).filter fun i => decide (L ≤ gs l u 16 i)) = [] := List.filter_eq_nil_iff.mpr fun i _ => by
        have := u2 i
        simp only [decide_eq_true_eq]
        show ¬ (L ≤ gs l u 16 i)
        have h3 : gs l u (16 : Nat) i < L := this
        have h4 : gs l u (16 : Nat) i = gs l u 16 i := rfl
        omega
      rw [z] at e3 e
      have o1 : ∀ μ, oNe (.lst []) (.lst []) μ = .ok (.bl false) μ := fun μ => by rfl
      have o2 : ∀ μ, oNe .non .non μ = .ok (.bl false) μ := fun μ => by rfl
      simp only [mD_ev, sSeq_ev, sAsg_ev, eCallD_ev, eCall_ev, aCons_ev, aNil_ev, eVar_ev, List.map_cons, List.map_nil, List.length_cons, List.length_nil, List.cons_append, List.nil_append, Nat.reduceAdd, Nat.reduceSub, List.reduceReplicate, List.getElem?_cons_zero, List.getElem?_cons_succ, bok, if_true, eC_ev, sok, gVar_ev, List.set_cons_succ, List.set_cons_zero, Nat.reduceLT, eBin_ev, eLc_ev, iOf_ev, oWalk, wipeE, gTup_ev, gCons_ev, gNil_ev, eLst_ev, eTup_ev, eJoin_ev, iRange1_ev, sRet_ev, sIf_ev, tB_ev, tAnd_ev, tOr_ev, tNot_ev, eNot_ev, eAnd_ev, eIf_ev, sNext_ev, sExpr_ev, sPar_ev, sAug_ev, sAsg2_ev, sFor_ev, and_self, eThaw_ev, thaw_ev, e2 [], hr, e3, hL0, o1, Bool.false_eq_true, if_false, e1, u1, oD, o2]
      exact e
    · have hq : q < J + 1 := by omega
      obtain ⟨r, z⟩ := filter_first (p := fun i => decide (L ≤ gs l u 16 i)) hq (by simpa using u3) (fun j hj => by
        have := u4 j hj
        simp only [decide_eq_false_iff_not]
        have h3 : gs l u (16 : Nat) j < L := this
        have h4 : gs l u (16 : Nat) j = gs l u 16 j := rfl
        omega)
      rw [z] at e3 e
      rw [List.map_cons] at e3 e
      have p1' : pl 1 (.lst (D.int (q : Nat) :: r.map fun i => D.int (i : Nat))) = true := by
        have : pls 0 (D.int (q : Nat) :: r.map fun i => D.int (i : Nat)) = true := pls_iff.mpr (by
          intro d hd
          rcases List.mem_cons.mp hd with rfl | hd
          · rfl
          · obtain ⟨i, _, rfl⟩ := List.mem_map.mp hd
            rfl)
        simpa [pl] using this
      have o1 : ∀ μ, oNe (.lst (D.int (q : Nat) :: r.map fun i => D.int (i : Nat))) (.lst []) μ = .ok (.bl true) μ := fun μ => by
        rw [oNe_pl (k := 1) (j := 1) (show pl 1 (rd μ (.lst _)) = true from p1') (show pl 1 (rd μ (.lst [])) = true from rfl)]
        simp [rd]
      have o3 : ∀ μ, oIx (.lst (D.int (q : Nat) :: r.map fun i => D.int (i : Nat))) (.int 0) μ = .ok (.int (q : Nat)) μ := fun μ => by
        simp only [oIx, seqOf]
        rw [atI_in (by decide) (by simp)]
        rfl
      generalize (r.map fun i => D.int (i : Nat)) = rr at *
      simp only [mD_ev, sSeq_ev, sAsg_ev, eCallD_ev, eCall_ev, aCons_ev, aNil_ev, eVar_ev, List.map_cons, List.map_nil, List.length_cons, List.length_nil, List.cons_append, List.nil_append, Nat.reduceAdd, Nat.reduceSub, List.reduceReplicate, List.getElem?_cons_zero, List.getElem?_cons_succ, bok, if_true, eC_ev, sok, gVar_ev, List.set_cons_succ, List.set_cons_zero, Nat.reduceLT, eBin_ev, eLc_ev, iOf_ev, oWalk, wipeE, gTup_ev, gCons_ev, gNil_ev, eLst_ev, eTup_ev, eJoin_ev, iRange1_ev, sRet_ev, sIf_ev, tB_ev, tAnd_ev, tOr_ev, tNot_ev, eNot_ev, eAnd_ev, eIf_ev, sNext_ev, sExpr_ev, sPar_ev, sAug_ev, sAsg2_ev, sFor_ev, and_self, eThaw_ev, thaw_ev, e2 [], hr, e3, hL0, o1, o3, e1, u1, oD, Int.zero_add, oNe_int, decide_true, Bool.not_true, Bool.false_eq_true, if_false]
      exact e
theorem sum_shs {n : Nat} : (((List.range n).map fun (i : Nat) => (16 : Int) - i)).sum = shs 16 n := by
  induction n with
  | zero => rfl
  | succ n ih => rw [List.range_succ, List.map_append, List.sum_append, ih]; simp [shs]
theorem intsOf_map {f : Nat → Int} : ∀ (L : List Nat), intsOf (L.map fun i => D.int (f i)) = some (L.map f)
  | [] => rfl
  | i :: L => by simp [intsOf, intsOf_map L]
theorem law_true {ns : List Int} (hn : ns.length ≤ 63) : ∃ μ, M_law [.flst ns] [] = .ok (.bl true) μ := by
  obtain ⟨l0, c1, e1, h1, a1, b1⟩ := taken (r := []) (m := 9) (c := .lst [.flst ns, .int 0, .int 0, .int 0]) ⟨ns, 0, 0, 0, hn, rfl, Int.le_refl 0⟩ (by omega) (by omega)
  obtain ⟨k, c2, e2, h2, a2, b2⟩ := taken (r := []) (m := 5) h1 (by omega) (by omega)
  obtain ⟨u, W⟩ := wt_of a2 b2
  obtain ⟨l, hl⟩ : ∃ l : Nat, 1 + l0 = (l : Nat) := ⟨(1 + l0).toNat, by omega⟩
  have hl9 : 1 ≤ l ∧ l ≤ 9 := by omega
  obtain ⟨J, hJ⟩ : ∃ J : Nat, J = 16 * l + 5 := ⟨_, rfl⟩
  have hJ1 : J ≤ 1000 := by omega
  have up := W.pos
  have ul := W.le
  have g0 : 0 ≤ gs l u 16 J := by
    have := gs_mono (life := l) (s := 16) W.pos (j := 0) J
    rw [Nat.zero_add] at this
    exact this
  have g1 : gs l u 16 J ≤ 1000000000 := by
    have : ∀ j : Nat, gs l u 16 j ≤ j * 256 := by
      intro j
      induction j with
      | zero => simp [gs]
      | succ j ih =>
        have h0 : 0 ≤ (j : Int) / l := Int.ediv_nonneg (by omega) (by omega)
        simp only [gs]
        split
        · have h5 : (16 - (j : Int) / l) * u ≤ 16 * u := Int.mul_le_mul_of_nonneg_right (by omega) (by omega)
          push_cast
          omega
        · push_cast
          omega
    have := this J
    omega
  obtain ⟨t, c3, e3, h3, a3, b3⟩ := taken (r := [.lst (rl l u J)]) (m := ((J + 1 : Nat) : Int)) h2 (by omega) (by omega)
  obtain ⟨tn, rfl⟩ : ∃ tn : Nat, t = (tn : Nat) := ⟨t.toNat, by omega⟩
  obtain ⟨L, c4, e4, h4, a4, b4⟩ := taken (r := [.lst (rl l u J)]) (m := gs l u 16 J + 1) h3 (by omega) (by omega)
  obtain ⟨f, c5, e5, h5, a5, b5⟩ := taken (r := [.lst (rl l u J)]) (m := 1000000000) h4 (by omega) (by omega)
  obtain ⟨F, hF⟩ : ∃ F : Nat, 1000000000000 + f = (F : Nat) := ⟨(1000000000000 + f).toNat, by omega⟩
  obtain ⟨v, c6, e6, h6, a6, b6⟩ := taken (r := [.lst (rl l u J)]) (m := 16) h5 (by omega) (by omega)
  obtain ⟨n, rfl⟩ : ∃ n : Nat, v = (n : Nat) := ⟨v.toNat, by omega⟩
  obtain ⟨r, c7, e7, h7, a7, b7⟩ := taken (r := [.lst (rl l u J)]) (m := (F : Nat)) h6 (by omega) (by omega)
  have hF0 : 0 < F := by omega
  have hL4 : (4 : Nat) ≤ LIM := by decide
  have hL1 : (1 : Nat) ≤ LIM := by decide
  have hL3 : (3 : Nat) ≤ LIM := by decide
  have hL5 : (5 : Nat) ≤ LIM := by decide
  have len : ∀ c : Cell, cLen [.loc 1] [c, .lst (rl l u J)] = .ok (.int ((J + 1 : Nat) : Int)) [c, .lst (rl l u J)] := fun c => by
    simp only [cLen, seqOf, List.getElem?_cons_succ, List.getElem?_cons_zero, rl_len]
  have r0 : rl l u 0 = [.int 0] := rfl
  have q1 : (sAsg (gVar 1) (eThaw (eLst (aCons (eVar 0) (aCons (eC (.int 0)) (aCons (eC (.int 0)) (aCons (eC (.int 0)) (aNil)))))))) [some (.flst ns), none, none, none, none, none, none, none, none, none, none, none, none, none, none] [] = .nx [some (.flst ns), some (.loc 0), none, none, none, none, none, none, none, none, none, none, none, none, none] [.lst [.flst ns, .int 0, .int 0, .int 0]] := by simp only [mD_ev, sSeq_ev, sAsg_ev, eCallD_ev, eCall_ev, aCons_ev, aNil_ev, eVar_ev, List.map_cons, List.map_nil, List.length_cons, List.length_nil, List.cons_append, List.nil_append, Nat.reduceAdd, Nat.reduceSub, List.reduceReplicate, List.getElem?_cons_zero, List.getElem?_cons_succ, bok, if_true, eC_ev, sok, gVar_ev, List.set_cons_succ, List.set_cons_zero, Nat.reduceLT, eBin_ev, eLc_ev, iOf_ev, oWalk, wipeE, gTup_ev, gCons_ev, gNil_ev, eLst_ev, eTup_ev, eJoin_ev, iRange1_ev, sRet_ev, sIf_ev, tB_ev, tAnd_ev, tOr_ev, tNot_ev, eNot_ev, eAnd_ev, eIf_ev, sNext_ev, sExpr_ev, sPar_ev, sAug_ev, sAsg2_ev, sFor_ev, and_self, eThaw_ev, thaw_ev, hL4]
  have q2 : (sPar 2 3 (eBin oAdd (eC (.int 1)) (eCallD 2 M_l_taken (aCons (eVar 1) (aCons (eC (.int 9)) (aNil))))) (eCallD 2 M_l_taken (aCons (eVar 1) (aCons (eC (.int 5)) (aNil))))) [some (.flst ns), some (.loc 0), none, none, none, none, none, none, none, none, none, none, none, none, none] [.lst [.flst ns, .int 0, .int 0, .int 0]] = .nx [some (.flst ns), some (.loc 0), some (.int (l : Nat)), some (.int k), none, none, none, none, none, none, none, none, none, none, none] [c2] := by simp only [mD_ev, sSeq_ev, sAsg_ev, eCallD_ev, eCall_ev, aCons_ev, aNil_ev, eVar_ev, List.map_cons, List.map_nil, List.length_cons, List.length_nil, List.cons_append, List.nil_append, Nat.reduceAdd, Nat.reduceSub, List.reduceReplicate, List.getElem?_cons_zero, List.getElem?_cons_succ, bok, if_true, eC_ev, sok, gVar_ev, List.set_cons_succ, List.set_cons_zero, Nat.reduceLT, eBin_ev, eLc_ev, iOf_ev, oWalk, wipeE, gTup_ev, gCons_ev, gNil_ev, eLst_ev, eTup_ev, eJoin_ev, iRange1_ev, sRet_ev, sIf_ev, tB_ev, tAnd_ev, tOr_ev, tNot_ev, eNot_ev, eAnd_ev, eIf_ev, sNext_ev, sExpr_ev, sPar_ev, sAug_ev, sAsg2_ev, sFor_ev, and_self, eThaw_ev, thaw_ev, e1, oAdd_int, hl, e2]
  have q3 : (sAsg (gVar 4) (eThaw (eLst (aCons (eC (.int 0)) (aNil))))) [some (.flst ns), some (.loc 0), some (.int (l : Nat)), some (.int k), none, none, none, none, none, none, none, none, none, none, none] [c2] = .nx [some (.flst ns), some (.loc 0), some (.int (l : Nat)), some (.int k), some (.loc 1), none, none, none, none, none, none, none, none, none, none] [c2, .lst (rl l u 0)] := by
    rw [r0]
    simp only [mD_ev, sSeq_ev, sAsg_ev, eCallD_ev, eCall_ev, aCons_ev, aNil_ev, eVar_ev, List.map_cons, List.map_nil, List.length_cons, List.length_nil, List.cons_append, List.nil_append, Nat.reduceAdd, Nat.reduceSub, List.reduceReplicate, List.getElem?_cons_zero, List.getElem?_cons_succ, bok, if_true, eC_ev, sok, gVar_ev, List.set_cons_succ, List.set_cons_zero, Nat.reduceLT, eBin_ev, eLc_ev, iOf_ev, oWalk, wipeE, gTup_ev, gCons_ev, gNil_ev, eLst_ev, eTup_ev, eJoin_ev, iRange1_ev, sRet_ev, sIf_ev, tB_ev, tAnd_ev, tOr_ev, tNot_ev, eNot_ev, eAnd_ev, eIf_ev, sNext_ev, sExpr_ev, sPar_ev, sAug_ev, sAsg2_ev, sFor_ev, and_self, eThaw_ev, thaw_ev, hL1]
  obtain ⟨y5, f4⟩ := rows_in W hl9 (items := (List.range' 0 J).map fun i => .int (i : Nat)) (c := c2) (p0 := some (.flst ns)) (p1 := some (.loc 0)) J 0 none (by omega)
  rw [Nat.zero_add] at f4
  have m16 : ∀ μ, oMul (.int 16) (.int (l : Nat)) μ = .ok (.int (16 * (l : Nat))) μ := fun μ => oMul_int (by rw [sm_of (a := 16) (by omega) (by omega)]; rfl)
  have q4 : (sFor (iRange1 (eBin oAdd (eBin oMul (eC (.int 16)) (eVar 2)) (eC (.int 5)))) (gVar 5) (   sExpr (eLm oApp (eVar 4) (eBin oAdd (eBin oIx (eVar 4) (eNeg (eC (.int 1)))) (eBin oMul (eCall cMax2 (aCons (eC (.int 0)) (aCons (eBin oSub (eC (.int 16)) (eBin oFdv (eVar 5) (eVar 2))) (aNil)))) (eCallD 1 M_l_weight (aCons (eVar 3) (aNil)))))))) [some (.flst ns), some (.loc 0), some (.int (l : Nat)), some (.int k), some (.loc 1), none, none, none, none, none, none, none, none, none, none] [c2, .lst (rl l u 0)] = .nx [some (.flst ns), some (.loc 0), some (.int (l : Nat)), some (.int k), some (.loc 1), y5, none, none, none, none, none, none, none, none, none] [c2, .lst (rl l u J)] := by
    have hr : ∀ μ, rangeR (.int (16 * (l : Nat) + 5)) μ = .ok ((List.range' 0 J).map fun i => .int (i : Nat), none) μ := fun μ => by
      rw [show (16 * (l : Nat) + 5 : Int) = (J : Nat) by omega, rangeR_nat (by omega), rg, List.range_eq_range']
    rw [sFor_ev, show (iRange1 (eBin oAdd (eBin oMul (eC (.int 16)) (eVar 2)) (eC (.int 5)))) [some (.flst ns), some (.loc 0), some (.int (l : Nat)), some (.int k), some (.loc 1), none, none, none, none, none, none, none, none, none, none] [c2, .lst (rl l u 0)] = .ok ((List.range' 0 J).map fun i => .int (i : Nat), none) [c2, .lst (rl l u 0)] from by simp only [mD_ev, sSeq_ev, sAsg_ev, eCallD_ev, eCall_ev, aCons_ev, aNil_ev, eVar_ev, List.map_cons, List.map_nil, List.length_cons, List.length_nil, List.cons_append, List.nil_append, Nat.reduceAdd, Nat.reduceSub, List.reduceReplicate, List.getElem?_cons_zero, List.getElem?_cons_succ, bok, if_true, eC_ev, sok, gVar_ev, List.set_cons_succ, List.set_cons_zero, Nat.reduceLT, eBin_ev, eLc_ev, iOf_ev, oWalk, wipeE, gTup_ev, gCons_ev, gNil_ev, eLst_ev, eTup_ev, eJoin_ev, iRange1_ev, sRet_ev, sIf_ev, tB_ev, tAnd_ev, tOr_ev, tNot_ev, eNot_ev, eAnd_ev, eIf_ev, sNext_ev, sExpr_ev, sPar_ev, sAug_ev, sAsg2_ev, sFor_ev, and_self, eThaw_ev, thaw_ev, m16, oAdd_int, hr], sok]
    exact f4
  obtain ⟨y6, f5⟩ := tick_in W hl9 hJ1 (items := [0, tn, J].map fun i => .int (i : Nat)) (c := c3) (p0 := some (.flst ns)) (p1 := some (.loc 0)) (x5 := y5) [0, tn, J] none (by
    intro t ht
    simp only [List.mem_cons, List.not_mem_nil, or_false] at ht
    omega)
  have q5 : (sFor (iOf (eTup (aCons (eC (.int 0)) (aCons (eCallD 2 M_l_taken (aCons (eVar 1) (aCons (eCall cLen (aCons (eVar 4) (aNil))) (aNil)))) (aCons (eBin oSub (eCall cLen (aCons (eVar 4) (aNil))) (eC (.int 1))) (aNil)))))) (gVar 6) (   sIf (tB (eBin oNe (eCallD 3 M_faded (aCons (eVar 2) (aCons (eVar 6) (aCons (eVar 3) (aNil))))) (eBin oIx (eVar 4) (eVar 6)))) (   sRet (eC (.bl false))) (   sNext))) [some (.flst ns), some (.loc 0), some (.int (l : Nat)), some (.int k), some (.loc 1), y5, none, none, none, none, none, none, none, none, none] [c2, .lst (rl l u J)] = .nx [some (.flst ns), some (.loc 0), some (.int (l : Nat)), some (.int k), some (.loc 1), y5, y6, none, none, none, none, none, none, none, none] [c3, .lst (rl l u J)] := by
    rw [sFor_ev, show (iOf (eTup (aCons (eC (.int 0)) (aCons (eCallD 2 M_l_taken (aCons (eVar 1) (aCons (eCall cLen (aCons (eVar 4) (aNil))) (aNil)))) (aCons (eBin oSub (eCall cLen (aCons (eVar 4) (aNil))) (eC (.int 1))) (aNil)))))) [some (.flst ns), some (.loc 0), some (.int (l : Nat)), some (.int k), some (.loc 1), y5, none, none, none, none, none, none, none, none, none] [c2, .lst (rl l u J)] = .ok ([0, tn, J].map fun i => .int (i : Nat), none) [c3, .lst (rl l u J)] from by
      simp only [mD_ev, sSeq_ev, sAsg_ev, eCallD_ev, eCall_ev, aCons_ev, aNil_ev, eVar_ev, List.map_cons, List.map_nil, List.length_cons, List.length_nil, List.cons_append, List.nil_append, Nat.reduceAdd, Nat.reduceSub, List.reduceReplicate, List.getElem?_cons_zero, List.getElem?_cons_succ, bok, if_true, eC_ev, sok, gVar_ev, List.set_cons_succ, List.set_cons_zero, Nat.reduceLT, eBin_ev, eLc_ev, iOf_ev, oWalk, wipeE, gTup_ev, gCons_ev, gNil_ev, eLst_ev, eTup_ev, eJoin_ev, iRange1_ev, sRet_ev, sIf_ev, tB_ev, tAnd_ev, tOr_ev, tNot_ev, eNot_ev, eAnd_ev, eIf_ev, sNext_ev, sExpr_ev, sPar_ev, sAug_ev, sAsg2_ev, sFor_ev, and_self, eThaw_ev, thaw_ev, len, e3, oSub_int, hL3, show ((J + 1 : Nat) : Int) - 1 = (J : Nat) by omega]
      rfl, sok]
    exact f5
  obtain ⟨y7, y8, f6⟩ := light_in W hl9 hJ (items := [0, 1, L, gs l u 16 J, gs l u 16 J + 1].map D.int) (c := c4) (p0 := some (.flst ns)) (p1 := some (.loc 0)) (x5 := y5) (x6 := y6) [0, 1, L, gs l u 16 J, gs l u 16 J + 1] none none (by
    intro t ht
    simp only [List.mem_cons, List.not_mem_nil, or_false] at ht
    omega)
  have q6 : (sFor (iOf (eTup (aCons (eC (.int 0)) (aCons (eC (.int 1)) (aCons (eCallD 2 M_l_taken (aCons (eVar 1) (aCons (eBin oAdd (eBin oIx (eVar 4) (eNeg (eC (.int 1)))) (eC (.int 1))) (aNil)))) (aCons (eBin oIx (eVar 4) (eNeg (eC (.int 1)))) (aCons (eBin oAdd (eBin oIx (eVar 4) (eNeg (eC (.int 1)))) (eC (.int 1))) (aNil)))))))) (gVar 7) (   sSeq (sAsg (gVar 8) (eLc [14] (iRange1 (eCall cLen (aCons (eVar 4) (aNil)))) (gVar 14) (tB (eBin oGe (eBin oIx (eVar 4) (eVar 14)) (eVar 7))) (eVar 14))) (   sIf (tB (eBin oNe (eCallD 3 M_ticks_until (aCons (eVar 2) (aCons (eVar 7) (aCons (eVar 3) (aNil))))) (eIf (tB (eBin oNe (eVar 8) (eLst (aNil)))) (eBin oIx (eVar 8) (eC (.int 0))) (eC .non)))) (   sRet (eC (.bl false))) (   sNext)))) [some (.flst ns), some (.loc 0), some (.int (l : Nat)), some (.int k), some (.loc 1), y5, y6, none, none, none, none, none, none, none, none] [c3, .lst (rl l u J)] = .nx [some (.flst ns), some (.loc 0), some (.int (l : Nat)), some (.int k), some (.loc 1), y5, y6, y7, y8, none, none, none, none, none, none] [c4, .lst (rl l u J)] := by
    rw [sFor_ev, show (iOf (eTup (aCons (eC (.int 0)) (aCons (eC (.int 1)) (aCons (eCallD 2 M_l_taken (aCons (eVar 1) (aCons (eBin oAdd (eBin oIx (eVar 4) (eNeg (eC (.int 1)))) (eC (.int 1))) (aNil)))) (aCons (eBin oIx (eVar 4) (eNeg (eC (.int 1)))) (aCons (eBin oAdd (eBin oIx (eVar 4) (eNeg (eC (.int 1)))) (eC (.int 1))) (aNil)))))))) [some (.flst ns), some (.loc 0), some (.int (l : Nat)), some (.int k), some (.loc 1), y5, y6, none, none, none, none, none, none, none, none] [c3, .lst (rl l u J)] = .ok ([0, 1, L, gs l u 16 J, gs l u 16 J + 1].map D.int, none) [c4, .lst (rl l u J)] from by
      simp only [mD_ev, sSeq_ev, sAsg_ev, eCallD_ev, eCall_ev, aCons_ev, aNil_ev, eVar_ev, List.map_cons, List.map_nil, List.length_cons, List.length_nil, List.cons_append, List.nil_append, Nat.reduceAdd, Nat.reduceSub, List.reduceReplicate, List.getElem?_cons_zero, List.getElem?_cons_succ, bok, if_true, eC_ev, sok, gVar_ev, List.set_cons_succ, List.set_cons_zero, Nat.reduceLT, eBin_ev, eLc_ev, iOf_ev, oWalk, wipeE, gTup_ev, gCons_ev, gNil_ev, eLst_ev, eTup_ev, eJoin_ev, iRange1_ev, sRet_ev, sIf_ev, tB_ev, tAnd_ev, tOr_ev, tNot_ev, eNot_ev, eAnd_ev, eIf_ev, sNext_ev, sExpr_ev, sPar_ev, sAug_ev, sAsg2_ev, sFor_ev, and_self, eThaw_ev, thaw_ev, eNeg_ev, rl_last, oAdd_int, e4, hL5], sok]
    exact f6
  have p12 : ∀ μ, oPow (.int 10) (.int 12) μ = .ok (.int 1000000000000) μ := fun μ => by rfl
  have p9 : ∀ μ, oPow (.int 10) (.int 9) μ = .ok (.int 1000000000) μ := fun μ => by rfl
  have q7 : (sAsg (gVar 9) (eBin oAdd (eBin oPow (eC (.int 10)) (eC (.int 12))) (eCallD 2 M_l_taken (aCons (eVar 1) (aCons (eBin oPow (eC (.int 10)) (eC (.int 9))) (aNil)))))) [some (.flst ns), some (.loc 0), some (.int (l : Nat)), some (.int k), some (.loc 1), y5, y6, y7, y8, none, none, none, none, none, none] [c4, .lst (rl l u J)] = .nx [some (.flst ns), some (.loc 0), some (.int (l : Nat)), some (.int k), some (.loc 1), y5, y6, y7, y8, some (.int (F : Nat)), none, none, none, none, none] [c5, .lst (rl l u J)] := by
    simp only [mD_ev, sSeq_ev, sAsg_ev, eCallD_ev, eCall_ev, aCons_ev, aNil_ev, eVar_ev, List.map_cons, List.map_nil, List.length_cons, List.length_nil, List.cons_append, List.nil_append, Nat.reduceAdd, Nat.reduceSub, List.reduceReplicate, List.getElem?_cons_zero, List.getElem?_cons_succ, bok, if_true, eC_ev, sok, gVar_ev, List.set_cons_succ, List.set_cons_zero, Nat.reduceLT, eBin_ev, eLc_ev, iOf_ev, oWalk, wipeE, gTup_ev, gCons_ev, gNil_ev, eLst_ev, eTup_ev, eJoin_ev, iRange1_ev, sRet_ev, sIf_ev, tB_ev, tAnd_ev, tOr_ev, tNot_ev, eNot_ev, eAnd_ev, eIf_ev, sNext_ev, sExpr_ev, sPar_ev, sAug_ev, sAsg2_ev, sFor_ev, and_self, eThaw_ev, thaw_ev, p12, p9, e5, oAdd_int, hF]
  have q8 : (sPar 10 11 (eCallD 2 M_l_taken (aCons (eVar 1) (aCons (eC (.int 16)) (aNil)))) (eCallD 2 M_l_taken (aCons (eVar 1) (aCons (eVar 9) (aNil))))) [some (.flst ns), some (.loc 0), some (.int (l : Nat)), some (.int k), some (.loc 1), y5, y6, y7, y8, some (.int (F : Nat)), none, none, none, none, none] [c5, .lst (rl l u J)] = .nx [some (.flst ns), some (.loc 0), some (.int (l : Nat)), some (.int k), some (.loc 1), y5, y6, y7, y8, some (.int (F : Nat)), some (.int (n : Nat)), some (.int r), none, none, none] [c7, .lst (rl l u J)] := by
    simp only [mD_ev, sSeq_ev, sAsg_ev, eCallD_ev, eCall_ev, aCons_ev, aNil_ev, eVar_ev, List.map_cons, List.map_nil, List.length_cons, List.length_nil, List.cons_append, List.nil_append, Nat.reduceAdd, Nat.reduceSub, List.reduceReplicate, List.getElem?_cons_zero, List.getElem?_cons_succ, bok, if_true, eC_ev, sok, gVar_ev, List.set_cons_succ, List.set_cons_zero, Nat.reduceLT, eBin_ev, eLc_ev, iOf_ev, oWalk, wipeE, gTup_ev, gCons_ev, gNil_ev, eLst_ev, eTup_ev, eJoin_ev, iRange1_ev, sRet_ev, sIf_ev, tB_ev, tAnd_ev, tOr_ev, tNot_ev, eNot_ev, eAnd_ev, eIf_ev, sNext_ev, sExpr_ev, sPar_ev, sAug_ev, sAsg2_ev, sFor_ev, and_self, eThaw_ev, thaw_ev, e6, e7]
  have hn16 : n < 16 := by omega
  have hsh : 0 ≤ shs 16 n ∧ shs 16 n ≤ 136 := by
    have : ∀ n, n < 16 → 0 ≤ shs 16 n ∧ shs 16 n ≤ 136 := by decide
    exact this n hn16
  obtain ⟨due, hdue⟩ : ∃ due : Int, due = (F : Nat) * shs 16 n + r * (16 - (n : Nat)) := ⟨_, rfl⟩
  have hd0 : 0 ≤ (F : Nat) * shs 16 n := Int.mul_nonneg (by omega) hsh.1
  have hd1 : (F : Nat) * shs 16 n ≤ (F : Nat) * 136 := Int.mul_le_mul_of_nonneg_left hsh.2 (by omega)
  have hd2 : 0 ≤ r * (16 - (n : Int)) := Int.mul_nonneg a7 (by omega)
  have hd3 : r * (16 - (n : Int)) ≤ r * 16 := Int.mul_le_mul_of_nonneg_left (by omega) a7
  have hdu0 : 0 ≤ due * u := Int.mul_nonneg (by omega) (by omega)
  have hdu1 : due * u ≤ due * 16 := Int.mul_le_mul_of_nonneg_left ul (by omega)
  have hnF0 : 0 ≤ (n : Int) * (F : Nat) := Int.mul_nonneg (by omega) (by omega)
  have hnF1 : (n : Int) * (F : Nat) ≤ 15 * (F : Nat) := Int.mul_le_mul_of_nonneg_right (by omega) (by omega)
  have q9 : (sAsg (gVar 12) (eBin oAdd (eBin oMul (eVar 9) (eCall cSum (aCons (eLc [14] (iRange1 (eVar 10)) (gVar 14) (fun _ μ => .ok true μ) (eBin oSub (eC (.int 16)) (eVar 14))) (aNil)))) (eBin oMul (eVar 11) (eBin oSub (eC (.int 16)) (eVar 10))))) [some (.flst ns), some (.loc 0), some (.int (l : Nat)), some (.int k), some (.loc 1), y5, y6, y7, y8, some (.int (F : Nat)), some (.int (n : Nat)), some (.int r), none, none, none] [c7, .lst (rl l u J)] = .nx [some (.flst ns), some (.loc 0), some (.int (l : Nat)), some (.int k), some (.loc 1), y5, y6, y7, y8, some (.int (F : Nat)), some (.int (n : Nat)), some (.int r), some (.int due), none, none] [c7, .lst (rl l u J)] := by
    have hr : ∀ μ, rangeR (.int (n : Nat)) μ = .ok (rg n, none) μ := fun μ => rangeR_nat (by omega)
    have s1 := lc_pure (items := rg n) (g := gVar 14) (ft := (fun _ μ => .ok true μ)) (fe := eBin oSub (eC (.int 16)) (eVar 14)) (ρ := [some (.flst ns), some (.loc 0), some (.int (l : Nat)), some (.int k), some (.loc 1), y5, y6, y7, y8, some (.int (F : Nat)), some (.int (n : Nat)), some (.int r), none, none, none]) (μ := [c7, .lst (rl l u J)])
      (fun _ => true) (fun d => match d with | .int i => .int (16 - i) | d => d) (ds := rg n) (acc := [])
      (by
        intro d hd
        obtain ⟨i, hi, rfl⟩ := List.mem_map.mp hd
        exact ⟨_, rfl, rfl, fun _ => by simp only [mD_ev, sSeq_ev, sAsg_ev, eCallD_ev, eCall_ev, aCons_ev, aNil_ev, eVar_ev, List.map_cons, List.map_nil, List.length_cons, List.length_nil, List.cons_append, List.nil_append, Nat.reduceAdd, Nat.reduceSub, List.reduceReplicate, List.getElem?_cons_zero, List.getElem?_cons_succ, bok, if_true, eC_ev, sok, gVar_ev, List.set_cons_succ, List.set_cons_zero, Nat.reduceLT, eBin_ev, eLc_ev, iOf_ev, oWalk, wipeE, gTup_ev, gCons_ev, gNil_ev, eLst_ev, eTup_ev, eJoin_ev, iRange1_ev, sRet_ev, sIf_ev, tB_ev, tAnd_ev, tOr_ev, tNot_ev, eNot_ev, eAnd_ev, eIf_ev, sNext_ev, sExpr_ev, sPar_ev, sAug_ev, sAsg2_ev, sFor_ev, and_self, eThaw_ev, thaw_ev, oSub_int]⟩)
      (by show 0 + (rg n).length ≤ 1000000; simp [rg]; omega)
    have s2 : ((rg n).filter fun _ => true).map (fun d => match d with | .int i => D.int (16 - i) | d => d) = (List.range n).map fun (i : Nat) => D.int (16 - (i : Int)) := by
      rw [List.filter_eq_self.mpr (fun _ _ => rfl), rg, List.map_map]
      rfl
    rw [s2, List.nil_append] at s1
    have s3 : ∀ μ, cSum [.lst ((List.range n).map fun (i : Nat) => D.int (16 - (i : Int)))] μ = .ok (.int (shs 16 n)) μ := fun μ => by
      simp only [cSum, lintsOf, lstOf]
      rw [intsOf_map (f := fun i => 16 - (i : Int))]
      show Res.ok (D.int (List.sum _)) μ = _
      rw [sum_shs]
    have m1 : ∀ μ, oMul (.int (F : Nat)) (.int (shs 16 n)) μ = .ok (.int ((F : Nat) * shs 16 n)) μ := fun μ => oMul_int (by rw [sm_of (a := shs 16 n) (by omega) (by omega)]; simp)
    have m2 : ∀ μ, oMul (.int r) (.int (16 - (n : Nat))) μ = .ok (.int (r * (16 - (n : Nat)))) μ := fun μ => oMul_int (by rw [sm_of (a := 16 - (n : Nat)) (by omega) (by omega)]; simp)
    generalize ((List.range n).map fun (i : Nat) => D.int (16 - (i : Int))) = zz at *
    simp only [mD_ev, sSeq_ev, sAsg_ev, eCallD_ev, eCall_ev, aCons_ev, aNil_ev, eVar_ev, List.map_cons, List.map_nil, List.length_cons, List.length_nil, List.cons_append, List.nil_append, Nat.reduceAdd, Nat.reduceSub, List.reduceReplicate, List.getElem?_cons_zero, List.getElem?_cons_succ, bok, if_true, eC_ev, sok, gVar_ev, List.set_cons_succ, List.set_cons_zero, Nat.reduceLT, eBin_ev, eLc_ev, iOf_ev, oWalk, wipeE, gTup_ev, gCons_ev, gNil_ev, eLst_ev, eTup_ev, eJoin_ev, iRange1_ev, sRet_ev, sIf_ev, tB_ev, tAnd_ev, tOr_ev, tNot_ev, eNot_ev, eAnd_ev, eIf_ev, sNext_ev, sExpr_ev, sPar_ev, sAug_ev, sAsg2_ev, sFor_ev, and_self, eThaw_ev, thaw_ev, hr, s1, s3, m1, oSub_int, m2, oAdd_int, ← hdue]
  have m3 : ∀ μ, oMul (.int (n : Nat)) (.int (F : Nat)) μ = .ok (.int ((n : Nat) * (F : Nat))) μ := fun μ => oMul_int (by rw [sm_of (a := (n : Nat)) (by omega) (by omega)]; rfl)
  have ff : fad (F : Nat) u 16 ((n : Nat) * (F : Nat) + r) = due * u := by
    rw [fad_far (u := u) (show (0 : Int) < (F : Nat) by omega) n 16 r (by omega) a7 (.inl b7), hdue]
    rfl
  have t1 : ∀ μ, M_faded [.int (F : Nat), .int ((n : Nat) * (F : Nat) + r), .int k] μ = .ok (.int (due * u)) μ := fun μ => by rw [faded W (by omega) (by omega), ff]
  have q10 : (sIf (tB (eBin oNe (eCallD 3 M_faded (aCons (eVar 9) (aCons (eBin oAdd (eBin oMul (eVar 10) (eVar 9)) (eVar 11)) (aCons (eVar 3) (aNil))))) (eBin oMul (eVar 12) (eCallD 1 M_l_weight (aCons (eVar 3) (aNil)))))) (   sRet (eC (.bl false))) (   sNext)) [some (.flst ns), some (.loc 0), some (.int (l : Nat)), some (.int k), some (.loc 1), y5, y6, y7, y8, some (.int (F : Nat)), some (.int (n : Nat)), some (.int r), some (.int due), none, none] [c7, .lst (rl l u J)] = .nx [some (.flst ns), some (.loc 0), some (.int (l : Nat)), some (.int k), some (.loc 1), y5, y6, y7, y8, some (.int (F : Nat)), some (.int (n : Nat)), some (.int r), some (.int due), none, none] [c7, .lst (rl l u J)] := by
    simp only [mD_ev, sSeq_ev, sAsg_ev, eCallD_ev, eCall_ev, aCons_ev, aNil_ev, eVar_ev, List.map_cons, List.map_nil, List.length_cons, List.length_nil, List.cons_append, List.nil_append, Nat.reduceAdd, Nat.reduceSub, List.reduceReplicate, List.getElem?_cons_zero, List.getElem?_cons_succ, bok, if_true, eC_ev, sok, gVar_ev, List.set_cons_succ, List.set_cons_zero, Nat.reduceLT, eBin_ev, eLc_ev, iOf_ev, oWalk, wipeE, gTup_ev, gCons_ev, gNil_ev, eLst_ev, eTup_ev, eJoin_ev, iRange1_ev, sRet_ev, sIf_ev, tB_ev, tAnd_ev, tOr_ev, tNot_ev, eNot_ev, eAnd_ev, eIf_ev, sNext_ev, sExpr_ev, sPar_ev, sAug_ev, sAsg2_ev, sFor_ev, and_self, eThaw_ev, thaw_ev, m3, oAdd_int, t1, W.we, mul_u W, oNe_int, decide_true, Bool.not_true, Bool.false_eq_true, if_false]
  have un : unt (F : Nat) u 16 (due * u) 0 = some ((n : Nat) * (F : Nat) + r) := by
    obtain ⟨Q, hQ⟩ : ∃ Q : Nat, (n : Nat) * (F : Nat) + r = (Q : Nat) := ⟨((n : Nat) * (F : Nat) + r).toNat, by omega⟩
    have hg : gs F u (16 : Nat) Q = due * u := by rw [← fad_gs hF0 16 Q, ← hQ, ff]
    rcases unt_spec hF0 W.pos 16 (due * u) 0 hdu0 (fun h => by omega) with ⟨u1, u2⟩ | ⟨q, u1, u2, u3, u4⟩
    · have := u2 Q
      omega
    · have hqQ : ¬ Q < q := fun h => by
        have := u4 Q h
        omega
      have hQq : ¬ q < Q := fun h => by
        have := gs_strict (s := ((16 : Nat) : Int)) hF0 W.pos h (by omega)
        omega
      have : q = Q := by omega
      rw [u1, hQ, this, Int.zero_add]
  have q11 : (sAsg (gVar 13) (eCallD 3 M_ticks_until (aCons (eVar 9) (aCons (eBin oMul (eVar 12) (eCallD 1 M_l_weight (aCons (eVar 3) (aNil)))) (aCons (eVar 3) (aNil)))))) [some (.flst ns), some (.loc 0), some (.int (l : Nat)), some (.int k), some (.loc 1), y5, y6, y7, y8, some (.int (F : Nat)), some (.int (n : Nat)), some (.int r), some (.int due), none, none] [c7, .lst (rl l u J)] = .nx [some (.flst ns), some (.loc 0), some (.int (l : Nat)), some (.int k), some (.loc 1), y5, y6, y7, y8, some (.int (F : Nat)), some (.int (n : Nat)), some (.int r), some (.int due), some (.int ((n : Nat) * (F : Nat) + r)), none] [c7, .lst (rl l u J)] := by
    have t2 := fun μ => ticks_until (L := due * u) W (μ := μ) (show 1 ≤ ((F : Nat) : Int) ∧ ((F : Nat) : Int) ≤ 1000000000000000 by omega) (by omega)
    simp only [mD_ev, sSeq_ev, sAsg_ev, eCallD_ev, eCall_ev, aCons_ev, aNil_ev, eVar_ev, List.map_cons, List.map_nil, List.length_cons, List.length_nil, List.cons_append, List.nil_append, Nat.reduceAdd, Nat.reduceSub, List.reduceReplicate, List.getElem?_cons_zero, List.getElem?_cons_succ, bok, if_true, eC_ev, sok, gVar_ev, List.set_cons_succ, List.set_cons_zero, Nat.reduceLT, eBin_ev, eLc_ev, iOf_ev, oWalk, wipeE, gTup_ev, gCons_ev, gNil_ev, eLst_ev, eTup_ev, eJoin_ev, iRange1_ev, sRet_ev, sIf_ev, tB_ev, tAnd_ev, tOr_ev, tNot_ev, eNot_ev, eAnd_ev, eIf_ev, sNext_ev, sExpr_ev, sPar_ev, sAug_ev, sAsg2_ev, sFor_ev, and_self, eThaw_ev, thaw_ev, W.we, mul_u W, t2, un, oD]
  have q12 : (sIf (tAnd (tB (eBin oNe (eVar 13) (eBin oAdd (eBin oMul (eVar 10) (eVar 9)) (eVar 11)))) (tOr (tB (eBin oGt (eVar 11) (eC (.int 0)))) (tB (eBin oGt (eVar 10) (eC (.int 0)))))) (   sRet (eC (.bl false))) (   sNext)) [some (.flst ns), some (.loc 0), some (.int (l : Nat)), some (.int k), some (.loc 1), y5, y6, y7, y8, some (.int (F : Nat)), some (.int (n : Nat)), some (.int r), some (.int due), some (.int ((n : Nat) * (F : Nat) + r)), none] [c7, .lst (rl l u J)] = .nx [some (.flst ns), some (.loc 0), some (.int (l : Nat)), some (.int k), some (.loc 1), y5, y6, y7, y8, some (.int (F : Nat)), some (.int (n : Nat)), some (.int r), some (.int due), some (.int ((n : Nat) * (F : Nat) + r)), none] [c7, .lst (rl l u J)] := by
    simp only [mD_ev, sSeq_ev, sAsg_ev, eCallD_ev, eCall_ev, aCons_ev, aNil_ev, eVar_ev, List.map_cons, List.map_nil, List.length_cons, List.length_nil, List.cons_append, List.nil_append, Nat.reduceAdd, Nat.reduceSub, List.reduceReplicate, List.getElem?_cons_zero, List.getElem?_cons_succ, bok, if_true, eC_ev, sok, gVar_ev, List.set_cons_succ, List.set_cons_zero, Nat.reduceLT, eBin_ev, eLc_ev, iOf_ev, oWalk, wipeE, gTup_ev, gCons_ev, gNil_ev, eLst_ev, eTup_ev, eJoin_ev, iRange1_ev, sRet_ev, sIf_ev, tB_ev, tAnd_ev, tOr_ev, tNot_ev, eNot_ev, eAnd_ev, eIf_ev, sNext_ev, sExpr_ev, sPar_ev, sAug_ev, sAsg2_ev, sFor_ev, and_self, eThaw_ev, thaw_ev, m3, oAdd_int, oNe_int, decide_true, Bool.not_true, Bool.false_eq_true, if_false]
  have s16 : shs ((16 : Nat) : Int) 16 = 136 := by decide
  have all : ∀ (k u : Int) (W : Wt k u) (r : Int), 0 ≤ r → fad (F : Nat) u 16 (16 * (F : Nat) + r) = 136 * (F : Nat) * u := fun k u W r hr => by
    have := fad_far (u := u) (show (0 : Int) < (F : Nat) by omega) 16 16 r (by omega) hr (.inr rfl)
    rw [show ((16 : Nat) : Int) * (F : Nat) + r = 16 * (F : Nat) + r from rfl] at this
    rw [this, s16, Int.sub_self, Int.mul_zero, Int.add_zero, Int.mul_comm (F : Int) 136]
  have p18 : ∀ μ, oPow (.int 10) (.int 18) μ = .ok (.int 1000000000000000000) μ := fun μ => by rfl
  have m136 : ∀ μ, oMul (.int 136) (.int (F : Nat)) μ = .ok (.int (136 * (F : Nat))) μ := fun μ => oMul_int (by rw [sm_of (a := 136) (by omega) (by omega)]; rfl)
  have m16F : ∀ μ, oMul (.int 16) (.int (F : Nat)) μ = .ok (.int (16 * (F : Nat))) μ := fun μ => oMul_int (by rw [sm_of (a := 16) (by omega) (by omega)]; rfl)
  have t3 : ∀ μ, M_faded [.int (F : Nat), .int 1000000000000000000, .int k] μ = .ok (.int (136 * (F : Nat) * u)) μ := fun μ => by
    rw [faded W (by omega) (by omega)]
    have := all _ _ W (1000000000000000000 - 16 * (F : Nat)) (by omega)
    rw [show 16 * ((F : Nat) : Int) + (1000000000000000000 - 16 * ((F : Nat) : Int)) = 1000000000000000000 by omega] at this
    rw [this]
  have t4 : ∀ μ, M_faded [.int (F : Nat), .int (16 * (F : Nat)), .int 4] μ = .ok (.int (136 * (F : Nat))) μ := fun μ => by
    rw [faded wt4 (by omega) (by omega)]
    have := all _ _ wt4 0 (by omega)
    rw [Int.add_zero, Int.mul_one] at this
    rw [this]
  have q13 : (sRet (eAnd (eBin oEq (eCallD 3 M_faded (aCons (eVar 9) (aCons (eBin oPow (eC (.int 10)) (eC (.int 18))) (aCons (eVar 3) (aNil))))) (eBin oMul (eBin oMul (eC (.int 136)) (eVar 9)) (eCallD 1 M_l_weight (aCons (eVar 3) (aNil))))) (eBin oEq (eCallD 3 M_faded (aCons (eVar 9) (aCons (eBin oMul (eC (.int 16)) (eVar 9)) (aCons (eC (.int 4)) (aNil))))) (eBin oMul (eC (.int 136)) (eVar 9))))) [some (.flst ns), some (.loc 0), some (.int (l : Nat)), some (.int k), some (.loc 1), y5, y6, y7, y8, some (.int (F : Nat)), some (.int (n : Nat)), some (.int r), some (.int due), some (.int ((n : Nat) * (F : Nat) + r)), none] [c7, .lst (rl l u J)] = .rt (.bl true) [c7, .lst (rl l u J)] := by
    simp only [mD_ev, sSeq_ev, sAsg_ev, eCallD_ev, eCall_ev, aCons_ev, aNil_ev, eVar_ev, List.map_cons, List.map_nil, List.length_cons, List.length_nil, List.cons_append, List.nil_append, Nat.reduceAdd, Nat.reduceSub, List.reduceReplicate, List.getElem?_cons_zero, List.getElem?_cons_succ, bok, if_true, eC_ev, sok, gVar_ev, List.set_cons_succ, List.set_cons_zero, Nat.reduceLT, eBin_ev, eLc_ev, iOf_ev, oWalk, wipeE, gTup_ev, gCons_ev, gNil_ev, eLst_ev, eTup_ev, eJoin_ev, iRange1_ev, sRet_ev, sIf_ev, tB_ev, tAnd_ev, tOr_ev, tNot_ev, eNot_ev, eAnd_ev, eIf_ev, sNext_ev, sExpr_ev, sPar_ev, sAug_ev, sAsg2_ev, sFor_ev, and_self, eThaw_ev, thaw_ev, p18, t3, m136, W.we, mul_u W, oEq_int, decide_true, m16F, t4]
  have e10 : mD 15 B_law [.flst ns] [] = .ok (.bl true) [c7, .lst (rl l u J)] := by
    unfold B_law
    rw [mD_ev, show ([D.flst ns].map some ++ List.replicate (15 - [D.flst ns].length) none) = [some (.flst ns), none, none, none, none, none, none, none, none, none, none, none, none, none, none] from rfl]
    simp only [sSeq_ev, q1, q2, q3, q4, q5, q6, q7, q8, q9, q10, q11, q12, q13]
  refine ⟨[], ?_⟩
  unfold M_law
  rw [mDf_ev, e10]
  rfl
end K14

set_option Elab.async false
set_option linter.all false
set_option maxRecDepth 100000
namespace K14
open PySem L2 Fw
set_option maxHeartbeats 8000000 in
theorem all_mk {l : PySem.W.OpenLaw} {w : World} {K : PySem.W.Frag} {h : Heap} {mg : Str → Option Value} {fa : Addr} (X : K.In h) (G : h.Ns mainGlobals mg) (hfa : mg "law" = some (.ref fa))
    {f_l_taken : Addr} {od_l_taken an_l_taken : Option Addr} {sl_l_taken : Array (Option Value)} {oc_l_taken kV_l_taken dc_l_taken pm_l_taken cd_l_taken ct_l_taken : Value}
    {f_l_weight : Addr} {od_l_weight an_l_weight : Option Addr} {sl_l_weight : Array (Option Value)} {oc_l_weight kV_l_weight dc_l_weight pm_l_weight cd_l_weight ct_l_weight : Value}
    {f_is_number : Addr} {od_is_number an_is_number : Option Addr} {sl_is_number : Array (Option Value)} {oc_is_number kV_is_number dc_is_number pm_is_number cd_is_number ct_is_number : Value}
    {f_check_number : Addr} {od_check_number an_check_number : Option Addr} {sl_check_number : Array (Option Value)} {oc_check_number kV_check_number dc_check_number pm_check_number cd_check_number ct_check_number : Value}
    {f_check_fading : Addr} {od_check_fading an_check_fading : Option Addr} {sl_check_fading : Array (Option Value)} {oc_check_fading kV_check_fading dc_check_fading pm_check_fading cd_check_fading ct_check_fading : Value}
    {f_faded : Addr} {od_faded an_faded : Option Addr} {sl_faded : Array (Option Value)} {oc_faded kV_faded dc_faded pm_faded cd_faded ct_faded : Value}
    {f_ticks_to : Addr} {od_ticks_to an_ticks_to : Option Addr} {sl_ticks_to : Array (Option Value)} {oc_ticks_to kV_ticks_to dc_ticks_to pm_ticks_to cd_ticks_to ct_ticks_to : Value}
    {f_ticks_until : Addr} {od_ticks_until an_ticks_until : Option Addr} {sl_ticks_until : Array (Option Value)} {oc_ticks_until kV_ticks_until dc_ticks_until pm_ticks_until cd_ticks_until ct_ticks_until : Value}
    {f_law : Addr} {od_law an_law : Option Addr} {sl_law : Array (Option Value)} {oc_law kV_law dc_law pm_law cd_law ct_law : Value}
    {t_DENSEST : Tok}
    {t_FULL_LIGHT : Tok}
    {t_LONGEST_LIFE : Tok}
    {t_MOST_FADED : Tok}
    {p_UNITS : Addr} {dd_UNITS : Option Addr} {z_UNITS : Nat} {sl_UNITS : Array (Option Value)}
    {t_UNITS_0 : Tok}
    {t_UNITS_1 : Tok}
    {t_UNITS_2 : Tok}
    {t_UNITS_3 : Tok}
    {t_UNITS_4 : Tok}
    (n_bool : PySem.W.nsIn K mainGlobals "bool" = some none)
    (n_int : PySem.W.nsIn K mainGlobals "int" = some none)
    (n_isinstance : PySem.W.nsIn K mainGlobals "isinstance" = some none)
    (n_len : PySem.W.nsIn K mainGlobals "len" = some none)
    (n_max : PySem.W.nsIn K mainGlobals "max" = some none)
    (n_min : PySem.W.nsIn K mainGlobals "min" = some none)
    (n_range : PySem.W.nsIn K mainGlobals "range" = some none)
    (n_sum : PySem.W.nsIn K mainGlobals "sum" = some none)
    (g_DENSEST : PySem.W.nsIn K mainGlobals "DENSEST" = some (some (.int 4 t_DENSEST)))
    (g_FULL_LIGHT : PySem.W.nsIn K mainGlobals "FULL_LIGHT" = some (some (.int 16 t_FULL_LIGHT)))
    (g_LONGEST_LIFE : PySem.W.nsIn K mainGlobals "LONGEST_LIFE" = some (some (.int 1000000000000000 t_LONGEST_LIFE)))
    (g_MOST_FADED : PySem.W.nsIn K mainGlobals "MOST_FADED" = some (some (.int 1000000000000000000 t_MOST_FADED)))
    (g_UNITS : PySem.W.nsIn K mainGlobals "UNITS" = some (some (.ref p_UNITS)))
    (gl_UNITS : K.lookup p_UNITS = some ⟨.type "tuple", dd_UNITS, .seq #[.int 16 t_UNITS_0, .int 8 t_UNITS_1, .int 4 t_UNITS_2, .int 2 t_UNITS_3, .int 1 t_UNITS_4] z_UNITS, sl_UNITS⟩)
    (a_l_taken : PySem.W.nsIn K mainGlobals "_law_taken" = some (some (.ref f_l_taken)))
    (l_l_taken : K.lookup f_l_taken = some ⟨oc_l_taken, od_l_taken, .func (PySem.W.fnOf "_law_taken" "_law_taken" (defArgs s_l_taken) (defBody s_l_taken) (defScope s_l_taken) .none kV_l_taken dc_l_taken pm_l_taken an_l_taken cd_l_taken ct_l_taken), sl_l_taken⟩)
    (c_l_taken : PySem.W.codeIn K cd_l_taken "_law_taken" = true)
    (k_l_taken : PySem.W.keepIn K (.ref f_l_taken) = true)
    (a_l_weight : PySem.W.nsIn K mainGlobals "_law_weight" = some (some (.ref f_l_weight)))
    (l_l_weight : K.lookup f_l_weight = some ⟨oc_l_weight, od_l_weight, .func (PySem.W.fnOf "_law_weight" "_law_weight" (defArgs s_l_weight) (defBody s_l_weight) (defScope s_l_weight) .none kV_l_weight dc_l_weight pm_l_weight an_l_weight cd_l_weight ct_l_weight), sl_l_weight⟩)
    (c_l_weight : PySem.W.codeIn K cd_l_weight "_law_weight" = true)
    (k_l_weight : PySem.W.keepIn K (.ref f_l_weight) = true)
    (a_is_number : PySem.W.nsIn K mainGlobals "is_number" = some (some (.ref f_is_number)))
    (l_is_number : K.lookup f_is_number = some ⟨oc_is_number, od_is_number, .func (PySem.W.fnOf "is_number" "is_number" (defArgs s_is_number) (defBody s_is_number) (defScope s_is_number) .none kV_is_number dc_is_number pm_is_number an_is_number cd_is_number ct_is_number), sl_is_number⟩)
    (c_is_number : PySem.W.codeIn K cd_is_number "is_number" = true)
    (k_is_number : PySem.W.keepIn K (.ref f_is_number) = true)
    (a_check_number : PySem.W.nsIn K mainGlobals "check_number" = some (some (.ref f_check_number)))
    (l_check_number : K.lookup f_check_number = some ⟨oc_check_number, od_check_number, .func (PySem.W.fnOf "check_number" "check_number" (defArgs s_check_number) (defBody s_check_number) (defScope s_check_number) .none kV_check_number dc_check_number pm_check_number an_check_number cd_check_number ct_check_number), sl_check_number⟩)
    (c_check_number : PySem.W.codeIn K cd_check_number "check_number" = true)
    (k_check_number : PySem.W.keepIn K (.ref f_check_number) = true)
    (a_check_fading : PySem.W.nsIn K mainGlobals "check_fading" = some (some (.ref f_check_fading)))
    (l_check_fading : K.lookup f_check_fading = some ⟨oc_check_fading, od_check_fading, .func (PySem.W.fnOf "check_fading" "check_fading" (defArgs s_check_fading) (defBody s_check_fading) (defScope s_check_fading) .none kV_check_fading dc_check_fading pm_check_fading an_check_fading cd_check_fading ct_check_fading), sl_check_fading⟩)
    (c_check_fading : PySem.W.codeIn K cd_check_fading "check_fading" = true)
    (k_check_fading : PySem.W.keepIn K (.ref f_check_fading) = true)
    (a_faded : PySem.W.nsIn K mainGlobals "faded" = some (some (.ref f_faded)))
    (l_faded : K.lookup f_faded = some ⟨oc_faded, od_faded, .func (PySem.W.fnOf "faded" "faded" (defArgs s_faded) (defBody s_faded) (defScope s_faded) .none kV_faded dc_faded pm_faded an_faded cd_faded ct_faded), sl_faded⟩)
    (c_faded : PySem.W.codeIn K cd_faded "faded" = true)
    (k_faded : PySem.W.keepIn K (.ref f_faded) = true)
    (a_ticks_to : PySem.W.nsIn K mainGlobals "ticks_to" = some (some (.ref f_ticks_to)))
    (l_ticks_to : K.lookup f_ticks_to = some ⟨oc_ticks_to, od_ticks_to, .func (PySem.W.fnOf "ticks_to" "ticks_to" (defArgs s_ticks_to) (defBody s_ticks_to) (defScope s_ticks_to) .none kV_ticks_to dc_ticks_to pm_ticks_to an_ticks_to cd_ticks_to ct_ticks_to), sl_ticks_to⟩)
    (c_ticks_to : PySem.W.codeIn K cd_ticks_to "ticks_to" = true)
    (k_ticks_to : PySem.W.keepIn K (.ref f_ticks_to) = true)
    (a_ticks_until : PySem.W.nsIn K mainGlobals "ticks_until" = some (some (.ref f_ticks_until)))
    (l_ticks_until : K.lookup f_ticks_until = some ⟨oc_ticks_until, od_ticks_until, .func (PySem.W.fnOf "ticks_until" "ticks_until" (defArgs s_ticks_until) (defBody s_ticks_until) (defScope s_ticks_until) .none kV_ticks_until dc_ticks_until pm_ticks_until an_ticks_until cd_ticks_until ct_ticks_until), sl_ticks_until⟩)
    (c_ticks_until : PySem.W.codeIn K cd_ticks_until "ticks_until" = true)
    (k_ticks_until : PySem.W.keepIn K (.ref f_ticks_until) = true)
    (a_law : PySem.W.nsIn K mainGlobals "law" = some (some (.ref f_law)))
    (l_law : K.lookup f_law = some ⟨oc_law, od_law, .func (PySem.W.fnOf "law" "law" (defArgs s_law) (defBody s_law) (defScope s_law) .none kV_law dc_law pm_law an_law cd_law ct_law), sl_law⟩)
    (c_law : PySem.W.codeIn K cd_law "law" = true)
    (k_law : PySem.W.keepIn K (.ref f_law) = true) :
    ∃ fd : FuncData, (∀ (s : Shared) (v : Value), BindsTo s fd ⟨[v], []⟩ [("_law_script", v)]) ∧ ∀ base : Heap, K.In base → base.Ns mainGlobals mg → FnOk l.prog w K mg base CX0 5 fa fd ["_law_script"] (spA K M_law) := by
  have e := hfa.symm.trans (PySem.W.mg_of X G a_law)
  cases e
  let cls : Nat → Option Addr := fun c => none
  have F_l_taken := fun_mk (st := s_l_taken) l_l_taken c_l_taken k_l_taken
  have F_l_weight := fun_mk (st := s_l_weight) l_l_weight c_l_weight k_l_weight
  have F_is_number := fun_mk (st := s_is_number) l_is_number c_is_number k_is_number
  have F_check_number := fun_mk (st := s_check_number) l_check_number c_check_number k_check_number
  have F_check_fading := fun_mk (st := s_check_fading) l_check_fading c_check_fading k_check_fading
  have F_faded := fun_mk (st := s_faded) l_faded c_faded k_faded
  have F_ticks_to := fun_mk (st := s_ticks_to) l_ticks_to c_ticks_to k_ticks_to
  have F_ticks_until := fun_mk (st := s_ticks_until) l_ticks_until c_ticks_until k_ticks_until
  have F_law := fun_mk (st := s_law) l_law c_law k_law
  have b_l_taken := F_l_taken.binds (ps := ["_law_row", "_law_many"]) fun _ _ _ _ _ _ us hl => match us, hl with | [_, _], _ => rfl
  have b_l_weight := F_l_weight.binds (ps := ["_law_figure"]) fun _ _ _ _ _ _ us hl => match us, hl with | [_], _ => rfl
  have b_is_number := F_is_number.binds (ps := ["value", "least", "most"]) fun _ _ _ _ _ _ us hl => match us, hl with | [_, _, _], _ => rfl
  have b_check_number := F_check_number.binds (ps := ["value", "least", "most"]) fun _ _ _ _ _ _ us hl => match us, hl with | [_, _, _], _ => rfl
  have b_check_fading := F_check_fading.binds (ps := ["life", "amount", "density"]) fun _ _ _ _ _ _ us hl => match us, hl with | [_, _, _], _ => rfl
  have b_faded := F_faded.binds (ps := ["life", "ticks", "density"]) fun _ _ _ _ _ _ us hl => match us, hl with | [_, _, _], _ => rfl
  have b_ticks_to := F_ticks_to.binds (ps := ["light", "units"]) fun _ _ _ _ _ _ us hl => match us, hl with | [_, _], _ => rfl
  have b_ticks_until := F_ticks_until.binds (ps := ["life", "light", "density"]) fun _ _ _ _ _ _ us hl => match us, hl with | [_, _, _], _ => rfl
  have T : Tx l.prog w K cls mg := {
    n_bool := PySem.W.mg_none_of X G n_bool
    n_int := PySem.W.mg_none_of X G n_int
    n_isinstance := PySem.W.mg_none_of X G n_isinstance
    n_len := PySem.W.mg_none_of X G n_len
    n_max := PySem.W.mg_none_of X G n_max
    n_min := PySem.W.mg_none_of X G n_min
    n_range := PySem.W.mg_none_of X G n_range
    n_sum := PySem.W.mg_none_of X G n_sum
    c_DENSEST := gv_int X G g_DENSEST
    c_FULL_LIGHT := gv_int X G g_FULL_LIGHT
    c_LONGEST_LIFE := gv_int X G g_LONGEST_LIFE
    c_MOST_FADED := gv_int X G g_MOST_FADED
    c_UNITS := gv_tup (vs := [.int 16, .int 8, .int 4, .int 2, .int 1]) X G g_UNITS gl_UNITS (by show 5 ≤ 1000000; decide) (.cons ⟨t_UNITS_0, rfl⟩ (.cons ⟨t_UNITS_1, rfl⟩ (.cons ⟨t_UNITS_2, rfl⟩ (.cons ⟨t_UNITS_3, rfl⟩ (.cons ⟨t_UNITS_4, rfl⟩ (.nil)))))) (fun w => .cons rfl (.cons rfl (.cons rfl (.cons rfl (.cons rfl (.nil))))))
  }
  refine ⟨PySem.W.fnOf "law" "law" (defArgs s_law) (defBody s_law) (defScope s_law) .none kV_law dc_law pm_law an_law cd_law ct_law, fun s v => .of_eq rfl, fun base hb1 hb2 => ?_⟩
  have G_l_taken := df_l_taken (base := base) F_l_taken b_l_taken (PySem.W.mg_of X G a_l_taken) T 
  have G_l_weight := df_l_weight (base := base) F_l_weight b_l_weight (PySem.W.mg_of X G a_l_weight) T 
  have G_is_number := df_is_number (base := base) F_is_number b_is_number (PySem.W.mg_of X G a_is_number) T 
  have G_check_number := df_check_number (base := base) F_check_number b_check_number (PySem.W.mg_of X G a_check_number) T G_is_number
  have G_check_fading := df_check_fading (base := base) F_check_fading b_check_fading (PySem.W.mg_of X G a_check_fading) T G_check_number
  have G_faded := df_faded (base := base) F_faded b_faded (PySem.W.mg_of X G a_faded) T G_check_fading
  have G_ticks_to := df_ticks_to (base := base) F_ticks_to b_ticks_to (PySem.W.mg_of X G a_ticks_to) T 
  have G_ticks_until := df_ticks_until (base := base) F_ticks_until b_ticks_until (PySem.W.mg_of X G a_ticks_until) T G_check_fading G_ticks_to
  exact fn_any (fn_law F_law T G_l_taken G_l_weight G_faded G_ticks_until)
end K14

set_option Elab.async false
set_option maxRecDepth 100000
open PySem PySem.W PyProof.Rows
set_option maxHeartbeats 0 in
theorem PySem.Challenge.cw_maskedprints_k14_whole_lamps_that_fade_holds : PySem.Challenge.rw_maskedprints_k14_whole_lamps_that_fade.Holds := by
  w_on; o_law; k_head; (case hw => w_witness2)
  k_fill
  refine L2.walk_of (l := PySem.Challenge.rw_maskedprints_k14_whole_lamps_that_fade) (n := 63) (k := 5) (x := "_law_script") (CX := fun _ => L2.CX0) (sp := fun w => Fw.spA _ K14.M_law) rfl (by decide) rfl ⟨rfl, by decide, by decide⟩ (fun w h Y => PySem.W.kIn_of Y) ?F (fun w H a ns hl hO hS => Fw.law_spA (fun _ => K14.law_true) hl hO hS) (fun _ _ _ _ _ h => h)
  case F =>
    intro w mg fa h KX G hmg
    refine' K14.all_mk KX G hmg ?n_bool ?n_int ?n_isinstance ?n_len ?n_max ?n_min ?n_range ?n_sum ?g_DENSEST ?g_FULL_LIGHT ?g_LONGEST_LIFE ?g_MOST_FADED ?g_UNITS ?gl_UNITS ?a_l_taken ?l_l_taken ?c_l_taken ?k_l_taken ?a_l_weight ?l_l_weight ?c_l_weight ?k_l_weight ?a_is_number ?l_is_number ?c_is_number ?k_is_number ?a_check_number ?l_check_number ?c_check_number ?k_check_number ?a_check_fading ?l_check_fading ?c_check_fading ?k_check_fading ?a_faded ?l_faded ?c_faded ?k_faded ?a_ticks_to ?l_ticks_to ?c_ticks_to ?k_ticks_to ?a_ticks_until ?l_ticks_until ?c_ticks_until ?k_ticks_until ?a_law ?l_law ?c_law ?k_law
    (case n_bool => k_is)
    (case n_int => k_is)
    (case n_isinstance => k_is)
    (case n_len => k_is)
    (case n_max => k_is)
    (case n_min => k_is)
    (case n_range => k_is)
    (case n_sum => k_is)
    (case g_DENSEST => k_is)
    (case g_FULL_LIGHT => k_is)
    (case g_LONGEST_LIFE => k_is)
    (case g_MOST_FADED => k_is)
    (case g_UNITS => k_is)
    (case gl_UNITS => k_is)
    (case a_l_taken => k_is)
    (case l_l_taken => k_is)
    (case c_l_taken => k_is)
    (case k_l_taken => k_is)
    (case a_l_weight => k_is)
    (case l_l_weight => k_is)
    (case c_l_weight => k_is)
    (case k_l_weight => k_is)
    (case a_is_number => k_is)
    (case l_is_number => k_is)
    (case c_is_number => k_is)
    (case k_is_number => k_is)
    (case a_check_number => k_is)
    (case l_check_number => k_is)
    (case c_check_number => k_is)
    (case k_check_number => k_is)
    (case a_check_fading => k_is)
    (case l_check_fading => k_is)
    (case c_check_fading => k_is)
    (case k_check_fading => k_is)
    (case a_faded => k_is)
    (case l_faded => k_is)
    (case c_faded => k_is)
    (case k_faded => k_is)
    (case a_ticks_to => k_is)
    (case l_ticks_to => k_is)
    (case c_ticks_to => k_is)
    (case k_ticks_to => k_is)
    (case a_ticks_until => k_is)
    (case l_ticks_until => k_is)
    (case c_ticks_until => k_is)
    (case k_ticks_until => k_is)
    (case a_law => k_is)
    (case l_law => k_is)
    (case c_law => k_is)
    (case k_law => k_is)

