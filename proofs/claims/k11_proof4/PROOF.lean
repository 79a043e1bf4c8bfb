import PyProof.Rows.All
import Wide.All
import OpenK.AllK
import Wide.FinOn
import HandS.ForMost
import HandS.DictComp
import HandS.IsInst
import HandS.More
import HandS.StrMore
import HandS.Style
import HandS.ListItems
import HandS.Finally
import HandS.Property
import HandS.Codes
import HandS.DictTup
import KE.KSortTupAny
import KE.KOpsOwn
import PySem.Challenge.RW_quietsums_k11_sums_by_numbers
import HandS.Defaults
set_option Elab.async false
set_option linter.all false
set_option maxRecDepth 100000
/-! The layer QL: what an expression evaluates to, by data; known objects, objects of one's own, steps. -/
namespace QL
open PySem L2

/-! ### heaps: h is known for ever, H is the abstract heap -/
def Ext (h h' : Hp) : Prop := ∀ a o, h a = some o → h' a = some o
def Ex (h H : Hp) : Prop := ∀ a o, h a = some o → H a = some o ∨ ∃ kvs ob, o = .dK kvs ∧ H a = some (.frz ob (.dK kvs))
theorem Ex.rd {h H : Hp} (e : Ex h H) {a : Addr} {o : HO} (q : h a = some o) : Rd H a o := by
  rcases e a o q with z | ⟨kvs, ob, rfl, z⟩
  · exact .inl z
  · exact .inr ⟨ob, z⟩
theorem Ex.lst {h H : Hp} (e : Ex h H) {a : Addr} {xs : List V} (q : h a = some (.lst xs)) : H a = some (.lst xs) := by
  rcases e a _ q with z | ⟨kvs, ob, z, _⟩
  · exact z
  · cases z
theorem Ex.tup {h H : Hp} (e : Ex h H) {a : Addr} {xs : List V} (q : h a = some (.tup xs)) : H a = some (.tup xs) := by
  rcases e a _ q with z | ⟨kvs, ob, z, _⟩
  · exact z
  · cases z
theorem Ex.ins {h H : Hp} (e : Ex h H) {a C dx : Addr} {fs : List (Str × V)} (q : h a = some (.ins C dx fs)) : H a = some (.ins C dx fs) := by
  rcases e a _ q with z | ⟨kvs, ob, z, _⟩
  · exact z
  · cases z
theorem Ex.frz {h H : Hp} (e : Ex h H) {a : Addr} {ob : Obj} {o : HO} (q : h a = some (.frz ob o)) : H a = some (.frz ob o) := by
  rcases e a _ q with z | ⟨kvs, ob, z, _⟩
  · exact z
  · cases z
theorem Ext.refl (h : Hp) : Ext h h := fun _ _ e => e
theorem Ext.trans {h h1 h2 : Hp} (a : Ext h h1) (b : Ext h1 h2) : Ext h h2 := fun x o e => b x o (a x o e)
theorem Ext.ex {h h' H : Hp} (a : Ext h h') (b : Ex h' H) : Ex h H := fun x o e => b x o (a x o e)
theorem Ext.new {h : Hp} {p : Addr} {o : HO} (e : h p = none) : Ext h (upd h p o) := fun a u q => by rw [upd_ne (ne_of_none q e)]; exact q
theorem Ex.free {h H : Hp} (e : Ex h H) {p : Addr} (n : H p = none) : h p = none := by
  cases q : h p with
  | none => rfl
  | some o =>
    rcases e p o q with z | ⟨_, _, _, z⟩ <;> (rw [n] at z; cases z)
theorem Ex.live {h H : Hp} (e : Ex h H) {p : Addr} (n : h p ≠ none) : H p ≠ none := fun z => n (e.free z)
theorem ne_some {h : Hp} {p : Addr} {o : HO} (e : h p = some o) : h p ≠ none := fun z => by rw [e] at z; cases z
theorem some_of {h : Hp} {p : Addr} (e : h p ≠ none) : ∃ o, h p = some o := by
  cases q : h p with
  | none => exact absurd q e
  | some o => exact ⟨o, rfl⟩

structure Stp (M : Addr → Prop) (h H h' H' : Hp) : Prop where
  kn : Ext h h'
  ex : Ex h' H'
  keep : ∀ b o, ¬ M b → H b = some o → H' b = some o
  live : ∀ b, H b ≠ none → H' b ≠ none
  fresh : ∀ b, h' b ≠ none → h b ≠ none ∨ H b = none
def MNo : Addr → Prop := fun _ => False

theorem Stp.refl {M : Addr → Prop} {h H : Hp} (e : Ex h H) : Stp M h H h H := ⟨.refl h, e, fun _ _ _ q => q, fun _ q => q, fun _ q => .inl q⟩
theorem Stp.mono {M M' : Addr → Prop} {h H h' H' : Hp} (s : Stp M h H h' H') (k : ∀ b, M b → M' b) : Stp M' h H h' H' :=
  ⟨s.kn, s.ex, fun b o n q => s.keep b o (fun z => n (k b z)) q, s.live, s.fresh⟩
theorem Stp.no {M : Addr → Prop} {h H h' H' : Hp} (s : Stp MNo h H h' H') : Stp M h H h' H' := s.mono fun _ z => z.elim
theorem Stp.trans {M M' : Addr → Prop} {h H h1 H1 h2 H2 : Hp} (s : Stp M h H h1 H1) (t : Stp M' h1 H1 h2 H2) (k : ∀ b, M' b → M b ∨ H b = none) : Stp M h H h2 H2 where
  kn := s.kn.trans t.kn
  ex := t.ex
  keep := fun b o n q => t.keep b o (fun z => (k b z).elim n fun e => by rw [e] at q; cases q) (s.keep b o n q)
  live := fun b q => t.live b (s.live b q)
  fresh := fun b q => by
    rcases t.fresh b q with z | z
    · exact s.fresh b z
    · right
      cases e : H b with
      | none => rfl
      | some o => exact absurd z (s.live b (ne_some e))
theorem Stp.tr {M : Addr → Prop} {h H h1 H1 h2 H2 : Hp} (s : Stp M h H h1 H1) (t : Stp M h1 H1 h2 H2) : Stp M h H h2 H2 := s.trans t fun _ z => .inl z
/-- a new object, known from now on -/
theorem Stp.new {M : Addr → Prop} {h H : Hp} {p : Addr} {o : HO} (e : Ex h H) (n : H p = none) : Stp M h H (upd h p o) (upd H p o) where
  kn := .new (e.free n)
  ex := fun a u q => by
    by_cases z : a = p
    · subst z; rw [upd_same] at q; cases q; exact .inl upd_same
    · rw [upd_ne z] at q
      rcases e a u q with w | ⟨kvs, ob, w1, w⟩
      · exact .inl (by rw [upd_ne z]; exact w)
      · exact .inr ⟨kvs, ob, w1, by rw [upd_ne z]; exact w⟩
  keep := fun b u _ q => by rw [upd_ne (ne_of_none q n)]; exact q
  live := fun b q => by
    obtain ⟨u, q⟩ := some_of q
    rw [upd_ne (ne_of_none q n)]; exact ne_some q
  fresh := fun b q => by
    by_cases z : b = p
    · subst z; exact .inr n
    · rw [upd_ne z] at q; exact .inl q
/-- a new object, not known -/
theorem Stp.newU {M : Addr → Prop} {h H : Hp} {p : Addr} {o : HO} (e : Ex h H) (n : H p = none) : Stp M h H h (upd H p o) where
  kn := .refl h
  ex := fun a u q => by
    have z : a ≠ p := fun z => by subst z; rw [e.free n] at q; cases q
    rcases e a u q with w | ⟨kvs, ob, w1, w⟩
    · exact .inl (by rw [upd_ne z]; exact w)
    · exact .inr ⟨kvs, ob, w1, by rw [upd_ne z]; exact w⟩
  keep := fun b u _ q => by rw [upd_ne (ne_of_none q n)]; exact q
  live := fun b q => by
    obtain ⟨u, q⟩ := some_of q
    rw [upd_ne (ne_of_none q n)]; exact ne_some q
  fresh := fun b q => .inl q
/-- an unknown object changes -/
theorem Stp.mut {M : Addr → Prop} {h H : Hp} {p : Addr} {o : HO} (e : Ex h H) (n : h p = none) (m : M p) (l : H p ≠ none) : Stp M h H h (upd H p o) where
  kn := .refl h
  ex := fun a u q => by
    have z : a ≠ p := fun z => by subst z; rw [n] at q; cases q
    rcases e a u q with w | ⟨kvs, ob, w1, w⟩
    · exact .inl (by rw [upd_ne z]; exact w)
    · exact .inr ⟨kvs, ob, w1, by rw [upd_ne z]; exact w⟩
  keep := fun b u k q => by rw [upd_ne (fun z => k (by rw [z]; exact m))]; exact q
  live := fun b q => by
    by_cases z : b = p
    · subst z; rw [upd_same]; exact fun z => nomatch z
    · rw [upd_ne z]; exact q
  fresh := fun b q => .inl q
/-- an unknown object becomes known -/
theorem Stp.know {M : Addr → Prop} {h H : Hp} {p : Addr} {o : HO} (e : Ex h H) (n : h p = none) (l : H p = some o) : Ext h (upd h p o) ∧ Ex (upd h p o) H :=
  ⟨.new n, fun a u q => by
    by_cases z : a = p
    · subst z; rw [upd_same] at q; cases q; exact .inl l
    · rw [upd_ne z] at q; exact e a u q⟩

/-! ### data -/
structure Rel (α : Type) where
  r : α → V → Hp → Prop
  mono : ∀ {a : α} {v : V} {h h' : Hp}, Ext h h' → r a v h → r a v h'
/-- a thing of one's own that may change: its value, where it lies, what is true of it -/
structure Vol where
  val : V
  foot : Addr → Prop
  r : Hp → Hp → Prop
  frame : ∀ {h H h' H' : Hp}, r h H → Ext h h' → (∀ b, foot b → H' b = H b) → r h' H'
  live : ∀ {h H : Hp} {b : Addr}, r h H → foot b → H b ≠ none
inductive Slot : Type 1 where
  | no
  | va {α : Type} (R : Rel α) (a : α)
  | vo (W : Vol)
def Slot.foot : Slot → Addr → Prop
  | .vo W => W.foot
  | _ => fun _ => False
def SlotOk (s : Slot) (x : Option (Option V)) (h H : Hp) : Prop :=
  match s with
  | .no => True
  | .va R a => ∃ v, x = some (some v) ∧ R.r a v h
  | .vo W => x = some (some W.val) ∧ W.r h H
abbrev Ctx := List Slot
def feet (Γ : Ctx) : Addr → Prop := fun b => ∃ (i : Nat) (s : Slot), Γ[i]? = some s ∧ s.foot b
structure Sat (Γ : Ctx) (σ : L2.St) (h H : Hp) : Prop where
  len : σ.length = Γ.length
  ok : ∀ (i : Nat) (s : Slot), Γ[i]? = some s → SlotOk s σ[i]? h H
  apart : ∀ (i j : Nat) (s t : Slot) (b : Addr), Γ[i]? = some s → Γ[j]? = some t → s.foot b → t.foot b → i = j
  out : ∀ (i : Nat) (s : Slot) (b : Addr), Γ[i]? = some s → s.foot b → h b = none

theorem SlotOk.step {s : Slot} {x : Option (Option V)} {h H h' H' : Hp} (k : SlotOk s x h H) (e : Ext h h') (f : ∀ b, s.foot b → H' b = H b) : SlotOk s x h' H' := by
  cases s with
  | no => trivial
  | va R a => obtain ⟨v, q, r⟩ := k; exact ⟨v, q, R.mono e r⟩
  | vo W => exact ⟨k.1, W.frame k.2 e f⟩
theorem SlotOk.live {s : Slot} {x : Option (Option V)} {h H : Hp} {b : Addr} (k : SlotOk s x h H) (f : s.foot b) : H b ≠ none := by
  cases s with
  | no => exact f.elim
  | va R a => exact f.elim
  | vo W => exact W.live k.2 f
theorem Sat.live {Γ : Ctx} {σ : L2.St} {h H : Hp} {b : Addr} (S : Sat Γ σ h H) (f : feet Γ b) : H b ≠ none := by
  obtain ⟨i, s, e, f⟩ := f
  exact (S.ok i s e).live f
theorem Sat.outF {Γ : Ctx} {σ : L2.St} {h H : Hp} {b : Addr} (S : Sat Γ σ h H) (f : feet Γ b) : h b = none := by
  obtain ⟨i, s, e, f⟩ := f
  exact S.out i s b e f
/-- what is kept at an unknown place -/
theorem Stp.at {M : Addr → Prop} {h H h' H' : Hp} (s : Stp M h H h' H') {b : Addr} (n : ¬ M b) (l : H b ≠ none) : H' b = H b := by
  obtain ⟨o, l⟩ := some_of l
  rw [s.keep b o n l, l]
theorem Stp.outF {M : Addr → Prop} {h H h' H' : Hp} (s : Stp M h H h' H') {b : Addr} (u : h b = none) (l : H b ≠ none) : h' b = none := by
  cases q : h' b with
  | none => rfl
  | some o => exact ((s.fresh b (ne_some q)).elim (fun z => z u) fun z => l z).elim
theorem Sat.step {Γ : Ctx} {σ : L2.St} {h H h' H' : Hp} {M : Addr → Prop} (S : Sat Γ σ h H) (s : Stp M h H h' H') (d : ∀ b, feet Γ b → ¬ M b) : Sat Γ σ h' H' where
  len := S.len
  ok := fun i t e => (S.ok i t e).step s.kn fun b f => s.at (d b ⟨i, t, e, f⟩) ((S.ok i t e).live f)
  apart := S.apart
  out := fun i t b e f => s.outF (S.out i t b e f) ((S.ok i t e).live f)
theorem Sat.stepNo {Γ : Ctx} {σ : L2.St} {h H h' H' : Hp} (S : Sat Γ σ h H) (s : Stp MNo h H h' H') : Sat Γ σ h' H' := S.step s fun _ _ z => z

/-! ### what an expression evaluates to -/
def Ev {α : Type} (Γ : Ctx) (te : TE) (R : Rel α) (P : α → Prop) : Prop :=
  ∀ σ h H, Sat Γ σ h H → Ex h H → ∀ Q : VK, (∀ v a h' H', P a → Stp (feet Γ) h H h' H' → Sat Γ σ h' H' → R.r a v h' → Q v H') → te σ H Q
def EvT (Γ : Ctx) (tt : TT) (P : Bool → Prop) : Prop :=
  ∀ σ h H, Sat Γ σ h H → Ex h H → ∀ Q : Bool → Hp → Prop, (∀ b h' H', P b → Stp (feet Γ) h H h' H' → Sat Γ σ h' H' → Q b H') → tt σ H Q
/-- arguments: the values' data, known things and one's own -/
def ArgsOk : List Slot → List V → Hp → Prop
  | [], [], _ => True
  | .va R a :: L, v :: vs, h => R.r a v h ∧ ArgsOk L vs h
  | .vo W :: L, v :: vs, h => v = W.val ∧ ArgsOk L vs h
  | _, _, _ => False
def EvA (Γ : Ctx) (ta : TA) (PL : List Slot → Prop) : Prop :=
  ∀ σ h H, Sat Γ σ h H → Ex h H → ∀ Q : List V → Hp → Prop, (∀ vs L h' H', PL L → Stp (feet Γ) h H h' H' → Sat Γ σ h' H' → ArgsOk L vs h' → Q vs H') → ta σ H Q
theorem ArgsOk.mono {h h' : Hp} (e : Ext h h') : ∀ {L : List Slot} {vs : List V}, ArgsOk L vs h → ArgsOk L vs h'
  | [], [], _ => trivial
  | .va R a :: L, v :: vs, k => ⟨R.mono e k.1, ArgsOk.mono e k.2⟩
  | [], _ :: _, k => k.elim
  | .no :: _, [], k => k.elim
  | .no :: _, _ :: _, k => k.elim
  | .vo _ :: _, [], k => k.elim
  | .vo _ :: _, _ :: _, k => ⟨k.1, ArgsOk.mono e k.2⟩
  | .va _ _ :: _, [], k => k.elim

/-- a pure operation on values: it makes new objects alone -/
def Op2 {α β γ : Type} (r : R2) (RA : Rel α) (RB : Rel β) (R : Rel γ) (PA : α → Prop) (PB : β → Prop) (P : γ → Prop) : Prop :=
  ∀ a b x y h H Q, PA a → PB b → RA.r a x h → RB.r b y h → Ex h H → (∀ v c h' H', P c → Stp MNo h H h' H' → R.r c v h' → Q v H') → r x y H Q
def Op1 {α γ : Type} (r : V → Hp → VK → Prop) (RA : Rel α) (R : Rel γ) (PA : α → Prop) (P : γ → Prop) : Prop :=
  ∀ a x h H Q, PA a → RA.r a x h → Ex h H → (∀ v c h' H', P c → Stp MNo h H h' H' → R.r c v h' → Q v H') → r x H Q

section
variable {α β γ : Type} {Γ : Ctx} {ta tb te : TE} {R : Rel γ} {RA : Rel α} {RB : Rel β} {P : γ → Prop} {PA : α → Prop} {PB : β → Prop}
theorem Ev.imp {P' : γ → Prop} (h : Ev Γ te R P) (k : ∀ a, P a → P' a) : Ev Γ te R P' := fun σ h0 H S e Q q => h σ h0 H S e Q fun v a h' H' p => q v a h' H' (k a p)
theorem EvT.imp {tt : TT} {P P' : Bool → Prop} (h : EvT Γ tt P) (k : ∀ a, P a → P' a) : EvT Γ tt P' := fun σ h0 H S e Q q => h σ h0 H S e Q fun a h' H' p => q a h' H' (k a p)
/-- to another reading of the same value -/
theorem Ev.cast {δ : Type} {R' : Rel δ} {P' : δ → Prop} (h : Ev Γ te R P) (k : ∀ a v h, P a → R.r a v h → ∃ b, P' b ∧ R'.r b v h) : Ev Γ te R' P' := fun σ h0 H S e Q q => h σ h0 H S e Q fun v a h' H' p s S' r => by
  obtain ⟨b, p', r'⟩ := k a v h' p r
  exact q v b h' H' p' s S' r'
theorem ev_var {i : Nat} {a : γ} (e : Γ[i]? = some (.va R a)) : Ev Γ (tVar i) R (fun x => x = a) := fun σ h H S x Q q => by
  obtain ⟨v, ev, r⟩ := S.ok i _ e
  exact ⟨v, ev, q v a h H rfl (.refl x) S r⟩
theorem ev_c {v : V} {a : γ} (r : ∀ h, R.r a v h) : Ev Γ (tC v) R (fun x => x = a) := fun σ h H S x Q q => q v a h H rfl (.refl x) S (r h)
theorem ev_op {r : R2} (ha : Ev Γ ta RA PA) (hb : Ev Γ tb RB PB) (o : Op2 r RA RB R PA PB P) : Ev Γ (tOp r ta tb) R P := fun σ h H S e Q q =>
  ha σ h H S e _ fun x a h1 H1 pa s1 S1 ra => hb σ h1 H1 S1 s1.ex _ fun y b h2 H2 pb s2 S2 rb =>
    o a b x y h2 H2 Q pa pb (RA.mono s2.kn ra) rb s2.ex fun v c h3 H3 p s3 r => q v c h3 H3 p ((s1.tr s2).tr s3.no) (S2.stepNo s3) r
theorem ev_un {r : V → Hp → VK → Prop} (ha : Ev Γ ta RA PA) (o : Op1 r RA R PA P) : Ev Γ (tUn r ta) R P := fun σ h H S e Q q =>
  ha σ h H S e _ fun x a h1 H1 pa s1 S1 ra => o a x h1 H1 Q pa ra s1.ex fun v c h3 H3 p s3 r => q v c h3 H3 p (s1.tr s3.no) (S1.stepNo s3) r
end
end QL

set_option Elab.async false
set_option linter.all false
set_option maxRecDepth 100000
namespace QL
open PySem L2

/-! ### kinds of data -/
def RI : Rel Int := ⟨fun a v _ => v = .int a, fun _ e => e⟩
def RB : Rel Bool := ⟨fun a v _ => v = .bl a, fun _ e => e⟩
def RS : Rel Str := ⟨fun a v _ => v = .str a, fun _ e => e⟩
def RN : Rel Unit := ⟨fun _ v _ => v = .non, fun _ e => e⟩
/-- any value, as it stands -/
def RV : Rel V := ⟨fun a v _ => v = a, fun _ e => e⟩
def KT (K : PySem.W.Frag) (h : Hp) (a : Addr) (xs : List V) : Prop :=
  h a = some (.tup xs) ∨ ∃ (o : Obj) (its : Array Value) (n : Nat), K.lookup a = some o ∧ o.cls = .type "tuple" ∧ o.data = .seq its n ∧ its.size ≤ sizeLine ∧ Vals xs its.toList
theorem KT.mono {K : PySem.W.Frag} {h h' : Hp} {a : Addr} {xs : List V} (e : Ext h h') : KT K h a xs → KT K h' a xs := fun z => z.imp (e a _) id
theorem sqL {K : PySem.W.Frag} {h H : Hp} {a : Addr} {xs : List V} (e : Ex h H) (z : h a = some (.lst xs)) : SqL K H a xs := .inl (e.rd z)
theorem KT.sq {K : PySem.W.Frag} {h H : Hp} {a : Addr} {xs : List V} (e : Ex h H) : KT K h a xs → SqT K H a xs := fun z => z.imp (fun z => e.rd z) id
def Reps {α : Type} (R : Rel α) (h : Hp) : List α → List V → Prop := Paired fun a v => R.r a v h
theorem Reps.mono {α : Type} {R : Rel α} {h h' : Hp} (e : Ext h h') {as : List α} {vs : List V} (r : Reps R h as vs) : Reps R h' as vs := Paired.mapP r fun _ _ q => R.mono e q
theorem Reps.len {α : Type} {R : Rel α} {h : Hp} {as : List α} {vs : List V} (r : Reps R h as vs) : as.length = vs.length := Paired.length r
theorem Reps.get {α : Type} {R : Rel α} {h : Hp} {as : List α} {vs : List V} {i : Nat} {v : V} (r : Reps R h as vs) (e : vs[i]? = some v) : ∃ a, as[i]? = some a ∧ R.r a v h := by
  have pr : Paired (fun a v => R.r a v h) as vs := r
  clear r
  induction pr generalizing i with
  | nil => exact absurd e (by simp)
  | cons q _ ih =>
    cases i with
    | zero => exact ⟨_, rfl, Option.some.inj e ▸ q⟩
    | succ n => exact ih e
theorem Reps.get' {α : Type} {R : Rel α} {h : Hp} {as : List α} {vs : List V} {i : Nat} {a : α} (r : Reps R h as vs) (e : as[i]? = some a) : ∃ v, vs[i]? = some v ∧ R.r a v h := by
  have pr : Paired (fun a v => R.r a v h) as vs := r
  clear r
  induction pr generalizing i with
  | nil => exact absurd e (by simp)
  | cons q _ ih =>
    cases i with
    | zero => exact ⟨_, rfl, Option.some.inj e ▸ q⟩
    | succ n => exact ih e
theorem Reps.append {α : Type} {R : Rel α} {h : Hp} : ∀ {as bs : List α} {vs ws : List V}, Reps R h as vs → Reps R h bs ws → Reps R h (as ++ bs) (vs ++ ws)
  | _, _, _, _, .nil, q => q
  | _, _, _, _, .cons r t, q => .cons r (Reps.append t q)
def RL {α : Type} (R : Rel α) : Rel (List α) :=
  ⟨fun as v h => ∃ p vs, v = .ref p ∧ h p = some (.lst vs) ∧ Reps R h as vs, fun e ⟨p, vs, q, k, r⟩ => ⟨p, vs, q, e _ _ k, r.mono e⟩⟩
/-- the script, known to the object -/
def KL (K : PySem.W.Frag) (h : Hp) (a : Addr) (xs : List V) : Prop :=
  (∃ ob, h a = some (.frz ob (.lst xs))) ∨ ∃ (o : Obj) (its : Array Value) (n : Nat), K.lookup a = some o ∧ o.cls = .type "list" ∧ o.dict = none ∧ o.data = .seq its n ∧ its.size ≤ sizeLine ∧ Vals xs its.toList
theorem KL.mono {K : PySem.W.Frag} {h h' : Hp} {a : Addr} {xs : List V} (e : Ext h h') : KL K h a xs → KL K h' a xs := fun z => z.imp (fun ⟨ob, q⟩ => ⟨ob, e _ _ q⟩) id
theorem KL.sq {K : PySem.W.Frag} {h H : Hp} {a : Addr} {xs : List V} (e : Ex h H) : KL K h a xs → SqL K H a xs := fun z => z.imp (fun ⟨ob, q⟩ => .inr ⟨ob, e.frz q⟩) id
def RScr (K : PySem.W.Frag) : Rel (List Int) :=
  ⟨fun as v h => ∃ p, v = .ref p ∧ KL K h p (as.map V.int), fun e ⟨p, q, k⟩ => ⟨p, q, k.mono e⟩⟩
/-- a tuple whose items are all alike -/
def RTs {α : Type} (K : PySem.W.Frag) (R : Rel α) : Rel (List α) :=
  ⟨fun as v h => ∃ p vs, v = .ref p ∧ KT K h p vs ∧ Reps R h as vs, fun e ⟨p, vs, q, k, r⟩ => ⟨p, vs, q, k.mono e, r.mono e⟩⟩
def RT2 {α β : Type} (K : PySem.W.Frag) (R : Rel α) (S : Rel β) : Rel (α × β) :=
  ⟨fun a v h => ∃ p x y, v = .ref p ∧ KT K h p [x, y] ∧ R.r a.1 x h ∧ S.r a.2 y h, fun e ⟨p, x, y, q, k, r, s⟩ => ⟨p, x, y, q, k.mono e, R.mono e r, S.mono e s⟩⟩
def RT3 {α β γ : Type} (K : PySem.W.Frag) (R : Rel α) (S : Rel β) (T : Rel γ) : Rel (α × β × γ) :=
  ⟨fun a v h => ∃ p x y z, v = .ref p ∧ KT K h p [x, y, z] ∧ R.r a.1 x h ∧ S.r a.2.1 y h ∧ T.r a.2.2 z h, fun e ⟨p, x, y, z, q, k, r, s, t⟩ => ⟨p, x, y, z, q, k.mono e, R.mono e r, S.mono e s, T.mono e t⟩⟩
def KVs {α : Type} (R : Rel α) (h : Hp) : List (Str × α) → List (Key × V) → Prop := Paired fun a k => k.1 = Sum.inr a.1 ∧ R.r a.2 k.2 h
theorem KVs.mono {α : Type} {R : Rel α} {h h' : Hp} (e : Ext h h') {as : List (Str × α)} {vs : List (Key × V)} (r : KVs R h as vs) : KVs R h' as vs := Paired.mapP r fun _ _ q => ⟨q.1, R.mono e q.2⟩
/-- a dict from texts -/
def RD {α : Type} (R : Rel α) : Rel (List (Str × α)) :=
  ⟨fun as v h => ∃ p kvs, v = .ref p ∧ h p = some (.dK kvs) ∧ KVs R h as kvs, fun e ⟨p, vs, q, k, r⟩ => ⟨p, vs, q, e _ _ k, r.mono e⟩⟩
/-- the one or the other -/
def ROr {α β : Type} (R : Rel α) (S : Rel β) : Rel (α ⊕ β) :=
  ⟨fun a v h => match a with | .inl a => R.r a v h | .inr b => S.r b v h, fun {a v h h'} e q => by cases a with | inl a => exact R.mono e q | inr b => exact S.mono e q⟩

/-! ### operators on numbers and texts -/
section
variable {α β γ : Type} {R : Rel γ} {P : γ → Prop} {PA PB : Int → Prop}
theorem o2_I0 {g : Int → Int → V} (k : ∀ a b, PA a → PB b → ∃ c, P c ∧ ∀ h, R.r c (g a b) h) : Op2 (rI0 g) RI RI R PA PB P := fun a b x y h H Q pa pb ra rb e q => by
  obtain ⟨c, p, r⟩ := k a b pa pb
  exact ⟨a, b, ra, rb, q _ c h H p (.refl e) (r h)⟩
theorem o2_I {C : Int → Int → Prop} {g : Int → Int → V} (k : ∀ a b, PA a → PB b → C a b ∧ ∃ c, P c ∧ ∀ h, R.r c (g a b) h) : Op2 (rI C g) RI RI R PA PB P := fun a b x y h H Q pa pb ra rb e q => by
  obtain ⟨hc, c, p, r⟩ := k a b pa pb
  exact ⟨a, b, ra, rb, hc, q _ c h H p (.refl e) (r h)⟩
theorem o2_add {P : Int → Prop} (k : ∀ a b, PA a → PB b → P (a + b)) : Op2 (rI0 fun i j => .int (i + j)) RI RI RI PA PB P := o2_I0 fun a b pa pb => ⟨a + b, k a b pa pb, fun _ => rfl⟩
theorem o2_sub {P : Int → Prop} (k : ∀ a b, PA a → PB b → P (a - b)) : Op2 (rI0 fun i j => .int (i - j)) RI RI RI PA PB P := o2_I0 fun a b pa pb => ⟨a - b, k a b pa pb, fun _ => rfl⟩
theorem o2_mul {P : Int → Prop} (k : ∀ a b, PA a → PB b → CMul a b ∧ P (a * b)) : Op2 (rI CMul fun i j => .int (i * j)) RI RI RI PA PB P := o2_I fun a b pa pb => ⟨(k a b pa pb).1, a * b, (k a b pa pb).2, fun _ => rfl⟩
theorem o2_fdiv {P : Int → Prop} (k : ∀ a b, PA a → PB b → CDiv a b ∧ P (a / b)) : Op2 (rI CDiv fun i j => .int (i / j)) RI RI RI PA PB P := o2_I fun a b pa pb => ⟨(k a b pa pb).1, a / b, (k a b pa pb).2, fun _ => rfl⟩
theorem o2_mod {P : Int → Prop} (k : ∀ a b, PA a → PB b → 0 < b ∧ P (a % b)) : Op2 (rI (fun _ j => 0 < j) fun i j => .int (i % j)) RI RI RI PA PB P := o2_I fun a b pa pb => ⟨(k a b pa pb).1, a % b, (k a b pa pb).2, fun _ => rfl⟩
theorem o2_pow {P : Int → Prop} (k : ∀ a b, PA a → PB b → CPow a b ∧ P (a ^ b.toNat)) : Op2 (rI CPow fun i j => .int (i ^ j.toNat)) RI RI RI PA PB P := o2_I fun a b pa pb => ⟨(k a b pa pb).1, a ^ b.toNat, (k a b pa pb).2, fun _ => rfl⟩
theorem o2_lt {P : Bool → Prop} (k : ∀ a b, PA a → PB b → P (decide (a < b))) : Op2 (rI0 fun i j => .bl (decide (i < j))) RI RI RB PA PB P := o2_I0 fun a b pa pb => ⟨_, k a b pa pb, fun _ => rfl⟩
theorem o2_le {P : Bool → Prop} (k : ∀ a b, PA a → PB b → P (decide (a ≤ b))) : Op2 (rI0 fun i j => .bl (decide (i ≤ j))) RI RI RB PA PB P := o2_I0 fun a b pa pb => ⟨_, k a b pa pb, fun _ => rfl⟩
theorem o2_gt {P : Bool → Prop} (k : ∀ a b, PA a → PB b → P (decide (b < a))) : Op2 (rI0 fun i j => .bl (decide (j < i))) RI RI RB PA PB P := o2_I0 fun a b pa pb => ⟨_, k a b pa pb, fun _ => rfl⟩
theorem o2_ge {P : Bool → Prop} (k : ∀ a b, PA a → PB b → P (decide (b ≤ a))) : Op2 (rI0 fun i j => .bl (decide (j ≤ i))) RI RI RB PA PB P := o2_I0 fun a b pa pb => ⟨_, k a b pa pb, fun _ => rfl⟩
/-- == and != of two numbers, of two texts -/
theorem o2_eqI {P : Bool → Prop} (k : ∀ a b, PA a → PB b → P (decide (a = b))) : Op2 rEq RI RI RB PA PB P := fun a b x y h H Q pa pb ra rb e q => by
  cases ra; cases rb
  refine ⟨rfl, q _ (decide (a = b)) h H (k a b pa pb) (.refl e) ?_⟩
  show V.bl _ = V.bl _
  simp
theorem o2_neI {P : Bool → Prop} (k : ∀ a b, PA a → PB b → P (!decide (a = b))) : Op2 rNe RI RI RB PA PB P := fun a b x y h H Q pa pb ra rb e q => by
  cases ra; cases rb
  refine ⟨rfl, q _ (!decide (a = b)) h H (k a b pa pb) (.refl e) ?_⟩
  show V.bl _ = V.bl _
  simp
theorem o2_eqS {PA PB : Str → Prop} {P : Bool → Prop} (k : ∀ a b, PA a → PB b → P (decide (a = b))) : Op2 rEq RS RS RB PA PB P := fun a b x y h H Q pa pb ra rb e q => by
  cases ra; cases rb
  refine ⟨rfl, q _ (decide (a = b)) h H (k a b pa pb) (.refl e) ?_⟩
  show V.bl _ = V.bl _
  simp
theorem o2_neS {PA PB : Str → Prop} {P : Bool → Prop} (k : ∀ a b, PA a → PB b → P (!decide (a = b))) : Op2 rNe RS RS RB PA PB P := fun a b x y h H Q pa pb ra rb e q => by
  cases ra; cases rb
  refine ⟨rfl, q _ (!decide (a = b)) h H (k a b pa pb) (.refl e) ?_⟩
  show V.bl _ = V.bl _
  simp
def rCatS : R2 := fun u v G T => ∃ a b, u = .str a ∧ v = .str b ∧ a.length + b.length ≤ sizeLine ∧ T (.str (a ++ b)) G
theorem o2_catS {PA PB : Str → Prop} {P : Str → Prop} (k : ∀ a b, PA a → PB b → a.length + b.length ≤ sizeLine ∧ P (a ++ b)) : Op2 rCatS RS RS RS PA PB P := fun a b x y h H Q pa pb ra rb e q => by
  cases ra; cases rb
  exact ⟨a, b, rfl, rfl, (k a b pa pb).1, q _ _ h H (k a b pa pb).2 (.refl e) rfl⟩
theorem o1_neg {P : Int → Prop} (k : ∀ a, PA a → P (-a)) : Op1 (rU fun i => .int (-i)) RI RI PA P := fun a x h H Q pa ra e q => ⟨a, ra, q _ (-a) h H (k a pa) (.refl e) rfl⟩
end

/-! ### tests -/
section
variable {Γ : Ctx} {te : TE} {t u : TT} {P P1 P2 : Bool → Prop}
theorem et_val (h : Ev Γ te RB P) : EvT Γ (tB te) P := fun σ h0 H S e Q q => h σ h0 H S e _ fun v a h' H' p s S' r => ⟨a, r, q a h' H' p s S'⟩
theorem et_test (h : Ev Γ te RB P) : EvT Γ (tTest te) P := fun σ h0 H S e Q q => h σ h0 H S e _ fun v a h' H' p s S' r => ⟨a, r, q a h' H' p s S'⟩
theorem et_not (h : EvT Γ t P1) (k : ∀ b, P1 b → P (!b)) : EvT Γ (tNot t) P := fun σ h0 H S e Q q => h σ h0 H S e _ fun a h' H' p s S' => q (!a) h' H' (k a p) s S'
theorem et_and (h1 : EvT Γ t P1) (h2 : P1 true → EvT Γ u P2) (k0 : P1 false → P false) (k1 : ∀ b, P1 true → P2 b → P b) : EvT Γ (tAnd t u) P := fun σ h0 H S e Q q =>
  h1 σ h0 H S e _ fun a h' H' p s S' => by
    cases a with
    | true =>
      show (if true = true then _ else _); rw [if_pos rfl]
      exact h2 p σ h' H' S' s.ex _ fun b h2 H2 p2 s2 S2 => q b h2 H2 (k1 b p p2) (s.tr s2) S2
    | false =>
      show (if false = true then _ else _); rw [if_neg Bool.false_ne_true]
      exact q false h' H' (k0 p) s S'
theorem et_or (h1 : EvT Γ t P1) (h2 : P1 false → EvT Γ u P2) (k0 : P1 true → P true) (k1 : ∀ b, P1 false → P2 b → P b) : EvT Γ (tOr t u) P := fun σ h0 H S e Q q =>
  h1 σ h0 H S e _ fun a h' H' p s S' => by
    cases a with
    | false =>
      show (if false = true then _ else _); rw [if_neg Bool.false_ne_true]
      exact h2 p σ h' H' S' s.ex _ fun b h2 H2 p2 s2 S2 => q b h2 H2 (k1 b p p2) (s.tr s2) S2
    | true =>
      show (if true = true then _ else _); rw [if_pos rfl]
      exact q true h' H' (k0 p) s S'
variable {ta tb : TE}
theorem ev_andV (h1 : Ev Γ ta RB P1) (h2 : P1 true → Ev Γ tb RB P2) (k0 : P1 false → P false) (k1 : ∀ b, P1 true → P2 b → P b) : Ev Γ (tAndV ta tb) RB P := fun σ h0 H S e Q q =>
  h1 σ h0 H S e _ fun v a h' H' p s S' r => by
    refine ⟨a, r, ?_⟩
    cases a with
    | true =>
      rw [if_pos rfl]
      exact h2 p σ h' H' S' s.ex _ fun v b h2 H2 p2 s2 S2 r2 => q v b h2 H2 (k1 b p p2) (s.tr s2) S2 r2
    | false =>
      rw [if_neg Bool.false_ne_true]; exact q _ false h' H' (k0 p) s S' rfl
theorem ev_orV (h1 : Ev Γ ta RB P1) (h2 : P1 false → Ev Γ tb RB P2) (k0 : P1 true → P true) (k1 : ∀ b, P1 false → P2 b → P b) : Ev Γ (tOrV ta tb) RB P := fun σ h0 H S e Q q =>
  h1 σ h0 H S e _ fun v a h' H' p s S' r => by
    refine ⟨a, r, ?_⟩
    cases a with
    | false =>
      rw [if_neg Bool.false_ne_true]; exact h2 p σ h' H' S' s.ex _ fun v b h2 H2 p2 s2 S2 r2 => q v b h2 H2 (k1 b p p2) (s.tr s2) S2 r2
    | true =>
      rw [if_pos rfl]
      exact q _ true h' H' (k0 p) s S' rfl
theorem ev_notV (h : Ev Γ ta RB P1) (k : ∀ b, P1 b → P (!b)) : Ev Γ (tNotV ta) RB P := fun σ h0 H S e Q q =>
  h σ h0 H S e _ fun v a h' H' p s S' r => ⟨a, r, q _ (!a) h' H' (k a p) s S' rfl⟩
theorem ev_if {γ : Type} {R : Rel γ} {PR : γ → Prop} (h : EvT Γ t P1) (h1 : P1 true → Ev Γ ta R PR) (h2 : P1 false → Ev Γ tb R PR) : Ev Γ (tIf t ta tb) R PR := fun σ h0 H S e Q q =>
  h σ h0 H S e _ fun a h' H' p s S' => by
    cases a with
    | true =>
      show (if true = true then _ else _); rw [if_pos rfl]
      exact h1 p σ h' H' S' s.ex _ fun v b h2 H2 p2 s2 S2 r2 => q v b h2 H2 p2 (s.tr s2) S2 r2
    | false =>
      show (if false = true then _ else _); rw [if_neg Bool.false_ne_true]
      exact h2 p σ h' H' S' s.ex _ fun v b h2 H2 p2 s2 S2 r2 => q v b h2 H2 p2 (s.tr s2) S2 r2
end

/-! ### arguments, displays, items -/
section
variable {α β γ : Type} {Γ : Ctx} {ta tb te : TE} {tr : TA} {R : Rel γ} {RA : Rel α} {RB : Rel β} {P : γ → Prop} {PA : α → Prop} {PB : β → Prop} {PL : List Slot → Prop} {K : PySem.W.Frag}
theorem ea_nil : EvA Γ tNil (fun L => L = []) := fun σ h H S e Q q => q [] [] h H rfl (.refl e) S trivial
theorem ea_cons (h : Ev Γ ta RA PA) (hr : EvA Γ tr PL) : EvA Γ (tCons ta tr) (fun L => ∃ a L', L = .va RA a :: L' ∧ PA a ∧ PL L') := fun σ h0 H S e Q q =>
  h σ h0 H S e _ fun v a h1 H1 p s1 S1 r => hr σ h1 H1 S1 s1.ex _ fun vs L h2 H2 pl s2 S2 ok => q (v :: vs) (.va RA a :: L) h2 H2 ⟨a, L, rfl, p, pl⟩ (s1.tr s2) S2 ⟨RA.mono s2.kn r, ok⟩
theorem ea_vo {i : Nat} {W : Vol} (e : Γ[i]? = some (.vo W)) (hr : EvA Γ tr PL) : EvA Γ (tCons (tVar i) tr) (fun L => ∃ L', L = .vo W :: L' ∧ PL L') := fun σ h0 H S x Q q =>
  ⟨W.val, (S.ok i _ e).1, hr σ h0 H S x _ fun vs L h2 H2 pl s2 S2 ok => q (W.val :: vs) (.vo W :: L) h2 H2 ⟨L, rfl, pl⟩ s2 S2 ⟨rfl, ok⟩⟩
theorem EvA.imp {PL' : List Slot → Prop} (h : EvA Γ tr PL) (k : ∀ L, PL L → PL' L) : EvA Γ tr PL' := fun σ h0 H S e Q q => h σ h0 H S e Q fun vs L h' H' p => q vs L h' H' (k L p)
/-- items of one kind, in a row -/
def EvAs (Γ : Ctx) (ta : TA) (R : Rel γ) (P : List γ → Prop) : Prop :=
  ∀ σ h H, Sat Γ σ h H → Ex h H → ∀ Q : List V → Hp → Prop, (∀ vs as h' H', P as → Stp (feet Γ) h H h' H' → Sat Γ σ h' H' → Reps R h' as vs → Q vs H') → ta σ H Q
theorem eas_nil : EvAs Γ tNil R (fun l => l = []) := fun σ h H S e Q q => q [] [] h H rfl (.refl e) S .nil
theorem eas_cons {PS PS' : List γ → Prop} (h : Ev Γ ta R P) (hr : EvAs Γ tr R PS) (k : ∀ a l, P a → PS l → PS' (a :: l)) : EvAs Γ (tCons ta tr) R PS' := fun σ h0 H S e Q q =>
  h σ h0 H S e _ fun v a h1 H1 p s1 S1 r => hr σ h1 H1 S1 s1.ex _ fun vs as h2 H2 ps s2 S2 rs => q (v :: vs) (a :: as) h2 H2 (k a as p ps) (s1.tr s2) S2 (.cons (R.mono s2.kn r) rs)
theorem Reps.at {α : Type} {R : Rel α} {h : Hp} {as : List α} {vs : List V} (r : Reps R h as vs) : vs.length = as.length := (Reps.len r).symm
theorem ev_lst {PS : List γ → Prop} (h : EvAs Γ tr R PS) (hl : ∀ l, PS l → l.length ≤ 1000) : Ev Γ (tLst tr) (RL R) PS := fun σ h0 H S e Q q =>
  h σ h0 H S e _ fun vs as h1 H1 p s1 S1 rs => ⟨Nat.le_trans (by rw [← rs.len]; exact hl _ p) (by decide), fun a na => by
    have st : Stp MNo h1 H1 (upd h1 a (.lst vs)) (upd H1 a (.lst vs)) := .new s1.ex na
    exact q _ as _ _ p (s1.tr st.no) (S1.stepNo st) ⟨a, vs, rfl, upd_same, rs.mono st.kn⟩⟩
theorem ev_tups {PS : List γ → Prop} (h : EvAs Γ tr R PS) (hl : ∀ l, PS l → l.length ≤ 1000) : Ev Γ (tTup tr) (RTs K R) PS := fun σ h0 H S e Q q =>
  h σ h0 H S e _ fun vs as h1 H1 p s1 S1 rs => ⟨Nat.le_trans (by rw [← rs.len]; exact hl _ p) (by decide), fun a na => by
    have st : Stp MNo h1 H1 (upd h1 a (.tup vs)) (upd H1 a (.tup vs)) := .new s1.ex na
    exact q _ as _ _ p (s1.tr st.no) (S1.stepNo st) ⟨a, vs, rfl, .inl upd_same, rs.mono st.kn⟩⟩
theorem ev_t2 {P2 : α × β → Prop} (h1 : Ev Γ ta RA PA) (h2 : Ev Γ tb RB PB) (k : ∀ a b, PA a → PB b → P2 (a, b)) : Ev Γ (tTup (tCons ta (tCons tb tNil))) (RT2 K RA RB) P2 := fun σ h0 H S e Q q =>
  h1 σ h0 H S e _ fun x a h1 H1 pa s1 S1 ra => h2 σ h1 H1 S1 s1.ex _ fun y b h2 H2 pb s2 S2 rb => ⟨show 2 ≤ sizeLine by decide, fun p np => by
    have st : Stp MNo h2 H2 (upd h2 p (.tup [x, y])) (upd H2 p (.tup [x, y])) := .new s2.ex np
    exact q _ (a, b) _ _ (k a b pa pb) ((s1.tr s2).tr st.no) (S2.stepNo st) ⟨p, x, y, rfl, .inl upd_same, RA.mono (s2.kn.trans st.kn) ra, RB.mono st.kn rb⟩⟩
theorem ev_t3 {tc : TE} {RC : Rel γ} {PC : γ → Prop} {P3 : α × β × γ → Prop} (h1 : Ev Γ ta RA PA) (h2 : Ev Γ tb RB PB) (h3 : Ev Γ tc RC PC) (k : ∀ a b c, PA a → PB b → PC c → P3 (a, b, c)) :
    Ev Γ (tTup (tCons ta (tCons tb (tCons tc tNil)))) (RT3 K RA RB RC) P3 := fun σ h0 H S e Q q =>
  h1 σ h0 H S e _ fun x a h1 H1 pa s1 S1 ra => h2 σ h1 H1 S1 s1.ex _ fun y b h2 H2 pb s2 S2 rb => h3 σ h2 H2 S2 s2.ex _ fun z c h3 H3 pc s3 S3 rc => ⟨show 3 ≤ sizeLine by decide, fun p np => by
    have st : Stp MNo h3 H3 (upd h3 p (.tup [x, y, z])) (upd H3 p (.tup [x, y, z])) := .new s3.ex np
    exact q _ (a, b, c) _ _ (k a b c pa pb pc) (((s1.tr s2).tr s3).tr st.no) (S3.stepNo st) ⟨p, x, y, z, rfl, .inl upd_same, RA.mono ((s2.kn.trans s3.kn).trans st.kn) ra, RB.mono (s3.kn.trans st.kn) rb, RC.mono st.kn rc⟩⟩
/-- items of tuples of two, of three -/
theorem ev_fst {P2 : α × β → Prop} (h : Ev Γ te (RT2 K RA RB) P2) (k : ∀ a, P2 a → PA a.1) : Ev Γ (tOp (rIxT K) te (tC (.int 0))) RA PA := fun σ h0 H S e Q q =>
  h σ h0 H S e _ fun v a h1 H1 p s1 S1 ⟨d, x, y, ev, kt, ra, rb⟩ => ⟨d, [x, y], 0, x, ev, rfl, kt.sq s1.ex, rfl, q x a.1 h1 H1 (k a p) s1 S1 ra⟩
theorem ev_snd {P2 : α × β → Prop} (h : Ev Γ te (RT2 K RA RB) P2) (k : ∀ a, P2 a → PB a.2) : Ev Γ (tOp (rIxT K) te (tC (.int 1))) RB PB := fun σ h0 H S e Q q =>
  h σ h0 H S e _ fun v a h1 H1 p s1 S1 ⟨d, x, y, ev, kt, ra, rb⟩ => ⟨d, [x, y], 1, y, ev, rfl, kt.sq s1.ex, rfl, q y a.2 h1 H1 (k a p) s1 S1 rb⟩
/-- xs[i] of a list, 0 <= i -/
theorem o2_ixL {PS : List γ → Prop} {PI : Int → Prop} (k : ∀ l i, PS l → PI i → ∃ (j : Nat) (a : γ), i = (j : Int) ∧ l[j]? = some a ∧ P a) : Op2 (rIxL K) (RL R) RI R PS PI P := fun l i x y h H Q pl pi rl ri e q => by
  obtain ⟨p, vs, ev, kl, rs⟩ := rl
  obtain ⟨j, a, rfl, ea, pa⟩ := k l i pl pi
  obtain ⟨v, evs, ra⟩ := rs.get' ea
  exact ⟨p, vs, _, v, ev, ri, sqL e kl, atI_nat evs, q v a h H pa (.refl e) ra⟩
theorem o2_ixTs {PS : List γ → Prop} {PI : Int → Prop} (k : ∀ l i, PS l → PI i → ∃ (j : Nat) (a : γ), i = (j : Int) ∧ l[j]? = some a ∧ P a) : Op2 (rIxT K) (RTs K R) RI R PS PI P := fun l i x y h H Q pl pi rl ri e q => by
  obtain ⟨p, vs, ev, kl, rs⟩ := rl
  obtain ⟨j, a, rfl, ea, pa⟩ := k l i pl pi
  obtain ⟨v, evs, ra⟩ := rs.get' ea
  exact ⟨p, vs, _, v, ev, ri, kl.sq e, atI_nat evs, q v a h H pa (.refl e) ra⟩
/-- s[i] of a text -/
theorem o2_ixS {PS : Str → Prop} {PI : Int → Prop} {P : Str → Prop} (k : ∀ z i, PS z → PI i → z.length ≤ sizeLine ∧ ∃ (j : Nat) (c : Nat), i = (j : Int) ∧ z.cps.toList[j]? = some c ∧ P ⟨#[c]⟩) : Op2 rIxS RS RI RS PS PI P := fun z i x y h H Q pz pi rz ri e q => by
  obtain ⟨hl, j, c, rfl, ec, pc⟩ := k z i pz pi
  exact ⟨z, _, c, rz, ri, hl, atI_nat ec, q _ _ h H pc (.refl e) rfl⟩
/-- xs + ys of lists -/
theorem o2_cat {PS PT PU : List γ → Prop} (k : ∀ l m, PS l → PT m → l.length + m.length ≤ 1000 ∧ PU (l ++ m)) : Op2 rCat (RL R) (RL R) (RL R) PS PT PU := fun l m x y h H Q pl pm rl rm e q => by
  obtain ⟨p, vs, ev, hp, rs⟩ := rl
  obtain ⟨p', vs', ev', hp', rs'⟩ := rm
  obtain ⟨kl, ku⟩ := k l m pl pm
  refine ⟨p, p', vs, vs', ev, ev', e.lst hp, e.lst hp', ?_, fun d nd => ?_⟩
  · rw [← rs.len, ← rs'.len]; exact Nat.le_trans kl (by decide)
  · have st : Stp MNo h H (upd h d (.lst (vs ++ vs'))) (upd H d (.lst (vs ++ vs'))) := .new e nd
    exact q _ (l ++ m) _ _ ku st ⟨d, vs ++ vs', rfl, upd_same, (rs.append rs').mono st.kn⟩
end
end QL

set_option Elab.async false
set_option linter.all false
set_option maxRecDepth 100000
namespace QL
open PySem L2

/-! ### contexts -/
theorem feet_set {Γ : Ctx} {i : Nat} {s : Slot} {b : Addr} (h : feet (Γ.set i s) b) : s.foot b ∨ feet Γ b := by
  obtain ⟨j, t, e, f⟩ := h
  by_cases z : i = j
  · subst z
    by_cases l : i < Γ.length
    · rw [List.getElem?_set_self l] at e; cases e; exact .inl f
    · rw [List.getElem?_eq_none (by rw [List.length_set]; omega)] at e; cases e
  · rw [List.getElem?_set_ne z] at e; exact .inr ⟨j, t, e, f⟩
theorem Sat.put {Γ : Ctx} {σ : L2.St} {h H : Hp} {i : Nat} {s : Slot} {x : Option V} (S : Sat Γ σ h H) (k : SlotOk s (some x) h H) (f : ∀ b, s.foot b → ¬ feet Γ b ∧ h b = none) (l : i < Γ.length) : Sat (Γ.set i s) (σ.set i x) h H where
  len := by rw [List.length_set, List.length_set]; exact S.len
  ok := fun j t e => by
    by_cases z : i = j
    · subst z
      rw [List.getElem?_set_self l] at e; cases e
      rw [List.getElem?_set_self (by rw [S.len]; exact l)]
      exact k
    · rw [List.getElem?_set_ne z] at e
      rw [List.getElem?_set_ne z]
      exact S.ok j t e
  apart := fun j m t u b e1 e2 f1 f2 => by
    by_cases z1 : i = j <;> by_cases z2 : i = m
    · omega
    · subst z1
      rw [List.getElem?_set_self l] at e1; cases e1
      rw [List.getElem?_set_ne z2] at e2
      exact absurd ⟨m, u, e2, f2⟩ (f b f1).1
    · subst z2
      rw [List.getElem?_set_self l] at e2; cases e2
      rw [List.getElem?_set_ne z1] at e1
      exact absurd ⟨j, t, e1, f1⟩ (f b f2).1
    · rw [List.getElem?_set_ne z1] at e1
      rw [List.getElem?_set_ne z2] at e2
      exact S.apart j m t u b e1 e2 f1 f2
  out := fun j t b e f1 => by
    by_cases z : i = j
    · subst z
      rw [List.getElem?_set_self l] at e; cases e
      exact (f b f1).2
    · rw [List.getElem?_set_ne z] at e
      exact S.out j t b e f1
theorem Sat.putV {Γ : Ctx} {σ : L2.St} {h H : Hp} {i : Nat} {γ : Type} {R : Rel γ} {a : γ} {v : V} (S : Sat Γ σ h H) (r : R.r a v h) (l : i < Γ.length) : Sat (Γ.set i (.va R a)) (σ.set i (some v)) h H :=
  S.put ⟨v, rfl, r⟩ (fun _ z => z.elim) l
/-- less is known -/
def Le (Γ Γ' : Ctx) : Prop := Γ.length = Γ'.length ∧ ∀ (i : Nat) (s : Slot), Γ'[i]? = some s → s = .no ∨ Γ[i]? = some s
theorem Le.refl (Γ : Ctx) : Le Γ Γ := ⟨rfl, fun _ _ e => .inr e⟩
theorem Le.feet {Γ Γ' : Ctx} (l : Le Γ Γ') {b : Addr} (f : feet Γ' b) : QL.feet Γ b := by
  obtain ⟨i, s, e, f⟩ := f
  rcases l.2 i s e with rfl | z
  · exact f.elim
  · exact ⟨i, s, z, f⟩
theorem Sat.le {Γ Γ' : Ctx} {σ : L2.St} {h H : Hp} (S : Sat Γ σ h H) (l : Le Γ Γ') : Sat Γ' σ h H where
  len := S.len.trans l.1
  ok := fun i s e => by
    rcases l.2 i s e with rfl | z
    · trivial
    · exact S.ok i s z
  apart := fun i j s t b e1 e2 f1 f2 => by
    rcases l.2 i s e1 with rfl | z1
    · exact f1.elim
    rcases l.2 j t e2 with rfl | z2
    · exact f2.elim
    exact S.apart i j s t b z1 z2 f1 f2
  out := fun i s b e f => by
    rcases l.2 i s e with rfl | z
    · exact f.elim
    · exact S.out i s b z f

/-! ### statements -/
structure Fr where
  h : Hp
  H : Hp
  M : Addr → Prop
def Fr.le (F F' : Fr) : Prop := Stp F.M F.h F.H F'.h F'.H ∧ ∀ b, F'.M b → F.M b ∨ F.H b = none
def At (F : Fr) (Γ : Ctx) (q : L2.St → Hp → Prop) : Prop := ∀ σ h H, Sat Γ σ h H → Stp F.M F.h F.H h H → (∀ b, feet Γ b → F.M b ∨ F.H b = none) → q σ H
theorem back_none {h H h' H' : Hp} {M : Addr → Prop} (s : Stp M h H h' H') {b : Addr} (n : H' b = none) : H b = none := by
  cases q : H b with
  | none => rfl
  | some o => exact absurd n (s.live b (ne_some q))
theorem Fr.le.step {F F' : Fr} (l : F.le F') {h H : Hp} (s : Stp F'.M F'.h F'.H h H) : Stp F.M F.h F.H h H := l.1.trans s l.2
theorem Fr.le.foot {F F' : Fr} (l : F.le F') {b : Addr} (s : F'.M b ∨ F'.H b = none) : F.M b ∨ F.H b = none := s.elim (l.2 b) fun n => .inr (back_none l.1 n)
theorem At.up {F F' : Fr} {Γ : Ctx} {q : L2.St → Hp → Prop} (k : At F Γ q) (l : F.le F') : At F' Γ q := fun σ h H S s f => k σ h H S (l.step s) fun b z => l.foot (f b z)
theorem At.le {F : Fr} {Γ Γ' : Ctx} {q : L2.St → Hp → Prop} (k : At F Γ' q) (l : Le Γ Γ') : At F Γ q := fun σ h H S s f => k σ h H (S.le l) s fun b z => f b (l.feet z)
/-- what a return wants; Ws: the caller's things that may have changed -/
def RtOk {γ : Type} (F : Fr) (L : List Slot) (R : Rel γ) (P : γ → Prop) (q : VK) : Prop :=
  ∀ v a h H, P a → Stp F.M F.h F.H h H → (∀ W, Slot.vo W ∈ L → W.r h H) → R.r a v h → q v H
theorem RtOk.up {γ : Type} {F F' : Fr} {L : List Slot} {R : Rel γ} {P : γ → Prop} {q : VK} (k : RtOk F L R P q) (l : F.le F') : RtOk F' L R P q := fun v a h H p s w r => k v a h H p (l.step s) w r
theorem RtOk.imp {γ : Type} {F : Fr} {L : List Slot} {R : Rel γ} {P P' : γ → Prop} {q : VK} (k : RtOk F L R P q) (i : ∀ a, P' a → P a) : RtOk F L R P' q := fun v a h H p s w r => k v a h H (i a p) s w r

section
variable {γ α β : Type} {F : Fr} {Γ : Ctx} {R : Rel γ} {P : γ → Prop} {te : TE} {D : Ends} {t u : TS} {i : Nat}
theorem at_seq (k : At F Γ (t { D with nx := u D })) : At F Γ (tSeq t u D) := k
theorem feet_stp {Γ : Ctx} {σ : L2.St} {h0 h H h' H' : Hp} {H0 : Hp} {M : Addr → Prop} (s0 : Stp M h0 H0 h H) (s : Stp (feet Γ) h H h' H') (f : ∀ b, feet Γ b → M b ∨ H0 b = none) : Stp M h0 H0 h' H' := s0.trans s f
theorem at_set (k : Ev Γ te R P) (n : ∀ a, P a → At F (Γ.set i (.va R a)) D.nx) (l : i < Γ.length := by (simp only [List.length_cons, List.length_nil, List.length_set]; omega)) : At F Γ (tAsg te (gName i) D) := fun σ h H S s f =>
  k σ h H S s.ex _ fun v a h' H' p s' S' r => n a p _ h' H' (S'.putV r l) (feet_stp (Γ := Γ) (σ := σ) s s' f) fun b z => (feet_set z).elim (fun z => z.elim) (f b)
theorem at_drop (k : Ev Γ te R P) (n : At F Γ D.nx) : At F Γ (tDrop te D) := fun σ h H S s f =>
  k σ h H S s.ex _ fun v a h' H' p s' S' r => n σ h' H' S' (feet_stp (Γ := Γ) (σ := σ) s s' f) f
theorem at_if {tt : TT} {PT : Bool → Prop} (k : EvT Γ tt PT) (h1 : PT true → At F Γ (t D)) (h2 : PT false → At F Γ (u D)) : At F Γ (tIfS tt t u D) := fun σ h H S s f =>
  k σ h H S s.ex _ fun b h' H' p s' S' => by
    cases b with
    | true => exact iteT (h1 p σ h' H' S' (feet_stp (Γ := Γ) (σ := σ) s s' f) f)
    | false => exact iteF (h2 p σ h' H' S' (feet_stp (Γ := Γ) (σ := σ) s s' f) f)
/-- the list of the caller's things is among the slots -/
def Has (Γ : Ctx) (L : List Slot) : Prop := ∀ W, Slot.vo W ∈ L → ∃ i : Nat, Γ[i]? = some (.vo W)
theorem Has.nil {Γ : Ctx} : Has Γ [] := fun _ z => by cases z
theorem Sat.vols {Γ : Ctx} {σ : L2.St} {h H : Hp} {L : List Slot} (S : Sat Γ σ h H) (k : Has Γ L) : ∀ W, Slot.vo W ∈ L → W.r h H := fun W z => by
  obtain ⟨i, e⟩ := k W z
  exact (S.ok i _ e).2
theorem at_ret {L : List Slot} {PR : γ → Prop} (o : RtOk F L R PR D.rt) (k : Ev Γ te R P) (hl : Has Γ L) (i : ∀ a, P a → PR a) : At F Γ (tRet te D) := fun σ h H S s f =>
  k σ h H S s.ex _ fun v a h' H' p s' S' r => o v a h' H' (i a p) (feet_stp (Γ := Γ) (σ := σ) s s' f) (S'.vols hl) r
/-- a value by its data, then the rest, with the data's facts -/
theorem at_nx {q : L2.St → Hp → Prop} (k : At F Γ q) : At F Γ (fun σ H => q σ H) := k

/-! ### targets -/
def EvG (Γ : Ctx) (g : TG) (js : List Nat) (R : Rel γ) (f : γ → Ctx) : Prop :=
  ∀ σ h H v a, Sat Γ σ h H → Ex h H → R.r a v h → ∀ Q : L2.St → Hp → Prop, (∀ σ', Sat (f a) σ' h H → σ'.length = σ.length → (∀ i, i ∉ js → σ'[i]? = σ[i]?) → Q σ' H) → g v σ H Q
theorem eg_name (l : i < Γ.length := by (simp only [List.length_cons, List.length_nil, List.length_set]; omega)) : EvG Γ (gName i) [i] R (fun a => Γ.set i (.va R a)) := fun σ h H v a S e r Q q =>
  q _ (S.putV r l) (by rw [List.length_set]) fun j n => by rw [List.getElem?_set_ne (fun z => n (by rw [z]; exact List.mem_singleton_self _))]
theorem eg_2 {K : PySem.W.Frag} {RA : Rel α} {RB : Rel β} {g1 g2 : TG} {j1 j2 : List Nat} {f1 : α → Ctx} {f2 : α → β → Ctx} (h1 : EvG Γ g1 j1 RA f1) (h2 : ∀ a, EvG (f1 a) g2 j2 RB (f2 a)) :
    EvG Γ (gTup K 2 (gCons g1 (gCons g2 gNil))) (j1 ++ j2) (RT2 K RA RB) (fun p => f2 p.1 p.2) := fun σ h H v p S e r Q q => by
  obtain ⟨d, x, y, ev, kt, ra, rb⟩ := r
  refine ⟨d, [x, y], ev, kt.sq e, rfl, x, [y], rfl, ?_⟩
  refine h1 σ h H x p.1 S e ra _ fun σ1 S1 l1 o1 => ?_
  refine ⟨y, [], rfl, ?_⟩
  refine h2 p.1 σ1 h H y p.2 S1 e rb _ fun σ2 S2 l2 o2 => ?_
  refine ⟨rfl, q σ2 S2 (l2.trans l1) fun i n => ?_⟩
  rw [List.mem_append, not_or] at n
  rw [o2 i n.2, o1 i n.1]
theorem eg_3 {δ : Type} {K : PySem.W.Frag} {RA : Rel α} {RB : Rel β} {RC : Rel δ} {g1 g2 g3 : TG} {j1 j2 j3 : List Nat} {f1 : α → Ctx} {f2 : α → β → Ctx} {f3 : α → β → δ → Ctx} (h1 : EvG Γ g1 j1 RA f1) (h2 : ∀ a, EvG (f1 a) g2 j2 RB (f2 a))
    (h3 : ∀ a b, EvG (f2 a b) g3 j3 RC (f3 a b)) : EvG Γ (gTup K 3 (gCons g1 (gCons g2 (gCons g3 gNil)))) (j1 ++ (j2 ++ j3)) (RT3 K RA RB RC) (fun p => f3 p.1 p.2.1 p.2.2) := fun σ h H v p S e r Q q => by
  obtain ⟨d, x, y, z, ev, kt, ra, rb, rc⟩ := r
  refine ⟨d, [x, y, z], ev, kt.sq e, rfl, x, [y, z], rfl, ?_⟩
  refine h1 σ h H x p.1 S e ra _ fun σ1 S1 l1 o1 => ?_
  refine ⟨y, [z], rfl, ?_⟩
  refine h2 p.1 σ1 h H y p.2.1 S1 e rb _ fun σ2 S2 l2 o2 => ?_
  refine ⟨z, [], rfl, ?_⟩
  refine h3 p.1 p.2.1 σ2 h H z p.2.2 S2 e rc _ fun σ3 S3 l3 o3 => ?_
  refine ⟨rfl, q σ3 S3 (l3.trans (l2.trans l1)) fun i n => ?_⟩
  rw [List.mem_append, List.mem_append, not_or, not_or] at n
  rw [o3 i n.2.2, o2 i n.2.1, o1 i n.1]
/-- a target of any form gets a value; the new context holds nothing new of one's own -/
theorem at_asg {g : TG} {js : List Nat} {f : γ → Ctx} (k : Ev Γ te R P) (hg : EvG Γ g js R f) (hf : ∀ a b, feet (f a) b → feet Γ b) (n : ∀ a, P a → At F (f a) D.nx) : At F Γ (tAsg te g D) := fun σ h H S s c =>
  k σ h H S s.ex _ fun v a h' H' p s' S' r => hg σ h' H' v a S' s'.ex r _ fun σ' S2 _ _ => n a p σ' h' H' S2 (feet_stp (Γ := Γ) (σ := σ) s s' c) fun b z => c b (hf a b z)
theorem feet_va {i : Nat} {a : γ} {b : Addr} (h : feet (Γ.set i (.va R a)) b) : feet Γ b := (feet_set h).elim (fun z => z.elim) id
end

/-! ### what is walked -/
/-- Hold: what must be so at each turn (a dict of one's own is locked) -/
def Walks {γ : Type} (J : It) (R : Rel γ) (xs : List γ) (F : Fr) (Hold : Hp → Hp → Prop) : Prop := ∀ (i : Nat) (h H : Hp), Stp F.M F.h F.H h H → Hold h H →
  (xs.length ≤ i → J.stop i H) ∧ ∀ a, xs[i]? = some a → J.go i H ∧ ∀ x H', J.yld i H x H' → ∃ h', Stp MNo h H h' H' ∧ R.r a x h'
def WiAt {γ : Type} (Γ : Ctx) (wi : TI) (R : Rel γ) (xs : List γ) (Hold : Hp → Hp → Prop) (σ : L2.St) (h H : Hp) : Prop :=
  ∀ Q : It → Hp → Prop, (∀ J h' H', Stp (feet Γ) h H h' H' → Sat Γ σ h' H' → Walks J R xs ⟨h', H', feet Γ⟩ Hold → Q J H') → wi σ H Q
def HYes : Hp → Hp → Prop := fun _ _ => True
def EvI {γ : Type} (Γ : Ctx) (wi : TI) (R : Rel γ) (xs : List γ) : Prop := ∀ σ h H, Sat Γ σ h H → Ex h H → WiAt Γ wi R xs HYes σ h H

section
variable {γ α β : Type} {F : Fr} {Γ : Ctx} {R : Rel γ} {P : List γ → Prop} {te tl : TE} {ta : TA} {D : Ends} {t u tb : TS} {i : Nat} {K : PySem.W.Frag}
theorem Stp.known {M : Addr → Prop} {h H h' H' : Hp} (s : Stp M h H h' H') {b : Addr} {o : HO} (e : h b = some o) : h' b = some o := s.kn b o e
theorem ei_list {xs : List γ} (k : Ev Γ tl (RL R) (fun l => l = xs)) : EvI Γ (iList K tl) R xs := fun σ h H S e Q q =>
  k σ h H S e _ fun v xs h1 H1 p s1 S1 ⟨d, vs, ev, hd, rs⟩ => by
    subst p
    exact ⟨d, ev, ⟨vs, sqL s1.ex hd⟩, q _ h1 H1 s1 S1 fun i h2 H2 s2 _ => by
      have hd2 : h2 d = some (.lst vs) := s2.kn _ _ hd
      have sq := sqL (K := K) s2.ex hd2
      refine ⟨fun l => ⟨vs, sq, by rw [← rs.len]; exact l⟩, fun a ea => ?_⟩
      obtain ⟨v, ev, ra⟩ := rs.get' ea
      refine ⟨⟨vs, v, sq, ev⟩, fun x H' y => ?_⟩
      obtain ⟨rfl, y⟩ := y
      have z := y vs sq
      rw [ev] at z; cases z
      exact ⟨h2, .refl s2.ex, R.mono s2.kn ra⟩⟩
theorem ei_scr {xs : List Int} (k : Ev Γ tl (RScr K) (fun l => l = xs)) : EvI Γ (iList K tl) RI xs := fun σ h H S e Q q =>
  k σ h H S e _ fun v xs h1 H1 p s1 S1 ⟨d, ev, hd⟩ => by
    subst p
    exact ⟨d, ev, ⟨_, hd.sq s1.ex⟩, q _ h1 H1 s1 S1 fun i h2 H2 s2 _ => by
      have sq : SqL K H2 d (xs.map V.int) := (hd.mono s2.kn).sq s2.ex
      refine ⟨fun l => ⟨_, sq, by rw [List.length_map]; exact l⟩, fun a ea => ?_⟩
      have em : (xs.map V.int)[i]? = some (.int a) := by rw [List.getElem?_map, ea]; rfl
      refine ⟨⟨_, _, sq, em⟩, fun x H' y => ?_⟩
      obtain ⟨rfl, y⟩ := y
      have z := y _ sq
      rw [em] at z; cases z
      exact ⟨h2, .refl s2.ex, rfl⟩⟩
theorem ei_tups {xs : List γ} (k : Ev Γ tl (RTs K R) (fun l => l = xs)) : EvI Γ (iTup K tl) R xs := fun σ h H S e Q q =>
  k σ h H S e _ fun v xs h1 H1 p s1 S1 ⟨d, vs, ev, hd, rs⟩ => by
    subst p
    exact ⟨d, ev, ⟨vs, hd.sq s1.ex⟩, q _ h1 H1 s1 S1 fun i h2 H2 s2 _ => by
      have sq : SqT K H2 d vs := (hd.mono s2.kn).sq s2.ex
      refine ⟨fun l => ⟨vs, sq, by rw [← rs.len]; exact l⟩, fun a ea => ?_⟩
      obtain ⟨v, ev, ra⟩ := rs.get' ea
      refine ⟨⟨vs, v, sq, ev⟩, fun x H' y => ?_⟩
      obtain ⟨rfl, y⟩ := y
      have z := y vs sq
      rw [ev] at z; cases z
      exact ⟨h2, .refl s2.ex, R.mono s2.kn ra⟩⟩
/-- range(n) -/
def upto (n : Nat) : List Int := (List.range n).map fun (k : Nat) => (k : Int)
theorem upto_len (n : Nat) : (upto n).length = n := by simp [upto]
theorem upto_get {n i : Nat} {a : Int} (h : (upto n)[i]? = some a) : a = (i : Int) ∧ i < n := by
  unfold upto at h
  rw [List.getElem?_map] at h
  by_cases l : i < n
  · rw [List.getElem?_range l] at h; simp at h; exact ⟨h.symm, l⟩
  · rw [List.getElem?_eq_none (by simp; omega)] at h; simp at h
theorem ei_range1 {n : Nat} {a : Int} (k : Ev Γ te RI (fun x => x = a)) (hn : a = (n : Int)) (hl : n ≤ 1000000) : EvI Γ (iRng1 (tCons te tNil)) RI (upto n) := fun σ h H S e Q q =>
  k σ h H S e _ fun v a h1 H1 p s1 S1 r => by
    subst p
    subst hn
    refine ⟨(n : Int), ?_, by omega, by omega, ?_⟩
    · cases r; rfl
    · refine q _ h1 H1 s1 S1 fun i h2 H2 s2 _ => ⟨fun l => ?_, fun b eb => ?_⟩
      · rw [upto_len] at l
        show (n : Int).toNat ≤ i
        omega
      · obtain ⟨rfl, hi⟩ := upto_get eb
        refine ⟨?_, fun x H' y => ?_⟩
        · show i < (n : Int).toNat
          omega
        · obtain ⟨rfl, rfl⟩ := y
          exact ⟨h2, .refl s2.ex, by show V.int _ = V.int _; simp⟩

/-! ### for -/
theorem for_at {xs : List γ} {wi : TI} {g : TG} {js : List Nat} {Hold : Hp → Hp → Prop} {σ : L2.St} {h H : Hp} (σt : Type) (Γs : σt → Ctx) (I : Nat → σt → Prop) (s0 : σt) {fG : σt → γ → Ctx}
    (S : Sat Γ σ h H) (s : Stp F.M F.h F.H h H) (c : ∀ b, feet Γ b → F.M b ∨ F.H b = none)
    (hw : WiAt Γ wi R xs Hold σ h H) (hh : ∀ s σ h H, Sat (Γs s) σ h H → Hold h H) (h0 : I 0 s0) (l0 : Le Γ (Γs s0)) (hg : ∀ s, EvG (Γs s) g js R (fG s)) (hf : ∀ s a b, feet (fG s a) b → feet (Γs s) b)
    (body : ∀ F', F.le F' → ∀ (i : Nat) (x : γ) (s : σt) (N : L2.St → Hp → Prop), xs[i]? = some x → I i s → (∀ s', I (i + 1) s' → At F' (Γs s') N) → At F' (fG s x) (tb { D with nx := N, ct := N, bk := D.nx }))
    (done : ∀ s, I xs.length s → At F (Γs s) D.nx) : tFor wi g tb D σ H :=
  hw _ fun J h1 H1 s1 S1 wk => by
    have st1 : Stp F.M F.h F.H h1 H1 := feet_stp (Γ := Γ) (σ := σ) s s1 c
    have le : F.le ⟨h1, H1, feet Γ⟩ := ⟨st1, c⟩
    refine ⟨fun i m σ H => m = xs.length - i ∧ i ≤ xs.length ∧ ∃ s h, I i s ∧ Sat (Γs s) σ h H ∧ Stp (feet Γ) h1 H1 h H ∧ ∀ b, feet (Γs s) b → feet Γ b ∨ H1 b = none, ⟨xs.length, by omega, Nat.zero_le _, s0, h1, h0, S1.le l0, .refl s1.ex, fun b z => .inl (l0.feet z)⟩, ?_⟩
    rintro i m σ2 H2 ⟨rfl, hi, s2, h2, I2, S2, t2, f2⟩
    obtain ⟨w1, w2⟩ := wk i h2 H2 t2 (hh s2 _ _ _ S2)
    by_cases hlt : i < xs.length
    · right
      obtain ⟨go, y⟩ := w2 xs[i] (List.getElem?_eq_getElem hlt)
      refine ⟨go, fun σ' H' => i + 1 ≤ xs.length ∧ ∃ s h, I (i + 1) s ∧ Sat (Γs s) σ' h H' ∧ Stp (feet Γ) h1 H1 h H' ∧ ∀ b, feet (Γs s) b → feet Γ b ∨ H1 b = none, fun σ' H' n => ⟨xs.length - (i + 1), by omega, rfl, n.1, n.2⟩, fun x H' yl => ?_⟩
      obtain ⟨h3, t3, r3⟩ := y x H' yl
      have S3 := S2.stepNo t3
      refine hg s2 σ2 h3 H' x xs[i] S3 t3.ex r3 _ fun σ4 S4 _ _ => ?_
      refine body ⟨h1, H1, feet Γ⟩ le i xs[i] s2 _ (List.getElem?_eq_getElem hlt) I2 (fun s' I' σ5 h5 H5 S5 t5 f5 => ⟨hlt, s', h5, I', S5, t5, f5⟩) σ4 h3 H' S4 (t2.tr t3.no) fun b z => f2 b (hf s2 _ b z)
    · left
      have e : i = xs.length := by omega
      subst e
      exact ⟨w1 (Nat.le_refl _), done s2 I2 σ2 h2 H2 S2 (le.step t2) fun b z => le.foot (f2 b z)⟩
theorem at_for {xs : List γ} {wi : TI} {g : TG} {js : List Nat} (σt : Type) (Γs : σt → Ctx) (I : Nat → σt → Prop) (s0 : σt) {fG : σt → γ → Ctx}
    (hw : EvI Γ wi R xs) (h0 : I 0 s0) (l0 : Le Γ (Γs s0)) (hg : ∀ s, EvG (Γs s) g js R (fG s)) (hf : ∀ s a b, feet (fG s a) b → feet (Γs s) b)
    (body : ∀ F', F.le F' → ∀ (i : Nat) (x : γ) (s : σt) (N : L2.St → Hp → Prop), xs[i]? = some x → I i s → (∀ s', I (i + 1) s' → At F' (Γs s') N) → At F' (fG s x) (tb { D with nx := N, ct := N, bk := D.nx }))
    (done : ∀ s, I xs.length s → At F (Γs s) D.nx) : At F Γ (tFor wi g tb D) := fun σ h H S s c =>
  for_at σt Γs I s0 S s c (hw σ h H S s.ex) (fun _ _ _ _ _ => trivial) h0 l0 hg hf body done

/-! ### calls of the text's own defs -/
/-- Pre L P: with arguments of these data, the value is as P says; what is one's own among the arguments may change -/
def FSp (R : Rel γ) (Pre : List Slot → (γ → Prop) → Prop) : Sp := fun vs H Q _ =>
  ∃ L P h, Pre L P ∧ Sat L (vs.map some) h H ∧ Ex h H ∧ ∀ v a h' H', P a → Stp (feet L) h H h' H' → (∀ W, Slot.vo W ∈ L → W.r h' H') → R.r a v h' → Q v H'
theorem fsp_len {R : Rel γ} {Pre : List Slot → (γ → Prop) → Prop} {n : Nat} (hl : ∀ L P, Pre L P → L.length = n) : ∀ vs H Q E, FSp R Pre vs H Q E → vs.length = n := fun vs H Q E ⟨L, P, h, p, S, _⟩ => by
  have := S.len
  rw [List.length_map] at this
  rw [this, hl L P p]
/-- one's own things among the arguments are slots, each another one -/
def VoIn (Γ : Ctx) : List Slot → List Nat → Prop
  | [], _ => True
  | .vo W :: l, used => ∃ j : Nat, ¬ j ∈ used ∧ Γ[j]? = some (.vo W) ∧ VoIn Γ l (j :: used)
  | .va _ _ :: l, used => VoIn Γ l used
  | .no :: l, used => VoIn Γ l used
theorem VoIn.at : ∀ {Γ : Ctx} {L : List Slot} {used : List Nat}, VoIn Γ L used → ∃ f : Nat → Nat, (∀ (i : Nat) (W : Vol), L[i]? = some (.vo W) → Γ[f i]? = some (.vo W) ∧ ¬ f i ∈ used) ∧ ∀ (i j : Nat) (W W' : Vol), L[i]? = some (.vo W) → L[j]? = some (.vo W') → f i = f j → i = j
  | _, [], _, _ => ⟨fun _ => 0, fun i W e => by simp at e, fun i j W W' e => by simp at e⟩
  | Γ, .vo W :: l, used, ⟨j, nj, ej, k⟩ => by
    obtain ⟨f, h1, h2⟩ := VoIn.at k
    refine ⟨fun i => match i with | 0 => j | i + 1 => f i, fun i W' e => ?_, fun i m W1 W2 e1 e2 q => ?_⟩
    · cases i with
      | zero => simp at e; subst e; exact ⟨ej, nj⟩
      | succ i =>
        obtain ⟨a, b⟩ := h1 i W' (by simpa using e)
        exact ⟨a, fun z => b (List.mem_cons_of_mem _ z)⟩
    · cases i with
      | zero =>
        cases m with
        | zero => rfl
        | succ m =>
          have q : j = f m := q
          obtain ⟨_, b⟩ := h1 m W2 (by simpa using e2)
          exact absurd (by rw [← q]; exact List.mem_cons_self) b
      | succ i =>
        cases m with
        | zero =>
          have q : f i = j := q
          obtain ⟨_, b⟩ := h1 i W1 (by simpa using e1)
          exact absurd (by rw [q]; exact List.mem_cons_self) b
        | succ m => rw [h2 i m W1 W2 (by simpa using e1) (by simpa using e2) q]
  | Γ, .va R a :: l, used, k => by
    obtain ⟨f, h1, h2⟩ := VoIn.at (L := l) k
    refine ⟨fun i => f (i - 1), fun i W' e => ?_, fun i m W1 W2 e1 e2 q => ?_⟩
    · cases i with
      | zero => simp at e
      | succ i => exact h1 i W' (by simpa using e)
    · cases i with
      | zero => simp at e1
      | succ i =>
        cases m with
        | zero => simp at e2
        | succ m => rw [h2 i m W1 W2 (by simpa using e1) (by simpa using e2) q]
  | Γ, .no :: l, used, k => by
    obtain ⟨f, h1, h2⟩ := VoIn.at (L := l) k
    refine ⟨fun i => f (i - 1), fun i W' e => ?_, fun i m W1 W2 e1 e2 q => ?_⟩
    · cases i with
      | zero => simp at e
      | succ i => exact h1 i W' (by simpa using e)
    · cases i with
      | zero => simp at e1
      | succ i =>
        cases m with
        | zero => simp at e2
        | succ m => rw [h2 i m W1 W2 (by simpa using e1) (by simpa using e2) q]
theorem args_len {h : Hp} : ∀ {L : List Slot} {vs : List V}, ArgsOk L vs h → vs.length = L.length
  | [], [], _ => rfl
  | .va R a :: L, v :: vs, k => by rw [List.length_cons, List.length_cons, args_len k.2]
  | .vo W :: L, v :: vs, k => by rw [List.length_cons, List.length_cons, args_len k.2]
  | [], _ :: _, k => k.elim
  | .no :: _, [], k => k.elim
  | .no :: _, _ :: _, k => k.elim
  | .vo _ :: _, [], k => k.elim
  | .va _ _ :: _, [], k => k.elim
theorem args_get {h : Hp} : ∀ {L : List Slot} {vs : List V} {i : Nat} {s : Slot}, ArgsOk L vs h → L[i]? = some s → (∃ (α : Type) (R : Rel α) (a : α) (v : V), s = .va R a ∧ (vs.map some)[i]? = some (some v) ∧ R.r a v h) ∨ ∃ W, s = .vo W ∧ (vs.map some)[i]? = some (some W.val)
  | [], [], _, _, _, e => by simp at e
  | .va R a :: L, v :: vs, 0, s, k, e => by simp at e; exact .inl ⟨_, R, a, v, e.symm, by simp, k.1⟩
  | .vo W :: L, v :: vs, 0, s, k, e => by simp at e; exact .inr ⟨W, e.symm, by simp [k.1]⟩
  | .va R a :: L, v :: vs, i + 1, s, k, e => by
    have := args_get (i := i) k.2 (by simpa using e)
    simpa using this
  | .vo W :: L, v :: vs, i + 1, s, k, e => by
    have := args_get (i := i) k.2 (by simpa using e)
    simpa using this
  | [], _ :: _, _, _, k, _ => k.elim
  | .no :: _, [], _, _, k, _ => k.elim
  | .no :: _, _ :: _, _, _, k, _ => k.elim
  | .vo _ :: _, [], _, _, k, _ => k.elim
  | .va _ _ :: _, [], _, _, k, _ => k.elim
theorem args_sat {Γ : Ctx} {σ : L2.St} {h H : Hp} {L : List Slot} {vs : List V} (S : Sat Γ σ h H) (k : ArgsOk L vs h) (vi : VoIn Γ L []) : Sat L (vs.map some) h H ∧ (∀ b, feet L b → feet Γ b) := by
  obtain ⟨f, f1, f2⟩ := vi.at
  have up : ∀ (i : Nat) (s : Slot) (b : Addr), L[i]? = some s → s.foot b → ∃ W, s = .vo W ∧ Γ[f i]? = some (.vo W) := fun i s b e z => by
    rcases args_get k e with ⟨_, R, a, v, rfl, _⟩ | ⟨W, rfl, _⟩
    · exact z.elim
    · exact ⟨W, rfl, (f1 i W e).1⟩
  refine ⟨⟨by rw [List.length_map]; exact args_len k, fun i s e => ?_, fun i j s t b e1 e2 z1 z2 => ?_, fun i s b e z => ?_⟩, fun b z => ?_⟩
  · rcases args_get k e with ⟨_, R, a, v, rfl, ev, r⟩ | ⟨W, rfl, ev⟩
    · exact ⟨v, ev, r⟩
    · exact ⟨ev, (S.ok _ _ (f1 i W e).1).2⟩
  · obtain ⟨W1, rfl, g1⟩ := up i s b e1 z1
    obtain ⟨W2, rfl, g2⟩ := up j t b e2 z2
    exact f2 i j W1 W2 e1 e2 (S.apart _ _ _ _ b g1 g2 z1 z2)
  · obtain ⟨W1, rfl, g1⟩ := up i s b e z
    exact S.out _ _ b g1 z
  · obtain ⟨i, s, e, z⟩ := z
    obtain ⟨W1, rfl, g1⟩ := up i s b e z
    exact ⟨_, _, g1, z⟩
/-- behind a call: what is one's own is as the callee says, or as it was -/
theorem sat_after {Γ : Ctx} {σ : L2.St} {h H h' H' : Hp} {L : List Slot} (S : Sat Γ σ h H) (vi : VoIn Γ L []) (s : Stp (feet L) h H h' H') (ws : ∀ W, Slot.vo W ∈ L → W.r h' H') : Sat Γ σ h' H' := by
  obtain ⟨f, f1, f2⟩ := vi.at
  refine ⟨S.len, fun m t e => ?_, S.apart, fun m t b e z => s.outF (S.out m t b e z) ((S.ok m t e).live z)⟩
  by_cases q : ∃ W, t = .vo W ∧ Slot.vo W ∈ L
  · obtain ⟨W, rfl, w⟩ := q
    exact ⟨(S.ok m _ e).1, ws W w⟩
  · refine (S.ok m t e).step s.kn fun b z => s.at (fun z2 => ?_) ((S.ok m t e).live z)
    obtain ⟨i, u, eu, zu⟩ := z2
    cases u with
    | no => exact zu.elim
    | va R a => exact zu.elim
    | vo W =>
      have g := (f1 i W eu).1
      have em := S.apart m (f i) t _ b e g z zu
      rw [← em, e] at g
      cases g
      exact q ⟨W, rfl, List.mem_of_getElem? eu⟩
theorem ev_call {R : Rel γ} {Pre : List Slot → (γ → Prop) → Prop} {E : XK} {PL : List Slot → Prop} {P' : γ → Prop} (ha : EvA Γ ta PL) (k : ∀ l, PL l → VoIn Γ l [] ∧ ∃ P, Pre l P ∧ ∀ a, P a → P' a) : Ev Γ (tCall (FSp R Pre) [] E ta) R P' := fun σ h H S e Q q =>
  ha σ h H S e _ fun vs l h1 H1 pl s1 S1 ok => by
    obtain ⟨vi, P, pre, kp⟩ := k l pl
    obtain ⟨Sa, nf⟩ := args_sat S1 ok vi
    rw [List.append_nil]
    exact ⟨l, P, h1, pre, Sa, s1.ex, fun v a h' H' p s2 ws r => q v a h' H' (kp a p) (s1.tr (s2.mono nf)) (sat_after S1 vi s2 ws) r⟩

/-- a def's body -/
theorem start_sat {h H : Hp} {N : List Str} {L : List Slot} {vs : List V} (S : Sat L (vs.map some) h H) (hl : vs.length ≤ N.length) : Sat (L ++ List.replicate (N.length - vs.length) .no) (L2.start N vs) h H := by
  have hlen : vs.length = L.length := by have := S.len; rw [List.length_map] at this; exact this
  have low : ∀ (i : Nat) (s : Slot), (L ++ List.replicate (N.length - vs.length) .no)[i]? = some s → s = .no ∨ (L[i]? = some s) := fun i s e => by
    by_cases z : i < L.length
    · rw [List.getElem?_append_left z] at e; exact .inr e
    · rw [List.getElem?_append_right (by omega)] at e
      rw [List.getElem?_replicate] at e
      split at e
      · cases e; exact .inl rfl
      · cases e
  refine ⟨by unfold L2.start; rw [List.length_append, List.length_append, List.length_map, List.length_replicate, List.length_replicate, hlen], fun i s e => ?_, fun i j s t b e1 e2 f1 f2 => ?_, fun i s b e f => ?_⟩
  · rcases low i s e with rfl | z
    · trivial
    · have hi : i < L.length := (List.getElem?_eq_some_iff.mp z).1
      unfold L2.start
      rw [List.getElem?_append_left (by rw [List.length_map]; omega)]
      exact S.ok i s z
  · rcases low i s e1 with rfl | z1
    · exact f1.elim
    rcases low j t e2 with rfl | z2
    · exact f2.elim
    exact S.apart i j s t b z1 z2 f1 f2
  · rcases low i s e with rfl | z
    · exact f.elim
    · exact S.out i s b z f
theorem body_of {R : Rel γ} {Pre : List Slot → (γ → Prop) → Prop} {N : List Str} {vs : List V} {H : Hp} {Q : VK} {E : XK} {t : TS} (n : Nat) (hsp : FSp R Pre vs H Q E) (hn : ∀ L P, Pre L P → L.length = n) (hN : n ≤ N.length)
    (hb : ∀ (L : List Slot) (P : γ → Prop), Pre L P → ∀ (F : Fr) (D : Ends), RtOk F L R P D.rt → At F (L ++ List.replicate (N.length - n) .no) (t D)) : t { nx := fun _ H' => Q .non H', rt := Q } (L2.start N vs) H := by
  obtain ⟨L, P, h, pre, S, e, k⟩ := hsp
  have hl : vs.length = n := by have := S.len; rw [List.length_map] at this; rw [this, hn L P pre]
  have z := hb L P pre ⟨h, H, feet L⟩ { nx := fun _ H' => Q .non H', rt := Q } (fun v a h' H' p s w r => k v a h' H' p s w r)
  rw [← hl] at z
  refine z _ h H (start_sat S (by rw [hl]; exact hN)) (.refl e) fun b z => ?_
  obtain ⟨m, s, em, f⟩ := z
  left
  by_cases y : m < L.length
  · rw [List.getElem?_append_left y] at em; exact ⟨m, s, em, f⟩
  · rw [List.getElem?_append_right (by omega), List.getElem?_replicate] at em
    split at em
    · cases em; exact f.elim
    · cases em
end
end QL

set_option Elab.async false
set_option linter.all false
set_option maxRecDepth 100000
namespace QL
open PySem L2

/-! ### an unknown thing becomes known -/
theorem Stp.knows {M : Addr → Prop} {h0 H0 h H : Hp} {p : Addr} {o : HO} (s : Stp M h0 H0 h H) (n : h p = none) (l : H p = some o) (n0 : H0 p = none) : Stp M h0 H0 (upd h p o) H where
  kn := s.kn.trans (.new n)
  ex := (Stp.know (M := M) s.ex n l).2
  keep := s.keep
  live := s.live
  fresh := fun b q => by
    by_cases z : b = p
    · subst z; exact .inr n0
    · rw [upd_ne z] at q; exact s.fresh b q
theorem Sat.knows {Γ : Ctx} {σ : L2.St} {h H : Hp} {p : Addr} {o : HO} (S : Sat Γ σ h H) (n : h p = none) (nf : ¬ feet Γ p) : Sat Γ σ (upd h p o) H where
  len := S.len
  ok := fun i s e => (S.ok i s e).step (.new n) fun _ _ => rfl
  apart := S.apart
  out := fun i s b e f => by
    rw [upd_ne (fun z => nf (by rw [← z]; exact ⟨i, s, e, f⟩))]
    exact S.out i s b e f

/-! ### lists and dicts of one's own -/
def getS {α : Type} (kvs : List (Str × α)) (k : Str) : Option α := (kvs.find? fun kv => decide (kv.1 = k)).map (·.2)
def hasS {α : Type} (kvs : List (Str × α)) (k : Str) : Bool := kvs.any fun kv => decide (kv.1 = k)
def putS {α : Type} (kvs : List (Str × α)) (k : Str) (v : α) : List (Str × α) :=
  if hasS kvs k then kvs.map (fun kv => if kv.1 = k then (kv.1, v) else kv) else kvs ++ [(k, v)]
section
variable {α : Type} {R : Rel α} {h h' : Hp}
theorem KVs.len {kvs : List (Str × α)} {ks : List (Key × V)} (r : KVs R h kvs ks) : kvs.length = ks.length := Paired.length r
theorem KVs.any : ∀ {kvs : List (Str × α)} {ks : List (Key × V)} (k : Str), KVs R h kvs ks → (ks.any fun kv => decide (kv.1 = Sum.inr k)) = hasS kvs k
  | _, _, _, .nil => rfl
  | (x, a) :: kvs, (y, v) :: ks, k, .cons r t => by
    obtain ⟨e, _⟩ := r
    dsimp only at e
    subst e
    show (decide (Sum.inr x = (Sum.inr k : Key)) || _) = (decide (x = k) || _)
    rw [key_rr, KVs.any k t]
    rfl
theorem KVs.val : ∀ {kvs : List (Str × α)} {ks : List (Key × V)} (k : Str), KVs R h kvs ks → (getS kvs k = none ∧ valV ks (Sum.inr k) = none) ∨ ∃ a v, getS kvs k = some a ∧ valV ks (Sum.inr k) = some v ∧ R.r a v h
  | _, _, _, .nil => .inl ⟨rfl, rfl⟩
  | (x, a) :: kvs, (y, v) :: ks, k, .cons r t => by
    obtain ⟨e, r⟩ := r
    dsimp only at e r
    subst e
    by_cases z : x = k
    · subst z
      exact .inr ⟨a, v, by simp [getS], by rw [valV_pos rfl], r⟩
    · have z' : ¬ (Sum.inr x : Key) = Sum.inr k := fun q => z (Sum.inr.inj q)
      have e1 : getS ((x, a) :: kvs) k = getS kvs k := by unfold getS; rw [List.find?_cons_of_neg (by simp [z])]
      rw [e1, valV_neg z']
      exact KVs.val k t
theorem KVs.put {kvs : List (Str × α)} {ks : List (Key × V)} {k : Str} {a : α} {v : V} (r : KVs R h kvs ks) (ra : R.r a v h) : KVs R h (putS kvs k a) (putK ks (Sum.inr k) v) := by
  unfold putS putK
  rw [KVs.any k r]
  split
  · have aux : ∀ {l1 : List (Str × α)} {l2 : List (Key × V)}, KVs R h l1 l2 → KVs R h (l1.map fun kv => if kv.1 = k then (kv.1, a) else kv) (l2.map fun kv => if kv.1 = Sum.inr k then (kv.1, v) else kv) := by
      intro l1 l2 r
      induction r with
      | nil => exact .nil
      | @cons x y l1 l2 q t ih =>
        refine .cons ?_ ih
        obtain ⟨e, q⟩ := q
        dsimp only
        by_cases z : x.1 = k
        · rw [if_pos z, if_pos (by rw [e, z])]
          exact ⟨e, ra⟩
        · rw [if_neg z, if_neg (fun w => z (Sum.inr.inj (e.symm.trans w)))]
          exact ⟨e, q⟩
    exact aux r
  · have aux : ∀ {l1 : List (Str × α)} {l2 : List (Key × V)}, KVs R h l1 l2 → KVs R h (l1 ++ [(k, a)]) (l2 ++ [(Sum.inr k, v)]) := by
      intro l1 l2 r
      induction r with
      | nil => exact .cons ⟨rfl, ra⟩ .nil
      | cons q t ih => exact .cons q ih
    exact aux r
end
def VL {α : Type} (p : Addr) (R : Rel α) (xs : List α) : Vol where
  val := .ref p
  foot := fun b => b = p
  r := fun h H => ∃ vs, H p = some (.lst vs) ∧ Reps R h xs vs
  frame := fun ⟨vs, e, r⟩ x k => ⟨vs, by rw [k p rfl]; exact e, r.mono x⟩
  live := fun ⟨vs, e, _⟩ f => by rw [f]; exact ne_some e
def VD {α : Type} (p : Addr) (R : Rel α) (kvs : List (Str × α)) : Vol where
  val := .ref p
  foot := fun b => b = p
  r := fun h H => ∃ ks, H p = some (.dK ks) ∧ KVs R h kvs ks
  frame := fun ⟨vs, e, r⟩ x k => ⟨vs, by rw [k p rfl]; exact e, r.mono x⟩
  live := fun ⟨vs, e, _⟩ f => by rw [f]; exact ne_some e

section
variable {γ α : Type} {F : Fr} {Γ : Ctx} {R : Rel γ} {P : γ → Prop} {te tk td : TE} {D : Ends} {i : Nat} {p : Addr} {K : PySem.W.Frag}
theorem at_newL (n : ∀ p, F.H p = none → At F (Γ.set i (.vo (VL p R []))) D.nx) (l : i < Γ.length := by (simp only [List.length_cons, List.length_nil, List.length_set]; omega)) : At F Γ (tAsg (tLst tNil) (gName i) D) := fun σ h H S s f => by
  refine ⟨Nat.zero_le _, fun p np => ?_⟩
  have st : Stp MNo h H h (upd H p (.lst [])) := .newU s.ex np
  have S' := S.stepNo st
  have n0 := back_none s np
  refine n p n0 _ h _ (S'.put ⟨rfl, [], upd_same, .nil⟩ (fun b e => ?_) l) (s.tr st.no) fun b z => ?_
  · obtain rfl : b = p := e
    exact ⟨fun z => S.live z np, s.ex.free np⟩
  · rcases feet_set z with e | z
    · obtain rfl : b = p := e
      exact .inr n0
    · exact f b z
theorem at_newD (n : ∀ p, F.H p = none → At F (Γ.set i (.vo (VD p R []))) D.nx) (l : i < Γ.length := by (simp only [List.length_cons, List.length_nil, List.length_set]; omega)) : At F Γ (tAsg tDNewK (gName i) D) := fun σ h H S s f => by
  intro p np
  have st : Stp MNo h H h (upd H p (.dK [])) := .newU s.ex np
  have S' := S.stepNo st
  have n0 := back_none s np
  refine n p n0 _ h _ (S'.put ⟨rfl, [], upd_same, .nil⟩ (fun b e => ?_) l) (s.tr st.no) fun b z => ?_
  · obtain rfl : b = p := e
    exact ⟨fun z => S.live z np, s.ex.free np⟩
  · rcases feet_set z with e | z
    · obtain rfl : b = p := e
      exact .inr n0
    · exact f b z
/-- one's own thing at slot i changes (its place is the same) -/
theorem Sat.vol {σ : L2.St} {h H : Hp} {W : Vol} {W' : Vol} {o : HO} (S : Sat Γ σ h H) (e : Γ[i]? = some (.vo W)) (hv : W'.val = W.val) (hf : ∀ b, W'.foot b ↔ W.foot b) (hp : W.foot p) (k : W'.r h (upd H p o)) : Sat (Γ.set i (.vo W')) σ h (upd H p o) := by
  have li : i < Γ.length := (List.getElem?_eq_some_iff.mp e).1
  refine ⟨by rw [List.length_set]; exact S.len, fun j t ej => ?_, fun j m t u b e1 e2 f1 f2 => ?_, fun j t b e1 f1 => ?_⟩
  · by_cases z : i = j
    · subst z
      rw [List.getElem?_set_self li] at ej; cases ej
      exact ⟨by rw [hv]; exact (S.ok i _ e).1, k⟩
    · rw [List.getElem?_set_ne z] at ej
      refine (S.ok j t ej).step (.refl h) fun b f => upd_ne fun w => z ?_
      exact S.apart i j _ t b e ej (by rw [w]; exact hp) f
  · have fix : ∀ (j : Nat) (t : Slot), (Γ.set i (.vo W'))[j]? = some t → t.foot b → ∃ t', Γ[j]? = some t' ∧ t'.foot b := fun j t ej f => by
      by_cases z : i = j
      · subst z
        rw [List.getElem?_set_self li] at ej; cases ej
        exact ⟨_, e, (hf b).mp f⟩
      · rw [List.getElem?_set_ne z] at ej
        exact ⟨t, ej, f⟩
    obtain ⟨t1, a1, b1⟩ := fix j t e1 f1
    obtain ⟨t2, a2, b2⟩ := fix m u e2 f2
    exact S.apart j m t1 t2 b a1 a2 b1 b2
  · by_cases z : i = j
    · subst z
      rw [List.getElem?_set_self li] at e1; cases e1
      exact S.out i _ b e ((hf b).mp f1)
    · rw [List.getElem?_set_ne z] at e1
      exact S.out j t b e1 f1
theorem feet_vol {W W' : Vol} {b : Addr} (e : Γ[i]? = some (.vo W)) (hf : ∀ b, W'.foot b ↔ W.foot b) (z : feet (Γ.set i (.vo W')) b) : feet Γ b :=
  (feet_set z).elim (fun z => ⟨i, _, e, (hf b).mp z⟩) id
theorem at_vol {σ : L2.St} {h H : Hp} {W W' : Vol} {o : HO} {q : L2.St → Hp → Prop} (n : At F (Γ.set i (.vo W')) q) (e : Γ[i]? = some (.vo W)) (hv : W'.val = W.val) (hf : ∀ b, W'.foot b ↔ W.foot b) (hp : W.foot p) (S : Sat Γ σ h H) (s : Stp F.M F.h F.H h H)
    (f : ∀ b, feet Γ b → F.M b ∨ F.H b = none) (k : W'.r h (upd H p o)) : q σ (upd H p o) := by
  have li : feet Γ p := ⟨i, _, e, hp⟩
  have st : Stp (feet Γ) h H h (upd H p o) := .mut s.ex (S.outF li) li (S.live li)
  exact n σ h _ (S.vol e hv hf hp k) (feet_stp (Γ := Γ) (σ := σ) s st f) fun b z => f b (feet_vol e hf z)
theorem at_append {xs : List γ} (e : Γ[i]? = some (.vo (VL p R xs))) (k : Ev Γ te R P) (hz : xs.length ≤ 10000) (n : ∀ a, P a → At F (Γ.set i (.vo (VL p R (xs ++ [a])))) D.nx) : At F Γ (tDrop (tBM K "list" rAppend (tVar i) (tCons te tNil)) D) := fun σ h H S s f => by
  obtain ⟨ev, vs, ep, rs⟩ := S.ok i _ e
  refine ⟨_, ev, .inl ⟨rfl, vs, sq_ep ep⟩, ?_⟩
  refine k σ h H S s.ex _ fun v a h' H' pa s' S' r => ?_
  obtain ⟨_, vs', ep', rs'⟩ := S'.ok i _ e
  refine ⟨p, vs', v, rfl, rfl, ep', Nat.lt_of_le_of_lt (by rw [← rs'.len]; exact hz) (by decide), ?_⟩
  exact at_vol (W := VL p R xs) (W' := VL p R (xs ++ [a])) (n a pa) e rfl (fun _ => Iff.rfl) rfl S' (feet_stp (Γ := Γ) (σ := σ) s s' f) f ⟨_, upd_same, rs'.append (.cons r .nil)⟩
where sq_ep {K : PySem.W.Frag} {H : Hp} {p : Addr} {vs : List V} (e : H p = some (.lst vs)) : SqL K H p vs := .inl (.inl e)
theorem at_dput {kvs : List (Str × γ)} {Pk : Str → Prop} (e : Γ[i]? = some (.vo (VD p R kvs))) (k : Ev Γ te R P) (kk : Ev Γ tk RS Pk) (hz : kvs.length ≤ 10000) (n : ∀ x a, Pk x → P a → At F (Γ.set i (.vo (VD p R (putS kvs x a)))) D.nx) :
    At F Γ (sDPut (tVar i) tk te D) := fun σ h H S s f => by
  refine k σ h H S s.ex _ fun v a h1 H1 pa s1 S1 ra => ?_
  refine ⟨_, (S1.ok i _ e).1, ?_⟩
  refine kk σ h1 H1 S1 s1.ex _ fun y x h2 H2 px s2 S2 rx => ?_
  cases rx
  obtain ⟨_, ks, ep, rs⟩ := S2.ok i _ e
  refine ⟨p, _, rfl, DPut.k (k := Sum.inr x) ep (Nat.lt_of_le_of_lt (by rw [← rs.len]; exact hz) (by decide)), ?_⟩
  exact at_vol (W := VD p R kvs) (W' := VD p R (putS kvs x a)) (n x a px pa) e rfl (fun _ => Iff.rfl) rfl S2 (feet_stp (Γ := Γ) (σ := σ) s (s1.tr s2) f) f ⟨_, upd_same, rs.put (R.mono s2.kn ra)⟩
/-- one's own thing is known from now on -/
theorem at_freezeL {xs : List γ} {q : L2.St → Hp → Prop} (e : Γ[i]? = some (.vo (VL p R xs))) (n0 : F.H p = none) (n : At F (Γ.set i (.va (RL R) xs)) q) : At F Γ q := fun σ h H S s f => by
  obtain ⟨ev, vs, ep, rs⟩ := S.ok i _ e
  have li : i < Γ.length := (List.getElem?_eq_some_iff.mp e).1
  have np : h p = none := S.out i _ p e rfl
  have x1 : Ext h (upd h p (.lst vs)) := .new np
  refine n σ (upd h p (.lst vs)) H ⟨by rw [List.length_set]; exact S.len, fun j t ej => ?_, fun j m t u b e1 e2 f1 f2 => ?_, fun j t b e1 f1 => ?_⟩ (s.knows np ep n0) fun b z => (feet_set z).elim (fun z => z.elim) (f b)
  · by_cases z : i = j
    · subst z
      rw [List.getElem?_set_self li] at ej; cases ej
      exact ⟨_, ev, p, vs, rfl, upd_same, rs.mono x1⟩
    · rw [List.getElem?_set_ne z] at ej
      exact (S.ok j t ej).step x1 fun _ _ => rfl
  · by_cases z : i = j
    · subst z
      rw [List.getElem?_set_self li] at e1; cases e1
      exact f1.elim
    by_cases z2 : i = m
    · subst z2
      rw [List.getElem?_set_self li] at e2; cases e2
      exact f2.elim
    rw [List.getElem?_set_ne z] at e1
    rw [List.getElem?_set_ne z2] at e2
    exact S.apart j m t u b e1 e2 f1 f2
  · by_cases z : i = j
    · subst z
      rw [List.getElem?_set_self li] at e1; cases e1
      exact f1.elim
    rw [List.getElem?_set_ne z] at e1
    rw [upd_ne (fun w => z (S.apart i j _ t p e e1 rfl (by rw [← w]; exact f1)))]
    exact S.out j t b e1 f1
theorem at_freezeD {kvs : List (Str × γ)} {q : L2.St → Hp → Prop} (e : Γ[i]? = some (.vo (VD p R kvs))) (n0 : F.H p = none) (n : At F (Γ.set i (.va (RD R) kvs)) q) : At F Γ q := fun σ h H S s f => by
  obtain ⟨ev, vs, ep, rs⟩ := S.ok i _ e
  have li : i < Γ.length := (List.getElem?_eq_some_iff.mp e).1
  have np : h p = none := S.out i _ p e rfl
  have x1 : Ext h (upd h p (.dK vs)) := .new np
  refine n σ (upd h p (.dK vs)) H ⟨by rw [List.length_set]; exact S.len, fun j t ej => ?_, fun j m t u b e1 e2 f1 f2 => ?_, fun j t b e1 f1 => ?_⟩ (s.knows np ep n0) fun b z => (feet_set z).elim (fun z => z.elim) (f b)
  · by_cases z : i = j
    · subst z
      rw [List.getElem?_set_self li] at ej; cases ej
      exact ⟨_, ev, p, vs, rfl, upd_same, rs.mono x1⟩
    · rw [List.getElem?_set_ne z] at ej
      exact (S.ok j t ej).step x1 fun _ _ => rfl
  · by_cases z : i = j
    · subst z
      rw [List.getElem?_set_self li] at e1; cases e1
      exact f1.elim
    by_cases z2 : i = m
    · subst z2
      rw [List.getElem?_set_self li] at e2; cases e2
      exact f2.elim
    rw [List.getElem?_set_ne z] at e1
    rw [List.getElem?_set_ne z2] at e2
    exact S.apart j m t u b e1 e2 f1 f2
  · by_cases z : i = j
    · subst z
      rw [List.getElem?_set_self li] at e1; cases e1
      exact f1.elim
    rw [List.getElem?_set_ne z] at e1
    rw [upd_ne (fun w => z (S.apart i j _ t p e e1 rfl (by rw [← w]; exact f1)))]
    exact S.out j t b e1 f1
end

/-! ### a dict, known or one's own -/
def EvD {α : Type} (Γ : Ctx) (te : TE) (R : Rel α) (P : List (Str × α) → Prop) : Prop :=
  ∀ σ h H, Sat Γ σ h H → Ex h H → ∀ Q : VK, (∀ a kvs h' H', P kvs → Stp (feet Γ) h H h' H' → Sat Γ σ h' H' → (∀ h2 H2, Stp (feet Γ) h' H' h2 H2 → Sat Γ σ h2 H2 → ∃ ks, Rd H2 a (.dK ks) ∧ KVs R h2 kvs ks) → Q (.ref a) H') → te σ H Q
section
variable {γ α : Type} {Γ : Ctx} {R : Rel γ} {RA : Rel α} {te tk td tx : TE} {i : Nat} {p : Addr} {PD : List (Str × γ) → Prop} {Pk : Str → Prop} {K : PySem.W.Frag}
theorem ed_known (k : Ev Γ td (RD R) PD) : EvD Γ td R PD := fun σ h H S e Q q =>
  k σ h H S e _ fun v kvs h1 H1 p1 s1 S1 ⟨a, ks, ev, ha, r⟩ => by
    subst ev
    exact q a kvs h1 H1 p1 s1 S1 fun h2 H2 s2 _ => ⟨ks, s2.ex.rd (s2.kn _ _ ha), r.mono s2.kn⟩
theorem ed_own {kvs : List (Str × γ)} (e : Γ[i]? = some (.vo (VD p R kvs))) : EvD Γ (tVar i) R (fun l => l = kvs) := fun σ h H S x Q q =>
  ⟨_, (S.ok i _ e).1, q p kvs h H rfl (.refl x) S fun h2 H2 _ S2 => by
    obtain ⟨_, ks, ep, r⟩ := S2.ok i _ e
    exact ⟨ks, .inl ep, r⟩⟩
theorem EvD.imp {PD' : List (Str × γ) → Prop} (k : EvD Γ td R PD) (i : ∀ l, PD l → PD' l) : EvD Γ td R PD' := fun σ h H S x Q q => k σ h H S x Q fun a kvs h' H' p => q a kvs h' H' (i kvs p)
theorem getS_has {kvs : List (Str × γ)} {k : Str} : (getS kvs k).isSome = hasS kvs k := by
  unfold getS hasS
  rw [Option.isSome_map]
  induction kvs with
  | nil => rfl
  | cons x l ih =>
    rw [List.any_cons, List.find?_cons]
    by_cases z : x.1 = k
    · rw [decide_eq_true z]; rfl
    · rw [decide_eq_false z]; exact ih
theorem ev_din {P : Bool → Prop} (kk : Ev Γ tk RS Pk) (k : EvD Γ td R PD) (o : ∀ x l, Pk x → PD l → P (hasS l x)) : Ev Γ (tDIn tk td) RB P := fun σ h H S e Q q =>
  kk σ h H S e _ fun y x h1 H1 p1 s1 S1 rx => k σ h1 H1 S1 s1.ex _ fun a kvs h2 H2 p2 s2 S2 g => by
    cases rx
    obtain ⟨ks, rd, r⟩ := g h2 H2 (.refl s2.ex) S2
    refine ⟨a, _, rfl, .inl ⟨ks, Sum.inr x, rd, rfl, rfl⟩, ?_⟩
    refine q _ (hasS kvs x) h2 H2 (o x kvs p1 p2) (s1.tr s2) S2 ?_
    rcases r.val x with ⟨e1, e2⟩ | ⟨b, v, e1, e2, _⟩
    · rw [e2, ← getS_has, e1]; rfl
    · rw [e2, ← getS_has, e1]; rfl
theorem ev_dnotin {P : Bool → Prop} (kk : Ev Γ tk RS Pk) (k : EvD Γ td R PD) (o : ∀ x l, Pk x → PD l → P (!hasS l x)) : Ev Γ (tDNotIn tk td) RB P := fun σ h H S e Q q =>
  kk σ h H S e _ fun y x h1 H1 p1 s1 S1 rx => k σ h1 H1 S1 s1.ex _ fun a kvs h2 H2 p2 s2 S2 g => by
    cases rx
    obtain ⟨ks, rd, r⟩ := g h2 H2 (.refl s2.ex) S2
    refine ⟨a, _, rfl, .inl ⟨ks, Sum.inr x, rd, rfl, rfl⟩, ?_⟩
    refine q _ (!hasS kvs x) h2 H2 (o x kvs p1 p2) (s1.tr s2) S2 ?_
    rcases r.val x with ⟨e1, e2⟩ | ⟨b, v, e1, e2, _⟩
    · rw [e2, ← getS_has, e1]; rfl
    · rw [e2, ← getS_has, e1]; rfl
theorem ev_dget {P : γ → Prop} (k : EvD Γ td R PD) (kk : Ev Γ tk RS Pk) (o : ∀ x l, Pk x → PD l → ∃ a, getS l x = some a ∧ P a) : Ev Γ (tDGet td tk) R P := fun σ h H S e Q q =>
  k σ h H S e _ fun a kvs h1 H1 p1 s1 S1 g => kk σ h1 H1 S1 s1.ex _ fun y x h2 H2 p2 s2 S2 rx => by
    cases rx
    obtain ⟨ks, rd, r⟩ := g h2 H2 s2 S2
    obtain ⟨c, ec, pc⟩ := o x kvs p2 p1
    rcases r.val x with ⟨e1, e2⟩ | ⟨b, v, e1, e2, rb⟩
    · rw [ec] at e1; cases e1
    · rw [ec] at e1; cases e1
      exact ⟨a, v, rfl, .inl ⟨ks, Sum.inr x, rd, rfl, e2.symm⟩, q v c h2 H2 pc (s1.tr s2) S2 rb⟩
theorem ev_dget2 {P Px : γ → Prop} (k : EvD Γ td R PD) (kk : Ev Γ tk RS Pk) (kx : Ev Γ tx R Px) (o : ∀ x l d, Pk x → PD l → Px d → P ((getS l x).getD d)) : Ev Γ (tDGet2 td tk tx) R P := fun σ h H S e Q q =>
  k σ h H S e _ fun a kvs h1 H1 p1 s1 S1 g => by
    obtain ⟨ks0, rd0, _⟩ := g h1 H1 (.refl s1.ex) S1
    refine ⟨a, rfl, .inl ⟨ks0, rd0⟩, ?_⟩
    refine kk σ h1 H1 S1 s1.ex _ fun y x h2 H2 p2 s2 S2 rx => kx σ h2 H2 S2 s2.ex _ fun z d h3 H3 p3 s3 S3 rz => ?_
    cases rx
    obtain ⟨ks, rd, r⟩ := g h3 H3 (s2.tr s3) S3
    refine ⟨_, .inl ⟨ks, Sum.inr x, rd, rfl, rfl⟩, ?_⟩
    have st := (s1.tr s2).tr s3
    have po := o x kvs d p2 p1 p3
    rcases r.val x with ⟨e1, e2⟩ | ⟨b, v, e1, e2, rb⟩
    · rw [e1] at po
      rw [e2]
      exact q z d h3 H3 po st S3 rz
    · rw [e1] at po
      rw [e2]
      exact q v b h3 H3 po st S3 rb
end
end QL

set_option Elab.async false
set_option linter.all false
set_option maxRecDepth 100000
namespace QL
open PySem L2

/-! ### comprehensions -/
def wipeC (Γ : Ctx) : List Nat → Ctx
  | [] => Γ
  | v :: vs => (wipeC Γ vs).set v .no
theorem wipeC_len (Γ : Ctx) : ∀ vs : List Nat, (wipeC Γ vs).length = Γ.length
  | [] => rfl
  | v :: vs => by unfold wipeC; rw [List.length_set, wipeC_len Γ vs]
theorem wipeC_some {Γ : Ctx} {i : Nat} {s : Slot} : ∀ {vs : List Nat}, (wipeC Γ vs)[i]? = some s → s = .no ∨ (Γ[i]? = some s ∧ i ∉ vs)
  | [], h => .inr ⟨h, by simp⟩
  | v :: vs, h => by
    unfold wipeC at h
    by_cases hi : v = i
    · subst hi
      by_cases hv : v < (wipeC Γ vs).length
      · rw [List.getElem?_set_self hv] at h; cases h; exact .inl rfl
      · rw [List.getElem?_eq_none (by rw [List.length_set]; exact Nat.le_of_not_lt hv)] at h; cases h
    · rw [List.getElem?_set_ne hi] at h; rcases wipeC_some h with z | ⟨h1, h2⟩
      · exact .inl z
      · exact .inr ⟨h1, by simp only [List.mem_cons, not_or]; exact ⟨fun e => hi e.symm, h2⟩⟩
theorem wipe_out' {σ : L2.St} {i : Nat} : ∀ {vs : List Nat}, i ∉ vs → (wipe σ vs)[i]? = σ[i]?
  | [], _ => rfl
  | v :: vs, h => by
    unfold wipe
    replace h := not_or.mp (mt List.mem_cons.mpr h)
    rw [List.getElem?_set_ne (Ne.symm h.1), wipe_out' h.2]
theorem wipe_in {σ : L2.St} {i : Nat} : ∀ {vs : List Nat}, i ∈ vs → i < σ.length → (wipe σ vs)[i]? = some none
  | [], h, _ => by simp at h
  | v :: vs, h, l => by
    unfold wipe
    by_cases z : v = i
    · subst z
      rw [List.getElem?_set_self (by rw [wipe_length]; exact l)]
    · rw [List.getElem?_set_ne z]
      exact wipe_in (by rcases List.mem_cons.mp h with e | e; exact absurd e.symm z; exact e) l
theorem wipe_same {σ σ' : L2.St} {vs : List Nat} (hl : σ'.length = σ.length) (h : ∀ i, i ∉ vs → σ'[i]? = (wipe σ vs)[i]?) : wipe σ' vs = wipe σ vs := by
  apply List.ext_getElem?
  intro i
  by_cases z : i ∈ vs
  · by_cases l : i < σ.length
    · rw [wipe_in z (by omega), wipe_in z l]
    · rw [List.getElem?_eq_none (by rw [wipe_length]; omega), List.getElem?_eq_none (by rw [wipe_length]; omega)]
  · rw [wipe_out' z, h i z]
theorem Sat.swap {Γ : Ctx} {σ σ' : L2.St} {h H : Hp} (S : Sat Γ σ h H) (hl : σ'.length = σ.length) (k : ∀ (i : Nat) (s : Slot), Γ[i]? = some s → s = .no ∨ σ'[i]? = σ[i]?) : Sat Γ σ' h H where
  len := hl.trans S.len
  ok := fun i s e => by
    rcases k i s e with rfl | z
    · trivial
    · rw [z]; exact S.ok i s e
  apart := S.apart
  out := S.out
theorem Sat.wipe {Γ : Ctx} {σ : L2.St} {h H : Hp} (S : Sat Γ σ h H) (vs : List Nat) : Sat (wipeC Γ vs) (L2.wipe σ vs) h H := by
  have l : Le Γ (wipeC Γ vs) := ⟨(wipeC_len Γ vs).symm, fun i s e => (wipeC_some e).imp id fun z => z.1⟩
  refine (S.le l).swap (wipe_length σ vs) fun i s e => ?_
  rcases wipeC_some e with z | ⟨_, z⟩
  · exact .inl z
  · exact .inr (wipe_out' z)
/-- no thing of one's own is called like the comprehension's names -/
def NoVol (Γ : Ctx) (vs : List Nat) : Prop := ∀ v ∈ vs, ∀ s, Γ[v]? = some s → ∀ b, ¬ s.foot b
theorem Sat.unwipe {Γ : Ctx} {σ : L2.St} {h0 H0 h H : Hp} {vs : List Nat} (S0 : Sat Γ σ h0 H0) (S : Sat (wipeC Γ vs) (L2.wipe σ vs) h H) (x : Ext h0 h) (nv : NoVol Γ vs) : Sat Γ σ h H := by
  have at_ : ∀ (i : Nat) (s : Slot), Γ[i]? = some s → i ∉ vs → (wipeC Γ vs)[i]? = some s := fun i s e n => by
    have : ∀ vs : List Nat, i ∉ vs → (wipeC Γ vs)[i]? = Γ[i]? := by
      intro vs
      induction vs with
      | nil => intro _; rfl
      | cons v vs ih =>
        intro n
        rw [List.mem_cons, not_or] at n
        unfold wipeC
        rw [List.getElem?_set_ne (Ne.symm n.1), ih n.2]
    rw [this vs n, e]
  refine ⟨S0.len, fun i s e => ?_, S0.apart, fun i s b e f => ?_⟩
  · by_cases z : i ∈ vs
    · have k := S0.ok i s e
      exact k.step x fun b f => absurd f (nv i z s e b)
    · have k := S.ok i s (at_ i s e z)
      rw [wipe_out' z] at k
      exact k
  · by_cases z : i ∈ vs
    · exact absurd f (nv i z s e b)
    · exact S.out i s b (at_ i s e z) f
theorem feet_wipe {Γ : Ctx} {vs : List Nat} {b : Addr} (f : feet (wipeC Γ vs) b) : feet Γ b := by
  obtain ⟨i, s, e, f⟩ := f
  rcases wipeC_some e with rfl | ⟨e, _⟩
  · exact f.elim
  · exact ⟨i, s, e, f⟩

/-- what a comprehension makes: of each item nothing, or one thing -/
inductive Pick {α β : Type} (PT : α → Bool → Prop) (PY : α → β → Prop) : List α → List β → Prop
  | nil : Pick PT PY [] []
  | skip {x : α} {xs : List α} {ys : List β} : Pick PT PY xs ys → PT x false → Pick PT PY (xs ++ [x]) ys
  | take {x : α} {y : β} {xs : List α} {ys : List β} : Pick PT PY xs ys → PT x true → PY x y → Pick PT PY (xs ++ [x]) (ys ++ [y])
theorem Pick.len {α β : Type} {PT : α → Bool → Prop} {PY : α → β → Prop} {xs : List α} {ys : List β} (p : Pick PT PY xs ys) : ys.length ≤ xs.length := by
  induction p with
  | nil => exact Nat.le_refl _
  | skip _ _ ih => rw [List.length_append]; omega
  | take _ _ _ ih => rw [List.length_append, List.length_append]; simp; exact ih
theorem Pick.map {α β : Type} {f : α → β} {PT : α → Bool → Prop} {PY : α → β → Prop} {xs : List α} {ys : List β} (p : Pick PT PY xs ys) (ht : ∀ x ∈ xs, ¬ PT x false) (hy : ∀ x ∈ xs, ∀ y, PY x y → y = f x) : ys = xs.map f := by
  induction p with
  | nil => rfl
  | skip _ t _ => exact absurd t (ht _ (by simp))
  | take _ t y ih => rw [ih (fun x m => ht x (by simp [m])) (fun x m => hy x (by simp [m])), hy _ (by simp) _ y]; simp
theorem Pick.filterMap {α β : Type} {c : α → Bool} {f : α → β} {PT : α → Bool → Prop} {PY : α → β → Prop} {xs : List α} {ys : List β} (p : Pick PT PY xs ys) (ht : ∀ x ∈ xs, ∀ b, PT x b → b = c x) (hy : ∀ x ∈ xs, ∀ y, PY x y → y = f x) : ys = (xs.filter c).map f := by
  induction p with
  | nil => rfl
  | skip _ t ih =>
    have e := ht _ (by simp) _ t
    rw [ih (fun x m => ht x (by simp [m])) (fun x m => hy x (by simp [m])), List.filter_append, List.filter_cons, ← e]
    simp
  | take _ t y ih =>
    have e := ht _ (by simp) _ t
    rw [ih (fun x m => ht x (by simp [m])) (fun x m => hy x (by simp [m])), hy _ (by simp) _ y, List.filter_append, List.filter_cons, ← e]
    simp
theorem Pick.all {α β : Type} {PT : α → Bool → Prop} {PY : α → β → Prop} {xs : List α} {ys : List β} (p : Pick PT PY xs ys) : ∀ y ∈ ys, ∃ x ∈ xs, PT x true ∧ PY x y := by
  induction p with
  | nil => intro y m; simp at m
  | skip _ _ ih => intro y m; obtain ⟨x, hx, q⟩ := ih y m; exact ⟨x, by simp [hx], q⟩
  | take _ t q ih =>
    intro y m
    rcases List.mem_append.mp m with z | z
    · obtain ⟨x, hx, q⟩ := ih y z; exact ⟨x, by simp [hx], q⟩
    · simp at z; subst z; exact ⟨_, by simp, t, q⟩
theorem Pick.lenEq {α β : Type} {PT : α → Bool → Prop} {PY : α → β → Prop} {xs : List α} {ys : List β} (p : Pick PT PY xs ys) (ht : ∀ x ∈ xs, ¬ PT x false) : ys.length = xs.length := by
  induction p with
  | nil => rfl
  | skip _ t _ => exact absurd t (ht _ (by simp))
  | take _ t y ih => rw [List.length_append, List.length_append, ih (fun x m => ht x (by simp [m]))]; rfl

section
variable {α β : Type} {Γ : Ctx} {RX : Rel α} {RY : Rel β} {te tk : TE} {tt : TT} {wi : TI} {g : TG} {vs js : List Nat} {f : α → Ctx} {PT : α → Bool → Prop} {PY : α → β → Prop} {xs : List α}
theorem take_snoc {γ : Type} {l : List γ} {i : Nat} {a : γ} (e : l[i]? = some a) : l.take (i + 1) = l.take i ++ [a] := by
  rw [List.take_add_one, e]; rfl
/-- what is to be shown of an expression at one state -/
def EvAt {γ : Type} (Γ : Ctx) (te : TE) (R : Rel γ) (P : γ → Prop) (σ : L2.St) (h H : Hp) : Prop := ∀ Q : VK, (∀ v a h' H', P a → Stp (feet Γ) h H h' H' → Sat Γ σ h' H' → R.r a v h' → Q v H') → te σ H Q
theorem lc_at {Hold : Hp → Hp → Prop} {σ : L2.St} {h0 H0 : Hp} (hw : WiAt Γ wi RX xs Hold σ h0 H0) (hh : ∀ h H, Sat (wipeC Γ vs) (wipe σ vs) h H → Hold h H) (hg : EvG (wipeC Γ vs) g js RX f) (hj : ∀ j ∈ js, j ∈ vs) (hf : ∀ a b, feet (f a) b → feet (wipeC Γ vs) b) (hle : ∀ a, Le (f a) (wipeC Γ vs)) (nv : NoVol Γ vs) (hz : xs.length ≤ 10000)
    (ht : ∀ x ∈ xs, EvT (f x) tt (PT x)) (he : ∀ x ∈ xs, PT x true → Ev (f x) te RY (PY x)) : EvAt Γ (tLc wi g tt te vs) (RL RY) (Pick PT PY xs) σ h0 H0 := fun Q q =>
  hw _ fun J h1 H1 s1 S1 wk => by
    intro D hD
    have hD1 : h1 D = none := s1.ex.free hD
    have nfD : ¬ feet Γ D := fun z => S1.live z hD
    have st0 : Stp MNo h1 H1 h1 (upd H1 D (.lst [])) := .newU s1.ex hD
    let M : Addr → Prop := fun b => feet Γ b ∨ b = D
    have Sw := (S1.stepNo st0).wipe vs
    have keyd : ∀ {h H : Hp}, Stp M h1 (upd H1 D (.lst [])) h H → Stp (feet Γ) h1 H1 h H := fun {h H} t => st0.no.trans t fun b z => z.imp id fun z => by rw [z]; exact hD
    have outD : ∀ {h H : Hp}, Stp M h1 (upd H1 D (.lst [])) h H → h D = none := fun {h H} t => t.outF hD1 (by rw [upd_same]; exact fun z => nomatch z)
    refine ⟨fun i m H => m = xs.length - i ∧ i ≤ xs.length ∧ ∃ h acc ys, Sat (wipeC Γ vs) (wipe σ vs) h H ∧ Stp M h1 (upd H1 D (.lst [])) h H ∧ H D = some (.lst acc) ∧ Reps RY h ys acc ∧ Pick PT PY (xs.take i) ys, ⟨xs.length, by omega, Nat.zero_le _, h1, [], [], Sw, .refl st0.ex, upd_same, .nil, .nil⟩, ?_⟩
    rintro i m H2 ⟨rfl, hi, h2, acc, ys, S2, t2, a2, r2, p2⟩
    obtain ⟨w1, w2⟩ := wk i h2 H2 (keyd t2) (hh _ _ S2)
    by_cases hlt : i < xs.length
    · right
      have ei : xs[i]? = some xs[i] := List.getElem?_eq_getElem hlt
      have mi : xs[i] ∈ xs := List.getElem_mem hlt
      obtain ⟨go, y⟩ := w2 xs[i] ei
      refine ⟨go, fun H' => i + 1 ≤ xs.length ∧ ∃ h acc ys, Sat (wipeC Γ vs) (wipe σ vs) h H' ∧ Stp M h1 (upd H1 D (.lst [])) h H' ∧ H' D = some (.lst acc) ∧ Reps RY h ys acc ∧ Pick PT PY (xs.take (i + 1)) ys, fun H' n => ⟨xs.length - (i + 1), by omega, rfl, n.1, n.2⟩, fun x H' yl => ?_⟩
      obtain ⟨h3, t3, r3⟩ := y x H' yl
      have S3 := S2.stepNo t3
      have nD : ∀ {h : Hp} {H : Hp}, Stp M h1 (upd H1 D (.lst [])) h H → ¬ feet (f xs[i]) D := fun {h H} _ z => nfD (feet_wipe (hf _ _ z))
      refine hg (wipe σ vs) h3 H' x xs[i] S3 t3.ex r3 _ fun σ4 S4 l4 o4 => ?_
      have len4 : σ4.length = σ.length := l4.trans (wipe_length σ vs)
      have wm : wipe σ4 vs = wipe σ vs := wipe_same len4 fun k n => o4 k fun z => n (hj k z)
      refine ⟨wm, ?_⟩
      have back : ∀ {h H : Hp}, Sat (f xs[i]) σ4 h H → Sat (wipeC Γ vs) (wipe σ vs) h H := fun {h H} S => by
        have z := (S.le (hle xs[i])).wipe vs
        rw [wm] at z
        refine z.le ⟨by rw [wipeC_len, wipeC_len], fun k s e => ?_⟩
        rcases wipeC_some e with z | ⟨_, z⟩
        · exact .inl z
        · right
          have : ∀ vs' : List Nat, k ∉ vs' → (wipeC (wipeC Γ vs) vs')[k]? = (wipeC Γ vs)[k]? := by
            intro vs'
            induction vs' with
            | nil => intro _; rfl
            | cons v vs' ih =>
              intro n
              rw [List.mem_cons, not_or] at n
              show ((wipeC (wipeC Γ vs) vs').set v .no)[k]? = _
              rw [List.getElem?_set_ne (Ne.symm n.1), ih n.2]
          rw [this vs z, e]
      have mono : ∀ {h H h' H' : Hp}, Stp (feet (f xs[i])) h H h' H' → Stp M h H h' H' := fun t => t.mono fun b z => .inl (feet_wipe (hf _ _ z))
      have t23 := t2.tr t3.no
      have a3 : H' D = some (.lst acc) := by rw [t3.at (fun z => z.elim) (ne_some a2), a2]
      refine ht xs[i] mi σ4 h3 H' S4 t3.ex _ fun b h5 H5 pb s5 S5 => ?_
      have t25 := t23.tr (mono s5)
      have a5 : H5 D = some (.lst acc) := by rw [s5.at (nD t23) (ne_some a3), a3]
      cases b with
      | true =>
        refine iteT ?_
        refine he xs[i] mi pb σ4 h5 H5 S5 s5.ex _ fun v yv h6 H6 py s6 S6 r6 => ?_
        have t26 := t25.tr (mono s6)
        have a6 : H6 D = some (.lst acc) := by rw [s6.at (nD t25) (ne_some a5), a5]
        have la : acc.length ≤ 10000 := by rw [← r2.len]; have := p2.len; rw [List.length_take] at this; omega
        refine ⟨acc, a6, Nat.lt_of_le_of_lt la (by decide), hlt, h6, acc ++ [v], ys ++ [yv], ?_, ?_, upd_same, ?_, ?_⟩
        · have sm : Stp (fun b => b = D) h6 H6 h6 (upd H6 D (.lst (acc ++ [v]))) := .mut s6.ex (outD t26) rfl (ne_some a6)
          exact (back S6).step sm fun b z w => nfD (by rw [← w]; exact feet_wipe z)
        · exact t26.tr (.mut s6.ex (outD t26) (.inr rfl) (ne_some a6))
        · exact (r2.mono ((t3.kn.trans s5.kn).trans s6.kn)).append (.cons r6 .nil)
        · rw [take_snoc ei]; exact .take p2 pb py
      | false =>
        refine iteF ?_
        refine ⟨hlt, h5, acc, ys, back S5, t25, a5, r2.mono (t3.kn.trans s5.kn), ?_⟩
        rw [take_snoc ei]; exact .skip p2 pb
    · left
      have e : i = xs.length := by omega
      subst e
      have t2' := keyd t2
      have x1 : Ext h2 (upd h2 D (.lst acc)) := .new (outD t2)
      have fin := t2'.knows (outD t2) a2 hD
      rw [List.take_length] at p2
      exact ⟨w1 (Nat.le_refl _), q (.ref D) ys (upd h2 D (.lst acc)) H2 p2 (s1.tr fin) ((S1.unwipe S2 t2.kn nv).knows (outD t2) nfD) ⟨D, acc, rfl, upd_same, r2.mono x1⟩⟩
/-- a dict's pairs put one behind another -/
def puts {α : Type} (ps : List (Str × α)) : List (Str × α) := ps.foldl (fun acc p => putS acc p.1 p.2) []
theorem putS_len {α : Type} (kvs : List (Str × α)) (k : Str) (v : α) : (putS kvs k v).length ≤ kvs.length + 1 := by
  unfold putS
  split
  · rw [List.length_map]; omega
  · simp
theorem puts_len {α : Type} (ps : List (Str × α)) : (puts ps).length ≤ ps.length := by
  have : ∀ (ps acc : List (Str × α)), (ps.foldl (fun acc p => putS acc p.1 p.2) acc).length ≤ acc.length + ps.length := by
    intro ps
    induction ps with
    | nil => intro acc; simp
    | cons p ps ih => intro acc; rw [List.foldl_cons, List.length_cons]; have := ih (putS acc p.1 p.2); have := putS_len acc p.1 p.2; omega
  have := this ps []
  simpa [puts] using this
theorem puts_snoc {α : Type} (ps : List (Str × α)) (p : Str × α) : puts (ps ++ [p]) = putS (puts ps) p.1 p.2 := by
  unfold puts; rw [List.foldl_append]; rfl
theorem ev_lc (hw : EvI Γ wi RX xs) (hg : EvG (wipeC Γ vs) g js RX f) (hj : ∀ j ∈ js, j ∈ vs) (hf : ∀ a b, feet (f a) b → feet (wipeC Γ vs) b) (hle : ∀ a, Le (f a) (wipeC Γ vs)) (nv : NoVol Γ vs) (hz : xs.length ≤ 10000)
    (ht : ∀ x ∈ xs, EvT (f x) tt (PT x)) (he : ∀ x ∈ xs, PT x true → Ev (f x) te RY (PY x)) : Ev Γ (tLc wi g tt te vs) (RL RY) (Pick PT PY xs) := fun σ h0 H0 S0 e0 =>
  lc_at (hw σ h0 H0 S0 e0) (fun _ _ _ => trivial) hg hj hf hle nv hz ht he
theorem dc_at {PK : α → Str → Prop} {Hold : Hp → Hp → Prop} {σ : L2.St} {h0 H0 : Hp} (hw : WiAt Γ wi RX xs Hold σ h0 H0) (hh : ∀ h H, Sat (wipeC Γ vs) (wipe σ vs) h H → Hold h H) (hg : EvG (wipeC Γ vs) g js RX f) (hj : ∀ j ∈ js, j ∈ vs) (hf : ∀ a b, feet (f a) b → feet (wipeC Γ vs) b) (hle : ∀ a, Le (f a) (wipeC Γ vs)) (nv : NoVol Γ vs) (hz : xs.length ≤ 10000)
    (ht : ∀ x ∈ xs, EvT (f x) tt (PT x)) (hk : ∀ x ∈ xs, PT x true → Ev (f x) tk RS (PK x)) (he : ∀ x ∈ xs, PT x true → Ev (f x) te RY (PY x)) :
    EvAt Γ (tDc wi g tt tk te vs) (RD RY) (fun d => ∃ ps, Pick PT (fun x p => PK x p.1 ∧ PY x p.2) xs ps ∧ d = puts ps) σ h0 H0 := fun Q q =>
  hw _ fun J h1 H1 s1 S1 wk => by
    intro D hD
    have hD1 : h1 D = none := s1.ex.free hD
    have nfD : ¬ feet Γ D := fun z => S1.live z hD
    have st0 : Stp MNo h1 H1 h1 (upd H1 D (.dK [])) := .newU s1.ex hD
    let M : Addr → Prop := fun b => feet Γ b ∨ b = D
    have Sw := (S1.stepNo st0).wipe vs
    have keyd : ∀ {h H : Hp}, Stp M h1 (upd H1 D (.dK [])) h H → Stp (feet Γ) h1 H1 h H := fun {h H} t => st0.no.trans t fun b z => z.imp id fun z => by rw [z]; exact hD
    have outD : ∀ {h H : Hp}, Stp M h1 (upd H1 D (.dK [])) h H → h D = none := fun {h H} t => t.outF hD1 (by rw [upd_same]; exact fun z => nomatch z)
    let PP : α → Str × β → Prop := fun x p => PK x p.1 ∧ PY x p.2
    refine ⟨fun i m H => m = xs.length - i ∧ i ≤ xs.length ∧ ∃ h acc ys, Sat (wipeC Γ vs) (wipe σ vs) h H ∧ Stp M h1 (upd H1 D (.dK [])) h H ∧ H D = some (.dK acc) ∧ KVs RY h (puts ys) acc ∧ Pick PT PP (xs.take i) ys, ⟨xs.length, by omega, Nat.zero_le _, h1, [], [], Sw, .refl st0.ex, upd_same, .nil, .nil⟩, ?_⟩
    rintro i m H2 ⟨rfl, hi, h2, acc, ys, S2, t2, a2, r2, p2⟩
    obtain ⟨w1, w2⟩ := wk i h2 H2 (keyd t2) (hh _ _ S2)
    by_cases hlt : i < xs.length
    · right
      have ei : xs[i]? = some xs[i] := List.getElem?_eq_getElem hlt
      have mi : xs[i] ∈ xs := List.getElem_mem hlt
      obtain ⟨go, y⟩ := w2 xs[i] ei
      refine ⟨go, fun H' => i + 1 ≤ xs.length ∧ ∃ h acc ys, Sat (wipeC Γ vs) (wipe σ vs) h H' ∧ Stp M h1 (upd H1 D (.dK [])) h H' ∧ H' D = some (.dK acc) ∧ KVs RY h (puts ys) acc ∧ Pick PT PP (xs.take (i + 1)) ys, fun H' n => ⟨xs.length - (i + 1), by omega, rfl, n.1, n.2⟩, fun x H' yl => ?_⟩
      obtain ⟨h3, t3, r3⟩ := y x H' yl
      have S3 := S2.stepNo t3
      have nD : ¬ feet (f xs[i]) D := fun z => nfD (feet_wipe (hf _ _ z))
      refine hg (wipe σ vs) h3 H' x xs[i] S3 t3.ex r3 _ fun σ4 S4 l4 o4 => ?_
      have len4 : σ4.length = σ.length := l4.trans (wipe_length σ vs)
      have wm : wipe σ4 vs = wipe σ vs := wipe_same len4 fun k n => o4 k fun z => n (hj k z)
      refine ⟨wm, ?_⟩
      have back : ∀ {h H : Hp}, Sat (f xs[i]) σ4 h H → Sat (wipeC Γ vs) (wipe σ vs) h H := fun {h H} S => by
        have z := (S.le (hle xs[i])).wipe vs
        rw [wm] at z
        refine z.le ⟨by rw [wipeC_len, wipeC_len], fun k s e => ?_⟩
        rcases wipeC_some e with z | ⟨_, z⟩
        · exact .inl z
        · right
          have : ∀ vs' : List Nat, k ∉ vs' → (wipeC (wipeC Γ vs) vs')[k]? = (wipeC Γ vs)[k]? := by
            intro vs'
            induction vs' with
            | nil => intro _; rfl
            | cons v vs' ih =>
              intro n
              rw [List.mem_cons, not_or] at n
              show ((wipeC (wipeC Γ vs) vs').set v .no)[k]? = _
              rw [List.getElem?_set_ne (Ne.symm n.1), ih n.2]
          rw [this vs z, e]
      have mono : ∀ {h H h' H' : Hp}, Stp (feet (f xs[i])) h H h' H' → Stp M h H h' H' := fun t => t.mono fun b z => .inl (feet_wipe (hf _ _ z))
      have t23 := t2.tr t3.no
      have a3 : H' D = some (.dK acc) := by rw [t3.at (fun z => z.elim) (ne_some a2), a2]
      refine ht xs[i] mi σ4 h3 H' S4 t3.ex _ fun b h5 H5 pb s5 S5 => ?_
      have t25 := t23.tr (mono s5)
      have a5 : H5 D = some (.dK acc) := by rw [s5.at nD (ne_some a3), a3]
      cases b with
      | true =>
        refine iteT ?_
        refine hk xs[i] mi pb σ4 h5 H5 S5 s5.ex _ fun kv yk h6 H6 pk s6 S6 r6 => ?_
        have t26 := t25.tr (mono s6)
        have a6 : H6 D = some (.dK acc) := by rw [s6.at nD (ne_some a5), a5]
        refine he xs[i] mi pb σ4 h6 H6 S6 s6.ex _ fun v yv h7 H7 py s7 S7 r7 => ?_
        have t27 := t26.tr (mono s7)
        have a7 : H7 D = some (.dK acc) := by rw [s7.at nD (ne_some a6), a6]
        cases r6
        have la : acc.length ≤ 10000 := by rw [← r2.len]; have := p2.len; have := puts_len ys; rw [List.length_take] at *; omega
        refine ⟨acc, Sum.inr yk, rfl, a7, Nat.lt_of_le_of_lt la (by decide), hlt, h7, _, ys ++ [(yk, yv)], ?_, ?_, upd_same, ?_, ?_⟩
        · have sm : Stp (fun b => b = D) h7 H7 h7 (upd H7 D (.dK (putK acc (Sum.inr yk) v))) := .mut s7.ex (outD t27) rfl (ne_some a7)
          exact (back S7).step sm fun b z w => nfD (by rw [← w]; exact feet_wipe z)
        · exact t27.tr (.mut s7.ex (outD t27) (.inr rfl) (ne_some a7))
        · rw [puts_snoc]; exact (r2.mono (((t3.kn.trans s5.kn).trans s6.kn).trans s7.kn)).put r7
        · rw [take_snoc ei]; exact .take p2 pb ⟨pk, py⟩
      | false =>
        refine iteF ?_
        refine ⟨hlt, h5, acc, ys, back S5, t25, a5, r2.mono (t3.kn.trans s5.kn), ?_⟩
        rw [take_snoc ei]; exact .skip p2 pb
    · left
      have e : i = xs.length := by omega
      subst e
      have t2' := keyd t2
      have x1 : Ext h2 (upd h2 D (.dK acc)) := .new (outD t2)
      have fin := t2'.knows (outD t2) a2 hD
      rw [List.take_length] at p2
      exact ⟨w1 (Nat.le_refl _), q (.ref D) (puts ys) (upd h2 D (.dK acc)) H2 ⟨ys, p2, rfl⟩ (s1.tr fin) ((S1.unwipe S2 t2.kn nv).knows (outD t2) nfD) ⟨D, acc, rfl, upd_same, r2.mono x1⟩⟩
theorem ev_dc {PK : α → Str → Prop} (hw : EvI Γ wi RX xs) (hg : EvG (wipeC Γ vs) g js RX f) (hj : ∀ j ∈ js, j ∈ vs) (hf : ∀ a b, feet (f a) b → feet (wipeC Γ vs) b) (hle : ∀ a, Le (f a) (wipeC Γ vs)) (nv : NoVol Γ vs) (hz : xs.length ≤ 10000)
    (ht : ∀ x ∈ xs, EvT (f x) tt (PT x)) (hk : ∀ x ∈ xs, PT x true → Ev (f x) tk RS (PK x)) (he : ∀ x ∈ xs, PT x true → Ev (f x) te RY (PY x)) :
    Ev Γ (tDc wi g tt tk te vs) (RD RY) (fun d => ∃ ps, Pick PT (fun x p => PK x p.1 ∧ PY x p.2) xs ps ∧ d = puts ps) := fun σ h0 H0 S0 e0 =>
  dc_at (hw σ h0 H0 S0 e0) (fun _ _ _ => trivial) hg hj hf hle nv hz ht hk he
theorem et_yes {Γ : Ctx} : EvT Γ tYes (fun b => b = true) := fun σ h H S e Q q => q true h H rfl (.refl e) S
end
end QL

set_option Elab.async false
set_option linter.all false
set_option maxRecDepth 100000
namespace QL
open PySem L2

/-! ### a dict is locked while it is walked -/
def tLkE (t : TE) : TE := fun σ H Q => (∃ d u, H d = some u ∧ Mut (some u) ∧ ∀ od, t σ (upd H d (.frz od u)) fun v H' => H' d = some (.frz od u) ∧ Q v (upd H' d u)) ∨ t σ H Q
def tLkS (t : TS) : TS := fun D σ H => tLock t D σ H ∨ t D σ H
theorem pe_lk {X : Cx} {e : Expr} {t : TE} (h : PE X e t) : PE X e (tLkE t) := ⟨fun pins s σ H Q I q => q.elim (fun q => (pe_lock h).run pins s σ H Q I q) fun q => h.run pins s σ H Q I q⟩
theorem ps_lk {X : Cx} {st : Stmt} {t : TS} (h : PS X st t) : PS X st (tLkS t) := ⟨fun pins s σ H D I q => q.elim (fun q => (ps_lock h).run pins s σ H D I q) fun q => h.run pins s σ H D I q⟩
/-- what a call has made is locked for ever -/
def tFrz (t : TE) : TE := fun σ H Q => t σ H fun v H1 => ∃ d kvs, v = .ref d ∧ H1 d = some (.dK kvs) ∧ ∀ ob, Q v (upd H1 d (.frz ob (.dK kvs)))
theorem pe_frz {X : Cx} {e : Expr} {t : TE} (h : PE X e t) : PE X e (tFrz t) := ⟨fun pins s σ H Q I hq => thn (h.run pins s σ H _ I hq) fun u s1 ⟨v, H1, I1, r, d, kvs, ev, e, q⟩ => by
  obtain ⟨od, I2⟩ := I1.lock e trivial
  exact ⟨v, _, I2, r, q od⟩⟩

section
variable {γ α β : Type} {Γ : Ctx} {R : Rel γ} {Ra : Rel α} {Rb : Rel β} {td te ta tb : TE} {K : PySem.W.Frag}
/-- H' is H but for known dicts (that are locked) -/
def HD (h H H' : Hp) : Prop := ∀ b, H' b = H b ∨ ∃ ks, h b = some (.dK ks)
/-- a value that is found, not made -/
def PthV (Γ : Ctx) (te : TE) (R : Rel γ) (a : γ) : Prop := ∀ σ h H, Sat Γ σ h H → Ex h H → ∃ v, R.r a v h ∧ ∀ H', HD h H H' → ∀ Q : VK, Q v H' → te σ H' Q
theorem pv_var {i : Nat} {a : γ} (e : Γ[i]? = some (.va R a)) : PthV Γ (tVar i) R a := fun σ h H S _ => by
  obtain ⟨v, ev, r⟩ := S.ok i _ e
  exact ⟨v, r, fun H' _ Q q => ⟨v, ev, q⟩⟩
theorem HD.tup {h H H' : Hp} (d : HD h H H') (e : Ex h H) {p : Addr} {xs : List V} (k : KT K h p xs) : SqT K H' p xs := by
  rcases k with k | k
  · rcases d p with z | ⟨ks, z⟩
    · exact .inl (.inl (by rw [z]; exact e.tup k))
    · rw [k] at z; cases z
  · exact .inr k
theorem pv_fst {p : α × β} (k : PthV Γ te (RT2 K Ra Rb) p) : PthV Γ (tOp (rIxT K) te (tC (.int 0))) Ra p.1 := fun σ h H S e => by
  obtain ⟨v, ⟨d, x, y, rfl, kt, rx, ry⟩, k⟩ := k σ h H S e
  exact ⟨x, rx, fun H' hd Q q => k H' hd _ ⟨d, [x, y], 0, x, rfl, rfl, hd.tup e kt, rfl, q⟩⟩
theorem pv_snd {p : α × β} (k : PthV Γ te (RT2 K Ra Rb) p) : PthV Γ (tOp (rIxT K) te (tC (.int 1))) Rb p.2 := fun σ h H S e => by
  obtain ⟨v, ⟨d, x, y, rfl, kt, rx, ry⟩, k⟩ := k σ h H S e
  exact ⟨y, ry, fun H' hd Q q => k H' hd _ ⟨d, [x, y], 1, y, rfl, rfl, hd.tup e kt, rfl, q⟩⟩

theorem Sat.locked {σ : L2.St} {h H : Hp} {d : Addr} {ks : List (Key × V)} {o : HO} (S : Sat Γ σ h H) (hd : h d = some (.dK ks)) : Sat Γ σ h (upd H d o) where
  len := S.len
  ok := fun i s e => (S.ok i s e).step (.refl h) fun b f => upd_ne fun z => by have := S.out i s b e f; rw [z, hd] at this; cases this
  apart := S.apart
  out := S.out
theorem Ex.locked {h H : Hp} {d : Addr} {ks : List (Key × V)} {od : Obj} (e : Ex h H) (hd : h d = some (.dK ks)) : Ex h (upd H d (.frz od (.dK ks))) := fun a o q => by
  by_cases z : a = d
  · subst z; rw [hd] at q; cases q; exact .inr ⟨ks, od, rfl, upd_same⟩
  · rw [upd_ne z]; exact e a o q
/-- a step under the lock, seen from outside -/
theorem Stp.unlock {M0 M : Addr → Prop} {h0 H0 h H h' H' : Hp} {d : Addr} {ks : List (Key × V)} {od : Obj} (s0 : Stp M0 h0 H0 h H) (hd : h d = some (.dK ks)) (lH : H d = some (.dK ks)) (s : Stp M h (upd H d (.frz od (.dK ks))) h' H') (nd : ¬ M d) (k : ∀ b, M b → M0 b ∨ H0 b = none) :
    H' d = some (.frz od (.dK ks)) ∧ Stp M0 h0 H0 h' (upd H' d (.dK ks)) := by
  have fz : H' d = some (.frz od (.dK ks)) := s.keep d _ nd upd_same
  refine ⟨fz, s0.kn.trans s.kn, fun a o q => ?_, fun b o n q => ?_, fun b q => ?_, fun b q => ?_⟩
  · by_cases z : a = d
    · subst z
      have := s.kn _ _ hd
      rw [q] at this; cases this
      exact .inl upd_same
    · rw [upd_ne z]; exact s.ex a o q
  · have q1 := s0.keep b o n q
    by_cases z : b = d
    · subst z
      rw [lH] at q1; cases q1
      exact upd_same
    · rw [upd_ne z]
      exact s.keep b o (fun m => (k b m).elim n fun e => by rw [e] at q; cases q) (by rw [upd_ne z]; exact q1)
  · by_cases z : b = d
    · subst z; rw [upd_same]; exact fun z => nomatch z
    · rw [upd_ne z]
      refine s.live b ?_
      rw [upd_ne z]
      exact s0.live b q
  · rcases s.fresh b q with z | z
    · exact s0.fresh b z
    · by_cases y : b = d
      · subst y; rw [upd_same] at z; cases z
      · rw [upd_ne y] at z
        exact .inr (back_none s0 z)
theorem lock_ev {P : γ → Prop} {σ : L2.St} {h H : Hp} {d : Addr} {ks : List (Key × V)} (hd : h d = some (.dK ks)) (S : Sat Γ σ h H) (e : Ex h H)
    (k : ∀ H1 od, H1 d = some (.frz od (.dK ks)) → HD h H H1 → Sat Γ σ h H1 → Ex h H1 → EvAt Γ te R P σ h H1) : EvAt Γ (tLkE te) R P σ h H := fun Q q => by
  have nf : ¬ feet Γ d := fun z => by have := S.outF z; rw [hd] at this; cases this
  rcases e d _ hd with lH | ⟨ks', od, ee, lH⟩
  · refine .inl ⟨d, _, lH, trivial, fun od => ?_⟩
    refine k _ od upd_same (fun b => ?_) (S.locked hd) (e.locked hd) _ fun v a h' H' p s S' r => ?_
    · by_cases z : b = d
      · subst z; exact .inr ⟨ks, hd⟩
      · exact .inl (upd_ne z)
    · obtain ⟨fz, st⟩ := Stp.unlock (M0 := feet Γ) (.refl e) hd lH s nf fun b z => .inl z
      exact ⟨fz, q v a h' _ p st (S'.locked (s.kn _ _ hd)) r⟩
  · cases ee
    exact .inr (k H od lH (fun b => .inl rfl) S e Q q)
theorem stays_frz {M : Addr → Prop} {h H h' H' : Hp} {d : Addr} {ob : Obj} {ks : List (Key × V)} (s : Stp M h H h' H') (n : ¬ M d) (e : H d = some (.frz ob (.dK ks))) : H' d = some (.frz ob (.dK ks)) := s.keep d _ n e
theorem KVs.get' : ∀ {kvs : List (Str × γ)} {ks : List (Key × V)} {h : Hp} {i : Nat} {p : Str × γ}, KVs R h kvs ks → kvs[i]? = some p → ∃ v, ks[i]? = some (Sum.inr p.1, v) ∧ R.r p.2 v h
  | _, _, _, _, _, .nil, e => by simp at e
  | _, _, _, 0, _, .cons (a := x) (b := y) r _, e => by
    simp at e; subst e
    obtain ⟨e1, e2⟩ := r
    refine ⟨y.2, ?_, e2⟩
    simp [← e1]
  | _, _, _, i + 1, _, .cons _ t, e => by
    obtain ⟨v, h1, h2⟩ := KVs.get' (i := i) t (by simpa using e)
    exact ⟨v, by simpa using h1, h2⟩
/-- the walks over a locked dict -/
theorem walks_items {F : Fr} {d : Addr} {ob : Obj} {ks : List (Key × V)} {kvs : List (Str × γ)} {Hold : Hp → Hp → Prop} (rs : KVs R F.h kvs ks) (fz : ∀ h H, Stp F.M F.h F.H h H → Hold h H → H d = some (.frz ob (.dK ks))) : Walks (Iti d ob ks) (RT2 K RS R) kvs F Hold := fun i h2 H2 s2 hh => by
  have fz2 := fz h2 H2 s2 hh
  refine ⟨fun l => ⟨fz2, by rw [← rs.len]; exact l⟩, fun a ea => ?_⟩
  obtain ⟨v, ev, ra⟩ := rs.get' ea
  refine ⟨⟨fz2, (List.getElem?_eq_some_iff.mp ev).1⟩, fun x H' y => ?_⟩
  obtain ⟨T, kk, vv, e1, rfl, nT, rfl⟩ := y
  rw [ev] at e1; cases e1
  have st : Stp MNo h2 H2 (upd h2 T (.tup [.str a.1, v])) (upd H2 T (.tup [.str a.1, v])) := .new s2.ex nT
  exact ⟨_, st, T, .str a.1, v, rfl, .inl upd_same, rfl, R.mono (s2.kn.trans st.kn) ra⟩
theorem walks_keys {F : Fr} {d : Addr} {ob : Obj} {ks : List (Key × V)} {kvs : List (Str × γ)} {Hold : Hp → Hp → Prop} (rs : KVs R F.h kvs ks) (fz : ∀ h H, Stp F.M F.h F.H h H → Hold h H → H d = some (.frz ob (.dK ks))) : Walks (Itk d ob ks) RS (kvs.map (·.1)) F Hold := fun i h2 H2 s2 hh => by
  have fz2 := fz h2 H2 s2 hh
  refine ⟨fun l => ⟨fz2, by rw [← rs.len]; simpa using l⟩, fun a ea => ?_⟩
  rw [List.getElem?_map] at ea
  cases e2 : kvs[i]? with
  | none => rw [e2] at ea; cases ea
  | some p0 =>
    rw [e2] at ea; cases ea
    obtain ⟨v, ev, ra⟩ := rs.get' e2
    refine ⟨⟨fz2, (List.getElem?_eq_some_iff.mp ev).1⟩, fun x H' y => ?_⟩
    obtain ⟨rfl, kk, vv, e1, rfl⟩ := y
    rw [ev] at e1; cases e1
    exact ⟨h2, .refl s2.ex, rfl⟩
/-- at a state in which the dict is locked -/
theorem wi_items {kvs : List (Str × γ)} {σ : L2.St} {h H : Hp} {d : Addr} {od : Obj} {ks : List (Key × V)} (ev : ∀ Q : VK, Q (.ref d) H → td σ H Q) (hd : h d = some (.dK ks)) (rs : KVs R h kvs ks) (fz : H d = some (.frz od (.dK ks))) (S : Sat Γ σ h H) (e : Ex h H) :
    WiAt Γ (iItems td) (RT2 K RS R) kvs HYes σ h H := fun Q q => ev _ ⟨d, od, ks, rfl, fz, q _ h H (.refl e) S (walks_items rs fun h2 H2 s2 _ => stays_frz s2 (fun z => by have := S.outF z; rw [hd] at this; cases this) fz)⟩
theorem wi_keys {kvs : List (Str × γ)} {σ : L2.St} {h H : Hp} {d : Addr} {od : Obj} {ks : List (Key × V)} (ev : ∀ Q : VK, Q (.ref d) H → td σ H Q) (hd : h d = some (.dK ks)) (rs : KVs R h kvs ks) (fz : H d = some (.frz od (.dK ks))) (S : Sat Γ σ h H) (e : Ex h H) :
    WiAt Γ (iKeys td) RS (kvs.map (·.1)) HYes σ h H := fun Q q => ev _ ⟨d, od, rfl, .inl ⟨ks, fz, q _ h H (.refl e) S (walks_keys rs fun h2 H2 s2 _ => stays_frz s2 (fun z => by have := S.outF z; rw [hd] at this; cases this) fz)⟩⟩
/-- comprehensions over a known dict -/
theorem ev_lcItems {kvs : List (Str × γ)} {g : TG} {vs js : List Nat} {f : Str × γ → Ctx} {tt : TT} {PT : Str × γ → Bool → Prop} {PY : Str × γ → β → Prop} (pt : PthV Γ td (RD R) kvs) (hg : EvG (wipeC Γ vs) g js (RT2 K RS R) f) (hj : ∀ j ∈ js, j ∈ vs) (hf : ∀ a b, feet (f a) b → feet (wipeC Γ vs) b)
    (hle : ∀ a, Le (f a) (wipeC Γ vs)) (nv : NoVol Γ vs) (hz : kvs.length ≤ 10000) (ht : ∀ x ∈ kvs, EvT (f x) tt (PT x)) (he : ∀ x ∈ kvs, PT x true → Ev (f x) te Rb (PY x)) : Ev Γ (tLkE (tLc (iItems td) g tt te vs)) (RL Rb) (Pick PT PY kvs) := fun σ h H S e => by
  obtain ⟨v, ⟨d, ks, rfl, hd, rs⟩, k⟩ := pt σ h H S e
  exact lock_ev hd S e fun H1 od fz hdd S1 e1 => lc_at (wi_items (fun Q q => k H1 hdd Q q) hd rs fz S1 e1) (fun _ _ _ => trivial) hg hj hf hle nv hz ht he
theorem ev_dcItems {kvs : List (Str × γ)} {g : TG} {vs js : List Nat} {f : Str × γ → Ctx} {tt : TT} {tk : TE} {PT : Str × γ → Bool → Prop} {PK : Str × γ → Str → Prop} {PY : Str × γ → β → Prop} (pt : PthV Γ td (RD R) kvs) (hg : EvG (wipeC Γ vs) g js (RT2 K RS R) f) (hj : ∀ j ∈ js, j ∈ vs) (hf : ∀ a b, feet (f a) b → feet (wipeC Γ vs) b)
    (hle : ∀ a, Le (f a) (wipeC Γ vs)) (nv : NoVol Γ vs) (hz : kvs.length ≤ 10000) (ht : ∀ x ∈ kvs, EvT (f x) tt (PT x)) (hk : ∀ x ∈ kvs, PT x true → Ev (f x) tk RS (PK x)) (he : ∀ x ∈ kvs, PT x true → Ev (f x) te Rb (PY x)) :
    Ev Γ (tLkE (tDc (iItems td) g tt tk te vs)) (RD Rb) (fun d => ∃ ps, Pick PT (fun x p => PK x p.1 ∧ PY x p.2) kvs ps ∧ d = puts ps) := fun σ h H S e => by
  obtain ⟨v, ⟨d, ks, rfl, hd, rs⟩, k⟩ := pt σ h H S e
  exact lock_ev hd S e fun H1 od fz hdd S1 e1 => dc_at (wi_items (fun Q q => k H1 hdd Q q) hd rs fz S1 e1) (fun _ _ _ => trivial) hg hj hf hle nv hz ht hk he

/-! one's own dict, locked -/
def VZ (p : Addr) (od : Obj) (ks : List (Key × V)) (R : Rel γ) (kvs : List (Str × γ)) : Vol where
  val := .ref p
  foot := fun b => b = p
  r := fun h H => H p = some (.frz od (.dK ks)) ∧ KVs R h kvs ks
  frame := fun ⟨e, r⟩ x k => ⟨by rw [k p rfl]; exact e, r.mono x⟩
  live := fun ⟨e, _⟩ f => by rw [f]; exact ne_some e
theorem lock_own {P : α → Prop} {i : Nat} {p : Addr} {kvs : List (Str × γ)} (ei : Γ[i]? = some (.vo (VD p R kvs))) (k : ∀ od ks σ h H, Sat (Γ.set i (.vo (VZ p od ks R kvs))) σ h H → Ex h H → EvAt (Γ.set i (.vo (VZ p od ks R kvs))) te Ra P σ h H) : Ev Γ (tLkE te) Ra P := fun σ h H S e Q q => by
  obtain ⟨_, ks, ep, rs⟩ := S.ok i _ ei
  have fp : feet Γ p := ⟨i, _, ei, rfl⟩
  have nh : h p = none := S.outF fp
  have li : i < Γ.length := (List.getElem?_eq_some_iff.mp ei).1
  refine .inl ⟨p, _, ep, trivial, fun od => ?_⟩
  have s1 : Stp (feet Γ) h H h (upd H p (.frz od (.dK ks))) := .mut e nh fp (ne_some ep)
  have S1 : Sat (Γ.set i (.vo (VZ p od ks R kvs))) σ h (upd H p (.frz od (.dK ks))) := S.vol ei rfl (fun _ => Iff.rfl) rfl ⟨upd_same, rs⟩
  refine k od ks σ h _ S1 s1.ex _ fun v a h' H' pa s S' r => ?_
  have g : (Γ.set i (.vo (VZ p od ks R kvs)))[i]? = some (.vo (VZ p od ks R kvs)) := List.getElem?_set_self li
  obtain ⟨_, fz, rs'⟩ := S'.ok i _ g
  have fe : ∀ b, feet (Γ.set i (.vo (VZ p od ks R kvs))) b → feet Γ b := fun b z => feet_vol (W' := VZ p od ks R kvs) ei (fun _ => Iff.rfl) z
  have s2 : Stp (feet Γ) h H h' H' := s1.tr (s.mono fe)
  have n' : h' p = none := S'.out i _ p g rfl
  have s3 : Stp (feet Γ) h' H' h' (upd H' p (.dK ks)) := .mut s2.ex n' fp (ne_some fz)
  have S2 : Sat ((Γ.set i (.vo (VZ p od ks R kvs))).set i (.vo (VD p R kvs))) σ h' (upd H' p (.dK ks)) := S'.vol g rfl (fun _ => Iff.rfl) rfl ⟨ks, upd_same, rs'⟩
  have eΓ : (Γ.set i (.vo (VZ p od ks R kvs))).set i (.vo (VD p R kvs)) = Γ := by
    rw [List.set_set]
    apply List.ext_getElem?
    intro j
    by_cases z : i = j
    · subst z; rw [List.getElem?_set_self li, ei]
    · rw [List.getElem?_set_ne z]
  rw [eΓ] at S2
  exact ⟨fz, q v a h' _ pa (s2.tr s3) S2 r⟩
theorem wi_itemsZ {i : Nat} {p : Addr} {od : Obj} {ks : List (Key × V)} {kvs : List (Str × γ)} {σ : L2.St} {h H : Hp} (ei : Γ[i]? = some (.vo (VZ p od ks R kvs))) (S : Sat Γ σ h H) (e : Ex h H) :
    WiAt Γ (iItems (tVar i)) (RT2 K RS R) kvs (fun _ H => H p = some (.frz od (.dK ks))) σ h H := fun Q q => by
  obtain ⟨ev, fz, rs⟩ := S.ok i _ ei
  exact ⟨_, ev, p, od, ks, rfl, fz, q _ h H (.refl e) S (walks_items rs fun _ _ _ z => z)⟩
theorem wipeC_at {Γ : Ctx} {i : Nat} : ∀ {vs : List Nat}, i ∉ vs → (wipeC Γ vs)[i]? = Γ[i]?
  | [], _ => rfl
  | v :: vs, n => by
    rw [List.mem_cons, not_or] at n
    show ((wipeC Γ vs).set v .no)[i]? = _
    rw [List.getElem?_set_ne (Ne.symm n.1), wipeC_at n.2]
/-- a list comprehension over the pairs of one's own dict -/
theorem ev_lcOwn {i : Nat} {p : Addr} {kvs : List (Str × γ)} {g : TG} {vs js : List Nat} {f : Slot → Str × γ → Ctx} {tt : TT} {PT : Str × γ → Bool → Prop} {PY : Str × γ → β → Prop} (ei : Γ[i]? = some (.vo (VD p R kvs))) (ni : i ∉ vs)
    (hg : ∀ s, EvG (wipeC (Γ.set i s) vs) g js (RT2 K RS R) (f s)) (hj : ∀ j ∈ js, j ∈ vs) (hf : ∀ s a b, feet (f s a) b → feet (wipeC (Γ.set i s) vs) b)
    (hle : ∀ s a, Le (f s a) (wipeC (Γ.set i s) vs)) (nv : ∀ s, NoVol (Γ.set i s) vs) (hz : kvs.length ≤ 10000) (ht : ∀ s, ∀ x ∈ kvs, EvT (f s x) tt (PT x)) (he : ∀ s, ∀ x ∈ kvs, PT x true → Ev (f s x) te Rb (PY x)) :
    Ev Γ (tLkE (tLc (iItems (tVar i)) g tt te vs)) (RL Rb) (Pick PT PY kvs) := by
  have li : i < Γ.length := (List.getElem?_eq_some_iff.mp ei).1
  refine lock_own ei fun od ks σ h H S e => ?_
  have g0 : (Γ.set i (.vo (VZ p od ks R kvs)))[i]? = some (.vo (VZ p od ks R kvs)) := List.getElem?_set_self li
  refine lc_at (wi_itemsZ g0 S e) (fun h H S2 => ?_) (hg _) hj (hf _) (hle _) (nv _) hz (ht _) (he _)
  have g1 : (wipeC (Γ.set i (.vo (VZ p od ks R kvs))) vs)[i]? = some (.vo (VZ p od ks R kvs)) := by rw [wipeC_at ni]; exact g0
  exact (S2.ok i _ g1).2.1

/-! ### what is made new, still one's own -/
def EvF (Γ : Ctx) (te : TE) (R : Rel γ) (P : List (Str × γ) → Prop) : Prop :=
  ∀ σ h H, Sat Γ σ h H → Ex h H → ∀ Q : VK, (∀ p kvs h' H', P kvs → Stp (feet Γ) h H h' H' → Sat Γ σ h' H' → H p = none → h' p = none → (VD p R kvs).r h' H' → Q (.ref p) H') → te σ H Q
def EvFL (Γ : Ctx) (te : TE) (R : Rel γ) (P : List γ → Prop) : Prop :=
  ∀ σ h H, Sat Γ σ h H → Ex h H → ∀ Q : VK, (∀ p xs h' H', P xs → Stp (feet Γ) h H h' H' → Sat Γ σ h' H' → H p = none → h' p = none → (VL p R xs).r h' H' → Q (.ref p) H') → te σ H Q
theorem nfeet {σ : L2.St} {h H : Hp} {p : Addr} (S : Sat Γ σ h H) (n : H p = none) : ¬ feet Γ p := fun z => S.live z n
theorem EvF.ev {P : List (Str × γ) → Prop} (k : EvF Γ te R P) : Ev Γ te (RD R) P := fun σ h H S e Q q =>
  k σ h H S e _ fun p kvs h' H' pk s S' n0 n1 ⟨ks, ep, rs⟩ => q _ kvs (upd h' p (.dK ks)) H' pk (s.knows n1 ep n0) (S'.knows n1 (nfeet S n0)) ⟨p, ks, rfl, upd_same, rs.mono (.new n1)⟩
theorem EvFL.ev {P : List γ → Prop} (k : EvFL Γ te R P) : Ev Γ te (RL R) P := fun σ h H S e Q q =>
  k σ h H S e _ fun p xs h' H' pk s S' n0 n1 ⟨vs, ep, rs⟩ => q _ xs (upd h' p (.lst vs)) H' pk (s.knows n1 ep n0) (S'.knows n1 (nfeet S n0)) ⟨p, vs, rfl, upd_same, rs.mono (.new n1)⟩
theorem EvF.imp {P P' : List (Str × γ) → Prop} (k : EvF Γ te R P) (i : ∀ l, P l → P' l) : EvF Γ te R P' := fun σ h H S e Q q => k σ h H S e Q fun p kvs h' H' pk => q p kvs h' H' (i kvs pk)
theorem EvFL.imp {P P' : List γ → Prop} (k : EvFL Γ te R P) (i : ∀ l, P l → P' l) : EvFL Γ te R P' := fun σ h H S e Q q => k σ h H S e Q fun p kvs h' H' pk => q p kvs h' H' (i kvs pk)
/-- a new dict or list at a slot, one's own -/
theorem at_setF {F : Fr} {D : Ends} {i : Nat} {P : List (Str × γ) → Prop} (k : EvF Γ te R P) (n : ∀ p kvs, P kvs → F.H p = none → At F (Γ.set i (.vo (VD p R kvs))) D.nx) (l : i < Γ.length := by (simp only [List.length_cons, List.length_nil, List.length_set]; omega)) : At F Γ (tAsg te (gName i) D) := fun σ h H S s f =>
  k σ h H S s.ex _ fun p kvs h' H' pk s' S' n0 n1 rs => by
    have z0 := back_none s n0
    refine n p kvs pk z0 _ h' H' (S'.put ⟨rfl, rs⟩ (fun b e => ?_) l) (feet_stp (Γ := Γ) (σ := σ) s s' f) fun b z => ?_
    · obtain rfl : b = p := e
      exact ⟨nfeet S n0, n1⟩
    · rcases feet_set z with e | z
      · obtain rfl : b = p := e
        exact .inr z0
      · exact f b z
theorem at_setFL {F : Fr} {D : Ends} {i : Nat} {P : List γ → Prop} (k : EvFL Γ te R P) (n : ∀ p kvs, P kvs → F.H p = none → At F (Γ.set i (.vo (VL p R kvs))) D.nx) (l : i < Γ.length := by (simp only [List.length_cons, List.length_nil, List.length_set]; omega)) : At F Γ (tAsg te (gName i) D) := fun σ h H S s f =>
  k σ h H S s.ex _ fun p kvs h' H' pk s' S' n0 n1 rs => by
    have z0 := back_none s n0
    refine n p kvs pk z0 _ h' H' (S'.put ⟨rfl, rs⟩ (fun b e => ?_) l) (feet_stp (Γ := Γ) (σ := σ) s s' f) fun b z => ?_
    · obtain rfl : b = p := e
      exact ⟨nfeet S n0, n1⟩
    · rcases feet_set z with e | z
      · obtain rfl : b = p := e
        exact .inr z0
      · exact f b z
/-- a new dict that is walked at once -/
theorem ei_itemsF {kvs : List (Str × γ)} (k : EvF Γ td R (fun l => l = kvs)) : EvI Γ (iItems (tFrz td)) (RT2 K RS R) kvs := fun σ h H S e Q q =>
  k σ h H S e _ fun p l h' H' pk s S' n0 n1 ⟨ks, ep, rs⟩ => by
    subst pk
    refine ⟨p, ks, rfl, ep, fun ob => ?_⟩
    have np := nfeet S n0
    have x1 : Ext h' (upd h' p (.dK ks)) := .new n1
    have st : Stp (feet Γ) h H (upd h' p (.dK ks)) H' := s.knows n1 ep n0
    have hp : (upd h' p (.dK ks)) p = some (.dK ks) := upd_same
    have st2 : Stp (feet Γ) h H (upd h' p (.dK ks)) (upd H' p (.frz ob (.dK ks))) := ⟨st.kn, st.ex.locked hp, fun b o nb qb => by
      by_cases z : b = p
      · subst z; rw [n0] at qb; cases qb
      · rw [upd_ne z]; exact st.keep b o nb qb, fun b qb => by
      by_cases z : b = p
      · subst z; exact absurd n0 qb
      · rw [upd_ne z]; exact st.live b qb, st.fresh⟩
    have S2 : Sat Γ σ (upd h' p (.dK ks)) (upd H' p (.frz ob (.dK ks))) := (S'.knows (o := .dK ks) n1 np).locked hp
    exact ⟨p, ob, ks, rfl, upd_same, q _ _ _ st2 S2 (walks_items (F := ⟨_, _, feet Γ⟩) (rs.mono x1) fun h2 H2 s2 _ => stays_frz s2 np upd_same)⟩

/-! ### built-in functions -/
def Cl1 (r : List V → Hp → VK → Prop) (RA : Rel α) (R : Rel γ) (PA : α → Prop) (P : γ → Prop) : Prop :=
  ∀ a x h H Q, PA a → RA.r a x h → Ex h H → (∀ v c h' H', P c → Stp MNo h H h' H' → R.r c v h' → Q v H') → r [x] H Q
def Cl2 (r : List V → Hp → VK → Prop) (RA : Rel α) (RB : Rel β) (R : Rel γ) (PA : α → Prop) (PB : β → Prop) (P : γ → Prop) : Prop :=
  ∀ a b x y h H Q, PA a → PB b → RA.r a x h → RB.r b y h → Ex h H → (∀ v c h' H', P c → Stp MNo h H h' H' → R.r c v h' → Q v H') → r [x, y] H Q
theorem ev_c1 {RA : Rel α} {PA : α → Prop} {P : γ → Prop} {r : List V → Hp → VK → Prop} (ha : Ev Γ ta RA PA) (o : Cl1 r RA R PA P) : Ev Γ (tCB r (tCons ta tNil)) R P := fun σ h H S e Q q =>
  ha σ h H S e _ fun x a h1 H1 pa s1 S1 ra => o a x h1 H1 Q pa ra s1.ex fun v c h3 H3 p s3 r => q v c h3 H3 p (s1.tr s3.no) (S1.stepNo s3) r
theorem ev_c2 {RA : Rel α} {RB : Rel β} {PA : α → Prop} {PB : β → Prop} {P : γ → Prop} {r : List V → Hp → VK → Prop} (ha : Ev Γ ta RA PA) (hb : Ev Γ tb RB PB) (o : Cl2 r RA RB R PA PB P) : Ev Γ (tCB r (tCons ta (tCons tb tNil))) R P := fun σ h H S e Q q =>
  ha σ h H S e _ fun x a h1 H1 pa s1 S1 ra => hb σ h1 H1 S1 s1.ex _ fun y b h2 H2 pb s2 S2 rb => o a b x y h2 H2 Q pa pb (RA.mono s2.kn ra) rb s2.ex fun v c h3 H3 p s3 r => q v c h3 H3 p ((s1.tr s2).tr s3.no) (S2.stepNo s3) r
end
section
variable {γ α : Type} {R : Rel γ} {K : PySem.W.Frag}
def rInt1 : List V → Hp → VK → Prop := fun xs H Q => (∃ i, xs = [.int i] ∧ Q (.int i) H) ∨ ∃ k, xs = [.bl k] ∧ Q (.int (if k then 1 else 0)) H
theorem c_int {PA P : Int → Prop} (k : ∀ a, PA a → P a) : Cl1 rInt1 RI RI PA P := fun a x h H Q pa ra e q => .inl ⟨a, by rw [show x = .int a from ra], q _ a h H (k a pa) (.refl e) rfl⟩
def rAbs1 : List V → Hp → VK → Prop := fun xs H Q => ∃ i, xs = [.int i] ∧ Q (.int (if i < 0 then -i else i)) H
theorem c_abs {PA P : Int → Prop} (k : ∀ a, PA a → P (if a < 0 then -a else a)) : Cl1 rAbs1 RI RI PA P := fun a x h H Q pa ra e q => ⟨a, by rw [show x = .int a from ra], q _ _ h H (k a pa) (.refl e) rfl⟩
def rMax2' : List V → Hp → VK → Prop := fun xs H Q => ∃ i j, xs = [.int i, .int j] ∧ Q (.int (if j > i then j else i)) H
def rMin2' : List V → Hp → VK → Prop := fun xs H Q => ∃ i j, xs = [.int i, .int j] ∧ Q (.int (if j < i then j else i)) H
theorem c_max {PA PB P : Int → Prop} (k : ∀ a b, PA a → PB b → P (if b > a then b else a)) : Cl2 rMax2' RI RI RI PA PB P := fun a b x y h H Q pa pb ra rb e q => ⟨a, b, by rw [show x = .int a from ra, show y = .int b from rb], q _ _ h H (k a b pa pb) (.refl e) rfl⟩
theorem c_min {PA PB P : Int → Prop} (k : ∀ a b, PA a → PB b → P (if b < a then b else a)) : Cl2 rMin2' RI RI RI PA PB P := fun a b x y h H Q pa pb ra rb e q => ⟨a, b, by rw [show x = .int a from ra, show y = .int b from rb], q _ _ h H (k a b pa pb) (.refl e) rfl⟩
/-- len of a list, of the script, of a text, of a dict -/
def rLenSq (K : PySem.W.Frag) : List V → Hp → VK → Prop := fun xs H Q => ∃ p ys, xs = [.ref p] ∧ (SqL K H p ys ∨ SqT K H p ys) ∧ Q (.int ys.length) H
theorem c_lenL {PA : List γ → Prop} {P : Int → Prop} (k : ∀ a, PA a → P a.length) : Cl1 (rLenSq K) (RL R) RI PA P := fun a x h H Q pa ra e q => by
  obtain ⟨p, vs, rfl, hp, rs⟩ := ra
  exact ⟨p, vs, rfl, .inl (sqL e hp), q _ (a.length : Int) h H (k a pa) (.refl e) (by rw [rs.len]; rfl)⟩
theorem c_lenScr {PA : List Int → Prop} {P : Int → Prop} (k : ∀ a, PA a → P a.length) : Cl1 (rLenSq K) (RScr K) RI PA P := fun a x h H Q pa ra e q => by
  obtain ⟨p, rfl, hp⟩ := ra
  exact ⟨p, a.map V.int, rfl, .inl (hp.sq e), q _ (a.length : Int) h H (k a pa) (.refl e) (by rw [List.length_map]; rfl)⟩
def rLenS : List V → Hp → VK → Prop := fun us G T => ∃ a, us = [.str a] ∧ a.length ≤ sizeLine ∧ T (.int a.length) G
theorem c_lenS {PA : Str → Prop} {P : Int → Prop} (k : ∀ a, PA a → a.length ≤ sizeLine ∧ P a.length) : Cl1 rLenS RS RI PA P := fun a x h H Q pa ra e q => ⟨a, by rw [show x = .str a from ra], (k a pa).1, q _ (a.length : Int) h H (k a pa).2 (.refl e) rfl⟩
def rLenD' : List V → Hp → VK → Prop := fun xs H Q => ∃ a kvs, xs = [V.ref a] ∧ Rd H a (.dK kvs) ∧ Q (.int kvs.length) H
theorem call_lenRd {X : Cx} : CallR X (.builtin "len") rLenD' := by
  rintro pins s σ G us ws T J rel ⟨a, kvs, rfl, rd, fin⟩
  obtain ⟨u, rfl, one⟩ := vals1 rel
  cases one
  exact d_len J rd fun t _ J2 => ⟨.int kvs.length, G, J2, ⟨t, rfl⟩, fin⟩
theorem c_lenD {PA : List (Str × γ) → Prop} {P : Int → Prop} (k : ∀ a, PA a → P a.length) : Cl1 rLenD' (RD R) RI PA P := fun a x h H Q pa ra e q => by
  obtain ⟨p, ks, rfl, hp, rs⟩ := ra
  exact ⟨p, ks, rfl, e.rd hp, q _ (a.length : Int) h H (k a pa) (.refl e) (by rw [rs.len]; rfl)⟩
/-- list(xs), list(d), dict(d) -/
def rListSq (K : PySem.W.Frag) : List V → Hp → VK → Prop := fun xs H Q => ∃ p ys, xs = [.ref p] ∧ (SqL K H p ys ∨ SqT K H p ys) ∧ ∀ l, H l = none → Q (.ref l) (upd H l (.lst ys))
theorem c_listL {PA P : List γ → Prop} (k : ∀ a, PA a → P a) : Cl1 (rListSq K) (RL R) (RL R) PA P := fun a x h H Q pa ra e q => by
  obtain ⟨p, vs, rfl, hp, rs⟩ := ra
  refine ⟨p, vs, rfl, .inl (sqL e hp), fun l nl => ?_⟩
  have st : Stp MNo h H (upd h l (.lst vs)) (upd H l (.lst vs)) := .new e nl
  exact q _ a _ _ (k a pa) st ⟨l, vs, rfl, upd_same, rs.mono st.kn⟩
theorem c_listT {PA P : List γ → Prop} (k : ∀ a, PA a → P a) : Cl1 (rListSq K) (RTs K R) (RL R) PA P := fun a x h H Q pa ra e q => by
  obtain ⟨p, vs, rfl, hp, rs⟩ := ra
  refine ⟨p, vs, rfl, .inr (hp.sq e), fun l nl => ?_⟩
  have st : Stp MNo h H (upd h l (.lst vs)) (upd H l (.lst vs)) := .new e nl
  exact q _ a _ _ (k a pa) st ⟨l, vs, rfl, upd_same, rs.mono st.kn⟩
def rListDk : List V → Hp → VK → Prop := fun xs H Q => ∃ (a : Addr) (kvs : List (Key × V)), xs = [.ref a] ∧ Rd H a (.dK kvs) ∧ ∀ p, H p = none → Q (.ref p) (upd H p (.lst (kvs.map fun kv => kV kv.1)))
theorem KVs.keys {h : Hp} : ∀ {kvs : List (Str × γ)} {ks : List (Key × V)}, KVs R h kvs ks → (ks.map fun kv => kV kv.1) = (kvs.map (·.1)).map V.str ∧ ks.map (·.1) = (kvs.map (·.1)).map Sum.inr
  | _, _, .nil => ⟨rfl, rfl⟩
  | x :: l, y :: m, .cons r t => by
    obtain ⟨e, _⟩ := r
    obtain ⟨h1, h2⟩ := KVs.keys t
    refine ⟨?_, ?_⟩
    · rw [List.map_cons, List.map_cons, List.map_cons, h1, e]; rfl
    · rw [List.map_cons, List.map_cons, List.map_cons, h2, e]
theorem reps_str {h : Hp} : ∀ l : List Str, Reps RS h l (l.map V.str)
  | [] => .nil
  | _ :: l => .cons rfl (reps_str l)
theorem reps_int {h : Hp} : ∀ l : List Int, Reps RI h l (l.map V.int)
  | [] => .nil
  | _ :: l => .cons rfl (reps_int l)
theorem reps_bl {h : Hp} : ∀ l : List Bool, Reps RB h l (l.map V.bl)
  | [] => .nil
  | _ :: l => .cons rfl (reps_bl l)
theorem str_reps {h : Hp} : ∀ {l : List Str} {vs : List V}, Reps RS h l vs → vs = l.map V.str
  | _, _, .nil => rfl
  | _, _, .cons r t => by rw [List.map_cons, ← str_reps t, show _ = V.str _ from r]
theorem int_reps {h : Hp} : ∀ {l : List Int} {vs : List V}, Reps RI h l vs → vs = l.map V.int
  | _, _, .nil => rfl
  | _, _, .cons r t => by rw [List.map_cons, ← int_reps t, show _ = V.int _ from r]
theorem bl_reps {h : Hp} : ∀ {l : List Bool} {vs : List V}, Reps RB h l vs → vs = l.map V.bl
  | _, _, .nil => rfl
  | _, _, .cons r t => by rw [List.map_cons, ← bl_reps t, show _ = V.bl _ from r]
theorem c_listD {PA : List (Str × γ) → Prop} {P : List Str → Prop} (k : ∀ a, PA a → P (a.map (·.1))) : Cl1 rListDk (RD R) (RL RS) PA P := fun a x h H Q pa ra e q => by
  obtain ⟨p, ks, rfl, hp, rs⟩ := ra
  refine ⟨p, ks, rfl, e.rd hp, fun l nl => ?_⟩
  rw [rs.keys.1]
  have st : Stp MNo h H (upd h l (.lst ((a.map (·.1)).map V.str))) (upd H l (.lst ((a.map (·.1)).map V.str))) := .new e nl
  exact q _ (a.map (·.1)) _ _ (k a pa) st ⟨l, _, rfl, upd_same, reps_str _⟩
def rDictDk : List V → Hp → VK → Prop := fun xs H Q => ∃ (a : Addr) (kvs : List (Key × V)), xs = [.ref a] ∧ Rd H a (.dK kvs) ∧ ∀ p, H p = none → Q (.ref p) (upd H p (.dK kvs))
theorem c_dictD {PA P : List (Str × γ) → Prop} (k : ∀ a, PA a → P a) : Cl1 rDictDk (RD R) (RD R) PA P := fun a x h H Q pa ra e q => by
  obtain ⟨p, ks, rfl, hp, rs⟩ := ra
  refine ⟨p, ks, rfl, e.rd hp, fun l nl => ?_⟩
  have st : Stp MNo h H (upd h l (.dK ks)) (upd H l (.dK ks)) := .new e nl
  exact q _ a _ _ (k a pa) st ⟨l, ks, rfl, upd_same, rs.mono st.kn⟩
/-- dict(pairs) -/
def rDictPr (K : PySem.W.Frag) : List V → Hp → VK → Prop := fun xs H Q => ∃ (a : Addr) (ps : List Addr) (kvs : List (Key × V)), xs = [.ref a] ∧ SqL K H a (ps.map V.ref) ∧ Paired (fun p kv => SqT K H p [kV kv.1, kv.2]) ps kvs ∧
    ∀ p, H p = none → Q (.ref p) (upd H p (.dK (mergeK [] kvs)))
theorem KVs.merge {h : Hp} : ∀ {kvs acc : List (Str × γ)} {ks ac : List (Key × V)}, KVs R h kvs ks → KVs R h acc ac → KVs R h (kvs.foldl (fun acc p => putS acc p.1 p.2) acc) (mergeK ac ks)
  | _, _, _, _, .nil, q => q
  | x :: l, acc, y :: m, ac, .cons r t, q => by
    obtain ⟨e, r⟩ := r
    show KVs R h (l.foldl _ (putS acc x.1 x.2)) (mergeK (putK ac y.1 y.2) m)
    refine KVs.merge t ?_
    rw [e]
    exact q.put r
theorem c_dictP {PA P : List (Str × γ) → Prop} (k : ∀ a, PA a → P (puts a)) : Cl1 (rDictPr K) (RL (RT2 K RS R)) (RD R) PA P := fun a x h H Q pa ra e q => by
  obtain ⟨p, vs, rfl, hp, rs⟩ := ra
  have aux : ∀ {l : List (Str × γ)} {vs : List V}, Reps (RT2 K RS R) h l vs → ∃ (ps : List Addr) (kvs : List (Key × V)), vs = ps.map V.ref ∧ Paired (fun p kv => SqT K H p [kV kv.1, kv.2]) ps kvs ∧ KVs R h l kvs := by
    intro l vs r
    induction r with
    | nil => exact ⟨[], [], rfl, .nil, .nil⟩
    | @cons a v l vs r t ih =>
      obtain ⟨ps, kvs, e1, e2, e3⟩ := ih
      obtain ⟨d, y, z, rfl, kt, ry, rz⟩ := r
      refine ⟨d :: ps, (Sum.inr a.1, z) :: kvs, by rw [List.map_cons, e1], .cons ?_ e2, .cons ⟨rfl, rz⟩ e3⟩
      have := kt.sq e
      rw [show y = V.str a.1 from ry] at this
      exact this
  obtain ⟨ps, kvs, rfl, e2, e3⟩ := aux rs
  refine ⟨p, ps, kvs, rfl, sqL e hp, e2, fun l nl => ?_⟩
  have st : Stp MNo h H (upd h l (.dK (mergeK [] kvs))) (upd H l (.dK (mergeK [] kvs))) := .new e nl
  exact q _ (puts a) _ _ (k a pa) st ⟨l, _, rfl, upd_same, (e3.merge .nil).mono st.kn⟩
/-- all, any, sum of a list -/
theorem c_all {PA : List Bool → Prop} {P : Bool → Prop} (k : ∀ a, PA a → P (a.all id)) : Cl1 (rAll K) (RL RB) RB PA P := fun a x h H Q pa ra e q => by
  obtain ⟨p, vs, rfl, hp, rs⟩ := ra
  rw [bl_reps rs] at hp
  exact ⟨p, a, rfl, sqL e hp, q _ _ h H (k a pa) (.refl e) rfl⟩
theorem c_any {PA : List Bool → Prop} {P : Bool → Prop} (k : ∀ a, PA a → P (a.any id)) : Cl1 (rAny K) (RL RB) RB PA P := fun a x h H Q pa ra e q => by
  obtain ⟨p, vs, rfl, hp, rs⟩ := ra
  rw [bl_reps rs] at hp
  exact ⟨p, a, rfl, sqL e hp, q _ _ h H (k a pa) (.refl e) rfl⟩
theorem c_sum {PA : List Int → Prop} {P : Int → Prop} (k : ∀ a, PA a → P a.sum) : Cl1 (rSum K) (RL RI) RI PA P := fun a x h H Q pa ra e q => by
  obtain ⟨p, vs, rfl, hp, rs⟩ := ra
  rw [int_reps rs] at hp
  exact ⟨p, a, rfl, sqL e hp, q _ _ h H (k a pa) (.refl e) rfl⟩
/-- divmod -/
def rDm : List V → Hp → VK → Prop := fun xs H Q => ∃ i j, xs = [.int i, .int j] ∧ CDiv i j ∧ ∀ p, H p = none → Q (.ref p) (upd H p (.tup [.int (i / j), .int (i % j)]))
theorem c_divmod {PA PB : Int → Prop} {P : Int × Int → Prop} (k : ∀ a b, PA a → PB b → CDiv a b ∧ P (a / b, a % b)) : Cl2 rDm RI RI (RT2 K RI RI) PA PB P := fun a b x y h H Q pa pb ra rb e q =>
  ⟨a, b, by rw [show x = .int a from ra, show y = .int b from rb], (k a b pa pb).1, fun p np => by
    have st : Stp MNo h H (upd h p (.tup [.int (a / b), .int (a % b)])) (upd H p (.tup [.int (a / b), .int (a % b)])) := .new e np
    exact q _ (a / b, a % b) _ _ (k a b pa pb).2 st ⟨p, _, _, rfl, .inl upd_same, rfl, rfl⟩⟩
/-- isinstance(x, T), T a built-in type -/
theorem c_isi {RA : Rel α} {PA : α → Prop} {P : Bool → Prop} {n : String} (k : ∀ a x h H, PA a → RA.r a x h → Ex h H → ∃ t b, TyX K H x (.type t) ∧ kitB t n = some b ∧ P b) : Cl2 (rIsi K) RA RV RB PA (fun v => v = .ty n) P := fun a c x y h H Q pa pc ra rc e q => by
  obtain ⟨t, b, ty, kb, p⟩ := k a x h H pa ra e
  have e1 : y = .ty n := (show y = c from rc).trans pc
  subst e1
  exact ⟨x, .ty n, .type t, .type n, b, rfl, .ty n, ty, kit_ty kb, q _ b h H p (.refl e) rfl⟩
theorem ty_int {H : Hp} {i : Int} : TyX K H (.int i) (.type "int") := .base (.int i)
theorem ty_bl {H : Hp} {i : Bool} : TyX K H (.bl i) (.type "bool") := .base (.bl i)
theorem ty_str {H : Hp} {i : Str} : TyX K H (.str i) (.type "str") := .base (.str i)
theorem ty_non {H : Hp} : TyX K H .non (.type "NoneType") := .base .non
theorem ty_lst {H : Hp} {a : Addr} {xs : List V} (e : H a = some (.lst xs)) : TyX K H (.ref a) (.type "list") := .base (.lst e)
theorem ty_tup {H : Hp} {a : Addr} {xs : List V} (e : H a = some (.tup xs)) : TyX K H (.ref a) (.type "tuple") := .base (.tup e)
theorem ty_dK {H : Hp} {a : Addr} {kvs : List (Key × V)} (e : Rd H a (.dK kvs)) : TyX K H (.ref a) (.type "dict") := by
  rcases e with e | ⟨ob, e⟩
  · exact .base (.dK e)
  · exact .fDict e
theorem ev_ty {Γ : Ctx} {n : String} : Ev Γ (tC (.ty n)) RV (fun v => v = .ty n) := ev_c (a := V.ty n) fun _ => rfl
end
end QL

set_option Elab.async false
set_option linter.all false
set_option maxRecDepth 100000
namespace QL
open PySem L2

/-! ### named operators, so that goals stay small -/
def kAdd : R2 := rI0 fun i j => .int (i + j)
def kSub : R2 := rI0 fun i j => .int (i - j)
def kMul : R2 := rI CMul fun i j => .int (i * j)
def kDiv : R2 := rI CDiv fun i j => .int (i / j)
def kMod : R2 := rI (fun _ j => 0 < j) fun i j => .int (i % j)
def kPow : R2 := rI CPow fun i j => .int (i ^ j.toNat)
def kLt : R2 := rI0 fun i j => .bl (decide (i < j))
def kLe : R2 := rI0 fun i j => .bl (decide (i ≤ j))
def kGt : R2 := rI0 fun i j => .bl (decide (j < i))
def kGe : R2 := rI0 fun i j => .bl (decide (j ≤ i))
def kNeg : V → Hp → VK → Prop := rU fun i => .int (-i)
section
variable {X : Cx}
theorem opAdd : OpR X (binaryOp .Add) kAdd := op_add
theorem opSub : OpR X (binaryOp .Sub) kSub := op_sub
theorem opMul : OpR X (binaryOp .Mult) kMul := op_mul
theorem opDiv : OpR X (binaryOp .FloorDiv) kDiv := op_fdiv
theorem opMod : OpR X (binaryOp .Mod) kMod := op_mod
theorem opPow : OpR X (binaryOp .Pow) kPow := op_pow
theorem opLt : OpR X (compareOp .Lt) kLt := op_lt
theorem opLe : OpR X (compareOp .LtE) kLe := op_le
theorem opGt : OpR X (compareOp .Gt) kGt := op_gt
theorem opGe : OpR X (compareOp .GtE) kGe := op_ge
theorem unNeg : UnR X (unaryOp .USub) kNeg := un_neg
theorem opCatS : OpR X (binaryOp .Add) rCatS := op_add_str
theorem clInt : CallR X (.type "int") rInt1 := call_int1
theorem clAbs : CallR X (.builtin "abs") rAbs1 := call_abs
theorem clMax (h : X.calm = true) : CallR X (.builtin "max") rMax2' := call_max2 h
theorem clMin (h : X.calm = true) : CallR X (.builtin "min") rMin2' := call_min2 h
theorem clLen : CallR X (.builtin "len") (rLenSq X.K) := call_len_seq
theorem clLenS : CallR X (.builtin "len") rLenS := call_len_str
theorem clList : CallR X (.type "list") (rListSq X.K) := call_list_of
theorem clListD (h : X.calm = true) : CallR X (.type "list") rListDk := call_listD h
theorem clDictD : CallR X (.type "dict") rDictDk := call_dictD
theorem clDictP (h : X.calm = true) : CallR X (.type "dict") (rDictPr X.K) := call_dictP h
theorem clDivmod : CallR X (.builtin "divmod") rDm := call_divmod
end

/-! ### what is known for sure, and what is drawn -/
section
variable {γ α β : Type} {Γ : Ctx} {ta tb te td tk tx : TE} {R : Rel γ} {Ra : Rel α} {Rb : Rel β} {K : PySem.W.Frag}
theorem ev_int {i : Int} : Ev Γ (tC (.int i)) RI (fun x => x = i) := ev_c fun _ => rfl
theorem ev_str {i : Str} : Ev Γ (tC (.str i)) RS (fun x => x = i) := ev_c fun _ => rfl
theorem ev_bl {i : Bool} : Ev Γ (tC (.bl i)) RB (fun x => x = i) := ev_c fun _ => rfl
theorem ev_non : Ev Γ (tC .non) RN (fun x => x = ()) := ev_c fun _ => rfl
variable {a b : Int} {PA PB : Int → Prop}
theorem ev_add (h1 : Ev Γ ta RI PA) (h2 : Ev Γ tb RI PB) : Ev Γ (tOp kAdd ta tb) RI (fun z => ∃ a b, PA a ∧ PB b ∧ z = a + b) := ev_op h1 h2 (o2_add fun a b pa pb => ⟨a, b, pa, pb, rfl⟩)
theorem ev_sub (h1 : Ev Γ ta RI PA) (h2 : Ev Γ tb RI PB) : Ev Γ (tOp kSub ta tb) RI (fun z => ∃ a b, PA a ∧ PB b ∧ z = a - b) := ev_op h1 h2 (o2_sub fun a b pa pb => ⟨a, b, pa, pb, rfl⟩)
theorem ev_addD (h1 : Ev Γ ta RI (fun x => x = a)) (h2 : Ev Γ tb RI (fun x => x = b)) : Ev Γ (tOp kAdd ta tb) RI (fun z => z = a + b) := ev_op h1 h2 (o2_add fun _ _ pa pb => by rw [pa, pb])
theorem ev_subD (h1 : Ev Γ ta RI (fun x => x = a)) (h2 : Ev Γ tb RI (fun x => x = b)) : Ev Γ (tOp kSub ta tb) RI (fun z => z = a - b) := ev_op h1 h2 (o2_sub fun _ _ pa pb => by rw [pa, pb])
theorem ev_mulD (h1 : Ev Γ ta RI (fun x => x = a)) (h2 : Ev Γ tb RI (fun x => x = b)) (c : CMul a b) : Ev Γ (tOp kMul ta tb) RI (fun z => z = a * b) := ev_op h1 h2 (o2_mul fun _ _ pa pb => by rw [pa, pb]; exact ⟨c, rfl⟩)
theorem ev_divD (h1 : Ev Γ ta RI (fun x => x = a)) (h2 : Ev Γ tb RI (fun x => x = b)) (c : CDiv a b) : Ev Γ (tOp kDiv ta tb) RI (fun z => z = a / b) := ev_op h1 h2 (o2_fdiv fun _ _ pa pb => by rw [pa, pb]; exact ⟨c, rfl⟩)
theorem ev_modD (h1 : Ev Γ ta RI (fun x => x = a)) (h2 : Ev Γ tb RI (fun x => x = b)) (c : 0 < b) : Ev Γ (tOp kMod ta tb) RI (fun z => z = a % b) := ev_op h1 h2 (o2_mod fun _ _ pa pb => by rw [pa, pb]; exact ⟨c, rfl⟩)
theorem ev_powD (h1 : Ev Γ ta RI (fun x => x = a)) (h2 : Ev Γ tb RI (fun x => x = b)) (c : CPow a b) : Ev Γ (tOp kPow ta tb) RI (fun z => z = a ^ b.toNat) := ev_op h1 h2 (o2_pow fun _ _ pa pb => by rw [pa, pb]; exact ⟨c, rfl⟩)
theorem ev_mul (h1 : Ev Γ ta RI PA) (h2 : Ev Γ tb RI PB) (c : ∀ a b, PA a → PB b → CMul a b) : Ev Γ (tOp kMul ta tb) RI (fun z => ∃ a b, PA a ∧ PB b ∧ z = a * b) := ev_op h1 h2 (o2_mul fun a b pa pb => ⟨c a b pa pb, a, b, pa, pb, rfl⟩)
theorem ev_div (h1 : Ev Γ ta RI PA) (h2 : Ev Γ tb RI PB) (c : ∀ a b, PA a → PB b → CDiv a b) : Ev Γ (tOp kDiv ta tb) RI (fun z => ∃ a b, PA a ∧ PB b ∧ z = a / b) := ev_op h1 h2 (o2_fdiv fun a b pa pb => ⟨c a b pa pb, a, b, pa, pb, rfl⟩)
theorem ev_mod (h1 : Ev Γ ta RI PA) (h2 : Ev Γ tb RI PB) (c : ∀ a b, PA a → PB b → 0 < b) : Ev Γ (tOp kMod ta tb) RI (fun z => ∃ a b, PA a ∧ PB b ∧ z = a % b) := ev_op h1 h2 (o2_mod fun a b pa pb => ⟨c a b pa pb, a, b, pa, pb, rfl⟩)
theorem ev_negD (h1 : Ev Γ ta RI (fun x => x = a)) : Ev Γ (tUn kNeg ta) RI (fun z => z = -a) := ev_un h1 (o1_neg fun _ pa => by rw [pa])
theorem ev_neg (h1 : Ev Γ ta RI PA) : Ev Γ (tUn kNeg ta) RI (fun z => ∃ a, PA a ∧ z = -a) := ev_un h1 (o1_neg fun a pa => ⟨a, pa, rfl⟩)
theorem ev_ltD (h1 : Ev Γ ta RI (fun x => x = a)) (h2 : Ev Γ tb RI (fun x => x = b)) : Ev Γ (tOp kLt ta tb) RB (fun z => z = decide (a < b)) := ev_op h1 h2 (o2_lt fun _ _ pa pb => by rw [pa, pb])
theorem ev_leD (h1 : Ev Γ ta RI (fun x => x = a)) (h2 : Ev Γ tb RI (fun x => x = b)) : Ev Γ (tOp kLe ta tb) RB (fun z => z = decide (a ≤ b)) := ev_op h1 h2 (o2_le fun _ _ pa pb => by rw [pa, pb])
theorem ev_gtD (h1 : Ev Γ ta RI (fun x => x = a)) (h2 : Ev Γ tb RI (fun x => x = b)) : Ev Γ (tOp kGt ta tb) RB (fun z => z = decide (b < a)) := ev_op h1 h2 (o2_gt fun _ _ pa pb => by rw [pa, pb])
theorem ev_geD (h1 : Ev Γ ta RI (fun x => x = a)) (h2 : Ev Γ tb RI (fun x => x = b)) : Ev Γ (tOp kGe ta tb) RB (fun z => z = decide (b ≤ a)) := ev_op h1 h2 (o2_ge fun _ _ pa pb => by rw [pa, pb])
theorem ev_eqID (h1 : Ev Γ ta RI (fun x => x = a)) (h2 : Ev Γ tb RI (fun x => x = b)) : Ev Γ (tOp rEq ta tb) RB (fun z => z = decide (a = b)) := ev_op h1 h2 (o2_eqI fun _ _ pa pb => by rw [pa, pb])
theorem ev_neID (h1 : Ev Γ ta RI (fun x => x = a)) (h2 : Ev Γ tb RI (fun x => x = b)) : Ev Γ (tOp rNe ta tb) RB (fun z => z = !decide (a = b)) := ev_op h1 h2 (o2_neI fun _ _ pa pb => by rw [pa, pb])
theorem ev_gt (h1 : Ev Γ ta RI PA) (h2 : Ev Γ tb RI PB) : Ev Γ (tOp kGt ta tb) RB (fun z => ∃ a b, PA a ∧ PB b ∧ z = decide (b < a)) := ev_op h1 h2 (o2_gt fun a b pa pb => ⟨a, b, pa, pb, rfl⟩)
theorem ev_lt (h1 : Ev Γ ta RI PA) (h2 : Ev Γ tb RI PB) : Ev Γ (tOp kLt ta tb) RB (fun z => ∃ a b, PA a ∧ PB b ∧ z = decide (a < b)) := ev_op h1 h2 (o2_lt fun a b pa pb => ⟨a, b, pa, pb, rfl⟩)
theorem ev_eqI (h1 : Ev Γ ta RI PA) (h2 : Ev Γ tb RI PB) : Ev Γ (tOp rEq ta tb) RB (fun z => ∃ a b, PA a ∧ PB b ∧ z = decide (a = b)) := ev_op h1 h2 (o2_eqI fun a b pa pb => ⟨a, b, pa, pb, rfl⟩)
theorem ev_eqSD {a b : Str} (h1 : Ev Γ ta RS (fun x => x = a)) (h2 : Ev Γ tb RS (fun x => x = b)) : Ev Γ (tOp rEq ta tb) RB (fun z => z = decide (a = b)) := ev_op h1 h2 (o2_eqS fun _ _ pa pb => by rw [pa, pb])
theorem ev_neSD {a b : Str} (h1 : Ev Γ ta RS (fun x => x = a)) (h2 : Ev Γ tb RS (fun x => x = b)) : Ev Γ (tOp rNe ta tb) RB (fun z => z = !decide (a = b)) := ev_op h1 h2 (o2_neS fun _ _ pa pb => by rw [pa, pb])
theorem ev_catSD {a b : Str} (h1 : Ev Γ ta RS (fun x => x = a)) (h2 : Ev Γ tb RS (fun x => x = b)) (c : a.length + b.length ≤ sizeLine) : Ev Γ (tOp rCatS ta tb) RS (fun z => z = a ++ b) := ev_op h1 h2 (o2_catS fun _ _ pa pb => by rw [pa, pb]; exact ⟨c, rfl⟩)
/-- chains a op b op c of numbers -/
theorem ev_chain {r r' : R2} {tc : TE} {γ δ : Type} {RC : Rel γ} {PA : α → Prop} {PB : β → Prop} {PC : γ → Prop} {P1 P : Bool → Prop} (h1 : Ev Γ ta Ra PA) (h2 : Ev Γ tb Rb PB) (o1 : Op2 r Ra Rb QL.RB PA PB P1) (h3 : P1 true → Ev Γ tc RC PC)
    (o2 : P1 true → Op2 r' Rb RC QL.RB PB PC P) (k0 : P1 false → P false) : Ev Γ (tChain r r' ta tb tc) QL.RB P := fun σ h H S e Q q =>
  h1 σ h H S e _ fun x a h1' H1 pa s1 S1 ra => h2 σ h1' H1 S1 s1.ex _ fun y b h2' H2 pb s2 S2 rb =>
    o1 a b x y h2' H2 _ pa pb (Ra.mono s2.kn ra) rb s2.ex fun z k h3' H3 pk s3 rk => by
      refine ⟨k, rk, ?_⟩
      have S3 := S2.stepNo s3
      cases k with
      | true =>
        refine iteT (h3 pk σ h3' H3 S3 s3.ex _ fun w c h4 H4 pc s4 S4 rc => ?_)
        exact o2 pk b c y w h4 H4 Q pb pc (Rb.mono (s3.kn.trans s4.kn) rb) rc s4.ex fun v d h5 H5 pd s5 r5 => q v d h5 H5 pd ((((s1.tr s2).tr s3.no).tr s4).tr s5.no) (S4.stepNo s5) r5
      | false =>
        refine iteF ?_
        exact q _ false h3' H3 (k0 pk) ((s1.tr s2).tr s3.no) S3 rfl
/-- tuples -/
theorem ev_t2D {a : α} {b : β} (h1 : Ev Γ ta Ra (fun x => x = a)) (h2 : Ev Γ tb Rb (fun x => x = b)) : Ev Γ (tTup (tCons ta (tCons tb tNil))) (RT2 K Ra Rb) (fun p => p = (a, b)) := ev_t2 h1 h2 fun _ _ pa pb => by rw [pa, pb]
theorem ev_t2P {PA : α → Prop} {PB : β → Prop} (h1 : Ev Γ ta Ra PA) (h2 : Ev Γ tb Rb PB) : Ev Γ (tTup (tCons ta (tCons tb tNil))) (RT2 K Ra Rb) (fun p => PA p.1 ∧ PB p.2) := ev_t2 h1 h2 fun _ _ pa pb => ⟨pa, pb⟩
theorem ev_fstD {p : α × β} (h : Ev Γ te (RT2 K Ra Rb) (fun x => x = p)) : Ev Γ (tOp (rIxT K) te (tC (.int 0))) Ra (fun x => x = p.1) := ev_fst h fun _ e => by rw [e]
theorem ev_sndD {p : α × β} (h : Ev Γ te (RT2 K Ra Rb) (fun x => x = p)) : Ev Γ (tOp (rIxT K) te (tC (.int 1))) Rb (fun x => x = p.2) := ev_snd h fun _ e => by rw [e]
/-- lists -/
theorem eas_nilD : EvAs Γ tNil R (fun l => l = []) := eas_nil
theorem eas_consD {tr : TA} {a : γ} {l : List γ} (h : Ev Γ ta R (fun x => x = a)) (hr : EvAs Γ tr R (fun x => x = l)) : EvAs Γ (tCons ta tr) R (fun x => x = a :: l) := eas_cons h hr fun _ _ e1 e2 => by rw [e1, e2]
theorem eas_consP {tr : TA} {P : γ → Prop} {PS : List γ → Prop} (h : Ev Γ ta R P) (hr : EvAs Γ tr R PS) : EvAs Γ (tCons ta tr) R (fun x => ∃ a l, P a ∧ PS l ∧ x = a :: l) := eas_cons h hr fun a l pa pl => ⟨a, l, pa, pl, rfl⟩
theorem ev_lstD {tr : TA} {l : List γ} (h : EvAs Γ tr R (fun x => x = l)) (hl : l.length ≤ 1000 := by first | (simp; done) | (show _ ≤ _; decide)) : Ev Γ (tLst tr) (RL R) (fun x => x = l) := ev_lst h fun _ e => by rw [e]; exact hl
theorem ev_catD {l m : List γ} (h1 : Ev Γ ta (RL R) (fun x => x = l)) (h2 : Ev Γ tb (RL R) (fun x => x = m)) (c : l.length + m.length ≤ 1000) : Ev Γ (tOp rCat ta tb) (RL R) (fun x => x = l ++ m) := ev_op h1 h2 (o2_cat fun _ _ e1 e2 => by rw [e1, e2]; exact ⟨c, rfl⟩)
theorem ev_ixLD {l : List γ} {i : Int} {a : γ} {j : Nat} (h1 : Ev Γ ta (RL R) (fun x => x = l)) (h2 : Ev Γ tb RI (fun x => x = i)) (e1 : i = (j : Int)) (e2 : l[j]? = some a) : Ev Γ (tOp (rIxL K) ta tb) R (fun x => x = a) :=
  ev_op h1 h2 (o2_ixL fun _ _ p1 p2 => ⟨j, a, by rw [p2, e1], by rw [p1, e2], rfl⟩)
/-- arguments -/
theorem ea_nilD : EvA Γ tNil (fun l => l = []) := ea_nil
theorem ea_consD {tr : TA} {a : α} {L : List Slot} (h : Ev Γ ta Ra (fun x => x = a)) (hr : EvA Γ tr (fun l => l = L)) : EvA Γ (tCons ta tr) (fun l => l = .va Ra a :: L) := (ea_cons h hr).imp fun l ⟨a', L', e, ea, eL⟩ => by rw [e, ea, eL]
theorem ea_voD {tr : TA} {L : List Slot} {i : Nat} {W : Vol} (e : Γ[i]? = some (.vo W)) (hr : EvA Γ tr (fun l => l = L)) : EvA Γ (tCons (tVar i) tr) (fun l => l = .vo W :: L) := (ea_vo e hr).imp fun l ⟨L', e, eL⟩ => by rw [e, eL]
theorem ev_callD {ta : TA} {Pre : List Slot → (γ → Prop) → Prop} {E : XK} {L : List Slot} {P : γ → Prop} (h : EvA Γ ta (fun l => l = L)) (v : VoIn Γ L []) (k : Pre L P) : Ev Γ (tCall (FSp R Pre) [] E ta) R P := ev_call h fun l e => by rw [e]; exact ⟨v, P, k, fun _ p => p⟩
/-- built-ins -/
theorem ev_intD (h : Ev Γ ta RI (fun x => x = a)) : Ev Γ (tCB rInt1 (tCons ta tNil)) RI (fun x => x = a) := ev_c1 h (c_int fun _ e => e)
theorem ev_absD (h : Ev Γ ta RI (fun x => x = a)) : Ev Γ (tCB rAbs1 (tCons ta tNil)) RI (fun x => x = if a < 0 then -a else a) := ev_c1 h (c_abs fun _ e => by rw [e])
theorem ev_maxD (h1 : Ev Γ ta RI (fun x => x = a)) (h2 : Ev Γ tb RI (fun x => x = b)) : Ev Γ (tCB rMax2' (tCons ta (tCons tb tNil))) RI (fun x => x = if b > a then b else a) := ev_c2 h1 h2 (c_max fun _ _ e1 e2 => by rw [e1, e2])
theorem ev_minD (h1 : Ev Γ ta RI (fun x => x = a)) (h2 : Ev Γ tb RI (fun x => x = b)) : Ev Γ (tCB rMin2' (tCons ta (tCons tb tNil))) RI (fun x => x = if b < a then b else a) := ev_c2 h1 h2 (c_min fun _ _ e1 e2 => by rw [e1, e2])
theorem ev_lenLD {l : List γ} (h : Ev Γ ta (RL R) (fun x => x = l)) : Ev Γ (tCB (rLenSq K) (tCons ta tNil)) RI (fun x => x = (l.length : Int)) := ev_c1 h (c_lenL fun _ e => by rw [e])
theorem ev_lenScrD {l : List Int} (h : Ev Γ ta (RScr K) (fun x => x = l)) : Ev Γ (tCB (rLenSq K) (tCons ta tNil)) RI (fun x => x = (l.length : Int)) := ev_c1 h (c_lenScr fun _ e => by rw [e])
theorem ev_lenDD {l : List (Str × γ)} (h : Ev Γ ta (RD R) (fun x => x = l)) : Ev Γ (tCB rLenD' (tCons ta tNil)) RI (fun x => x = (l.length : Int)) := ev_c1 h (c_lenD fun _ e => by rw [e])
theorem ev_listLD {l : List γ} (h : Ev Γ ta (RL R) (fun x => x = l)) : Ev Γ (tCB (rListSq K) (tCons ta tNil)) (RL R) (fun x => x = l) := ev_c1 h (c_listL fun _ e => e)
theorem ev_listDD {l : List (Str × γ)} (h : Ev Γ ta (RD R) (fun x => x = l)) : Ev Γ (tCB rListDk (tCons ta tNil)) (RL RS) (fun x => x = l.map (·.1)) := ev_c1 h (c_listD fun _ e => by rw [e])
theorem ev_dictDD {l : List (Str × γ)} (h : Ev Γ ta (RD R) (fun x => x = l)) : Ev Γ (tCB rDictDk (tCons ta tNil)) (RD R) (fun x => x = l) := ev_c1 h (c_dictD fun _ e => e)
theorem ev_dictPD {l : List (Str × γ)} (h : Ev Γ ta (RL (RT2 K RS R)) (fun x => x = l)) : Ev Γ (tCB (rDictPr K) (tCons ta tNil)) (RD R) (fun x => x = puts l) := ev_c1 h (c_dictP fun _ e => by rw [e])
theorem ev_allD {l : List Bool} (h : Ev Γ ta (RL QL.RB) (fun x => x = l)) : Ev Γ (tCB (rAll K) (tCons ta tNil)) QL.RB (fun x => x = l.all id) := ev_c1 h (c_all fun _ e => by rw [e])
theorem ev_anyD {l : List Bool} (h : Ev Γ ta (RL QL.RB) (fun x => x = l)) : Ev Γ (tCB (rAny K) (tCons ta tNil)) QL.RB (fun x => x = l.any id) := ev_c1 h (c_any fun _ e => by rw [e])
theorem ev_sumD {l : List Int} (h : Ev Γ ta (RL RI) (fun x => x = l)) : Ev Γ (tCB (rSum K) (tCons ta tNil)) RI (fun x => x = l.sum) := ev_c1 h (c_sum fun _ e => by rw [e])
theorem ev_divmodD (h1 : Ev Γ ta RI (fun x => x = a)) (h2 : Ev Γ tb RI (fun x => x = b)) (c : CDiv a b) : Ev Γ (tCB rDm (tCons ta (tCons tb tNil))) (RT2 K RI RI) (fun x => x = (a / b, a % b)) := ev_c2 h1 h2 (c_divmod fun _ _ e1 e2 => by rw [e1, e2]; exact ⟨c, rfl⟩)
/-- dicts -/
theorem ed_knownD {l : List (Str × γ)} (h : Ev Γ td (RD R) (fun x => x = l)) : EvD Γ td R (fun x => x = l) := ed_known h
theorem ev_dinD {l : List (Str × γ)} {k : Str} (h1 : Ev Γ tk RS (fun x => x = k)) (h2 : EvD Γ td R (fun x => x = l)) : Ev Γ (tDIn tk td) QL.RB (fun x => x = hasS l k) := ev_din h1 h2 fun _ _ e1 e2 => by rw [e1, e2]
theorem ev_dnotinD {l : List (Str × γ)} {k : Str} (h1 : Ev Γ tk RS (fun x => x = k)) (h2 : EvD Γ td R (fun x => x = l)) : Ev Γ (tDNotIn tk td) QL.RB (fun x => x = !hasS l k) := ev_dnotin h1 h2 fun _ _ e1 e2 => by rw [e1, e2]
theorem ev_dgetD {l : List (Str × γ)} {k : Str} {v : γ} (h1 : EvD Γ td R (fun x => x = l)) (h2 : Ev Γ tk RS (fun x => x = k)) (e : getS l k = some v) : Ev Γ (tDGet td tk) R (fun x => x = v) := ev_dget h1 h2 fun _ _ e1 e2 => ⟨v, by rw [e1, e2, e], rfl⟩
theorem ev_dget2D {l : List (Str × γ)} {k : Str} {v : γ} (h1 : EvD Γ td R (fun x => x = l)) (h2 : Ev Γ tk RS (fun x => x = k)) (h3 : Ev Γ tx R (fun x => x = v)) : Ev Γ (tDGet2 td tk tx) R (fun x => x = (getS l k).getD v) := ev_dget2 h1 h2 h3 fun _ _ _ e1 e2 e3 => by rw [e1, e2, e3]
/-- tests -/
theorem et_valD {te : TE} {c : Bool} (h : Ev Γ te QL.RB (fun x => x = c)) : EvT Γ (tB te) (fun x => x = c) := et_val h
theorem et_testD {te : TE} {c : Bool} (h : Ev Γ te QL.RB (fun x => x = c)) : EvT Γ (tTest te) (fun x => x = c) := et_test h
theorem et_notD {t : TT} {c : Bool} (h : EvT Γ t (fun x => x = c)) : EvT Γ (tNot t) (fun x => x = !c) := et_not h fun _ e => by rw [e]
theorem et_andD {t u : TT} {c d : Bool} (h1 : EvT Γ t (fun x => x = c)) (h2 : c = true → EvT Γ u (fun x => x = d)) : EvT Γ (tAnd t u) (fun x => x = (c && d)) := et_and h1 (fun e => h2 e.symm) (fun e => by rw [← e]; rfl) fun b e1 e2 => by rw [← e1, e2]; rfl
theorem et_orD {t u : TT} {c d : Bool} (h1 : EvT Γ t (fun x => x = c)) (h2 : c = false → EvT Γ u (fun x => x = d)) : EvT Γ (tOr t u) (fun x => x = (c || d)) := et_or h1 (fun e => h2 e.symm) (fun e => by rw [← e]; rfl) fun b e1 e2 => by rw [← e1, e2]; rfl
theorem ev_andVD {ta tb : TE} {c d : Bool} (h1 : Ev Γ ta QL.RB (fun x => x = c)) (h2 : c = true → Ev Γ tb QL.RB (fun x => x = d)) : Ev Γ (tAndV ta tb) QL.RB (fun x => x = (c && d)) := ev_andV h1 (fun e => h2 e.symm) (fun e => by rw [← e]; rfl) fun b e1 e2 => by rw [← e1, e2]; rfl
theorem ev_orVD {ta tb : TE} {c d : Bool} (h1 : Ev Γ ta QL.RB (fun x => x = c)) (h2 : c = false → Ev Γ tb QL.RB (fun x => x = d)) : Ev Γ (tOrV ta tb) QL.RB (fun x => x = (c || d)) := ev_orV h1 (fun e => h2 e.symm) (fun e => by rw [← e]; rfl) fun b e1 e2 => by rw [← e1, e2]; rfl
theorem ev_notVD {ta : TE} {c : Bool} (h1 : Ev Γ ta QL.RB (fun x => x = c)) : Ev Γ (tNotV ta) QL.RB (fun x => x = !c) := ev_notV h1 fun _ e => by rw [e]
theorem ev_ifD {t : TT} {c : Bool} {ta tb : TE} {a b : γ} (h : EvT Γ t (fun x => x = c)) (h1 : c = true → Ev Γ ta R (fun x => x = a)) (h2 : c = false → Ev Γ tb R (fun x => x = b)) : Ev Γ (tIf t ta tb) R (fun x => x = if c = true then a else b) :=
  ev_if h (fun e => (h1 e.symm).imp fun x ex => by rw [if_pos e.symm, ex]) fun e => (h2 e.symm).imp fun x ex => by rw [if_neg (by rw [← e]; decide), ex]
theorem at_ifD {F : Fr} {D : Ends} {t u : TS} {tt : TT} {c : Bool} (k : EvT Γ tt (fun x => x = c)) (h1 : c = true → At F Γ (t D)) (h2 : c = false → At F Γ (u D)) : At F Γ (tIfS tt t u D) := at_if k (fun e => h1 e.symm) fun e => h2 e.symm
theorem at_setD {F : Fr} {D : Ends} {i : Nat} {a : γ} (k : Ev Γ te R (fun x => x = a)) (n : At F (Γ.set i (.va R a)) D.nx) (l : i < Γ.length := by (simp only [List.length_cons, List.length_nil, List.length_set]; omega)) : At F Γ (tAsg te (gName i) D) := at_set k (fun _ e => by rw [e]; exact n) l
theorem at_retD {F : Fr} {D : Ends} {L : List Slot} {PR : γ → Prop} {a : γ} (o : RtOk F L R PR D.rt) (k : Ev Γ te R (fun x => x = a)) (hl : Has Γ L) (i : PR a) : At F Γ (tRet te D) := at_ret o k hl fun _ e => by rw [e]; exact i
end
end QL

set_option Elab.async false
set_option linter.all false
set_option maxRecDepth 100000
namespace QL
open PySem L2

/-! ### the text's own defs, called by name -/
structure Own (P : Program) (w : World) (K : PySem.W.Frag) (mg : Str → Option Value) (base : Heap) (x : Str) (ps : List Str) (k : Nat) (sp : Sp) : Prop where
  ex : ∃ (f : Addr) (fd : FuncData), FnOk P w K mg base CX0 k f fd ps sp ∧ mg x = some (.ref f) ∧ PySem.W.keepIn K (.ref f) = true ∧ Binds K fd ps []
section
variable {X : Cx} {x : Str} {ps : List Str} {k : Nat} {sp : Sp} {e : Expr} {es : List Expr} {t : TA} {p pos : Pos}
theorem pe_own (O : Own X.prog X.w X.K X.mg X.base x ps k sp) (hr : Room k X.A) (hg : Gl X x) (ha : PA X (e :: es) t) (hn : x ≠ "__name__" := by decide) (hdb : (x == ("__debug__" : Str)) = false := by decide)
    (he : starEach (e :: es) X.env = (false, eval e X.env) :: starEach es X.env := by rfl) (hpl : (backTo pos (starEach es X.env)).any (·.1) = false := by rfl) : PE X (.Call (.Name x p) (e :: es) [] pos) (tCall sp [] E0 t) := by
  obtain ⟨f, fd, F, hm, hk, hb⟩ := O.ex
  exact pe_call F hr hg hm hk hb .nil pass0 ha hdb he hpl
theorem m2_of {o f : Expr} {m : Str} {apos cpos : Pos} (base : attributeBase o m X.env (eval o X.env) = eval o X.env) (few : ((backTo cpos (starEach [e, f] X.env)).all (fun x => !x.1) && (backToKw cpos (keywordEach [] X.env)).all (fun x => x.1.isSome)
    && decide (([e, f] : List Expr).length + ([] : List Keyword).length + (if ([] : List Keyword).isEmpty then 0 else 1) < 30)) = true := by rfl) (line : (apos.endLine == cpos.line) = true := by rfl) (trees : backTo cpos (starEach [e, f] X.env) = [(false, eval e X.env), (false, eval f X.env)] := by rfl) : M2 X o m apos e f cpos := ⟨base, few, line, trees⟩
end

/-! ### texts -/
section
variable {γ : Type} {Γ : Ctx} {ta tb te : TE} {K : PySem.W.Frag}
/-- s[i], the sign at a place -/
theorem ev_ixS {PI : Int → Prop} {z : Str} (h1 : Ev Γ ta RS (fun x => x = z)) (h2 : Ev Γ tb RI PI) (hz : z.length ≤ 1000) (k : ∀ i, PI i → 0 ≤ i ∧ i < z.length) : Ev Γ (tOp rIxS ta tb) RS (fun s => ∃ i c, PI i ∧ z.cps.toList[i.toNat]? = some c ∧ s = ⟨#[c]⟩) :=
  ev_op h1 h2 (o2_ixS fun z' i e pi => by
    subst e
    obtain ⟨h0, hl⟩ := k i pi
    refine ⟨Nat.le_trans hz (by decide), i.toNat, ?_⟩
    have lt : i.toNat < z'.cps.toList.length := by
      have : z'.cps.toList.length = z'.length := by simp [Str.length]
      omega
    exact ⟨z'.cps.toList[i.toNat], by omega, List.getElem?_eq_getElem lt, i, _, pi, List.getElem?_eq_getElem lt, rfl⟩)
def kInS : R2 := fun x y H Q => ∃ (c : Nat) (z : Str), x = .str ⟨#[c]⟩ ∧ y = .str z ∧ Q (.bl (decide (c ∈ z.cps.toList))) H
theorem opInS {X : Cx} : OpR X (compareOp .In) kInS := op_in_sign
theorem ev_inS {c : Nat} {z : Str} (h1 : Ev Γ ta RS (fun x => x = ⟨#[c]⟩)) (h2 : Ev Γ tb RS (fun x => x = z)) : Ev Γ (tOp kInS ta tb) RB (fun b => b = decide (c ∈ z.cps.toList)) :=
  ev_op h1 h2 fun a b x y h H Q pa pb ra rb e q => ⟨c, z, by rw [show x = .str a from ra, pa], by rw [show y = .str b from rb, pb], q _ _ h H rfl (.refl e) rfl⟩
/-- strip(signs), join -/
def kStrip : V → List V → Hp → VK → Prop := fun x xs H Q => ∃ a b, x = .str a ∧ xs = [.str b] ∧ a.length ≤ sizeLine ∧ Q (.str (Txt.stripChars a b)) H
theorem mtStrip {X : Cx} : MtR X "str.strip" kStrip := mt_stripChars
def kJoin (K : PySem.W.Frag) : V → List V → Hp → VK → Prop := fun x xs H Q => ∃ a p, ∃ ys : List Str, x = .str a ∧ xs = [.ref p] ∧ (SqL K H p (ys.map V.str) ∨ SqT K H p (ys.map V.str)) ∧
    (ys.map (·.length)).sum + ys.length * a.length ≤ 16777216 ∧ Q (.str (Txt.join a ys)) H
theorem mtJoin {X : Cx} : MtR X "str.join" (kJoin X.K) := mt_join
theorem ev_stripD {a b : Str} (h1 : Ev Γ ta RS (fun x => x = a)) (h2 : Ev Γ tb RS (fun x => x = b)) (hz : a.length ≤ 100000) : Ev Γ (tBM K "str" kStrip ta (tCons tb tNil)) RS (fun x => x = Txt.stripChars a b) := fun σ h H S e Q q =>
  h1 σ h H S e _ fun v a' h1' H1 p1 s1 S1 r1 => by
    cases r1
    refine ⟨rfl, h2 σ h1' H1 S1 s1.ex _ fun w b' h2' H2 p2 s2 S2 r2 => ?_⟩
    cases r2
    subst p1; subst p2
    exact ⟨_, _, rfl, rfl, Nat.le_trans hz (by decide), q _ _ h2' H2 rfl (s1.tr s2) S2 rfl⟩
theorem ev_joinP {a : Str} {PL : List Str → Prop} (h1 : Ev Γ ta RS (fun x => x = a)) (h2 : Ev Γ tb (RL RS) PL) (hz : ∀ l, PL l → (l.map (·.length)).sum + l.length * a.length ≤ 100000) : Ev Γ (tBM K "str" (kJoin K) ta (tCons tb tNil)) RS (fun x => ∃ l, PL l ∧ x = Txt.join a l) := fun σ h H S e Q q =>
  h1 σ h H S e _ fun v a' h1' H1 p1 s1 S1 r1 => by
    cases r1
    refine ⟨rfl, h2 σ h1' H1 S1 s1.ex _ fun w l h2' H2 p2 s2 S2 r2 => ?_⟩
    obtain ⟨p, vs, rfl, hp, rs⟩ := r2
    subst p1
    rw [str_reps rs] at hp
    exact ⟨_, p, l, rfl, rfl, .inl (sqL s2.ex hp), Nat.le_trans (hz l p2) (by decide), q _ _ h2' H2 ⟨l, p2, rfl⟩ (s1.tr s2) S2 rfl⟩
/-- s in a list of texts of one's own, known -/
theorem inV_str {s : Str} : ∀ l : List Str, inV (.str s) (l.map V.str) = decide (s ∈ l)
  | [] => by simp [inV]
  | x :: l => by
    have ih := inV_str (s := s) l
    unfold inV at ih ⊢
    rw [List.map_cons, List.any_cons, ih]
    by_cases z : x = s
    · subst z; simp [eqV]
    · have z' : ¬ s = x := fun e => z e.symm
      simp [eqV, z, z']
theorem flat_strs : ∀ l : List Str, (l.map V.str).all flatV = true
  | [] => rfl
  | x :: l => by rw [List.map_cons, List.all_cons, flat_strs l]; rfl
theorem ev_notInOwn {i : Nat} {p : Addr} {l : List Str} {s : Str} (ei : Γ[i]? = some (.vo (VL p RS l))) (h1 : Ev Γ ta RS (fun x => x = s)) : Ev Γ (tOp (rIn K true) ta (tVar i)) RB (fun b => b = !decide (s ∈ l)) := fun σ h H S e Q q =>
  h1 σ h H S e _ fun v a' h1' H1 p1 s1 S1 r1 => by
    cases r1
    subst p1
    obtain ⟨ev, vs, ep, rs⟩ := S1.ok i _ ei
    have hv := str_reps rs
    subst hv
    refine ⟨_, ev, p, l.map V.str, rfl, .inl (.inl (.inl ep)), rfl, flat_strs l, ?_⟩
    show Q (.bl (if true = true then !inV _ _ else inV _ _)) H1
    rw [if_pos rfl, inV_str]
    exact q _ _ h1' H1 rfl s1 S1 rfl
end
end QL

set_option Elab.async false
set_option linter.all false
set_option maxRecDepth 100000
namespace QL
open PySem L2

/-! ### results that are new and still one's own -/
def EvO {δ : Type} (Γ : Ctx) (te : TE) (W : Addr → δ → Vol) (P : δ → Prop) : Prop :=
  ∀ σ h H, Sat Γ σ h H → Ex h H → ∀ Q : VK, (∀ p d h' H', P d → Stp (feet Γ) h H h' H' → Sat Γ σ h' H' → H p = none → h' p = none → (W p d).r h' H' → Q (.ref p) H') → te σ H Q
/-- a kind of own thing that lies at one place -/
structure One {δ : Type} (W : Addr → δ → Vol) : Prop where
  val : ∀ p d, (W p d).val = .ref p
  foot : ∀ p d b, (W p d).foot b → b = p
theorem one_VD {γ : Type} {R : Rel γ} : One (fun p (d : List (Str × γ)) => VD p R d) := ⟨fun _ _ => rfl, fun _ _ _ e => e⟩
theorem one_VL {γ : Type} {R : Rel γ} : One (fun p (d : List γ) => VL p R d) := ⟨fun _ _ => rfl, fun _ _ _ e => e⟩
def FSpG {δ : Type} (W : Addr → δ → Vol) (Pre : List Slot → (δ → Prop) → Prop) : Sp := fun vs H Q _ =>
  ∃ L P h, Pre L P ∧ Sat L (vs.map some) h H ∧ Ex h H ∧ ∀ p d h' H', P d → Stp (feet L) h H h' H' → (∀ V, Slot.vo V ∈ L → V.r h' H') → H p = none → h' p = none → (W p d).r h' H' → Q (.ref p) H'
theorem fspG_len {δ : Type} {W : Addr → δ → Vol} {Pre : List Slot → (δ → Prop) → Prop} {n : Nat} (hl : ∀ L P, Pre L P → L.length = n) : ∀ vs H Q E, FSpG W Pre vs H Q E → vs.length = n := fun vs H Q E ⟨L, P, h, p, S, _⟩ => by
  have := S.len
  rw [List.length_map] at this
  rw [this, hl L P p]
section
variable {δ γ : Type} {W : Addr → δ → Vol} {Pre : List Slot → (δ → Prop) → Prop} {Γ : Ctx} {te : TE} {ta : TA} {F : Fr} {D : Ends} {i : Nat} {P : δ → Prop}
theorem eo_call {E : XK} {L : List Slot} (ha : EvA Γ ta (fun l => l = L)) (vi : VoIn Γ L []) (pre : Pre L P) : EvO Γ (tCall (FSpG W Pre) [] E ta) W P := fun σ h H S e Q q =>
  ha σ h H S e _ fun vs l h1 H1 pl s1 S1 ok => by
    subst pl
    obtain ⟨Sa, nf⟩ := args_sat S1 ok vi
    rw [List.append_nil]
    exact ⟨l, P, h1, pre, Sa, s1.ex, fun p d h' H' pd s2 ws n0 n1 r => q p d h' H' pd (s1.tr (s2.mono nf)) (sat_after S1 vi s2 ws) (back_none s1 n0) n1 r⟩
theorem EvO.imp {P' : δ → Prop} (k : EvO Γ te W P) (i : ∀ l, P l → P' l) : EvO Γ te W P' := fun σ h H S e Q q => k σ h H S e Q fun p d h' H' pk => q p d h' H' (i d pk)
theorem EvO.evF {R : Rel γ} {P : List (Str × γ) → Prop} (k : EvO Γ te (fun p d => VD p R d) P) : EvF Γ te R P := k
theorem EvO.evFL {R : Rel γ} {P : List γ → Prop} (k : EvO Γ te (fun p d => VL p R d) P) : EvFL Γ te R P := k
theorem at_setO (o : One W) (k : EvO Γ te W P) (n : ∀ p d, P d → F.H p = none → At F (Γ.set i (.vo (W p d))) D.nx) (l : i < Γ.length := by (simp only [List.length_cons, List.length_nil, List.length_set]; omega)) : At F Γ (tAsg te (gName i) D) := fun σ h H S s f =>
  k σ h H S s.ex _ fun p d h' H' pk s' S' n0 n1 r => by
    have z0 := back_none s n0
    refine n p d pk z0 _ h' H' (S'.put ⟨by rw [o.val p d], r⟩ (fun b e => ?_) l) (feet_stp (Γ := Γ) (σ := σ) s s' f) fun b z => ?_
    · obtain rfl : b = p := o.foot p d b e
      exact ⟨nfeet S n0, n1⟩
    · rcases feet_set z with e | z
      · obtain rfl : b = p := o.foot p d b e
        exact .inr z0
      · exact f b z
def RtOkG (F : Fr) (L : List Slot) (W : Addr → δ → Vol) (P : δ → Prop) (q : VK) : Prop :=
  ∀ p d h H, P d → Stp F.M F.h F.H h H → (∀ V, Slot.vo V ∈ L → V.r h H) → F.H p = none → h p = none → (W p d).r h H → q (.ref p) H
theorem RtOkG.up {F' : Fr} {L : List Slot} {q : VK} (k : RtOkG F L W P q) (l : F.le F') : RtOkG F' L W P q := fun p d h H pd s w n0 n1 r => k p d h H pd (l.step s) w (back_none l.1 n0) n1 r
theorem at_retO {L : List Slot} {PR : δ → Prop} (o : RtOkG F L W PR D.rt) (k : EvO Γ te W P) (hl : Has Γ L) (i : ∀ a, P a → PR a) : At F Γ (tRet te D) := fun σ h H S s f =>
  k σ h H S s.ex _ fun p d h' H' pd s' S' n0 n1 r => o p d h' H' (i d pd) (feet_stp (Γ := Γ) (σ := σ) s s' f) (S'.vols hl) (back_none s n0) n1 r
theorem at_retVar {L : List Slot} {PR : δ → Prop} {p : Addr} {d : δ} (w : One W) (o : RtOkG F L W PR D.rt) (e : Γ[i]? = some (.vo (W p d))) (hp : (W p d).foot p) (n0 : F.H p = none) (hl : Has Γ L) (k : PR d) : At F Γ (tRet (tVar i) D) := fun σ h H S s f => by
  obtain ⟨ev, r⟩ := S.ok i _ e
  exact ⟨_, ev, by rw [w.val p d]; exact o p d h H k s (S.vols hl) n0 (S.out i _ p e hp) r⟩
theorem body_ofG {N : List Str} {vs : List V} {H : Hp} {Q : VK} {E : XK} {t : TS} (n : Nat) (hsp : FSpG W Pre vs H Q E) (hn : ∀ L P, Pre L P → L.length = n) (hN : n ≤ N.length)
    (hb : ∀ (L : List Slot) (P : δ → Prop), Pre L P → ∀ (F : Fr) (D : Ends), RtOkG F L W P D.rt → At F (L ++ List.replicate (N.length - n) .no) (t D)) : t { nx := fun _ H' => Q .non H', rt := Q } (L2.start N vs) H := by
  obtain ⟨L, P, h, pre, S, e, k⟩ := hsp
  have hl : vs.length = n := by have := S.len; rw [List.length_map] at this; rw [this, hn L P pre]
  have z := hb L P pre ⟨h, H, feet L⟩ { nx := fun _ H' => Q .non H', rt := Q } (fun p d h' H' pd s w n0 n1 r => k p d h' H' pd s w n0 n1 r)
  rw [← hl] at z
  refine z _ h H (start_sat S (by rw [hl]; exact hN)) (.refl e) fun b z => ?_
  obtain ⟨m, s, em, f⟩ := z
  left
  by_cases y : m < L.length
  · rw [List.getElem?_append_left y] at em; exact ⟨m, s, em, f⟩
  · rw [List.getElem?_append_right (by omega), List.getElem?_replicate] at em
    split at em
    · cases em; exact f.elim
    · cases em
/-- what makes new things -/
theorem eo_lst {tr : TA} {R : Rel γ} {PS : List γ → Prop} (h : EvAs Γ tr R PS) (hl : ∀ l, PS l → l.length ≤ 1000) : EvO Γ (tLst tr) (fun p d => VL p R d) PS := fun σ h0 H S e Q q =>
  h σ h0 H S e _ fun vs as h1 H1 p s1 S1 rs => ⟨Nat.le_trans (by rw [← rs.len]; exact hl _ p) (by decide), fun a na => by
    have st : Stp MNo h1 H1 h1 (upd H1 a (.lst vs)) := .newU s1.ex na
    exact q a as _ _ p (s1.tr st.no) (S1.stepNo st) (back_none s1 na) (s1.ex.free na) ⟨vs, upd_same, rs⟩⟩
theorem eo_dictD {R : Rel γ} {PD : List (Str × γ) → Prop} (k : EvD Γ te R PD) : EvO Γ (tCB rDictDk (tCons te tNil)) (fun p d => VD p R d) PD := fun σ h H S e Q q =>
  k σ h H S e _ fun a kvs h1 H1 pk s1 S1 g => by
    obtain ⟨ks, rd, r⟩ := g h1 H1 (.refl s1.ex) S1
    refine ⟨a, ks, rfl, rd, fun p np => ?_⟩
    have st : Stp MNo h1 H1 h1 (upd H1 p (.dK ks)) := .newU s1.ex np
    exact q p kvs _ _ pk (s1.tr st.no) (S1.stepNo st) (back_none s1 np) (s1.ex.free np) ⟨ks, upd_same, r⟩
/-- an own thing at slot i gets another content, by a change at its place -/
theorem at_ref {p : Addr} {d : δ} (w : One W) {q : L2.St → Hp → Prop} (e : Γ[i]? = some (.vo (W p d))) (hp : (W p d).foot p) (k : ∀ σ h H, Sat Γ σ h H → Stp F.M F.h F.H h H → (∀ b, feet Γ b → F.M b ∨ F.H b = none) → σ[i]? = some (some (.ref p)) → (W p d).r h H → h p = none → feet Γ p → q σ H) : At F Γ q := fun σ h H S s f => by
  obtain ⟨ev, r⟩ := S.ok i _ e
  rw [w.val p d] at ev
  exact k σ h H S s f ev r (S.out i _ p e hp) ⟨i, _, e, hp⟩
end
end QL
namespace QL
open PySem L2
section
variable {γ : Type} {Γ : Ctx} {ta tb te : TE} {K : PySem.W.Frag}
/-- script[k] -/
theorem ev_ixScrD {l : List Int} {i a : Int} {j : Nat} (h1 : Ev Γ ta (RScr K) (fun x => x = l)) (h2 : Ev Γ tb RI (fun x => x = i)) (e1 : i = (j : Int)) (e2 : l[j]? = some a) : Ev Γ (tOp (rIxL K) ta tb) RI (fun x => x = a) :=
  ev_op h1 h2 fun l' i' x y h H Q pl pi rl ri e q => by
    subst pl; subst pi; subst e1
    obtain ⟨p, rfl, hp⟩ := rl
    refine ⟨p, l'.map V.int, _, .int a, rfl, ri, hp.sq e, atI_nat (by rw [List.getElem?_map, e2]; rfl), q _ a h H rfl (.refl e) rfl⟩
end
/-- the drawing list: its two numbers -/
def VRng (p : Addr) : Vol where
  val := .ref p
  foot := fun b => b = p
  r := fun h H => ∃ x y : Int, H p = some (.lst [.int x, .int y]) ∧ 0 ≤ y ∧ y < 2147483549
  frame := fun ⟨x, y, e, r⟩ _ k => ⟨x, y, by rw [k p rfl]; exact e, r⟩
  live := fun ⟨x, y, e, _⟩ f => by rw [f]; exact ne_some e
def WRng : Addr → Unit → Vol := fun p _ => VRng p
theorem one_rng : One WRng := ⟨fun _ _ => rfl, fun _ _ _ e => e⟩
section
variable {Γ : Ctx} {ta tb te : TE} {tr : TA} {K : PySem.W.Frag}
theorem eo_rng {PX PY : Int → Prop} (h1 : Ev Γ ta RI PX) (h2 : Ev Γ tb RI PY) (k : ∀ y, PY y → 0 ≤ y ∧ y < 2147483549) : EvO Γ (tLst (tCons ta (tCons tb tNil))) WRng (fun _ => True) := fun σ h H S e Q q =>
  h1 σ h H S e _ fun v x h1 H1 px s1 S1 r1 => h2 σ h1 H1 S1 s1.ex _ fun w y h2 H2 py s2 S2 r2 => ⟨show 2 ≤ sizeLine by decide, fun p np => by
    have st : Stp MNo h2 H2 h2 (upd H2 p (.lst [v, w])) := .newU s2.ex np
    cases r1; cases r2
    exact q p () _ _ trivial ((s1.tr s2).tr st.no) (S2.stepNo st) (back_none (s1.tr s2) np) (s2.ex.free np) ⟨x, y, upd_same, k y py⟩⟩
end
end QL
namespace QL
open PySem L2
/-- what follows a piece of a body, from a word between them -/
theorem at_cut {F : Fr} {Γ : Ctx} {D : Ends} {t u : TS} (σt : Type) (Γs : σt → Ctx) (I : σt → Prop) (h1 : ∀ N, (∀ s, I s → At F (Γs s) N) → At F Γ (t { D with nx := N })) (h2 : ∀ s, I s → At F (Γs s) (u D)) : At F Γ (tSeq t u D) := h1 (u D) h2
end QL
namespace QL
open PySem L2
/-! statements with what follows them -/
section
variable {γ δ : Type} {F : Fr} {Γ : Ctx} {R : Rel γ} {P : γ → Prop} {te : TE} {D : Ends} {t u v : TS} {i : Nat} {a : γ}
theorem sq_setD (k : Ev Γ te R (fun x => x = a)) (n : At F (Γ.set i (.va R a)) (u D)) (l : i < Γ.length := by (simp only [List.length_cons, List.length_nil, List.length_set]; omega)) : At F Γ (tSeq (tAsg te (gName i)) u D) := at_seq (at_setD k n l)
theorem sq_set (k : Ev Γ te R P) (n : ∀ a, P a → At F (Γ.set i (.va R a)) (u D)) (l : i < Γ.length := by (simp only [List.length_cons, List.length_nil, List.length_set]; omega)) : At F Γ (tSeq (tAsg te (gName i)) u D) := at_seq (at_set k n l)
theorem sq_setO {W : Addr → δ → Vol} {P : δ → Prop} (o : One W) (k : EvO Γ te W P) (n : ∀ p d, P d → F.H p = none → At F (Γ.set i (.vo (W p d))) (u D)) (l : i < Γ.length := by (simp only [List.length_cons, List.length_nil, List.length_set]; omega)) : At F Γ (tSeq (tAsg te (gName i)) u D) := at_seq (at_setO o k n l)
theorem sq_newL (n : ∀ p, F.H p = none → At F (Γ.set i (.vo (VL p R []))) (u D)) (l : i < Γ.length := by (simp only [List.length_cons, List.length_nil, List.length_set]; omega)) : At F Γ (tSeq (tAsg (tLst tNil) (gName i)) u D) := at_seq (at_newL n l)
theorem sq_newD (n : ∀ p, F.H p = none → At F (Γ.set i (.vo (VD p R []))) (u D)) (l : i < Γ.length := by (simp only [List.length_cons, List.length_nil, List.length_set]; omega)) : At F Γ (tSeq (tAsg tDNewK (gName i)) u D) := at_seq (at_newD n l)
/-- an if whose suite leaves the def -/
theorem sq_guard {tt : TT} {c : Bool} (k : EvT Γ tt (fun x => x = c)) (h1 : c = true → At F Γ (t { D with nx := u D })) (h2 : c = false → At F Γ (u D)) : At F Γ (tSeq (tIfS tt t tNext) u D) := at_seq (at_ifD k h1 h2)
theorem sq_drop (k : Ev Γ te R P) (n : At F Γ (u D)) : At F Γ (tSeq (tDrop te) u D) := at_seq (at_drop k n)
end
end QL
namespace QL
open PySem L2
section
variable {F : Fr} {Γ : Ctx} {te : TE} {D : Ends} {u : TS} {i j : Nat} {p : Addr} {K : PySem.W.Frag}
theorem ev_rng0 (e : Γ[i]? = some (.vo (VRng p))) : Ev Γ (tOp (rIxL K) (tVar i) (tC (.int 0))) RI (fun _ => True) := fun σ h H S x Q q => by
  obtain ⟨ev, a, b, ep, _⟩ := S.ok i _ e
  exact ⟨_, ev, p, [.int a, .int b], 0, .int a, rfl, rfl, .inl (.inl ep), rfl, q _ a h H trivial (.refl x) S rfl⟩
theorem ev_rng1 (e : Γ[i]? = some (.vo (VRng p))) : Ev Γ (tOp (rIxL K) (tVar i) (tC (.int 1))) RI (fun y => 0 ≤ y ∧ y < 2147483549) := fun σ h H S x Q q => by
  obtain ⟨ev, a, b, ep, hb⟩ := S.ok i _ e
  exact ⟨_, ev, p, [.int a, .int b], 1, .int b, rfl, rfl, .inl (.inl ep), rfl, q _ b h H hb (.refl x) S rfl⟩
theorem set_self {Γ : Ctx} {i : Nat} {s : Slot} (e : Γ[i]? = some s) : Γ.set i s = Γ := by
  apply List.ext_getElem?
  intro j
  by_cases z : i = j
  · subst z; rw [List.getElem?_set_self (List.getElem?_eq_some_iff.mp e).1, e]
  · rw [List.getElem?_set_ne z]
theorem sq_rngSet0 {P : Int × Int → Prop} (e : Γ[i]? = some (.vo (VRng p))) (k : Ev Γ te (RT2 K RI RI) P) (n : ∀ q, P q → At F (Γ.set j (.va RI q.2)) (u D)) (l : j < Γ.length := by (simp only [List.length_cons, List.length_nil, List.length_set]; omega)) :
    At F Γ (tSeq (tAsg te (gTup K 2 (gCons (gSub (tVar i) (tC (.int 0)) rSetL) (gCons (gName j) gNil)))) u D) := fun σ h H S s f => by
  refine k σ h H S s.ex _ fun v q h1 H1 pq s1 S1 r => ?_
  obtain ⟨t, x, y, rfl, kt, rx, ry⟩ := r
  cases rx; cases ry
  obtain ⟨ev, a, b, ep, hb⟩ := S1.ok i _ e
  refine ⟨t, [.int q.1, .int q.2], rfl, kt.sq s1.ex, rfl, _, _, rfl, _, ev, p, [.int a, .int b], 0, 0, rfl, rfl, ep, rfl, _, _, rfl, rfl, ?_⟩
  refine at_vol (W := VRng p) (W' := VRng p) (i := i) (q := fun σ' H' => (u D) (σ'.set j (some (.int q.2))) H') ?_ e rfl (fun _ => Iff.rfl) rfl S1 (feet_stp (Γ := Γ) (σ := σ) s s1 f) f ⟨q.1, b, upd_same, hb⟩
  rw [set_self e]
  intro σ2 h2 H2 S2 s2 f2
  exact n q pq _ h2 H2 (S2.putV (R := RI) rfl l) s2 fun b z => f2 b (feet_va z)
theorem sq_rngSet1 {P : Int → Prop} (e : Γ[i]? = some (.vo (VRng p))) (k : Ev Γ te RI P) (kp : ∀ y, P y → 0 ≤ y ∧ y < 2147483549) (n : At F Γ (u D)) : At F Γ (tSeq (tAsg te (gSub (tVar i) (tC (.int 1)) rSetL)) u D) := fun σ h H S s f => by
  refine k σ h H S s.ex _ fun v y h1 H1 py s1 S1 r => ?_
  cases r
  obtain ⟨ev, a, b, ep, hb⟩ := S1.ok i _ e
  refine ⟨_, ev, p, [.int a, .int b], 1, 1, rfl, rfl, ep, rfl, ?_⟩
  refine at_vol (W := VRng p) (W' := VRng p) (i := i) (q := u D) ?_ e rfl (fun _ => Iff.rfl) rfl S1 (feet_stp (Γ := Γ) (σ := σ) s s1 f) f ⟨a, y, upd_same, kp y py⟩
  rw [set_self e]
  exact n
end
end QL

set_option Elab.async false
set_option linter.all false
set_option maxRecDepth 100000
namespace QL
open PySem L2
/-! ### names -/
def tl (s : Str) : List Nat := s.cps.toList
theorem tl_len (s : Str) : (tl s).length = s.length := by simp [tl, Str.length]
theorem tl_ext {a b : Str} (h : tl a = tl b) : a = b := by
  cases a; cases b
  simp [tl] at h
  rw [h]
theorem tl_app (a b : Str) : tl (a ++ b) = tl a ++ tl b := by
  show (a.cps ++ b.cps).toList = _
  simp [tl]
def isLo (c : Nat) : Bool := decide (97 ≤ c) && decide (c ≤ 122)
def isSg (c : Nat) : Bool := isLo c || (decide (48 ≤ c) && decide (c ≤ 57))
structure IsName (s : Str) : Prop where
  lo : 1 ≤ s.length
  hi : s.length ≤ 12
  first : ∃ c, (tl s).head? = some c ∧ isLo c = true
  all : ∀ c ∈ tl s, isSg c = true
theorem tl_glued0 (l : List Str) : tl (Txt.join ⟨#[]⟩ l) = (l.map tl).flatten := by
  have aux : ∀ (l : List Str) (acc : Array Nat), ((l.foldl (fun acc p => acc ++ (⟨#[]⟩ : Str).cps ++ p.cps) acc)).toList = acc.toList ++ (l.map tl).flatten := by
    intro l
    induction l with
    | nil => intro acc; simp
    | cons x l ih =>
      intro acc
      rw [List.foldl_cons, ih]
      simp [tl]
  cases l with
  | nil => rfl
  | cons x l =>
    have e : tl (Txt.join ⟨#[]⟩ (x :: l)) = (l.foldl (fun acc p => acc ++ (⟨#[]⟩ : Str).cps ++ p.cps) x.cps).toList := rfl
    rw [e, aux]
    simp [tl]
theorem join_len0 {l : List Str} (h : ∀ s ∈ l, s.length = 1) : (Txt.join ⟨#[]⟩ l).length = l.length := by
  rw [← tl_len, tl_glued0]
  induction l with
  | nil => rfl
  | cons x l ih =>
    rw [List.map_cons, List.flatten_cons, List.length_append, ih (fun s m => h s (List.mem_cons_of_mem _ m)), tl_len, h x List.mem_cons_self, List.length_cons]
    omega
theorem join_mem0 {l : List Str} {c : Nat} (h : c ∈ tl (Txt.join ⟨#[]⟩ l)) : ∃ s ∈ l, c ∈ tl s := by
  rw [tl_glued0] at h
  obtain ⟨m, hm, hc⟩ := List.mem_flatten.mp h
  obtain ⟨s, hs, rfl⟩ := List.mem_map.mp hm
  exact ⟨s, hs, hc⟩
def LETTERS : Str := "abcdefghijklmnopqrstuvwxyz"
def SIGNS : Str := "abcdefghijklmnopqrstuvwxyz0123456789"
theorem letters_lo : ∀ c ∈ tl LETTERS, isLo c = true := by decide +kernel
theorem signs_sg : ∀ c ∈ tl SIGNS, isSg c = true := by decide +kernel
theorem letters_len : LETTERS.length = 26 := by decide +kernel
theorem signs_len : SIGNS.length = 36 := by decide +kernel
theorem lo_sg {c : Nat} (h : isLo c = true) : isSg c = true := by unfold isSg; rw [h]; rfl
/-- a sign, then signs -/
theorem name_of {c : Nat} {r : Str} (hc : isLo c = true) (hr : ∀ d ∈ tl r, isSg d = true) (hl : r.length ≤ 11) : IsName ((⟨#[c]⟩ : Str) ++ r) := by
  have e : tl ((⟨#[c]⟩ : Str) ++ r) = c :: tl r := by rw [tl_app]; rfl
  have el : ((⟨#[c]⟩ : Str) ++ r).length = r.length + 1 := by rw [← tl_len, e, List.length_cons, tl_len]
  refine ⟨by omega, by omega, ⟨c, by rw [e]; rfl, hc⟩, fun d m => ?_⟩
  rw [e] at m
  rcases List.mem_cons.mp m with rfl | m
  · exact lo_sg hc
  · exact hr d m
end QL
namespace QL
open PySem L2
section
variable {γ : Type} {Γ : QL.Ctx} {ta tb : TE} {R : Rel γ} {K : PySem.W.Frag}
theorem ev_ixLP {l : List γ} {PI : Int → Prop} (h1 : Ev Γ ta (RL R) (fun x => x = l)) (h2 : Ev Γ tb RI PI) (k : ∀ i, PI i → 0 ≤ i ∧ i < l.length) : Ev Γ (tOp (rIxL K) ta tb) R (fun a => ∃ i, PI i ∧ l[i.toNat]? = some a) :=
  ev_op h1 h2 (o2_ixL fun l' i e pi => by
    subst e
    obtain ⟨h0, hl⟩ := k i pi
    have lt : i.toNat < l'.length := by omega
    exact ⟨i.toNat, l'[i.toNat], by omega, List.getElem?_eq_getElem lt, i, pi, List.getElem?_eq_getElem lt⟩)
theorem le_set {j : Nat} {s : Slot} (e : Γ[j]? = some .no) : Le (Γ.set j s) Γ := ⟨by rw [List.length_set], fun i t et => by
  by_cases z : j = i
  · subst z; rw [e] at et; cases et; exact .inl rfl
  · exact .inr (by rw [List.getElem?_set_ne z]; exact et)⟩
theorem nv_nil : NoVol Γ [] := fun _ z => by cases z
theorem nv_no {v : Nat} {vs : List Nat} (e : Γ[v]? = some .no) (h : NoVol Γ vs) : NoVol Γ (v :: vs) := fun u m s es b f => by
  rcases List.mem_cons.mp m with rfl | m
  · rw [e] at es; cases es; exact f
  · exact h u m s es b f
theorem nv_va {v : Nat} {vs : List Nat} {γ : Type} {R : Rel γ} {a : γ} (e : Γ[v]? = some (.va R a)) (h : NoVol Γ vs) : NoVol Γ (v :: vs) := fun u m s es b f => by
  rcases List.mem_cons.mp m with rfl | m
  · rw [e] at es; cases es; exact f
  · exact h u m s es b f
end
end QL
namespace QL
theorem le_nil : Le [] [] := Le.refl []
theorem le_same {s : Slot} {l l' : List Slot} (h : Le l l') : Le (s :: l) (s :: l') := ⟨by rw [List.length_cons, List.length_cons, h.1], fun i t e => by
  cases i with
  | zero => exact .inr e
  | succ i => simpa using h.2 i t (by simpa using e)⟩
theorem le_drop {s : Slot} {l l' : List Slot} (h : Le l l') : Le (s :: l) (.no :: l') := ⟨by rw [List.length_cons, List.length_cons, h.1], fun i t e => by
  cases i with
  | zero => simp at e; exact .inl e.symm
  | succ i => simpa using h.2 i t (by simpa using e)⟩
end QL

set_option Elab.async false
set_option linter.all false
set_option maxRecDepth 100000
namespace QL
open PySem L2

/-! ### objects of own classes -/
abbrev Flds := List (Str × Slot)
def FsOk (L : Flds) (fs : List (Str × V)) (h : Hp) : Prop := fs.map (·.1) = L.map (·.1) ∧ ArgsOk (L.map (·.2)) (fs.map (·.2)) h
theorem FsOk.mono {L : Flds} {fs : List (Str × V)} {h h' : Hp} (e : Ext h h') (k : FsOk L fs h) : FsOk L fs h' := ⟨k.1, k.2.mono e⟩
theorem FsOk.look {γ : Type} {R : Rel γ} {b : γ} {f : Str} {h : Hp} : ∀ {L : Flds} {fs : List (Str × V)}, FsOk L fs h → L.lookup f = some (.va R b) → ∃ v, fs.lookup f = some v ∧ R.r b v h
  | [], _, _, e => by simp at e
  | (g, s) :: L, [], k, _ => by have := k.1; simp at this
  | (g, s) :: L, (g', v) :: fs, ⟨k1, k2⟩, e => by
    rw [List.map_cons, List.map_cons] at k1 k2
    obtain ⟨e1, e2⟩ := List.cons.inj k1
    dsimp only at e1
    subst e1
    by_cases z : f = g'
    · subst z
      rw [List.lookup_cons_self] at e
      cases e
      exact ⟨v, List.lookup_cons_self, k2.1⟩
    · have zb : (f == g') = false := by simpa using z
      rw [List.lookup_cons, zb] at e ⊢
      refine FsOk.look (L := L) ⟨e2, ?_⟩ e
      cases s with
      | no => exact k2.elim
      | va R a => exact k2.2
      | vo W => exact k2.2
theorem lookup_none_keys.{u1, u2} {α : Type u1} {β : Type u2} {f : Str} : ∀ {L : List (Str × α)} {M : List (Str × β)}, M.map (·.1) = L.map (·.1) → L.lookup f = none → M.lookup f = none
  | [], [], _, _ => rfl
  | [], _ :: _, e, _ => by simp at e
  | _ :: _, [], e, _ => rfl
  | (g, s) :: L, (g', v) :: M, k, e => by
    rw [List.map_cons, List.map_cons] at k
    obtain ⟨e1, e2⟩ := List.cons.inj k
    dsimp only at e1
    subst e1
    rw [List.lookup_cons] at e ⊢
    split at e
    · cases e
    · exact lookup_none_keys e2 e
theorem putF_new {f : Str} {v : V} : ∀ {fs : List (Str × V)}, fs.lookup f = none → putF f v fs = fs ++ [(f, v)]
  | [], _ => rfl
  | (g, x) :: r, e => by
    rw [List.lookup_cons] at e
    unfold putF
    split at e
    · cases e
    · rename_i hz
      have hz : ¬ f = g := by simpa using hz
      rw [if_neg (fun q => hz q.symm), putF_new e]
      rfl
theorem ArgsOk.snoc {γ : Type} {R : Rel γ} {a : γ} {v : V} {h : Hp} : ∀ {L : List Slot} {vs : List V}, ArgsOk L vs h → R.r a v h → ArgsOk (L ++ [.va R a]) (vs ++ [v]) h
  | [], [], _, r => ⟨r, trivial⟩
  | .va R a :: L, v :: vs, k, r => ⟨k.1, k.2.snoc r⟩
  | .vo W :: L, v :: vs, k, r => ⟨k.1, k.2.snoc r⟩
  | [], _ :: _, k, _ => k.elim
  | .no :: _, [], k, _ => k.elim
  | .no :: _, _ :: _, k, _ => k.elim
  | .vo _ :: _, [], k, _ => k.elim
  | .va _ _ :: _, [], k, _ => k.elim
theorem FsOk.snoc {γ : Type} {R : Rel γ} {a : γ} {v : V} {f : Str} {L : Flds} {fs : List (Str × V)} {h : Hp} (k : FsOk L fs h) (n : L.lookup f = none) (r : R.r a v h) : FsOk (L ++ [(f, .va R a)]) (putF f v fs) h := by
  rw [putF_new (lookup_none_keys k.1 n)]
  refine ⟨by rw [List.map_append, List.map_append, k.1]; rfl, ?_⟩
  rw [List.map_append, List.map_append]
  exact k.2.snoc r
/-- an object, known: its class, its fields by data -/
def RIns {α : Type} (C : Addr) (shape : α → Flds) : Rel α :=
  ⟨fun a v h => ∃ p dx fs, v = .ref p ∧ h p = some (.ins C dx fs) ∧ FsOk (shape a) fs h, fun e ⟨p, dx, fs, q, k, r⟩ => ⟨p, dx, fs, q, e _ _ k, r.mono e⟩⟩
/-- an object of one's own that is being made -/
def VObj (p C dx : Addr) (L : Flds) : Vol where
  val := .ref p
  foot := fun b => b = p
  r := fun h H => ∃ fs, H p = some (.ins C dx fs) ∧ FsOk L fs h ∧ fs.length ≤ 100
  frame := fun ⟨fs, e, r, l⟩ x k => ⟨fs, by rw [k p rfl]; exact e, r.mono x, l⟩
  live := fun ⟨fs, e, _⟩ f => by rw [f]; exact ne_some e

section
variable {α β γ : Type} {Γ : Ctx} {te ta : TE} {t : TA} {R : Rel γ} {C : Addr} {shape : α → Flds} {a : α} {b : γ} {f m : Str} {K : PySem.W.Frag}
theorem ev_fld (h : Ev Γ te (RIns C shape) (fun x => x = a)) (c : Cls K C) (n : NoAttr K C f) (l : (shape a).lookup f = some (.va R b)) : Ev Γ (tFld K te f) R (fun x => x = b) := fun σ h0 H S e Q q =>
  h σ h0 H S e _ fun v a' h1 H1 p1 s1 S1 r1 => by
    subst p1
    obtain ⟨p, dx, fs, rfl, hp, k⟩ := r1
    obtain ⟨v, lv, rv⟩ := k.look l
    exact ⟨p, C, dx, fs, v, rfl, s1.ex.ins hp, c, n, lv, q v b h1 H1 rfl s1 S1 rv⟩
theorem pv_fld (h : PthV Γ te (RIns C shape) a) (c : Cls K C) (n : NoAttr K C f) (l : (shape a).lookup f = some (.va R b)) : PthV Γ (tFld K te f) R b := fun σ h0 H S e => by
  obtain ⟨v, ⟨p, dx, fs, rfl, hp, k⟩, kk⟩ := h σ h0 H S e
  obtain ⟨v, lv, rv⟩ := k.look l
  refine ⟨v, rv, fun H' hd Q q => kk H' hd _ ⟨p, C, dx, fs, v, rfl, ?_, c, n, lv, q⟩⟩
  rcases hd p with z | ⟨ks, z⟩
  · rw [z]; exact e.ins hp
  · rw [hp] at z; cases z
/-- a method of a known object -/
theorem ev_meth {Pre : List Slot → (γ → Prop) → Prop} {E : XK} {L : List Slot} {P : γ → Prop} (h : Ev Γ te (RIns C shape) (fun x => x = a)) (hm : (shape a).lookup m = none) (ha : EvA Γ t (fun l => l = L)) (vi : VoIn Γ L []) (k : Pre (.va (RIns C shape) a :: L) P) :
    Ev Γ (tMeth C m (FSp R Pre) [] E te t) R P := fun σ h0 H S e Q q =>
  h σ h0 H S e _ fun v a' h1 H1 p1 s1 S1 r1 => by
    subst p1
    have r1' := r1
    obtain ⟨p, dx, fs, rfl, hp, kf⟩ := r1
    refine ⟨p, dx, fs, rfl, s1.ex.ins hp, lookup_none_keys kf.1 hm, ha σ h1 H1 S1 s1.ex _ fun vs l h2 H2 pl s2 S2 ok => ?_⟩
    subst pl
    have ok2 : ArgsOk (.va (RIns C shape) a' :: l) (V.ref p :: vs) h2 := ⟨(RIns C shape).mono s2.kn r1', ok⟩
    obtain ⟨Sa, nf⟩ := args_sat S2 ok2 vi
    rw [List.append_nil]
    exact ⟨_, P, h2, k, Sa, s2.ex, fun v a h' H' p s3 ws r => q v a h' H' p ((s1.tr s2).tr (s3.mono nf)) (sat_after S2 (L := .va (RIns C shape) a' :: l) vi s3 ws) r⟩
/-- a property of a known object -/
theorem ev_prop {Pre : List Slot → (γ → Prop) → Prop} {E : XK} {P : γ → Prop} (h : Ev Γ te (RIns C shape) (fun x => x = a)) (k : Pre [.va (RIns C shape) a] P) :
    Ev Γ (tProp C (FSp R Pre) [] E te) R P := fun σ h0 H S e Q q =>
  h σ h0 H S e _ fun v a' h1 H1 p1 s1 S1 r1 => by
    subst p1
    have r1' := r1
    obtain ⟨p, dx, fs, rfl, hp, kf⟩ := r1
    refine ⟨p, dx, fs, rfl, s1.ex.ins hp, ?_⟩
    have ok2 : ArgsOk [.va (RIns C shape) a'] [V.ref p] h1 := ⟨r1', trivial⟩
    obtain ⟨Sa, nf⟩ := args_sat (Γ := Γ) S1 ok2 trivial
    exact ⟨_, P, h1, k, Sa, s1.ex, fun v a h' H' p s3 ws r => q v a h' H' p (s1.tr (s3.mono nf)) (sat_after S1 (L := [.va (RIns C shape) a']) trivial s3 ws) r⟩

/-! ### making an object -/
/-- __init__: h0 is known before, H0 the heap without the object -/
def FSpI (C : Addr) (shape : α → Flds) (Pre : List Slot → (α → Prop) → Prop) : Sp := fun vs H Q _ =>
  ∃ p dx ws L P h H0, vs = .ref p :: ws ∧ H = upd (upd H0 dx (.own p)) p (.ins C dx []) ∧ H0 p = none ∧ H0 dx = none ∧ dx ≠ p ∧ Pre L P ∧ Sat L (ws.map some) h H0 ∧ Ex h H0 ∧
    ∀ a h' H', P a → Stp (feet L) h H0 h' H' → (∀ W, Slot.vo W ∈ L → W.r h' H') → (RIns C shape).r a (.ref p) h' → Q .non H'
theorem fspI_len {Pre : List Slot → (α → Prop) → Prop} {n : Nat} (hl : ∀ L P, Pre L P → L.length = n) : ∀ vs H Q E, FSpI C shape Pre vs H Q E → vs.length = n + 1 := fun vs H Q E ⟨p, dx, ws, L, P, h, H0, e, _, _, _, _, pre, S, _⟩ => by
  have := S.len
  rw [List.length_map] at this
  rw [e, List.length_cons, this, hl L P pre]
/-- defaults: constants behind the arguments -/
def Dflt : List Slot → List V → Prop
  | [], [] => True
  | .va R a :: L, v :: vs => (∀ h, R.r a v h) ∧ Dflt L vs
  | _, _ => False
theorem Dflt.vo : ∀ {D : List Slot} {vs : List V} {W : Vol}, Dflt D vs → Slot.vo W ∉ D
  | [], _, W, _, z => by simp at z
  | .va R a :: L, v :: vs, W, k, z => by
    rcases List.mem_cons.mp z with e | z
    · cases e
    · exact k.2.vo z
  | .va R a :: L, [], W, k, _ => k.elim
  | .no :: _, [], _, k, _ => k.elim
  | .no :: _, _ :: _, _, k, _ => k.elim
  | .vo _ :: _, [], _, k, _ => k.elim
  | .vo _ :: _, _ :: _, _, k, _ => k.elim
theorem ArgsOk.dflt {h : Hp} : ∀ {D : List Slot} {ds : List V}, Dflt D ds → ArgsOk D ds h
  | [], [], _ => trivial
  | .va R a :: L, v :: vs, k => ⟨k.1 h, ArgsOk.dflt k.2⟩

section
variable {α β γ : Type} {Γ : Ctx} {te ta : TE} {t : TA} {R : Rel γ} {C : Addr} {shape : α → Flds} {a : α} {b : γ} {f m : Str} {K : PySem.W.Frag}
theorem args_app {h : Hp} : ∀ {L M : List Slot} {vs ws : List V}, ArgsOk L vs h → ArgsOk M ws h → ArgsOk (L ++ M) (vs ++ ws) h
  | [], _, [], _, _, r => r
  | .va R a :: L, _, v :: vs, _, k, r => ⟨k.1, args_app k.2 r⟩
  | .vo W :: L, _, v :: vs, _, k, r => ⟨k.1, args_app k.2 r⟩
  | [], _, _ :: _, _, k, _ => k.elim
  | .no :: _, _, [], _, k, _ => k.elim
  | .no :: _, _, _ :: _, _, k, _ => k.elim
  | .vo _ :: _, _, [], _, k, _ => k.elim
  | .va _ _ :: _, _, [], _, k, _ => k.elim
/-- C(..) -/
theorem ev_make {Pre : List Slot → (α → Prop) → Prop} {E : XK} {L D : List Slot} {dvs : List V} {P : α → Prop} (ha : EvA Γ t (fun l => l = L)) (hd : Dflt D dvs) (vi : VoIn Γ (L ++ D) []) (k : Pre (L ++ D) P) :
    Ev Γ (tMake C (FSpI C shape Pre) dvs E t) (RIns C shape) P := fun σ h0 H S e Q q =>
  ha σ h0 H S e _ fun vs l h1 H1 pl s1 S1 ok => by
    subst pl
    intro x dx nx nd ne
    have ok2 : ArgsOk (l ++ D) (vs ++ dvs) h1 := args_app ok (ArgsOk.dflt hd)
    obtain ⟨Sa, nf⟩ := args_sat S1 ok2 vi
    exact ⟨x, dx, vs ++ dvs, _, P, h1, H1, rfl, rfl, nx, nd, ne, k, Sa, s1.ex, fun a h' H' p s3 ws r => ⟨rfl, q _ a h' H' p (s1.tr (s3.mono nf)) (sat_after S1 vi s3 ws) r⟩⟩
/-- in __init__: self.f = value -/
theorem at_fld {F : Fr} {D : Ends} {i : Nat} {p dx : Addr} {Lf : Flds} {P : γ → Prop} (e : Γ[i]? = some (.vo (VObj p C dx Lf))) (k : Ev Γ te R P) (c : Cls K C) (na : NoAttr K C f) (nl : Lf.lookup f = none) (hz : Lf.length ≤ 50)
    (n : ∀ a, P a → At F (Γ.set i (.vo (VObj p C dx (Lf ++ [(f, .va R a)])))) D.nx) : At F Γ (sFld K (tVar i) te f D) := fun σ h H S s fr =>
  k σ h H S s.ex _ fun v a h' H' pa s' S' r => by
    obtain ⟨ev, fs, ep, kf, lf⟩ := S'.ok i _ e
    refine ⟨_, ev, p, C, dx, fs, rfl, ep, c, na, by omega, ?_⟩
    have kl : fs.length = Lf.length := by have := congrArg List.length kf.1; simpa using this
    refine at_vol (W := VObj p C dx Lf) (W' := VObj p C dx (Lf ++ [(f, .va R a)])) (n a pa) e rfl (fun _ => Iff.rfl) rfl S' (feet_stp (Γ := Γ) (σ := σ) s s' fr) fr ⟨_, upd_same, kf.snoc nl r, ?_⟩
    have := length_putF f v fs
    omega
theorem sq_fld {F : Fr} {D : Ends} {u : TS} {i : Nat} {p dx : Addr} {Lf : Flds} {P : γ → Prop} (e : Γ[i]? = some (.vo (VObj p C dx Lf))) (k : Ev Γ te R P) (c : Cls K C) (na : NoAttr K C f) (nl : Lf.lookup f = none) (hz : Lf.length ≤ 50)
    (n : ∀ a, P a → At F (Γ.set i (.vo (VObj p C dx (Lf ++ [(f, .va R a)])))) (u D)) : At F Γ (tSeq (sFld K (tVar i) te f) u D) := at_seq (at_fld e k c na nl hz n)
/-- what the end of __init__ wants -/
def EndOk {α : Type} (F : Fr) (L : List Slot) (C p dx : Addr) (shape : α → Flds) (P : α → Prop) (q : Hp → Prop) : Prop :=
  ∀ a h H, P a → Stp F.M F.h F.H h H → (∀ W, Slot.vo W ∈ L → W.r h H) → (RIns C shape).r a (.ref p) h → q H
theorem at_endI {F : Fr} {L : List Slot} {i : Nat} {p dx : Addr} {Lf : Flds} {P : α → Prop} {q : Hp → Prop} (o : EndOk F L C p dx shape P q) (e : Γ[i]? = some (.vo (VObj p C dx Lf))) (n0 : F.H p = none) (hs : Lf = shape a) (pa : P a) (hl : Has Γ L) (hp : ∀ W, Slot.vo W ∈ L → ¬ W.foot p) :
    At F Γ (fun _ H => q H) := fun σ h H S s fr => by
  obtain ⟨ev, fs, ep, kf, lf⟩ := S.ok i _ e
  subst hs
  have np : h p = none := S.out i _ p e rfl
  have x1 : Ext h (upd h p (.ins C dx fs)) := .new np
  refine o a (upd h p (.ins C dx fs)) H pa (s.knows np ep n0) (fun W z => ?_) ⟨p, dx, fs, rfl, upd_same, kf.mono x1⟩
  exact W.frame (S.vols hl W z) x1 fun b _ => rfl
theorem body_ofI {Pre : List Slot → (α → Prop) → Prop} {N : List Str} {vs : List V} {H : Hp} {Q : VK} {E : XK} {t : TS} (n : Nat) (hsp : FSpI C shape Pre vs H Q E) (hn : ∀ L P, Pre L P → L.length = n) (hN : n + 1 ≤ N.length)
    (hb : ∀ (L : List Slot) (P : α → Prop), Pre L P → ∀ (F : Fr) (p dx : Addr) (D : Ends), F.H p = none → (∀ W, Slot.vo W ∈ L → ¬ W.foot p) → ∀ q : Hp → Prop, D.nx = (fun _ H => q H) → EndOk F L C p dx shape P q → At F ((.vo (VObj p C dx []) :: L) ++ List.replicate (N.length - (n + 1)) .no) (t D)) : t { nx := fun _ H' => Q .non H', rt := Q } (L2.start N vs) H := by
  obtain ⟨p, dx, ws, L, P, h, H0, rfl, rfl, np, nd, ne, pre, S, e, k⟩ := hsp
  have hl : ws.length = n := by have := S.len; rw [List.length_map] at this; rw [this, hn L P pre]
  have nfp : ∀ b, feet L b → b ≠ p ∧ b ≠ dx := fun b z => ⟨fun w => S.live z (by rw [w]; exact np), fun w => S.live z (by rw [w]; exact nd)⟩
  have z := hb L P pre ⟨h, H0, feet L⟩ p dx { nx := fun _ H' => Q .non H', rt := Q } np (fun W m f => by
    obtain ⟨i, ei⟩ := List.getElem?_of_mem m
    exact (nfp p ⟨i, _, ei, f⟩).1 rfl) (fun H' => Q .non H') rfl (fun a h' H' pa s w r => k a h' H' pa s w r)
  have st1 : Stp MNo h H0 h (upd H0 dx (.own p)) := .newU e nd
  have np1 : (upd H0 dx (.own p)) p = none := by rw [upd_ne (fun w => ne w.symm)]; exact np
  have st2 : Stp MNo h (upd H0 dx (.own p)) h (upd (upd H0 dx (.own p)) p (.ins C dx [])) := .newU st1.ex np1
  have st : Stp MNo h H0 h (upd (upd H0 dx (.own p)) p (.ins C dx [])) := st1.tr st2
  have S1 : Sat L (ws.map some) h (upd (upd H0 dx (.own p)) p (.ins C dx [])) := S.stepNo st
  have S2 : Sat (.vo (VObj p C dx []) :: L) ((V.ref p :: ws).map some) h (upd (upd H0 dx (.own p)) p (.ins C dx [])) := by
    refine ⟨by rw [List.map_cons, List.length_cons, List.length_cons, S1.len], fun i s ei => ?_, fun i j s u b e1 e2 f1 f2 => ?_, fun i s b ei f => ?_⟩
    · cases i with
      | zero => simp at ei; subst ei; exact ⟨by simp [VObj], [], upd_same, ⟨rfl, trivial⟩, by simp⟩
      | succ i => simpa using S1.ok i s (by simpa using ei)
    · cases i with
      | zero =>
        cases j with
        | zero => rfl
        | succ j =>
          simp at e1; subst e1
          obtain rfl : b = p := f1
          exact absurd rfl (nfp b ⟨j, u, by simpa using e2, f2⟩).1
      | succ i =>
        cases j with
        | zero =>
          simp at e2; subst e2
          obtain rfl : b = p := f2
          exact absurd rfl (nfp b ⟨i, s, by simpa using e1, f1⟩).1
        | succ j => rw [S1.apart i j s u b (by simpa using e1) (by simpa using e2) f1 f2]
    · cases i with
      | zero => simp at ei; subst ei; obtain rfl : b = p := f; exact e.free np
      | succ i => exact S1.out i s b (by simpa using ei) f
  have hl2 : (V.ref p :: ws).length = n + 1 := by rw [List.length_cons, hl]
  rw [← hl2] at z
  refine z _ h _ (start_sat S2 (by rw [hl2]; exact hN)) st.no fun b z => ?_
  obtain ⟨m, s, em, f⟩ := z
  by_cases y : m < (Slot.vo (VObj p C dx []) :: L).length
  · rw [List.getElem?_append_left y] at em
    cases m with
    | zero => simp at em; subst em; obtain rfl : b = p := f; exact .inr np
    | succ m => exact .inl ⟨m, s, by simpa using em, f⟩
  · rw [List.getElem?_append_right (by omega), List.getElem?_replicate] at em
    split at em
    · cases em; exact f.elim
    · cases em

/-- a property of the class at C -/
structure Prp (P : Program) (w : World) (K : PySem.W.Frag) (mg : Str → Option Value) (base : Heap) (k : Nat) (C : Addr) (f : Str) (sp : Sp) : Prop where
  ex : ∃ (p g : Addr) (fd : FuncData) (ps : List Str), Cls K C ∧ PropOf K C f p g ∧ FnOk P w K mg base CX0 k g fd ps sp ∧ Binds K fd ps []
theorem pe_pr {X : Cx} {k j : Nat} {sp : Sp} {e : Expr} {pos : Pos} (c : Prp X.prog X.w X.K X.mg X.base k C f sp) (hr : Room j X.A) (hk : k + 1 ≤ j) (he : PE X e ta) (hab : attributeBase e f X.env (eval e X.env) = eval e X.env) : PE X (.Attribute e f pos) (tProp C sp [] E0 ta) := by
  obtain ⟨p, g, fd, ps, hc, hp, F, b⟩ := c.ex
  exact pe_prop he hc hp F (hr.mono hk) b .nil pass0 hab
end
end
end QL

set_option Elab.async false
set_option linter.all false
set_option maxRecDepth 100000
namespace QL
open PySem L2

/-- a name of the module that nobody changes -/
def Gv (mg : Str → Option Value) (x : Str) (v : V) : Prop := ∃ u, mg x = some u ∧ RelV v u
theorem pe_gv {X : Cx} {x : Str} {v : V} {pos : Pos} (hg : Gl X x) (hm : Gv X.mg x v) (hd : (x == ("__debug__" : Str)) = false := by decide) : PE X (.Name x pos) (tC v) := by
  obtain ⟨u, hm, r⟩ := hm
  exact pe_glob hg hm r hd

/-! ### isinstance -/
def TyR {α : Type} (K : PySem.W.Frag) (R : Rel α) (n : String) (b : Bool) : Prop := ∀ a x h H, R.r a x h → Ex h H → ∃ t, TyX K H x (.type t) ∧ kitB t n = some b
section
variable {α γ : Type} {Γ : Ctx} {ta tb tc te : TE} {tr : TA} {R : Rel α} {RG : Rel γ} {K : PySem.W.Frag} {a : α}
theorem tyr_int : TyR K RI "int" true := fun a x h H r e => ⟨"int", by rw [show x = .int a from r]; exact ty_int, by decide +kernel⟩
theorem tyr_intB : TyR K RI "bool" false := fun a x h H r e => ⟨"int", by rw [show x = .int a from r]; exact ty_int, by decide +kernel⟩
theorem tyr_intS : TyR K RI "str" false := fun a x h H r e => ⟨"int", by rw [show x = .int a from r]; exact ty_int, by decide +kernel⟩
theorem tyr_blS : TyR K RB "str" false := fun a x h H r e => ⟨"bool", by rw [show x = .bl a from r]; exact ty_bl, by decide +kernel⟩
theorem tyr_nonS : TyR K RN "str" false := fun a x h H r e => ⟨"NoneType", by rw [show x = .non from r]; exact ty_non, by decide +kernel⟩
theorem tyr_str : TyR K RS "str" true := fun a x h H r e => ⟨"str", by rw [show x = .str a from r]; exact ty_str, by decide +kernel⟩
theorem tyr_dict : TyR K (RD R) "dict" true := fun a x h H r e => by
  obtain ⟨p, ks, rfl, hp, _⟩ := r
  exact ⟨"dict", ty_dK (e.rd hp), by decide +kernel⟩
theorem tyr_dictS : TyR K (RD R) "str" false := fun a x h H r e => by
  obtain ⟨p, ks, rfl, hp, _⟩ := r
  exact ⟨"dict", ty_dK (e.rd hp), by decide +kernel⟩
theorem tyr_list : TyR K (RL R) "list" true := fun a x h H r e => by
  obtain ⟨p, ks, rfl, hp, _⟩ := r
  exact ⟨"list", ty_lst (e.lst hp), by decide +kernel⟩
theorem tyr_listS : TyR K (RL R) "str" false := fun a x h H r e => by
  obtain ⟨p, ks, rfl, hp, _⟩ := r
  exact ⟨"list", ty_lst (e.lst hp), by decide +kernel⟩
theorem ev_isiD {n : String} {b : Bool} (h : Ev Γ ta R (fun x => x = a)) (k : TyR K R n b) : Ev Γ (tCB (rIsi K) (tCons ta (tCons (tC (.ty n)) tNil))) RB (fun x => x = b) :=
  ev_c2 h ev_ty (c_isi fun a x h H _ r e => by
    obtain ⟨t, ht, hk⟩ := k a x h H r e
    exact ⟨t, b, ht, hk, rfl⟩)
/-! ### chains, places, in -/
theorem ev_chLeLe {a b c : Int} (h1 : Ev Γ ta RI (fun x => x = a)) (h2 : Ev Γ tb RI (fun x => x = b)) (h3 : Ev Γ tc RI (fun x => x = c)) : Ev Γ (tChain kLe kLe ta tb tc) RB (fun z => z = (decide (a ≤ b) && decide (b ≤ c))) :=
  ev_chain (δ := Int) (P1 := fun z => z = decide (a ≤ b)) h1 h2 (o2_le fun _ _ e1 e2 => by rw [e1, e2]) (fun _ => h3) (fun e => o2_le fun _ _ e1 e2 => by rw [← e, e1, e2]; rfl) fun e => by rw [← e]; rfl
theorem ev_chLeLt {a b c : Int} (h1 : Ev Γ ta RI (fun x => x = a)) (h2 : Ev Γ tb RI (fun x => x = b)) (h3 : Ev Γ tc RI (fun x => x = c)) : Ev Γ (tChain kLe kLt ta tb tc) RB (fun z => z = (decide (a ≤ b) && decide (b < c))) :=
  ev_chain (δ := Int) (P1 := fun z => z = decide (a ≤ b)) h1 h2 (o2_le fun _ _ e1 e2 => by rw [e1, e2]) (fun _ => h3) (fun e => o2_lt fun _ _ e1 e2 => by rw [← e, e1, e2]; rfl) fun e => by rw [← e]; rfl
theorem ev_lenSD {s : Str} (h : Ev Γ ta RS (fun x => x = s)) (hz : s.length ≤ 100000) : Ev Γ (tCB rLenS (tCons ta tNil)) RI (fun x => x = (s.length : Int)) := ev_c1 h (c_lenS fun _ e => by rw [e]; exact ⟨Nat.le_trans hz (by decide), rfl⟩)
theorem ev_ixSD {z : Str} {i : Int} {j c : Nat} (h1 : Ev Γ ta RS (fun x => x = z)) (h2 : Ev Γ tb RI (fun x => x = i)) (hz : z.length ≤ 1000) (e1 : i = (j : Int)) (e2 : z.cps.toList[j]? = some c) : Ev Γ (tOp rIxS ta tb) RS (fun s => s = ⟨#[c]⟩) := by
  have hl : j < z.length := by have := (List.getElem?_eq_some_iff.mp e2).1; simpa [Str.length] using this
  refine (ev_ixS h1 h2 hz fun k ek => ⟨by omega, by omega⟩).imp fun s ⟨k, d, ek, ed, es⟩ => ?_
  subst ek
  subst e1
  rw [show ((j : Int)).toNat = j by omega, e2] at ed
  cases ed
  exact es
theorem inV_int {s : Int} : ∀ l : List Int, inV (.int s) (l.map V.int) = decide (s ∈ l)
  | [] => by simp [inV]
  | x :: l => by
    have ih := inV_int (s := s) l
    unfold inV at ih ⊢
    rw [List.map_cons, List.any_cons, ih]
    by_cases z : x = s
    · subst z; simp [eqV]
    · have z' : ¬ s = x := fun e => z e.symm
      simp [eqV, z, z']
theorem flat_ints : ∀ l : List Int, (l.map V.int).all flatV = true
  | [] => rfl
  | x :: l => by rw [List.map_cons, List.all_cons, flat_ints l]; rfl
theorem ev_notInTup {q : Int} {p : Addr} {l : List Int} (h1 : Ev Γ ta RI (fun x => x = q)) (kt : ∀ h, KT K h p (l.map V.int)) : Ev Γ (tOp (rIn K true) ta (tC (.ref p))) RB (fun b => b = !decide (q ∈ l)) := fun σ h H S e Q k =>
  h1 σ h H S e _ fun v a' h1' H1 p1 s1 S1 r1 => by
    cases r1
    subst p1
    refine ⟨p, l.map V.int, rfl, .inr ((kt h1').sq s1.ex), rfl, flat_ints l, ?_⟩
    show Q (.bl (if true = true then !inV _ _ else inV _ _)) H1
    rw [if_pos rfl, inV_int]
    exact k _ _ h1' H1 rfl s1 S1 rfl

/-! ### a dict at a slot, known or one's own -/
def DS (R : Rel α) (kvs : List (Str × α)) (s : Slot) : Prop := s = .va (RD R) kvs ∨ ∃ p, s = .vo (VD p R kvs)
theorem DS.ed {kvs : List (Str × α)} {s : Slot} {i : Nat} (d : DS R kvs s) (e : Γ[i]? = some s) : EvD Γ (tVar i) R (fun x => x = kvs) := by
  rcases d with rfl | ⟨p, rfl⟩
  · exact ed_known (ev_var e)
  · exact ed_own e
theorem DS.isi {kvs : List (Str × α)} {s : Slot} {i : Nat} (d : DS R kvs s) (e : Γ[i]? = some s) : Ev Γ (tCB (rIsi K) (tCons (tVar i) (tCons (tC (.ty "dict")) tNil))) RB (fun x => x = true) := by
  rcases d with rfl | ⟨p, rfl⟩
  · exact ev_isiD (ev_var e) tyr_dict
  · intro σ h H S x Q q
    obtain ⟨ev, ks, ep, _⟩ := S.ok i _ e
    exact ⟨_, ev, _, .ty "dict", .type "dict", .type "dict", true, rfl, .ty "dict", ty_dK (.inl ep), kit_ty (by decide +kernel), q _ true h H rfl (.refl x) S rfl⟩
theorem DS.ea {kvs : List (Str × α)} {s : Slot} {i : Nat} {L : List Slot} (d : DS R kvs s) (e : Γ[i]? = some s) (hr : EvA Γ tr (fun l => l = L)) : EvA Γ (tCons (tVar i) tr) (fun l => l = s :: L) := by
  rcases d with rfl | ⟨p, rfl⟩
  · exact ea_consD (ev_var e) hr
  · exact ea_voD e hr
theorem DS.voIn {kvs : List (Str × α)} {s : Slot} {i : Nat} (d : DS R kvs s) (e : Γ[i]? = some s) : VoIn Γ [s] [] := by
  rcases d with rfl | ⟨p, rfl⟩
  · exact trivial
  · exact ⟨i, by simp, e, trivial⟩
theorem DS.nv {kvs : List (Str × α)} {s : Slot} (d : DS R kvs s) {W : Vol} (e : Slot.vo W = s) : ∃ p, W = VD p R kvs := by
  rcases d with rfl | ⟨p, rfl⟩
  · cases e
  · cases e; exact ⟨p, rfl⟩
end
section
variable {α β γ : Type} {Γ : Ctx} {te : TE} {R : Rel α} {Rb : Rel β} {K : PySem.W.Frag}
/-- a list comprehension over the pairs of such a dict; s2: what stands at the slot then -/
theorem DS.lc {i : Nat} {s : Slot} {kvs : List (Str × α)} {g : TG} {vs js : List Nat} {f : Slot → Str × α → Ctx} {tt : TT} {PT : Str × α → Bool → Prop} {PY : Str × α → β → Prop} (d : DS R kvs s) (ei : Γ[i]? = some s) (ni : i ∉ vs)
    (hg : ∀ s, EvG (wipeC (Γ.set i s) vs) g js (RT2 K RS R) (f s)) (hj : ∀ j ∈ js, j ∈ vs) (hf : ∀ s a b, feet (f s a) b → feet (wipeC (Γ.set i s) vs) b)
    (hle : ∀ s a, Le (f s a) (wipeC (Γ.set i s) vs)) (nv : ∀ s, NoVol (Γ.set i s) vs) (hz : kvs.length ≤ 10000) (ht : ∀ s, ∀ x ∈ kvs, EvT (f s x) tt (PT x)) (he : ∀ s, ∀ x ∈ kvs, PT x true → Ev (f s x) te Rb (PY x)) :
    Ev Γ (tLkE (tLc (iItems (tVar i)) g tt te vs)) (RL Rb) (Pick PT PY kvs) := by
  rcases d with rfl | ⟨p, rfl⟩
  · have e : Γ.set i (.va (RD R) kvs) = Γ := set_self ei
    have hg := hg (.va (RD R) kvs)
    have hf := hf (.va (RD R) kvs)
    have hle := hle (.va (RD R) kvs)
    have nv := nv (.va (RD R) kvs)
    rw [e] at hg hf hle nv
    exact ev_lcItems (pv_var ei) hg hj hf hle nv hz (ht _) (he _)
  · exact ev_lcOwn ei ni hg hj hf hle nv hz ht he
end

/-! ### names -/
theorem sg_in {c : Nat} (h : isSg c = true) : SIGNS.cps.contains c = true := by
  have lt : c < 123 := by
    unfold isSg isLo at h
    simp at h
    omega
  have : ∀ c < 123, isSg c = true → SIGNS.cps.contains c = true := by decide +kernel
  exact this c lt h
theorem lo_in {c : Nat} (h : isLo c = true) : c ∈ LETTERS.cps.toList := by
  have lt : c < 123 := by
    unfold isLo at h
    simp at h
    omega
  have : ∀ c < 123, isLo c = true → c ∈ LETTERS.cps.toList := by decide +kernel
  exact this c lt h
theorem takeWhile_of_all {p : Nat → Bool} : ∀ {l : List Nat}, (∀ c ∈ l, p c = true) → l.takeWhile p = l
  | [], _ => rfl
  | c :: l, h => by rw [List.takeWhile_cons, if_pos (h c List.mem_cons_self), takeWhile_of_all fun d m => h d (List.mem_cons_of_mem _ m)]
theorem strip_name {s : Str} (n : ∀ c ∈ tl s, isSg c = true) : Txt.stripChars s SIGNS = ⟨#[]⟩ := by
  unfold Txt.stripChars
  rw [PyProof.Rows.stripBy_eq]
  have h1 : PySem.stripLo SIGNS.cps.contains true s = s.length := by
    unfold PySem.stripLo
    rw [if_pos rfl, takeWhile_of_all (p := SIGNS.cps.contains) (l := s.cps.toList) fun c m => sg_in (n c m)]
    simp [Str.length]
  rw [h1]
  show Str.mk _ = Str.mk _
  congr 1
  apply Array.ext'
  simp [Str.length]

theorem le_set2 {Γ : Ctx} {i j : Nat} {s t : Slot} (e1 : Γ[i]? = some .no) (e2 : Γ[j]? = some .no) : Le ((Γ.set i s).set j t) Γ := ⟨by rw [List.length_set, List.length_set], fun k u e => by
  by_cases z1 : i = k
  · subst z1; rw [e1] at e; cases e; exact .inl rfl
  by_cases z2 : j = k
  · subst z2; rw [e2] at e; cases e; exact .inl rfl
  right
  rw [List.getElem?_set_ne z2, List.getElem?_set_ne z1]; exact e⟩

/-! ### a def that ends without a return -/
def NxOk (F : Fr) (L : List Slot) (P : Unit → Prop) (nx : L2.St → Hp → Prop) : Prop := ∀ σ h H, P () → Stp F.M F.h F.H h H → (∀ W, Slot.vo W ∈ L → W.r h H) → nx σ H
theorem at_end {F : Fr} {Γ : Ctx} {L : List Slot} {P : Unit → Prop} {nx : L2.St → Hp → Prop} (o : NxOk F L P nx) (hl : Has Γ L) (p : P ()) : At F Γ nx := fun σ h H S s f => o σ h H p s (S.vols hl)
theorem NxOk.up {F F' : Fr} {L : List Slot} {P : Unit → Prop} {nx : L2.St → Hp → Prop} (k : NxOk F L P nx) (l : F.le F') : NxOk F' L P nx := fun σ h H p s w => k σ h H p (l.step s) w
theorem body_ofN {Pre : List Slot → (Unit → Prop) → Prop} {N : List Str} {vs : List V} {H : Hp} {Q : VK} {E : XK} {t : TS} (n : Nat) (hsp : FSp RN Pre vs H Q E) (hn : ∀ L P, Pre L P → L.length = n) (hN : n ≤ N.length)
    (hb : ∀ (L : List Slot) (P : Unit → Prop), Pre L P → ∀ (F : Fr) (D : Ends), NxOk F L P D.nx → RtOk F L RN P D.rt → At F (L ++ List.replicate (N.length - n) .no) (t D)) : t { nx := fun _ H' => Q .non H', rt := Q } (L2.start N vs) H := by
  obtain ⟨L, P, h, pre, S, e, k⟩ := hsp
  have hl : vs.length = n := by have := S.len; rw [List.length_map] at this; rw [this, hn L P pre]
  have z := hb L P pre ⟨h, H, feet L⟩ { nx := fun _ H' => Q .non H', rt := Q } (fun σ h' H' p s w => k .non () h' H' p s w rfl) (fun v a h' H' p s w r => k v a h' H' p s w r)
  rw [← hl] at z
  refine z _ h H (start_sat S (by rw [hl]; exact hN)) (.refl e) fun b z => ?_
  obtain ⟨m, s, em, f⟩ := z
  left
  by_cases y : m < L.length
  · rw [List.getElem?_append_left y] at em; exact ⟨m, s, em, f⟩
  · rw [List.getElem?_append_right (by omega), List.getElem?_replicate] at em
    split at em
    · cases em; exact f.elim
    · cases em
end QL

set_option Elab.async false
set_option linter.all false
set_option maxRecDepth 100000
namespace QL
open PySem L2

/-! ### texts in order -/
def leT (a b : Str) : Prop := a.cps.toList ≤ b.cps.toList
theorem leT.trans {a b c : Str} (h : leT a b) (k : leT b c) : leT a c := List.le_trans h k
theorem leT.anti {a b : Str} (h : leT a b) (k : leT b a) : a = b := tl_ext (List.le_antisymm h k)
theorem leT.total (a b : Str) : leT a b ∨ leT b a := List.le_total a.cps.toList b.cps.toList
theorem leT.refl (a : Str) : leT a a := (leT.total a a).elim id id
def srt (l : List Str) : List Str := l.mergeSort fun a b => decide (a.cps.toList ≤ b.cps.toList)
theorem srt_perm (l : List Str) : (srt l).Perm l := List.mergeSort_perm l _
theorem srt_pw (l : List Str) : (srt l).Pairwise leT := by
  have h := List.pairwise_mergeSort (le := fun a b : Str => decide (a.cps.toList ≤ b.cps.toList)) (fun a b c h k => decide_eq_true (List.le_trans (of_decide_eq_true h) (of_decide_eq_true k))) (fun a b => by
    rcases leT.total a b with h | h
    · rw [decide_eq_true (show a.cps.toList ≤ b.cps.toList from h)]; rfl
    · rw [decide_eq_true (show b.cps.toList ≤ a.cps.toList from h), Bool.or_true]) l
  exact h.imp fun h => of_decide_eq_true h
theorem srt_uniq {ys l : List Str} (p : ys.Perm l) (s : ys.Pairwise leT) : ys = srt l := List.Perm.eq_of_pairwise (le := leT) (fun a b _ _ h k => leT.anti h k) s (srt_pw l) (p.trans (srt_perm l).symm)
theorem pw_of_sortedS : ∀ {ys : List Str}, PyProof.Rows.sortedS ys = true → ys.Pairwise leT
  | [], _ => .nil
  | x :: r, h => by
    have aux : ∀ (r : List Str) (p : Str), PyProof.Rows.risingS p r = true → (p :: r).Pairwise leT := by
      intro r
      induction r with
      | nil => intro p _; exact List.pairwise_cons.mpr ⟨fun _ m => by simp at m, .nil⟩
      | cons x r ih =>
        intro p h
        have h' : (!Spec.ltCps x.cps.toList p.cps.toList && PyProof.Rows.risingS x r) = true := h
        rw [Bool.and_eq_true, PyProof.Rows.ltCps_eq] at h'
        obtain ⟨h1, h2⟩ := h'
        have le : leT p x := List.not_lt.mp (by simpa using h1)
        have pw := ih x h2
        refine List.pairwise_cons.mpr ⟨fun y m => ?_, pw⟩
        rcases List.mem_cons.mp m with rfl | m
        · exact le
        · exact le.trans ((List.pairwise_cons.mp pw).1 y m)
    exact aux r x h
theorem srt_of {ys l : List Str} (p : ys.Perm l) (h : PyProof.Rows.sortedS ys = true) : ys = srt l := srt_uniq p (pw_of_sortedS h)
theorem srt_congr {l m : List Str} (p : l.Perm m) : srt l = srt m := srt_uniq ((srt_perm l).trans p) (srt_pw l)
theorem srt_filter (f : Str → Bool) (l : List Str) : srt (l.filter f) = (srt l).filter f := (srt_uniq ((srt_perm l).filter f) ((srt_pw l).filter f)).symm
theorem srt_self {l : List Str} (s : l.Pairwise leT) : srt l = l := (srt_uniq (.refl l) s).symm
theorem srt_mem {l : List Str} {k : Str} : k ∈ srt l ↔ k ∈ l := (srt_perm l).mem_iff
theorem srt_len (l : List Str) : (srt l).length = l.length := (srt_perm l).length_eq
theorem srt_nodup {l : List Str} (h : l.Nodup) : (srt l).Nodup := (srt_perm l).nodup_iff.mpr h

/-! ### dicts as functions -/
section
variable {α : Type}
def keys (kvs : List (Str × α)) : List Str := kvs.map (·.1)
theorem keys_len (l : List (Str × α)) : (keys l).length = l.length := by unfold keys; rw [List.length_map]
theorem getS_cons {x : Str × α} {l : List (Str × α)} {k : Str} : getS (x :: l) k = if x.1 = k then some x.2 else getS l k := by
  unfold getS
  rw [List.find?_cons]
  by_cases z : x.1 = k
  · rw [decide_eq_true z, if_pos z]; rfl
  · rw [decide_eq_false z, if_neg z]
theorem getS_none {l : List (Str × α)} {k : Str} (h : k ∉ keys l) : getS l k = none := by
  induction l with
  | nil => rfl
  | cons x l ih =>
    unfold keys at h ih
    rw [List.map_cons, List.mem_cons, not_or] at h
    rw [getS_cons, if_neg (fun e => h.1 e.symm)]
    exact ih h.2
theorem getS_mem {l : List (Str × α)} (n : (keys l).Nodup) {k : Str} {v : α} (h : (k, v) ∈ l) : getS l k = some v := by
  induction l with
  | nil => simp at h
  | cons x l ih =>
    unfold keys at n ih
    rw [List.map_cons, List.nodup_cons] at n
    rw [getS_cons]
    rcases List.mem_cons.mp h with e | later
    · subst e; rw [if_pos rfl]
    · rw [if_neg (fun e => n.1 (by rw [e]; exact List.mem_map_of_mem later))]
      exact ih n.2 later
theorem mem_of_getS {l : List (Str × α)} {k : Str} {v : α} (h : getS l k = some v) : (k, v) ∈ l := by
  induction l with
  | nil => simp [getS] at h
  | cons x l ih =>
    rw [getS_cons] at h
    by_cases z : x.1 = k
    · rw [if_pos z] at h; cases h; subst z; exact List.mem_cons_self
    · rw [if_neg z] at h; exact List.mem_cons_of_mem _ (ih h)
theorem hasS_iff {l : List (Str × α)} {k : Str} : hasS l k = true ↔ k ∈ keys l := by
  unfold hasS keys
  rw [List.any_eq_true, List.mem_map]
  constructor
  · rintro ⟨x, m, e⟩; exact ⟨x, m, of_decide_eq_true e⟩
  · rintro ⟨x, m, e⟩; exact ⟨x, m, decide_eq_true e⟩
theorem keys_put {l : List (Str × α)} {k : Str} {v : α} : keys (putS l k v) = if k ∈ keys l then keys l else keys l ++ [k] := by
  unfold putS
  by_cases h : hasS l k = true
  · rw [if_pos h, if_pos (hasS_iff.mp h)]
    unfold keys
    rw [List.map_map]
    apply List.map_congr_left
    intro x _
    show (if x.1 = k then (x.1, v) else x).1 = x.1
    split <;> rfl
  · rw [if_neg h, if_neg (fun m => h (hasS_iff.mpr m))]
    unfold keys
    rw [List.map_append]; rfl
theorem nodup_put {l : List (Str × α)} {k : Str} {v : α} (n : (keys l).Nodup) : (keys (putS l k v)).Nodup := by
  rw [keys_put]
  split
  · exact n
  · rename_i h
    exact List.nodup_append.mpr ⟨n, by simp, fun a ma b mb e => by simp at mb; subst mb; subst e; exact h ma⟩
theorem getS_map_ne {k j : Str} {v : α} (y : ¬ j = k) : ∀ {l : List (Str × α)}, getS (l.map fun kv => if kv.1 = k then (kv.1, v) else kv) j = getS l j
  | [] => rfl
  | x :: l => by
    rw [List.map_cons, getS_cons, getS_cons, getS_map_ne y]
    by_cases z : x.1 = k
    · rw [if_pos z]
      have e : ¬ x.1 = j := fun e => y (e.symm.trans z)
      rw [if_neg e, if_neg e]
    · rw [if_neg z]
theorem getS_map_at {k : Str} {v : α} : ∀ {l : List (Str × α)}, k ∈ keys l → getS (l.map fun kv => if kv.1 = k then (kv.1, v) else kv) k = some v
  | [], h => by simp [keys] at h
  | x :: l, h => by
    rw [List.map_cons, getS_cons]
    by_cases z : x.1 = k
    · rw [if_pos z, if_pos z]
    · rw [if_neg z, if_neg z]
      rcases List.mem_cons.mp (show k ∈ x.1 :: keys l from h) with e | m
      · exact absurd e.symm z
      · exact getS_map_at m
theorem getS_put {l : List (Str × α)} {k j : Str} {v : α} : getS (putS l k v) j = if j = k then some v else getS l j := by
  unfold putS
  by_cases h : hasS l k = true
  · rw [if_pos h]
    have hk := hasS_iff.mp h
    by_cases y : j = k
    · rw [if_pos y, y]; exact getS_map_at hk
    · rw [if_neg y]; exact getS_map_ne y
  · rw [if_neg h]
    have hk : k ∉ keys l := fun m => h (hasS_iff.mpr m)
    clear h
    induction l with
    | nil =>
      rw [List.nil_append, getS_cons]
      by_cases y : j = k
      · subst y; simp
      · rw [if_neg y, if_neg (fun e => y e.symm)]
    | cons x l ih =>
      rw [List.cons_append, getS_cons, getS_cons]
      have hk' : k ≠ x.1 ∧ k ∉ keys l := by
        have : k ∉ x.1 :: keys l := hk
        rw [List.mem_cons, not_or] at this
        exact this
      rw [ih hk'.2]
      by_cases y : x.1 = j
      · rw [if_pos y, if_pos y, if_neg (fun e => hk'.1 (by rw [y, e]))]
      · rw [if_neg y, if_neg y]

theorem getS_some {l : List (Str × α)} {k : Str} (h : k ∈ keys l) : ∃ v, getS l k = some v := by
  cases e : getS l k with
  | some v => exact ⟨v, rfl⟩
  | none =>
    have := getS_has (kvs := l) (k := k)
    rw [e, hasS_iff.mpr h] at this
    cases this
theorem getS_keys {l : List (Str × α)} {k : Str} {v : α} (h : getS l k = some v) : k ∈ keys l := List.mem_map_of_mem (f := (·.1)) (mem_of_getS h)
/-- pairs put one behind another: the last one counts -/
theorem puts_nodup (l : List (Str × α)) : (keys (puts l)).Nodup := by
  have : ∀ (l acc : List (Str × α)), (keys acc).Nodup → (keys (l.foldl (fun acc p => putS acc p.1 p.2) acc)).Nodup := by
    intro l
    induction l with
    | nil => intro acc h; exact h
    | cons p l ih => intro acc h; exact ih _ (nodup_put h)
  exact this l [] List.nodup_nil
theorem puts_self {l : List (Str × α)} (n : (keys l).Nodup) : puts l = l := by
  have : ∀ (l acc : List (Str × α)), (keys (acc ++ l)).Nodup → l.foldl (fun acc p => putS acc p.1 p.2) acc = acc ++ l := by
    intro l
    induction l with
    | nil => intro acc _; rw [List.append_nil]; rfl
    | cons p l ih =>
      intro acc h
      have hp : p.1 ∉ keys acc := by
        unfold keys at h ⊢
        rw [List.map_append, List.map_cons, List.nodup_append] at h
        exact fun m => h.2.2 _ m _ List.mem_cons_self rfl
      have e : putS acc p.1 p.2 = acc ++ [p] := by
        unfold putS
        rw [if_neg (fun z => hp (hasS_iff.mp z))]
      rw [List.foldl_cons, e, ih (acc ++ [p]) (by rw [List.append_assoc]; exact h), List.append_assoc]; rfl
  exact this l [] n
end

/-! ### dicts of numbers -/
def val (kvs : List (Str × Int)) (k : Str) : Int := (getS kvs k).getD 0
theorem val_put {l : List (Str × Int)} {k j : Str} {v : Int} : val (putS l k v) j = if j = k then v else val l j := by
  unfold val
  rw [getS_put]
  split <;> rfl
theorem val_nil (k : Str) : val [] k = 0 := rfl
theorem val_mem {l : List (Str × Int)} (n : (keys l).Nodup) {x : Str × Int} (h : x ∈ l) : val l x.1 = x.2 := by
  unfold val
  rw [getS_mem n (k := x.1) (v := x.2) h]; rfl
theorem val_not {l : List (Str × Int)} {k : Str} (h : k ∉ keys l) : val l k = 0 := by
  unfold val
  rw [getS_none h]; rfl
/-- the pairs, sorted -/
def sIt (kvs : List (Str × Int)) : List (Str × Int) := (srt (keys kvs)).map fun k => (k, val kvs k)
/-- .. without those of 0 -/
def nrm (kvs : List (Str × Int)) : List (Str × Int) := ((srt (keys kvs)).filter fun k => decide (val kvs k ≠ 0)).map fun k => (k, val kvs k)
theorem keys_sIt (l : List (Str × Int)) : keys (sIt l) = srt (keys l) := by
  unfold keys sIt
  rw [List.map_map]
  exact List.map_id'' (fun _ => rfl) _
theorem keys_nrm (l : List (Str × Int)) : keys (nrm l) = (srt (keys l)).filter fun k => decide (val l k ≠ 0) := by
  unfold keys nrm
  rw [List.map_map]
  exact List.map_id'' (fun _ => rfl) _
theorem nrm_nodup {l : List (Str × Int)} (n : (keys l).Nodup) : (keys (nrm l)).Nodup := by
  rw [keys_nrm]; exact (srt_nodup n).filter _
theorem nrm_pw (l : List (Str × Int)) : (keys (nrm l)).Pairwise leT := by
  rw [keys_nrm]; exact (srt_pw _).filter _
theorem nrm_len (l : List (Str × Int)) : (nrm l).length ≤ l.length := by
  unfold nrm
  rw [List.length_map]
  refine Nat.le_trans (List.length_filter_le _ _) ?_
  rw [srt_len]
  unfold keys
  rw [List.length_map]
  exact Nat.le_refl _
theorem nrm_nz {l : List (Str × Int)} : ∀ x ∈ nrm l, x.2 ≠ 0 ∧ x.1 ∈ keys l ∧ x.2 = val l x.1 := fun x m => by
  obtain ⟨k, mk, rfl⟩ := List.mem_map.mp m
  obtain ⟨h1, h2⟩ := List.mem_filter.mp mk
  exact ⟨of_decide_eq_true h2, srt_mem.mp h1, rfl⟩
theorem nrm_val {l : List (Str × Int)} (n : (keys l).Nodup) (k : Str) : val (nrm l) k = val l k := by
  by_cases h : k ∈ keys (nrm l)
  · obtain ⟨x, m, rfl⟩ := List.mem_map.mp h
    rw [val_mem (nrm_nodup n) m]
    exact (nrm_nz x m).2.2
  · rw [val_not h]
    rw [keys_nrm, List.mem_filter] at h
    by_cases z : val l k = 0
    · exact z.symm
    · have hk : k ∉ keys l := fun m => h ⟨srt_mem.mpr m, decide_eq_true z⟩
      exact (val_not hk).symm
theorem nrm_ext {a b : List (Str × Int)} (n1 : (keys a).Nodup) (n2 : (keys b).Nodup) (h : ∀ k, val a k = val b k) : nrm a = nrm b := by
  have e : keys (nrm a) = keys (nrm b) := by
    refine List.Perm.eq_of_pairwise (le := leT) (fun _ _ _ _ h k => leT.anti h k) (nrm_pw a) (nrm_pw b) ?_
    refine (List.perm_ext_iff_of_nodup (nrm_nodup n1) (nrm_nodup n2)).mpr fun k => ?_
    rw [keys_nrm, keys_nrm, List.mem_filter, List.mem_filter, srt_mem, srt_mem, h k]
    constructor
    · rintro ⟨_, h2⟩
      refine ⟨?_, h2⟩
      refine Classical.byContradiction fun z => of_decide_eq_true h2 (val_not z)
    · rintro ⟨_, h2⟩
      refine ⟨?_, h2⟩
      refine Classical.byContradiction fun z => of_decide_eq_true h2 ?_
      rw [← h k]; exact val_not z
  have aux : ∀ l : List (Str × Int), nrm l = (keys (nrm l)).map fun k => (k, val l k) := fun l => by rw [keys_nrm]; rfl
  rw [aux a, aux b, e]
  exact List.map_congr_left fun k _ => by rw [h k]
theorem sIt_nrm {l : List (Str × Int)} (n : (keys l).Nodup) (h : ∀ x ∈ l, x.2 ≠ 0) : sIt l = nrm l := by
  unfold sIt nrm
  congr 1
  refine (List.filter_eq_self.mpr fun k m => decide_eq_true ?_).symm
  obtain ⟨x, mx, rfl⟩ := List.mem_map.mp (srt_mem.mp m)
  rw [val_mem n mx]
  exact h x mx
theorem map_val {l : List (Str × Int)} (n : (keys l).Nodup) : (keys l).map (fun k => (k, val l k)) = l := by
  unfold keys
  rw [List.map_map]
  refine (List.map_congr_left fun x m => ?_).trans (List.map_id l)
  show (x.1, val l x.1) = x
  rw [val_mem n m]
theorem sIt_perm {l : List (Str × Int)} (n : (keys l).Nodup) : (sIt l).Perm l := by
  have h := (srt_perm (keys l)).map fun k => (k, val l k)
  rw [map_val n] at h
  exact h
theorem sIt_self {l : List (Str × Int)} (n : (keys l).Nodup) (s : (keys l).Pairwise leT) : sIt l = l := by
  unfold sIt
  rw [srt_self s, map_val n]
theorem nrm_self {l : List (Str × Int)} (n : (keys l).Nodup) (s : (keys l).Pairwise leT) (h : ∀ x ∈ l, x.2 ≠ 0) : nrm l = l := by rw [← sIt_nrm n h, sIt_self n s]
end QL

set_option Elab.async false
set_option linter.all false
set_option maxRecDepth 100000
namespace QL
open PySem L2 PySem.W PySem.Calls PyProof.Rows PyProof.V PySem.Spec

/-! ### sorted(d.items()), the keys texts, the values numbers -/
def ent (e : Str × Int) : Key × V := (Sum.inr e.1, V.int e.2)
/-- e.items() of a dict -/
def tItemsV (td : TE) : TE := fun σ H Q => td σ H fun x H1 => ∃ a kvs, x = .ref a ∧ Rd H1 a (.dK kvs) ∧ ∀ p, H1 p = none → Q (.ref p) (upd H1 p (L2.DX.itemsO p a))
section
variable {X : Cx} {e : Expr} {td : TE} {apos cpos : Pos}
theorem pe_itemsV (he : PE X e td) (base : attributeBase e "items" X.env (eval e X.env) = eval e X.env := by rfl) (line : (apos.endLine == cpos.line) = true := by rfl) : PE X (.Call (.Attribute e "items" apos) [] [] cpos) (tItemsV td) := ⟨fun pins s σ H Q I want => by
  refine wpAny_Call_method (T := "dict") (id := "dict.items") base rfl line F.plainAttrs_dict F.slot_dict_items F.type_dict_items (thn (he.run pins s σ H _ I want) fun u t got => ?_)
  obtain ⟨_, G, J, rel, d, kvs, rfl, rd, fin⟩ := got
  cases rel
  obtain ⟨_, lib, vs, _, dict⟩ := dk_rd J.hok rd
  refine ⟨dict.typeIs, dict.mapOf.noDict, ?_⟩
  show wpAny _ _ (callWith cpos (.builtin "dict.items") [.ref d] [] []) _ _ t
  refine method_meetsIn F.slot_dict_items F.entry_dict_items rfl (PySem.evalArgs_none ⟨rfl, dict.typeIs, F.args_dict_items_1 _, _, meets_dict_items (mixKind X.prog X.w) d lib, ⟨vs, dict⟩, ?_⟩)
  exact ⟨.ref t.heap.objs.size, upd G t.heap.objs.size (L2.DX.itemsO t.heap.objs.size d), J.laid (t' := t.toks) (fun _ _ q => Heap.get?_push_of_some _ q) (Nat.le_refl _) (L2.DX.itemsO_ok (Heap.get?_push_size _ rfl)), rfl, fin _ (J.hok.fresh (Nat.le_refl _))⟩⟩
end

/-- the text of a pair, read off the heap -/
def keyTx (h : Heap) (v : Value) : Str := DT.txOf (DT.seqAt0 h (DT.refOf (some v)))
def PairI (h : Heap) (v : Value) (e : Str × Int) : Prop := ∃ (a : Addr) (t u : Tok), v = .ref a ∧ IsTup h a #[.str e.1 t, .int e.2 u]
theorem PairI.tx {h : Heap} {v : Value} {e : Str × Int} (x : PairI h v e) : keyTx h v = e.1 := by
  obtain ⟨a, t, u, rfl, at_⟩ := x
  show DT.txOf (DT.seqAt0 h a) = e.1
  rw [DT.seqAt0_of at_]
  rfl
/-- the pairs' first items are texts -/
theorem firsts_pairs {h : Heap} (l : List Value) : (∀ v ∈ l, ∃ e, PairI h v e) → ∃ fs : List Value, KatTups h l fs ∧ fs.length = l.length ∧ ∀ f ∈ fs, ∃ x t, f = Value.str x t := by
  induction l with
  | nil => exact fun _ => ⟨[], KatTups.nil, rfl, fun f m => nomatch m⟩
  | cons v l ih =>
    intro k
    obtain ⟨fs, h1, h2, h3⟩ := ih fun u m => k u (List.mem_cons_of_mem _ m)
    obtain ⟨e, a, t, u, rfl, o, q1, q2, n, q3⟩ := k v List.mem_cons_self
    refine ⟨.str e.1 t :: fs, KatTups.cons q1 q2 q3 rfl h1, congrArg (· + 1) h2, fun f m => ?_⟩
    cases m with
    | head => exact ⟨_, _, rfl⟩
    | tail _ m => exact h3 f m
section
variable {pg : Program} {w : World} {B : Around} {E : Value → Shared → Prop} {st : Shared}
/-- two pairs are told apart by their texts -/
theorem pairs_lt {ρ : Str → Int} {ks : List (Str × Int)} (once : (keys ks).Nodup) (rank : ∀ e ∈ ks, ∀ f ∈ ks, decide (e.1.cps.toList < f.1.cps.toList) = decide (ρ e.1 < ρ f.1)) {v v' : Value} {e f : Str × Int} (me : e ∈ ks) (mf : f ∈ ks) (pe : PairI st.heap v e) (pf : PairI st.heap v' f)
    {Qb : Bool → Shared → Prop} (q : Qb (decide (ρ e.1 < ρ f.1)) st) : wpAny (model pg w) B (keyLt' (tuples' true) v v') Qb E st := by
  rw [← rank e me f mf] at q
  obtain ⟨a, t, u, rfl, o, a1, a2, n, a3⟩ := pe
  obtain ⟨b, t', u', rfl, o', b1, b2, n', b3⟩ := pf
  refine kat_lt a1 a3 b1 b3 (kat_cons (wpAny_eqBool_str ?_) : KatLex pg w B _ false Qb [(Value.str e.1 t, Value.str f.1 t'), (Value.int e.2 u, Value.int f.2 u')] 0 st)
  by_cases same : e.1 = f.1
  · have g := getS_mem once (k := e.1) (v := e.2) me
    rw [same, getS_mem once (k := f.1) (v := f.2) mf] at g
    obtain rfl : e = f := Prod.ext same (Option.some.inj g).symm
    rw [decide_eq_false (List.lt_irrefl e.1.cps.toList)] at q
    exact kat_go (fun _ => kat_yes (kat_cons (wpAny_eqBool_int (kat_go (fun _ => kat_yes (kat_nil q)) fun no => by simp at no)))) fun no => absurd rfl (of_decide_eq_false no)
  · exact kat_go (fun yes => absurd (of_decide_eq_true yes) same) fun _ => kat_no (oneLt_any_str q)
theorem kind_pairs {l : List Value} {ρ : Str → Int} {ks : List (Str × Int)} (two : 2 ≤ l.length) (is : ∀ v ∈ l, ∃ e ∈ ks, PairI st.heap v e) (once : (keys ks).Nodup) (rank : ∀ e ∈ ks, ∀ f ∈ ks, decide (e.1.cps.toList < f.1.cps.toList) = decide (ρ e.1 < ρ f.1))
    (Qk : SortKind → Shared → Prop) (k : ∀ κ, TS.Cmp pg w B st κ (pairsOf l) (fun v => ρ (keyTx st.heap v)) → Qk κ st) : wpAny (model pg w) B (keyKind' l.toArray) Qk E st := by
  obtain ⟨fs, h1, h2, h3⟩ := firsts_pairs l fun v m => (is v m).imp fun _ z => z.2
  refine kat_kind (T := .type "str") h1 (by omega) (fun f m => ?_) rfl (k _ fun p p' m m' Qb _ q => ?_)
  · obtain ⟨_, _, rfl⟩ := h3 f m
    exact Looks.of_pure rfl
  · rw [pairsOf_toList] at m m'
    obtain ⟨e, me, pe⟩ := is _ (mem_zip_self m).2
    obtain ⟨f, mf, pf⟩ := is _ (mem_zip_self m').2
    have q : Qb (decide (ρ (keyTx st.heap p.1) < ρ (keyTx st.heap p'.1))) st := q
    rw [pe.tx, pf.tx] at q
    exact pairs_lt once rank me mf pe pf q
end
def rSrtI : List V → Hp → VK → Prop := fun vs H Q => ∃ (p a : Addr) (ks : List (Str × Int)) (ρ : Str → Int), vs = [.ref p] ∧ H p = some (L2.DX.itemsO p a) ∧ Rd H a (.dK (ks.map ent)) ∧ ks.length < 64 ∧ (keys ks).Nodup ∧
  (∀ e ∈ ks, ∀ f ∈ ks, decide (e.1.cps.toList < f.1.cps.toList) = decide (ρ e.1 < ρ f.1)) ∧
  ∀ (H' : Hp) (l : Addr) (ps : List (Addr × Str × Int)), (∀ b o, H b = some o → H' b = some o) →  H l = none → (∀ z ∈ ps, H z.1 = none) → (ps.map (·.2)).Perm ks → (ps.map (·.2)).Pairwise (fun e f => ρ e.1 ≤ ρ f.1) →
    H' l = some (.lst (ps.map fun z => V.ref z.1)) → (∀ z ∈ ps, H' z.1 = some (.tup [.str z.2.1, .int z.2.2])) → Q (.ref l) H'

theorem pairs_get {es : Array DictEntry} {X : Cx} {vs : List (Key × Value)} (pr : Pairs (mixKind X.prog X.w) es.toList vs) {ks : List (Str × Int)} (kv : KV (ks.map ent) vs) {j : Nat} {en : DictEntry} (he : es[j]? = some en) :
    ∃ (e : Str × Int) (t u : Tok), ks[j]? = some e ∧ en.key = .str e.1 t ∧ en.val = .int e.2 u := by
  have he' : es.toList[j]? = some en := by rw [Array.getElem?_toList]; exact he
  have l1 : (ks.map ent).length = vs.length := Paired.length kv
  rw [List.length_map] at l1
  have lj : j < vs.length := by rw [← pr.length]; exact (List.getElem?_eq_some_iff.mp he').1
  have hk : ks[j]? = some ks[j] := List.getElem?_eq_getElem (by omega)
  obtain ⟨q, g1, g2, g3⟩ := LiI.paired_get kv (i := j) (x := ent ks[j]) (by rw [List.getElem?_map, hk]; rfl)
  obtain ⟨k1, k2⟩ := pr.get? he' (show vs[j]? = some (q.1, q.2) from g1)
  rw [← g2] at k1
  obtain ⟨t, ht⟩ := relV_key (show keyIs (Sum.inr ks[j].1) en.key = true from k1)
  obtain ⟨u, hu⟩ := g3
  exact ⟨ks[j], t, u, hk, ht, k2.trans hu⟩
/-- where the pairs stand -/
structure Laid (g : Heap) (ts : List Addr) (ks : List (Str × Int)) : Prop where
  many : ts.length = ks.length
  once : ts.Nodup
  pair : ∀ (n : Nat) (b : Addr), ts[n]? = some b → ∃ (e : Str × Int) (t u : Tok), ks[n]? = some e ∧ g.get? b = some { cls := .type "tuple", data := .seq #[Value.str e.1 t, Value.int e.2 u] }
theorem Laid.up {g g' : Heap} {ts : List Addr} {ks : List (Str × Int)} (l : Laid g ts ks) (k : ∀ b o, g.get? b = some o → g'.get? b = some o) : Laid g' ts ks :=
  ⟨l.many, l.once, fun n b x => let ⟨e, t, u, y, z⟩ := l.pair n b x; ⟨e, t, u, y, k _ _ z⟩⟩
theorem Laid.tx {g : Heap} {ts : List Addr} {ks : List (Str × Int)} (l : Laid g ts ks) {n : Nat} {b : Addr} {e : Str × Int} (hb : ts[n]? = some b) (he : ks[n]? = some e) : PairI g (.ref b) e := by
  obtain ⟨f, t, u, hf, z⟩ := l.pair n b hb
  rw [he] at hf
  cases hf
  exact ⟨b, t, u, rfl, _, z, rfl, 0, rfl⟩
theorem Laid.is {g : Heap} {ts : List Addr} {ks : List (Str × Int)} (l : Laid g ts ks) : ∀ v ∈ ts.map Value.ref, ∃ e ∈ ks, PairI g v e := fun v mv => by
  obtain ⟨b, mb, rfl⟩ := List.mem_map.mp mv
  obtain ⟨n, hn⟩ := List.mem_iff_getElem?.mp mb
  obtain ⟨e, _, _, he, _⟩ := l.pair n b hn
  exact ⟨e, List.mem_of_getElem? he, l.tx hn he⟩
section
variable {X : Cx}
/-- what the object holds behind the sort -/
theorem srt_done {pins : List (Addr × Obj)} {σ : L2.St} {H : Hp} {s : Shared} {G : Heap} {tk : Nat} {L : Addr} {ts : List Addr} {ks : List (Str × Int)} {out : Array Value} {no : Nat} {zs : List (Addr × Str × Int)} (I : Inv X pins σ H s)
    (old : ∀ b o, s.heap.get? b = some o → G.get? b = some o) (hL : s.heap.objs.size ≤ L) (at_ : G.get? L = some { cls := .type "list", data := .seq out no }) (la : Laid G ts ks) (lo : ∀ b ∈ ts, s.heap.objs.size ≤ b ∧ b ≠ L) (pz : zs.Perm (ts.zip ks)) (eo : out.toList = zs.map fun z => Value.ref z.1) (few : ks.length < 64) :
    ∃ H', Inv X pins σ H' { s with heap := G, toks := tk } ∧ (∀ b o, H b = some o → H' b = some o) ∧ H L = none ∧ (∀ z ∈ zs, H z.1 = none) ∧ H' L = some (.lst (zs.map fun z => V.ref z.1)) ∧ ∀ z ∈ zs, H' z.1 = some (.tup [.str z.2.1, .int z.2.2]) := by
  have free : H L = none := I.hok.fresh hL
  have place : ∀ z ∈ zs, ∃ n : Nat, ts[n]? = some z.1 ∧ ks[n]? = some z.2 := fun z mz => by
    obtain ⟨n, hn⟩ := List.mem_iff_getElem?.mp (pz.mem_iff.mp mz)
    exact ⟨n, List.getElem?_zip_eq_some.mp hn⟩
  have nz : zs.length = ks.length := by rw [pz.length_eq, List.length_zip, la.many, Nat.min_self]
  have J0 : Inv X pins σ H { s with heap := G, toks := tk } := I.kept (t' := tk) old
  have vals : Vals (zs.map fun z => V.ref z.1) out.toList := by rw [eo]; exact vals_maps (fun z : Addr × Str × Int => V.ref z.1) (fun z => Value.ref z.1) zs (fun _ _ => rfl)
  have J1 : Inv X pins σ (upd H L (.lst (zs.map fun z => V.ref z.1))) { s with heap := G, toks := tk } :=
    J0.take (t' := tk) (fun _ _ _ e => e) (I.fpOk hL free) ⟨by rw [List.length_map, nz, sizeLine_eq]; omega, out.toList, no, vals, by rw [Array.toArray_toList]; exact at_⟩
  obtain ⟨H', J2, up, got⟩ := L2.DX.takeT (P := fun b vs => ∃ (n : Nat) (e : Str × Int), ts[n]? = some b ∧ ks[n]? = some e ∧ vs = [.str e.1, .int e.2]) I ts _ J1 la.once (fun b mb => by
    obtain ⟨n, hn⟩ := List.mem_iff_getElem?.mp mb
    obtain ⟨e, t, u, he, hg⟩ := la.pair n b hn
    obtain ⟨l1, l2⟩ := lo b mb
    exact ⟨l1, by rw [upd_ne l2]; exact I.hok.fresh l1, _, ⟨n, e, hn, he, rfl⟩, fun _ => ⟨by rw [sizeLine_eq]; show 2 ≤ 16777216; omega, [Value.str e.1 t, Value.int e.2 u], .cons ⟨t, rfl⟩ (.cons ⟨u, rfl⟩ .nil), _, hg, rfl, 0, rfl⟩⟩)
  refine ⟨H', J2, fun b o q => up b o (by rw [upd_ne (ne_of_none q free)]; exact q), free, fun z mz => ?_, up _ _ upd_same, fun z mz => ?_⟩
  · obtain ⟨n, h1, _⟩ := place z mz
    exact I.hok.fresh (lo _ (List.mem_of_getElem? h1)).1
  · obtain ⟨n, h1, h2⟩ := place z mz
    obtain ⟨vs, ⟨m, e, g1, g2, rfl⟩, fin⟩ := got z.1 (List.mem_of_getElem? h1)
    obtain rfl : n = m := (List.getElem?_inj (List.getElem?_eq_some_iff.mp h1).1 la.once).mp (h1.trans g1.symm)
    rw [h2] at g2
    cases g2
    exact fin
theorem cr_srtI (hc : X.calm = true) : CallR X (.builtin "sorted") rSrtI := by
  rintro pins s σ H _ us Q I vals ⟨p, a, ks, ρ, rfl, itm, dct, few, once, rank, fin⟩
  obtain rfl := Vals.ref1 vals
  have seen : s.heap.IsItemsView p a := (I.hok p _ itm).1
  obtain ⟨_, _, vs, kv, dict⟩ := dk_rd I.hok dct
  obtain ⟨ep, ob, es, e1, e2, e3, _, prs, _⟩ := dict.dictAt
  have n1 : ks.length = vs.length := by have := Paired.length kv; rwa [List.length_map] at this
  have n2 : es.size = vs.length := by rw [← Array.length_toList]; exact prs.length
  refine DT.sortedI (es := es) (ep := ep) (I.ok.hd hc) seen ⟨ob, e1, e2, e3⟩ (by rw [n2, ← n1, sizeLine_eq]; omega) fun g tk ts sub grew nts made => ?_
  have la : Laid g ts ks := ⟨by rw [nts, n2, n1], made.rise.imp fun z => Nat.ne_of_lt z, fun n b hn => by
    obtain ⟨en, he, hg⟩ := made.pairs n b hn
    obtain ⟨e, t, u, k1, k2, k3⟩ := pairs_get prs kv he
    exact ⟨e, t, u, k1, by rw [hg, k2, k3]⟩⟩
  have inG : ∀ b o, g.get? b = some o → b ≠ g.objs.size := fun _ _ q => Nat.ne_of_lt (Heap.lt_size q)
  obtain ⟨g2, eg⟩ : ∃ g2, g2 = g.push { cls := .type "list", data := .seq (ts.map Value.ref).toArray } := ⟨_, rfl⟩
  have lst : g2.get? g.objs.size = some (seqObj "list" (ts.map Value.ref).toArray 0) := by rw [eg]; exact Heap.get?_push_size _ rfl
  have push : ∀ b o, g.get? b = some o → g2.get? b = some o := fun b o q => by rw [eg]; exact Heap.get?_push_of_some _ q
  rw [← eg]
  have mid : Laid (TS.midHeap g2 g.objs.size (ts.map Value.ref)) ts ks := la.up fun b o q => TS.midHeap_old (inG b o q) (push b o q)
  refine wpAny_call_entry PyProof.Rows.slot_list_sort ⟨_, lst, rfl⟩ PyProof.Rows.entry_list_sort (SK.plain_sort (s := { s with heap := g2, toks := tk }) (r := fun v => ρ (keyTx (TS.midHeap g2 g.objs.size (ts.map Value.ref)) v)) lst
    (by rw [List.length_map, la.many]; exact few) (fun two Qk k => kind_pairs (st := { s with heap := TS.midHeap g2 g.objs.size (ts.map Value.ref), toks := tk }) two mid.is once rank Qk k) fun qs out o1 o2 o3 => ⟨.none, rfl, ?_⟩) (PyProof.Rows.args_list_sort _)
  obtain ⟨zs, pz, ez⟩ := perm_lift (fun z : Addr × Str × Int => (Value.ref z.1, Value.ref z.1)) o2 (ts.zip ks) (L2.DX.zip_self Value.ref ts ks la.many)
  have place : ∀ z ∈ zs, ∃ n : Nat, ts[n]? = some z.1 ∧ ks[n]? = some z.2 := fun z mz => by
    obtain ⟨n, hn⟩ := List.mem_iff_getElem?.mp (pz.mem_iff.mp mz)
    exact ⟨n, List.getElem?_zip_eq_some.mp hn⟩
  have eo : out.toList = zs.map fun z => Value.ref z.1 := by rw [o1, ← ez, List.map_map]; rfl
  obtain ⟨no, hout⟩ := PyProof.Rows.sortedHeap_at (vs := ts.map Value.ref) (out := out) lst
  have stay : ∀ b o, g.get? b = some o → (sortedHeap g2 g.objs.size (ts.map Value.ref) out).get? b = some o := fun b o q => (PyProof.Rows.sortedHeap_old (inG b o q) (Heap.lt_size (push b o q))).trans (push b o q)
  obtain ⟨H', J, keep, f1, f2, f3, f4⟩ := srt_done (tk := tk) I (fun b o q => stay b o (sub b o q)) (Nat.le_of_lt grew) hout (la.up stay) (fun b mb => ⟨Nat.le_of_lt (made.above b mb), by
    obtain ⟨n, hn⟩ := List.mem_iff_getElem?.mp mb
    obtain ⟨e, t, u, _, hg⟩ := la.pair n b hn
    exact inG b _ hg⟩) pz eo few
  refine ⟨.ref g.objs.size, H', J, rfl, fin H' g.objs.size zs keep f1 f2 ?_ ?_ f3 f4⟩
  · have perm := pz.map (·.2)
    rwa [List.map_snd_zip (by rw [la.many]; exact Nat.le_refl _)] at perm
  · rw [← ez, List.pairwise_map] at o3
    rw [List.pairwise_map]
    refine o3.imp_of_mem fun {x y} mx my le => ?_
    obtain ⟨n, n1, n2⟩ := place x mx
    obtain ⟨m, m1, m2⟩ := place y my
    have le : ρ (keyTx _ (.ref x.1)) ≤ ρ (keyTx _ (.ref y.1)) := le
    rwa [(mid.tx n1 n2).tx, (mid.tx m1 m2).tx] at le
end
end QL

set_option Elab.async false
set_option linter.all false
set_option maxRecDepth 100000
namespace QL
open PySem L2

/-! ### what a call has laid is known -/
open Classical in
noncomputable def grow (h H' : Hp) (N : Addr → Prop) : Hp := fun b => if N b then H' b else h b
theorem grow_in {h H' : Hp} {N : Addr → Prop} {b : Addr} (n : N b) : grow h H' N b = H' b := by unfold grow; rw [if_pos n]
theorem grow_out {h H' : Hp} {N : Addr → Prop} {b : Addr} (n : ¬ N b) : grow h H' N b = h b := by unfold grow; rw [if_neg n]
theorem Stp.grow {M : Addr → Prop} {h H H' : Hp} {N : Addr → Prop} (e : Ex h H) (kp : ∀ b o, H b = some o → H' b = some o) (nn : ∀ b, N b → H b = none) : Stp M h H (QL.grow h H' N) H' where
  kn := fun b o q => by
    rw [grow_out (fun n => by rw [e.free (nn b n)] at q; cases q)]
    exact q
  ex := fun b o q => by
    by_cases n : N b
    · rw [grow_in n] at q; exact .inl q
    · rw [grow_out n] at q
      rcases e b o q with z | ⟨ks, ob, z1, z2⟩
      · exact .inl (kp _ _ z)
      · exact .inr ⟨ks, ob, z1, kp _ _ z2⟩
  keep := fun b o _ q => kp b o q
  live := fun b q => by
    obtain ⟨o, q⟩ := some_of q
    exact ne_some (kp b o q)
  fresh := fun b q => by
    by_cases n : N b
    · exact .inr (nn b n)
    · rw [grow_out n] at q; exact .inl q
theorem reps_refs {α : Type} {R : Rel α} {h : Hp} : ∀ ps : List (Addr × α), (∀ z ∈ ps, R.r z.2 (.ref z.1) h) → Reps R h (ps.map (·.2)) (ps.map fun z => V.ref z.1)
  | [], _ => .nil
  | z :: ps, k => .cons (k z List.mem_cons_self) (reps_refs ps fun y m => k y (List.mem_cons_of_mem _ m))
theorem kvs_ints {h : Hp} : ∀ {kvs : List (Str × Int)} {ks : List (Key × V)}, KVs RI h kvs ks → ks = kvs.map ent
  | _, _, .nil => rfl
  | x :: l, y :: m, .cons r t => by
    obtain ⟨e1, e2⟩ := r
    rw [List.map_cons, ← kvs_ints t]
    congr 1
    exact Prod.ext e1 e2
/-- a text's place among others -/
def rk (l : List Str) (x : Str) : Int := ((l.filter fun z => decide (z.cps.toList < x.cps.toList)).length : Int)
theorem rk_lt {l : List Str} {x y : Str} (mx : x ∈ l) (h : x.cps.toList < y.cps.toList) : rk l x < rk l y := by
  have sub : ∀ z : Str, decide (z.cps.toList < x.cps.toList) = true → decide (z.cps.toList < y.cps.toList) = true := fun z k => decide_eq_true (List.lt_trans (of_decide_eq_true k) h)
  have le : ∀ l : List Str, (l.filter fun z => decide (z.cps.toList < x.cps.toList)).length ≤ (l.filter fun z => decide (z.cps.toList < y.cps.toList)).length := by
    intro l
    induction l with
    | nil => exact Nat.le_refl _
    | cons z l ih =>
      rw [List.filter_cons, List.filter_cons]; by_cases k : decide (z.cps.toList < x.cps.toList) = true
      · rw [if_pos k, if_pos (sub z k), List.length_cons, List.length_cons]; omega
      · rw [if_neg k]
        split
        · rw [List.length_cons]; omega
        · exact ih
  unfold rk
  have : ∀ l : List Str, x ∈ l → (l.filter fun z => decide (z.cps.toList < x.cps.toList)).length < (l.filter fun z => decide (z.cps.toList < y.cps.toList)).length := by
    intro l
    induction l with
    | nil => intro m; simp at m
    | cons z l ih =>
      intro m
      rw [List.filter_cons, List.filter_cons]; by_cases e : z = x
      · subst e
        rw [if_neg (by simpa using List.lt_irrefl z.cps.toList), if_pos (decide_eq_true h), List.length_cons]
        have := le l
        omega
      · have m' : x ∈ l := by rcases List.mem_cons.mp m with q | q; exact absurd q.symm e; exact q
        have ih' := ih m'
        by_cases k : decide (z.cps.toList < x.cps.toList) = true
        · rw [if_pos k, if_pos (sub z k), List.length_cons, List.length_cons]; omega
        · rw [if_neg k]
          split
          · rw [List.length_cons]; omega
          · exact ih'
  have := this l mx
  omega
theorem rk_dec {l : List Str} {x y : Str} (mx : x ∈ l) (my : y ∈ l) : decide (x.cps.toList < y.cps.toList) = decide (rk l x < rk l y) := by
  by_cases h : x.cps.toList < y.cps.toList
  · rw [decide_eq_true h, decide_eq_true (rk_lt mx h)]
  · have le : leT y x := List.not_lt.mp h
    have : ¬ rk l x < rk l y := by
      by_cases k : y.cps.toList < x.cps.toList
      · have := rk_lt my k; omega
      · have e : x = y := leT.anti (List.not_lt.mp k) le
        rw [e]; omega
    rw [decide_eq_false h, decide_eq_false this]
theorem val_perm {l m : List (Str × Int)} (n : (keys m).Nodup) (p : l.Perm m) (k : Str) : val l k = val m k := by
  have pk : (keys l).Perm (keys m) := p.map _
  have nl : (keys l).Nodup := pk.nodup_iff.mpr n
  by_cases h : k ∈ keys l
  · obtain ⟨x, mx, rfl⟩ := List.mem_map.mp h
    rw [val_mem nl mx, val_mem n (p.mem_iff.mp mx)]
  · rw [val_not h, val_not (fun z => h (pk.mem_iff.mpr z))]
theorem sIt_uniq {l m : List (Str × Int)} (n : (keys m).Nodup) (p : l.Perm m) (s : (keys l).Pairwise leT) : l = sIt m := by
  have pk : (keys l).Perm (keys m) := p.map _
  have nl : (keys l).Nodup := pk.nodup_iff.mpr n
  unfold sIt
  rw [← srt_uniq pk s, ← map_val nl]
  conv => lhs; rw [show keys l = keys l from rfl]
  have e : keys ((keys l).map fun k => (k, val l k)) = keys l := by rw [map_val nl]
  rw [e]
  exact List.map_congr_left fun k _ => by rw [val_perm n p k]

section
variable {γ : Type} {Γ : Ctx} {td te : TE} {R : Rel γ} {K : PySem.W.Frag}
theorem ev_sortItems {kvs : List (Str × Int)} (k : EvD Γ td RI (fun x => x = kvs)) (n : (keys kvs).Nodup) (hz : kvs.length < 64) : Ev Γ (tCB rSrtI (tCons (tItemsV td) tNil)) (RL (RT2 K RS RI)) (fun x => x = sIt kvs) := fun σ h H S e Q q =>
  k σ h H S e _ fun a kvs' h1 H1 p1 s1 S1 g => by
    subst p1
    obtain ⟨ks, rd, r⟩ := g h1 H1 (.refl s1.ex) S1
    have ek := kvs_ints r
    subst ek
    refine ⟨a, _, rfl, rd, fun p np => ?_⟩
    have na : a ≠ p := fun z => by
      subst z
      rcases rd with z | ⟨ob, z⟩ <;> (rw [np] at z; cases z)
    refine ⟨p, a, kvs', rk (keys kvs'), rfl, upd_same, ?_, hz, n, fun e me f mf => rk_dec (List.mem_map_of_mem me) (List.mem_map_of_mem mf), fun H' l ps kp nl nz pm pw el ez => ?_⟩
    · rcases rd with z | ⟨ob, z⟩
      · exact .inl (by rw [upd_ne na]; exact z)
      · exact .inr ⟨ob, by rw [upd_ne na]; exact z⟩
    · have sv : Stp MNo h1 H1 h1 (upd H1 p (L2.DX.itemsO p a)) := .newU s1.ex np
      have sg : Stp MNo h1 (upd H1 p (L2.DX.itemsO p a)) (grow h1 H' fun b => b = l ∨ ∃ z ∈ ps, b = z.1) H' := .grow sv.ex kp fun b nb => by
        rcases nb with rfl | ⟨z, mz, rfl⟩
        · exact nl
        · exact nz z mz
      have st := sv.tr sg
      have es : ps.map (·.2) = sIt kvs' := by
        refine sIt_uniq n pm ?_
        unfold keys
        rw [List.pairwise_map]
        refine List.Pairwise.imp_of_mem (fun {x y} mx my h => ?_) pw
        refine List.not_lt.mp fun lt => ?_
        have := rk_lt (l := keys kvs') (List.mem_map_of_mem (f := (·.1)) (pm.mem_iff.mp my)) lt
        omega
      refine q (.ref l) (sIt kvs') _ H' rfl (s1.tr st.no) (S1.stepNo st) ⟨l, ps.map fun z => V.ref z.1, rfl, by rw [grow_in (.inl rfl)]; exact el, ?_⟩
      rw [← es]
      exact reps_refs ps fun z mz => ⟨z.1, .str z.2.1, .int z.2.2, rfl, .inl (by rw [grow_in (.inr ⟨z, mz, rfl⟩)]; exact ez z mz), rfl, rfl⟩
/-- sorted(d) -/
def rSrtD : List V → Hp → VK → Prop := fun xs H Q => ∃ (a : Addr) (kvs : List (Key × V)) (ks : List Str), xs = [.ref a] ∧ Rd H a (.dK kvs) ∧ kvs.map (·.1) = ks.map Sum.inr ∧ ks.length < 64 ∧
    ∀ ys p, ys.Perm ks → PyProof.Rows.sortedS ys = true → H p = none → Q (.ref p) (upd H p (.lst (ys.map V.str)))
theorem clSrtD {X : Cx} (hc : X.calm = true) : CallR X (.builtin "sorted") rSrtD := call_sortedD hc
theorem ev_sortD {kvs : List (Str × γ)} (k : EvD Γ td R (fun x => x = kvs)) (hz : kvs.length < 64) : Ev Γ (tCB rSrtD (tCons td tNil)) (RL RS) (fun x => x = srt (keys kvs)) := fun σ h H S e Q q =>
  k σ h H S e _ fun a kvs' h1 H1 p1 s1 S1 g => by
    subst p1
    obtain ⟨ks, rd, r⟩ := g h1 H1 (.refl s1.ex) S1
    refine ⟨a, ks, keys kvs', rfl, rd, r.keys.2, by unfold keys; rw [List.length_map]; exact hz, fun ys p pm so np => ?_⟩
    have st : Stp MNo h1 H1 (upd h1 p (.lst (ys.map V.str))) (upd H1 p (.lst (ys.map V.str))) := .new s1.ex np
    exact q _ _ _ _ (srt_of pm so) (s1.tr st.no) (S1.stepNo st) ⟨p, _, rfl, upd_same, reps_str _⟩
/-- list(d.items()) of one's own -/
theorem ev_listItemsOwn {kvs : List (Str × γ)} {i : Nat} {p : Addr} (ei : Γ[i]? = some (.vo (VD p R kvs))) : Ev Γ (LiI.tListItems (tVar i)) (RL (RT2 K RS R)) (fun x => x = kvs) := fun σ h H S e Q q => by
  obtain ⟨ev, ks, ep, r⟩ := S.ok i _ ei
  refine ⟨_, ev, p, ks, rfl, ep, fun H' l ts kp nl nt nm el et => ?_⟩
  have st : Stp MNo h H (grow h H' fun b => b = l ∨ b ∈ ts) H' := .grow e kp fun b nb => by
    rcases nb with rfl | m
    · exact nl
    · exact nt b m
  refine q (.ref l) kvs _ H' rfl st.no (S.stepNo st) ⟨l, ts.map V.ref, rfl, by rw [grow_in (.inl rfl)]; exact el, ?_⟩
  have aux : ∀ {kvs : List (Str × γ)} {ks : List (Key × V)} {ts : List Addr}, KVs R h kvs ks → Paired (fun (t : Addr) (q : Key × V) => H' t = some (.tup [kV q.1, q.2])) ts ks → (∀ t ∈ ts, (grow h H' fun b => b = l ∨ b ∈ ts) t = H' t) → ∀ hh, Ext h hh → (∀ t ∈ ts, hh t = H' t) → Reps (RT2 K RS R) hh kvs (ts.map V.ref) := by
    intro kvs ks ts r
    induction r generalizing ts with
    | nil => intro pt _ hh _ _; cases pt; exact .nil
    | @cons x y l m r t ih =>
      intro pt kt hh xh kh
      cases pt with
      | cons q1 q2 =>
        obtain ⟨e1, e2⟩ := r
        refine .cons ⟨_, .str x.1, y.2, rfl, .inl ?_, rfl, R.mono xh e2⟩ (ih q2 (fun t m => ?_) hh xh fun t m => kh t (List.mem_cons_of_mem _ m))
        · rw [kh _ List.mem_cons_self, q1, e1]; rfl
        · exact grow_in (.inr m)
  exact aux r et (fun t m => grow_in (.inr m)) _ st.kn fun t m => grow_in (.inr m)
end
end QL

set_option Elab.async false
set_option linter.all false
set_option maxRecDepth 100000
namespace QL
open PySem L2

/-! ### statements that walk a known dict -/
structure Bridge (Γ : Ctx) (F : Fr) (D : Ends) (F' : Fr) (D' : Ends) : Prop where
  nx : ∀ Γ', At F Γ' D.nx → At F' Γ' D'.nx
  rt : ∀ (γ : Type) (L : List Slot) (R : Rel γ) (P : γ → Prop), Has Γ L → RtOk F L R P D.rt → RtOk F' L R P D'.rt
section
variable {γ β : Type} {F : Fr} {Γ : Ctx} {R : Rel γ} {Rb : Rel β} {td te : TE} {D : Ends} {t tb : TS} {K : PySem.W.Frag} {kvs : List (Str × γ)}
theorem at_lkS (pt : PthV Γ td (RD R) kvs) (k : ∀ (F' : Fr) (D' : Ends), Bridge Γ F D F' D' → ∀ σ h H d od ks, Sat Γ σ h H → Stp F'.M F'.h F'.H h H → (∀ b, feet Γ b → F'.M b ∨ F'.H b = none) → h d = some (.dK ks) → KVs R h kvs ks →
    H d = some (.frz od (.dK ks)) → (∀ Q : VK, Q (.ref d) H → td σ H Q) → t D' σ H) : At F Γ (tLkS t D) := fun σ h H S s c => by
  obtain ⟨v, ⟨d, ks, rfl, hd, rs⟩, ev⟩ := pt σ h H S s.ex
  have nf : ¬ feet Γ d := fun z => by have := S.outF z; rw [hd] at this; cases this
  rcases s.ex d _ hd with lH | ⟨ks', od, ee, lH⟩
  · refine .inl ⟨d, _, lH, trivial, fun od => ?_⟩
    have hdd : HD h H (upd H d (.frz od (.dK ks))) := fun b => by
      by_cases z : b = d
      · subst z; exact .inr ⟨ks, hd⟩
      · exact .inl (upd_ne z)
    have unl : ∀ {h' H' : Hp}, Stp (feet Γ) h (upd H d (.frz od (.dK ks))) h' H' → H' d = some (.frz od (.dK ks)) ∧ Stp F.M F.h F.H h' (upd H' d (.dK ks)) := fun s' => Stp.unlock s hd lH s' nf c
    refine k ⟨h, upd H d (.frz od (.dK ks)), feet Γ⟩ _ ⟨fun Γ' a σ' h' H' S' s' c' => ?_, fun γ' L R' P hl o v a h' H' pa s' ws r => ?_⟩ σ h _ d od ks (S.locked hd) (.refl (s.ex.locked hd)) (fun b z => .inl z) hd rs upd_same fun Q q => ev _ hdd Q q
    · obtain ⟨fz, st⟩ := unl s'
      refine ⟨fz, a σ' h' _ (S'.locked (s'.kn _ _ hd)) st fun b z => ?_⟩
      rcases c' b z with m | n
      · exact c b m
      · have n : (upd H d (.frz od (.dK ks))) b = none := n
        by_cases y : b = d
        · subst y; rw [upd_same] at n; cases n
        · rw [upd_ne y] at n; exact .inr (back_none s n)
    · obtain ⟨fz, st⟩ := unl s'
      refine ⟨fz, o v a h' _ pa st (fun W m => ?_) r⟩
      obtain ⟨i, ei⟩ := hl W m
      exact W.frame (ws W m) (.refl h') fun b z => upd_ne fun y => nf ⟨i, _, ei, by rw [← y]; exact z⟩
  · cases ee
    exact .inr (k F D ⟨fun _ a => a, fun _ _ _ _ _ o => o⟩ σ h H d od ks S s c hd rs lH fun Q q => ev H (fun _ => .inl rfl) Q q)
theorem at_forItems {g : TG} {js : List Nat} (σt : Type) (Γs : σt → Ctx) (I : Nat → σt → Prop) (s0 : σt) {fG : σt → Str × γ → Ctx} (pt : PthV Γ td (RD R) kvs) (h0 : I 0 s0) (l0 : Le Γ (Γs s0)) (hg : ∀ s, EvG (Γs s) g js (RT2 K RS R) (fG s)) (hf : ∀ s a b, feet (fG s a) b → feet (Γs s) b)
    (body : ∀ F1 D1, Bridge Γ F D F1 D1 → ∀ F', F1.le F' → ∀ (i : Nat) (x : Str × γ) (s : σt) (N : L2.St → Hp → Prop), kvs[i]? = some x → I i s → (∀ s', I (i + 1) s' → At F' (Γs s') N) → At F' (fG s x) (tb { D1 with nx := N, ct := N, bk := D1.nx }))
    (done : ∀ s, I kvs.length s → At F (Γs s) D.nx) : At F Γ (tLkS (tFor (iItems td) g tb) D) :=
  at_lkS pt fun F1 D1 br σ h H d od ks S s c hd rs fz ev => for_at (F := F1) σt Γs I s0 S s c (wi_items ev hd rs fz S s.ex) (fun _ _ _ _ _ => trivial) h0 l0 hg hf (body F1 D1 br) fun s2 hI => br.nx _ (done s2 hI)
theorem at_forKeys {g : TG} {js : List Nat} (σt : Type) (Γs : σt → Ctx) (I : Nat → σt → Prop) (s0 : σt) {fG : σt → Str → Ctx} (pt : PthV Γ td (RD R) kvs) (h0 : I 0 s0) (l0 : Le Γ (Γs s0)) (hg : ∀ s, EvG (Γs s) g js RS (fG s)) (hf : ∀ s a b, feet (fG s a) b → feet (Γs s) b)
    (body : ∀ F1 D1, Bridge Γ F D F1 D1 → ∀ F', F1.le F' → ∀ (i : Nat) (x : Str) (s : σt) (N : L2.St → Hp → Prop), (keys kvs)[i]? = some x → I i s → (∀ s', I (i + 1) s' → At F' (Γs s') N) → At F' (fG s x) (tb { D1 with nx := N, ct := N, bk := D1.nx }))
    (done : ∀ s, I (keys kvs).length s → At F (Γs s) D.nx) : At F Γ (tLkS (tFor (iKeys td) g tb) D) :=
  at_lkS pt fun F1 D1 br σ h H d od ks S s c hd rs fz ev => for_at (F := F1) σt Γs I s0 S s c (wi_keys ev hd rs fz S s.ex) (fun _ _ _ _ _ => trivial) h0 l0 hg hf (body F1 D1 br) fun s2 hI => br.nx _ (done s2 hI)
theorem at_setLcItems {i : Nat} {g : TG} {vs js : List Nat} {f : Str × γ → Ctx} {tt : TT} {PT : Str × γ → Bool → Prop} {PY : Str × γ → β → Prop} (pt : PthV Γ td (RD R) kvs) (hg : EvG (wipeC Γ vs) g js (RT2 K RS R) f) (hj : ∀ j ∈ js, j ∈ vs) (hf : ∀ a b, feet (f a) b → feet (wipeC Γ vs) b)
    (hle : ∀ a, Le (f a) (wipeC Γ vs)) (nv : NoVol Γ vs) (hz : kvs.length ≤ 10000) (ht : ∀ x ∈ kvs, EvT (f x) tt (PT x)) (he : ∀ x ∈ kvs, PT x true → Ev (f x) te Rb (PY x)) (n : ∀ l, Pick PT PY kvs l → At F (Γ.set i (.va (RL Rb) l)) D.nx)
    (l : i < Γ.length := by (simp only [List.length_cons, List.length_nil, List.length_set]; omega)) : At F Γ (tLkS (tAsg (tLc (iItems td) g tt te vs) (gName i)) D) :=
  at_lkS pt fun F1 D1 br σ h H d od ks S s c hd rs fz ev => lc_at (wi_items ev hd rs fz S s.ex) (fun _ _ _ => trivial) hg hj hf hle nv hz ht he _ fun v xs h' H' pl s' S' r =>
    br.nx _ (n xs pl) _ h' H' (S'.putV r l) (feet_stp (Γ := Γ) (σ := σ) s s' c) fun b z => c b (feet_va z)
/-- list(d), one's own -/
theorem eo_listD {PD : List (Str × γ) → Prop} (k : EvD Γ td R PD) : EvO Γ (tCB rListDk (tCons td tNil)) (fun p d => VL p RS d) (fun l => ∃ d, PD d ∧ l = keys d) := fun σ h H S e Q q =>
  k σ h H S e _ fun a kvs h1 H1 pk s1 S1 g => by
    obtain ⟨ks, rd, r⟩ := g h1 H1 (.refl s1.ex) S1
    refine ⟨a, ks, rfl, rd, fun p np => ?_⟩
    rw [r.keys.1]
    have st : Stp MNo h1 H1 h1 (upd H1 p (.lst ((kvs.map (·.1)).map V.str))) := .newU s1.ex np
    exact q p (keys kvs) _ _ ⟨kvs, pk, rfl⟩ (s1.tr st.no) (S1.stepNo st) (back_none s1 np) (s1.ex.free np) ⟨_, upd_same, reps_str _⟩
end
end QL

set_option Elab.async false
set_option linter.all false
set_option maxRecDepth 100000
namespace QL
open PySem L2 PySem.W PySem.Calls PyProof.Rows

/-! ### operators of own classes -/
section
variable {pg : Program} {w : World} {B : Around} {E : Value → Shared → Prop} {st : Shared} {K : Frag} {x C L f : Addr} {h0 : Heap} {m : Str → Option Value} {ox : Obj} {od : Option Obj}
/-- both of one class: the left one's method alone is asked -/
theorem bin_same {op : Operator} {b : Value} {Qv : Value → Shared → Prop} (F : PyProof.Rows.Fr h0 L st.heap m) (X0 : K.In h0) (I : InstAt st.heap x ox C od) (tb : Looks (model pg w) st.heap (typeOf b) (.ref C)) (hc : selfFirst K C = true)
    (hs : findIn K (.ref C) (PySem.dunder op.info.2) = some (some (.ref f))) (hf : isFn K (.ref f) = true) (k : wpAny (model pg w) B (call (.ref f) [.ref x, b]) (PySem.W.CmpBack Qv) E st) : wpAny (model pg w) B (binaryOp op (.ref x) b) Qv E st := by
  have X1 := X0.keeps F.keep
  obtain ⟨cd, mr, c1, c2⟩ := ksp_first hc
  rcases ei : op.info with ⟨sg, nm⟩
  rw [ei] at hs
  have went := ksp_try X1 I hs hf k
  obtain ⟨hh, g, d, tt, os⟩ := st
  have T1 : Looks (model pg w) hh (typeOf (.ref x)) (.ref C) := I.type
  have T2 : Looks (model pg w) hh (fillsNumberSlot (.ref C) nm) true := fills_K X1 c1 c2 hs
  have same : (Value.ref C == Value.ref C) = true := beq_self_eq_true _
  simp only [binaryOp, ei]
  refine wpAny_holding (wpAny_bind ?_); unfold binaryOp1
  refine wpAny_bind (T1.at (wpAny_bind (tb.at (wpAny_bind (T2.at ?_)))))
  simp only [same, if_true]
  ksp_lk
  refine wpAny_mono went (fun r t got => ?_) fun _ _ z => z
  obtain ⟨v, rfl, q⟩ := got
  ksp_lk
  exact q
end

section
variable {X : Cx} {C f : Addr} {fd : FuncData} {ps : List Str} {sp : Sp} {n : Nat}
/-- x op y, both instances of the class at C -/
def rOwn2 (C : Addr) (sp : Sp) : R2 := fun x y H Q => ∃ a dx fs b dy gs, x = .ref a ∧ y = .ref b ∧ H a = some (.ins C dx fs) ∧ H b = some (.ins C dy gs) ∧ sp [x, y] H (fun v H' => (∃ p, v = .ref p) ∧ Q v H') E0
/-- x op k, k a number -/
def rOwnI (C : Addr) (sp : Sp) : R2 := fun x y H Q => ∃ a dx fs k, x = .ref a ∧ y = .int k ∧ H a = some (.ins C dx fs) ∧ sp [x, y] H (fun v H' => (∃ p, v = .ref p) ∧ Q v H') E0
def rOwn1 (C : Addr) (sp : Sp) : V → Hp → VK → Prop := fun x H Q => ∃ a dx fs, x = .ref a ∧ H a = some (.ins C dx fs) ∧ sp [x] H Q E0
/-- a def of the class, called with values that are there -/
theorem run_own {pins : List (Addr × Obj)} {σ : L2.St} {H : Hp} {s : Shared} {Q : VK} {us : List Value} {vs : List V} {Qv : Value → Shared → Prop} (F : FnOk X.prog X.w X.K X.mg X.base CX0 n f fd ps sp) (hr : Room n X.A) (hb : Binds X.K fd ps []) (I : Inv X pins σ H s) (r : Vals vs us) (q : sp vs H Q E0)
    (k : ∀ v u H' s', Inv X pins σ H' s' → RelV v u → Q v H' → Qv u s') : wpAny (model X.prog X.w) X.A (call (.ref f) us) Qv X.xe s := by
  have hl : (us ++ ([] : List Value)).length = ps.length := by rw [List.append_nil, ← r.length]; exact F.len _ _ _ _ q
  have bnd := hb s us I.kIn hl
  rw [List.append_nil] at bnd
  refine wpAny_call (codeAny_mono (F.run X.A X.stack s H ⟨us, []⟩ us vs Q E0 hr I.env0 bnd r q) fun res t got => ?_)
  cases res with
  | error e => exact pass0 (X := X) pins σ H s e t I got
  | ok fl =>
    cases fl with
    | ret u =>
      obtain ⟨v, H', J, rv, z⟩ := I.after got
      exact k v u H' t J rv z
    | next => exact got.elim
    | brk => exact got.elim
    | cont => exact got.elim
/-- what an operator's def must be -/
structure OpB (P : Program) (w : World) (K : PySem.W.Frag) (mg : Str → Option Value) (base : Heap) (n : Nat) (C : Addr) (nm : Str) (sp : Sp) : Prop where
  sf : selfFirst K C = true
  ex : ∃ (f : Addr) (fd : FuncData) (ps : List Str), findIn K (.ref C) nm = some (some (.ref f)) ∧ isFn K (.ref f) = true ∧ FnOk P w K mg base CX0 n f fd ps sp ∧ Binds K fd ps []
theorem op_own2 {op : Operator} (c : OpB X.prog X.w X.K X.mg X.base n C (PySem.dunder op.info.2) sp) (hr : Room n X.A) : OpR X (binaryOp op) (rOwn2 C sp) := by
  obtain ⟨f, fd, ps, hs, hf, F, hb⟩ := c.ex
  rintro pins s σ H x y u v Q I rx ry ⟨a, dx, fs, b, dy, gs, rfl, rfl, ia, ib, q⟩
  cases rx
  cases ry
  obtain ⟨_, J, _⟩ := ins_get I.hok ia
  obtain ⟨_, J', _⟩ := ins_get I.hok ib
  obtain ⟨od, J, _⟩ := J.look
  obtain ⟨oe, J', _⟩ := J'.look
  obtain ⟨m, hF⟩ := I.fr
  refine bin_same hF I.ok.mod.kin J J'.type c.sf hs hf (run_own (vs := [.ref a, .ref b]) F hr hb I (.cons rfl (.cons rfl .nil)) q fun v u H' s' K' rv z => ?_)
  obtain ⟨⟨p, rfl⟩, z⟩ := z
  cases rv
  exact ⟨.ref p, H', K', rfl, z⟩
theorem op_ownI {op : Operator} {fo ro rc : Option Value} (c : OpB X.prog X.w X.K X.mg X.base n C (PySem.dunder op.info.2) sp) (hr : Room n X.A) (h3 : findIn X.K (.ref C) (dunderR op.info.2) = some rc) (h4 : rc = none ∨ ∃ g : Addr, rc = some (.ref g))
    (h1 : findIn X.K (.type "int") (PySem.dunder op.info.2) = some fo) (h2 : findIn X.K (.type "int") (dunderR op.info.2) = some ro) (h5 : subIn X.K (.type "int") (.ref C) = some false) : OpR X (binaryOp op) (rOwnI C sp) := by
  obtain ⟨f, fd, ps, hs, hf, F, hb⟩ := c.ex
  rintro pins s σ H x y u v Q I rx ry ⟨a, dx, fs, k, rfl, rfl, ia, q⟩
  cases rx
  obtain ⟨t, rfl⟩ := ry
  obtain ⟨_, J, _⟩ := ins_get I.hok ia
  obtain ⟨od, J, _⟩ := J.look
  obtain ⟨m, hF⟩ := I.fr
  refine ksp_binT (T := "int") hF I.ok.mod.kin J rfl c.sf hs hf h3 h4 h1 h2 h5 (run_own (vs := [.ref a, .int k]) F hr hb I (.cons rfl (.cons ⟨t, rfl⟩ .nil)) q fun v u H' s' K' rv z => ?_)
  obtain ⟨⟨p, rfl⟩, z⟩ := z
  cases rv
  exact ⟨.ref p, H', K', rfl, z⟩
/-- what a number on the right must leave to the class -/
structure OpIF (K : Frag) (C : Addr) (nm : String) : Prop where
  ex : ∃ fo ro rc : Option Value, findIn K (.ref C) (dunderR nm) = some rc ∧ (rc = none ∨ ∃ g : Addr, rc = some (.ref g)) ∧ findIn K (.type "int") (PySem.dunder nm) = some fo ∧ findIn K (.type "int") (dunderR nm) = some ro ∧ subIn K (.type "int") (.ref C) = some false
theorem op_ownN {op : Operator} (c : OpB X.prog X.w X.K X.mg X.base n C (PySem.dunder op.info.2) sp) (i : OpIF X.K C op.info.2) (hr : Room n X.A) : OpR X (binaryOp op) (rOwnI C sp) := by
  obtain ⟨fo, ro, rc, h1, h2, h3, h4, h5⟩ := i.ex
  exact op_ownI c hr h1 h2 h3 h4 h5
theorem un_own {sp : Sp} (c : OpB X.prog X.w X.K X.mg X.base n C "__neg__" sp) (hr : Room n X.A) : UnR X (unaryOp .USub) (rOwn1 C sp) := by
  obtain ⟨f, fd, ps, hs, hf, F, hb⟩ := c.ex
  rintro pins s σ H x u Q I rx ⟨a, dx, fs, rfl, ia, q⟩
  cases rx
  obtain ⟨_, J, _⟩ := ins_get I.hok ia
  obtain ⟨od, J, _⟩ := J.look
  obtain ⟨m, hF⟩ := I.fr
  exact ksp_neg hF I.ok.mod.kin J hs hf (run_own (vs := [.ref a]) F hr hb I (.cons rfl .nil) q fun v u H' s' K' rv z => ⟨v, H', K', rv, z⟩)
end

section
variable {α : Type} {Γ : QL.Ctx} {ta tb : TE} {C : Addr} {shape : α → Flds} {a b : α} {k : Int} {Pre : List Slot → (α → Prop) → Prop} {P : α → Prop}
theorem ins_ref {a : α} {v : V} {h : Hp} (r : (RIns C shape).r a v h) : ∃ p dx fs, v = .ref p ∧ h p = some (.ins C dx fs) := let ⟨p, dx, fs, e, q, _⟩ := r; ⟨p, dx, fs, e, q⟩
/-- a method that gives one's own -/
theorem eo_meth {δ : Type} {W : Addr → δ → Vol} {PreG : List Slot → (δ → Prop) → Prop} {Pd : δ → Prop} {m : Str} {t : TA} {L : List Slot} {E : XK} (h : Ev Γ ta (RIns C shape) (fun x => x = a)) (hm : (shape a).lookup m = none) (ha : EvA Γ t (fun l => l = L)) (vi : VoIn Γ L []) (k : PreG (.va (RIns C shape) a :: L) Pd) :
    EvO Γ (tMeth C m (FSpG W PreG) [] E ta t) W Pd := fun σ h0 H S e Q q =>
  h σ h0 H S e _ fun v a' h1 H1 p1 s1 S1 r1 => by
    subst p1
    have r1' := r1
    obtain ⟨p, dx, fs, rfl, hp, kf⟩ := r1
    refine ⟨p, dx, fs, rfl, s1.ex.ins hp, lookup_none_keys kf.1 hm, ha σ h1 H1 S1 s1.ex _ fun vs l h2 H2 pl s2 S2 ok => ?_⟩
    subst pl
    have ok2 : ArgsOk (.va (RIns C shape) a' :: l) (V.ref p :: vs) h2 := ⟨(RIns C shape).mono s2.kn r1', ok⟩
    obtain ⟨Sa, nf⟩ := args_sat S2 ok2 vi
    rw [List.append_nil]
    exact ⟨_, Pd, h2, k, Sa, s2.ex, fun p d h' H' pd s3 ws n0 n1 r => q p d h' H' pd ((s1.tr s2).tr (s3.mono nf)) (sat_after S2 (L := .va (RIns C shape) a' :: l) vi s3 ws) (back_none (s1.tr s2) n0) n1 r⟩
theorem ev_own2 (h1 : Ev Γ ta (RIns C shape) (fun x => x = a)) (h2 : Ev Γ tb (RIns C shape) (fun x => x = b)) (k : Pre [.va (RIns C shape) a, .va (RIns C shape) b] P) : Ev Γ (tOp (rOwn2 C (FSp (RIns C shape) Pre)) ta tb) (RIns C shape) P := fun σ h H S e Q q =>
  h1 σ h H S e _ fun x a' ha Ha pa sa Sa ra => h2 σ ha Ha Sa sa.ex _ fun y b' hb Hb pb sb Sb rb => by
    subst pa
    subst pb
    have ra' := (RIns C shape).mono sb.kn ra
    obtain ⟨p1, d1, f1, rfl, q1⟩ := ins_ref ra'
    obtain ⟨p2, d2, f2, rfl, q2⟩ := ins_ref rb
    have ok : ArgsOk [.va (RIns C shape) a', .va (RIns C shape) b'] [V.ref p1, V.ref p2] hb := ⟨ra', rb, trivial⟩
    obtain ⟨Sg, nf⟩ := args_sat Sb ok trivial
    refine ⟨p1, d1, f1, p2, d2, f2, rfl, rfl, sb.ex.ins q1, sb.ex.ins q2, _, P, hb, k, Sg, sb.ex, fun v c h' H' pc s3 ws r => ⟨let ⟨p, _, _, e, _⟩ := ins_ref r; ⟨p, e⟩, ?_⟩⟩
    exact q v c h' H' pc ((sa.tr sb).tr (s3.mono nf)) (sat_after Sb (L := [.va (RIns C shape) a', .va (RIns C shape) b']) trivial s3 ws) r
theorem ev_ownI (h1 : Ev Γ ta (RIns C shape) (fun x => x = a)) (h2 : Ev Γ tb RI (fun x => x = k)) (pre : Pre [.va (RIns C shape) a, .va RI k] P) : Ev Γ (tOp (rOwnI C (FSp (RIns C shape) Pre)) ta tb) (RIns C shape) P := fun σ h H S e Q q =>
  h1 σ h H S e _ fun x a' ha Ha pa sa Sa ra => h2 σ ha Ha Sa sa.ex _ fun y b' hb Hb pb sb Sb rb => by
    subst pa
    subst pb
    have ra' := (RIns C shape).mono sb.kn ra
    obtain ⟨p1, d1, f1, rfl, q1⟩ := ins_ref ra'
    cases rb
    have ok : ArgsOk [.va (RIns C shape) a', .va RI b'] [V.ref p1, V.int b'] hb := ⟨ra', rfl, trivial⟩
    obtain ⟨Sg, nf⟩ := args_sat Sb ok trivial
    refine ⟨p1, d1, f1, b', rfl, rfl, sb.ex.ins q1, _, P, hb, pre, Sg, sb.ex, fun v c h' H' pc s3 ws r => ⟨let ⟨p, _, _, e, _⟩ := ins_ref r; ⟨p, e⟩, ?_⟩⟩
    exact q v c h' H' pc ((sa.tr sb).tr (s3.mono nf)) (sat_after Sb (L := [.va (RIns C shape) a', .va RI b']) trivial s3 ws) r
theorem ev_own1 (h1 : Ev Γ ta (RIns C shape) (fun x => x = a)) (pre : Pre [.va (RIns C shape) a] P) : Ev Γ (tUn (rOwn1 C (FSp (RIns C shape) Pre)) ta) (RIns C shape) P := fun σ h H S e Q q =>
  h1 σ h H S e _ fun x a' ha Ha pa sa Sa ra => by
    subst pa
    have ra' := ra
    obtain ⟨p1, d1, f1, rfl, q1⟩ := ins_ref ra
    have ok : ArgsOk [.va (RIns C shape) a'] [V.ref p1] ha := ⟨ra', trivial⟩
    obtain ⟨Sg, nf⟩ := args_sat Sa ok trivial
    exact ⟨p1, d1, f1, rfl, sa.ex.ins q1, _, P, ha, pre, Sg, sa.ex, fun v c h' H' pc s3 ws r => q v c h' H' pc (sa.tr (s3.mono nf)) (sat_after Sa (L := [.va (RIns C shape) a']) trivial s3 ws) r⟩
end
end QL

set_option Elab.async false
set_option linter.all false
set_option maxRecDepth 100000
namespace QL
open PySem L2 PySem.Spec PyProof.Rows

/-! ### y = {k: v for ..}, y a local -/
abbrev Blk (X : Cx) (sc : Scope) (φ : Cx → Prop) : Prop := ∀ (s : Shared) (H : Hp) (C : Addr) (cl : List (Str × Addr)) (fp : List Addr), φ (X.blk s H sc (compEnvC sc cl C X.env) fp)
section
variable {X : Cx}
theorem ps_setDc {i : Nat} {y : Str} {yp : Pos} {kx vx tg it : Expr} {ifs : List Expr} {sc : Scope} {own : List (Str × Nat)} {cp sp : Pos} {wi : TI} {g : TG} {tt : TT} {tk tv : TE} (calm : X.calm = true) (nd : X.N.Nodup) (at_ : X.N[i]? = some y) (loc : X.env.scope.names.lookup y = some .local)
    (sw : swapsWith (.DictComp kx vx [⟨tg, it, ifs, 0⟩] sc cp) (some (.Name y yp)) sp.line X.env = pure true) (pi : PI X tg it wi) (bk : BlkOk X.N X.env.scope sc own) (pg : Blk X sc fun Y => PG Y tg g) (pt : Blk X sc fun Y => PTs Y ifs tt) (pk : Blk X sc fun Y => PE Y kx tk) (pv : Blk X sc fun Y => PE Y vx tv)
    (fl : ∀ x, foldedSetIterable it X.env x = pure x := by intro _; rfl) : PS X (.Assign [.Name y yp] (.DictComp kx vx [⟨tg, it, ifs, 0⟩] sc cp) sp) (tAsg (tDc wi g tt tk tv (own.map (·.2))) (gName i)) := ⟨fun pins s σ H D I want => by
  rw [exec_Assign_Name_used _ _ _ _ sw]
  refine wpAny_bind (wpAny_standAt ?_); refine wpAny_bind ?_
  show wpAny _ X.A (do let _ ← comprehension (.DictComp kx vx [⟨tg, it, ifs, 0⟩] sc cp) sc X.env (firstIterPos [⟨tg, it, ifs, 0⟩] cp) newDict false (eval it X.env) (some (assign (.Name y yp) X.env))) _ _ s
  have want : tDc wi g tt tk tv (own.map (·.2)) σ H (fun x G => gName i x σ G D.nx) := want
  refine wpAny_bind (thn (dc_core (Qf := fun _ t => SP X pins D .next t) calm nd I pi bk pg pt pk pv fl want fun d c t m G J fin ns ok => ?_) fun _ _ z => wpAny_pure (wpAny_pure z))
  show wpAny _ _ (assign (.Name y yp) X.env (.ref d)) _ _ _
  refine wpAny_assign_Name (store_ok2 (v := V.ref d) J nd at_ (.inl loc) rfl (fun t2 J2 got => ?_) (.inr loc))
  obtain ⟨a, sb, ha⟩ := got
  obtain ⟨k0, k1, k2, k3, k4, k5⟩ := ok
  have apart : c ≠ a := ha.elim (fun z => by rw [z]; exact k1) fun z q => k4 y a z q.symm
  exact ⟨m, ns.sameBut sb apart, fun h3 sb3 => ⟨_, G, J2.turned (t' := t2.toks) (fun b _ hb q => (sb3.2 b hb).trans q) k0 k1 k3 k4 k5, fin⟩⟩⟩
theorem sw_dict {kx vx : Expr} {gs : List Comprehension} {sc : Scope} {cp yp : Pos} {y : Str} {l : Nat} {env : Env} (fn : env.scope.kind = .function) (loc : env.scope.names.lookup y = some .local) (line : (yp.line == cp.line) = true)
    (no : (sc.names.any fun (n, k) => n == y && (k == .local || k == .cell)) = false) : swapsWith (.DictComp kx vx gs sc cp) (some (.Name y yp)) l env = pure true := by
  have e1 : env.kindOf y = some .local := loc
  have e2 : env.blockKind = .function := by
    unfold Env.blockKind
    rw [fn]
    rfl
  unfold swapsWith
  simp only [e2, e1, no, Expr.pos, line]
  rfl
end
section
variable {γ β : Type} {F : Fr} {Γ : QL.Ctx} {R : Rel γ} {Rb : Rel β} {td te tk : TE} {D : Ends} {K : PySem.W.Frag} {kvs : List (Str × γ)}
theorem at_setDcItems {i : Nat} {g : TG} {vs js : List Nat} {f : Str × γ → QL.Ctx} {tt : TT} {PT : Str × γ → Bool → Prop} {PK : Str × γ → Str → Prop} {PY : Str × γ → β → Prop} (pt : PthV Γ td (RD R) kvs) (hg : EvG (wipeC Γ vs) g js (RT2 K RS R) f) (hj : ∀ j ∈ js, j ∈ vs) (hf : ∀ a b, feet (f a) b → feet (wipeC Γ vs) b)
    (hle : ∀ a, Le (f a) (wipeC Γ vs)) (nv : NoVol Γ vs) (hz : kvs.length ≤ 10000) (ht : ∀ x ∈ kvs, EvT (f x) tt (PT x)) (hk : ∀ x ∈ kvs, PT x true → Ev (f x) tk RS (PK x)) (he : ∀ x ∈ kvs, PT x true → Ev (f x) te Rb (PY x))
    (n : ∀ ps, Pick PT (fun x p => PK x p.1 ∧ PY x p.2) kvs ps → At F (Γ.set i (.va (RD Rb) (puts ps))) D.nx) (l : i < Γ.length := by (simp only [List.length_cons, List.length_nil, List.length_set]; omega)) : At F Γ (tLkS (tAsg (tDc (iItems td) g tt tk te vs) (gName i)) D) :=
  at_lkS pt fun F1 D1 br σ h H d od ks S s c hd rs fz ev => dc_at (wi_items ev hd rs fz S s.ex) (fun _ _ _ => trivial) hg hj hf hle nv hz ht hk he _ fun v xs h' H' pl s' S' r => by
    obtain ⟨ps, pk, rfl⟩ := pl
    exact br.nx _ (n ps pk) _ h' H' (S'.putV r l) (feet_stp (Γ := Γ) (σ := σ) s s' c) fun b z => c b (feet_va z)
end
end QL
namespace QL
open PySem L2
section
variable {γ : Type} {Γ : QL.Ctx} {R : Rel γ} {tk tv : TE} {k : Str} {a : γ}
/-- {k: v} -/
theorem ev_disp1 (h1 : Ev Γ tk RS (fun x => x = k)) (h2 : Ev Γ tv R (fun x => x = a)) : Ev Γ (tDisp [(tk, tv)]) (RD R) (fun x => x = [(k, a)]) := fun σ h H S e Q q => by
  intro p np
  have st0 : Stp MNo h H h (upd H p (.dK [])) := .newU e np
  have nf : ¬ feet Γ p := fun z => S.live z np
  refine h1 σ h _ (S.stepNo st0) st0.ex _ fun x kx ha Ha pa sa Sa ra => h2 σ ha Ha Sa sa.ex _ fun y ay hb Hb pb sb Sb rb => ?_
  cases ra
  subst pa
  subst pb
  have ab := sa.tr sb
  have pH : Hb p = some (.dK []) := ab.keep p _ nf upd_same
  have ph : hb p = none := ab.outF (e.free np) (by rw [upd_same]; exact fun z => nomatch z)
  refine ⟨pH, [(Sum.inr kx, y)], rfl, by simp, ?_⟩
  let M : Addr → Prop := fun b => feet Γ b ∨ b = p
  have s1 : Stp M h (upd H p (.dK [])) hb (upd Hb p (.dK (mergeK [] [(Sum.inr kx, y)]))) := (ab.mono fun b z => .inl z).tr (.mut ab.ex ph (.inr rfl) (ne_some pH))
  have s2 : Stp (feet Γ) h H hb (upd Hb p (.dK (mergeK [] [(Sum.inr kx, y)]))) := st0.no.trans s1 fun b z => z.imp id fun z => by rw [z]; exact np
  have sm : Stp (fun b => b = p) hb Hb hb (upd Hb p (.dK (mergeK [] [(Sum.inr kx, y)]))) := .mut ab.ex ph rfl (ne_some pH)
  have S3 := Sb.step sm fun b z w => nf (by rw [← w]; exact z)
  have x1 : Ext hb (upd hb p (.dK (mergeK [] [(Sum.inr kx, y)]))) := .new ph
  exact q (.ref p) [(kx, ay)] _ _ rfl (s2.knows ph upd_same np) (S3.knows ph nf) ⟨p, _, rfl, upd_same, .cons ⟨rfl, R.mono x1 rb⟩ .nil⟩
end
end QL

set_option Elab.async false
set_option linter.all false
set_option maxRecDepth 100000
namespace QL
open PySem L2

/-! ### == of lists -/
/-- data that may be compared, so deep -/
def Cd (d : PyData) (n : Nat) : Prop := d.canLay0 = true ∧ d.depth ≤ n
theorem cd_int (i : Int) : Cd (.int i) 0 := ⟨by simp [PyData.canLay0], by simp [PyData.depth]⟩
theorem cd_bl (i : Bool) : Cd (.bool i) 0 := ⟨by simp [PyData.canLay0], by simp [PyData.depth]⟩
theorem cd_str {s : Str} (h : ∀ c ∈ tl s, isSg c = true) : Cd (.str s) 0 := by
  refine ⟨?_, by simp [PyData.depth]⟩
  rw [PyData.canLay0]
  show s.cps.all _ = true
  rw [← Array.all_toList, List.all_eq_true]; intro c m
  have := h c m
  unfold isSg isLo at this
  simp at this
  apply decide_eq_true; omega
theorem cd_all {n : Nat} : ∀ {l : List PyData}, (∀ d ∈ l, Cd d n) → PyData.canLayAll0 l = true ∧ PyData.depthAll l ≤ n
  | [], _ => ⟨by simp [PyData.canLayAll0], by simp [PyData.depthAll]⟩
  | d :: l, h => by
    obtain ⟨h1, h2⟩ := h d List.mem_cons_self
    obtain ⟨h3, h4⟩ := cd_all fun e m => h e (List.mem_cons_of_mem _ m)
    refine ⟨by rw [PyData.canLayAll0, h1, h3]; rfl, ?_⟩
    rw [PyData.depthAll]
    omega
theorem cd_list {n : Nat} {l : List PyData} (h : ∀ d ∈ l, Cd d n) : Cd (.list l) (n + 1) := by
  obtain ⟨h1, h2⟩ := cd_all h
  exact ⟨by rw [PyData.canLay0]; exact h1, by rw [PyData.depth]; omega⟩
theorem cd_tup {n : Nat} {l : List PyData} (h : ∀ d ∈ l, Cd d n) : Cd (.tuple l) (n + 1) := by
  obtain ⟨h1, h2⟩ := cd_all h
  exact ⟨by rw [PyData.canLay0]; exact h1, by rw [PyData.depth]; omega⟩
theorem Cd.up {d : PyData} {n m : Nat} (h : Cd d n) (l : n ≤ m) : Cd d m := ⟨h.1, Nat.le_trans h.2 l⟩
theorem Cd.shaped {d : PyData} {n : Nat} (h : Cd d n) (l : n ≤ 64) : SeqAt.shaped d = true := by
  unfold SeqAt.shaped
  rw [h.1, decide_eq_true (Nat.le_trans h.2 l)]
  rfl
def DpR {α : Type} (K : PySem.W.Frag) (R : Rel α) (f : α → PyData) : Prop := ∀ a v h H, R.r a v h → Ex h H → Dp K H v (f a)
section
variable {α β : Type} {K : PySem.W.Frag} {R : Rel α} {S : Rel β} {f : α → PyData} {g : β → PyData}
theorem dp_int : DpR K RI .int := fun a v h H r _ => by rw [show v = .int a from r]; exact .int a
theorem dp_bl : DpR K RB .bool := fun a v h H r _ => by rw [show v = .bl a from r]; exact .bl a
theorem dp_str : DpR K RS .str := fun a v h H r _ => by rw [show v = .str a from r]; exact .str a
theorem dp_reps (k : DpR K R f) {h H : Hp} (e : Ex h H) : ∀ {l : List α} {vs : List V}, Reps R h l vs → DpAll K H vs (l.map f)
  | _, _, .nil => .nil
  | _, _, .cons r t => .cons (k _ _ _ _ r e) (dp_reps k e t)
theorem dp_l (k : DpR K R f) : DpR K (RL R) (fun l => .list (l.map f)) := fun a v h H r e => by
  obtain ⟨p, vs, rfl, hp, rs⟩ := r
  exact .lst (sqL e hp) (dp_reps k e rs)
theorem dp_t2 (k1 : DpR K R f) (k2 : DpR K S g) : DpR K (RT2 K R S) (fun p => .tuple [f p.1, g p.2]) := fun a v h H r e => by
  obtain ⟨p, x, y, rfl, kt, r1, r2⟩ := r
  exact .tup (kt.sq e) (.cons (k1 _ _ _ _ r1 e) (.cons (k2 _ _ _ _ r2 e) .nil))
end
/-- numbers and truth values, mixed -/
def RFl : Rel PyData := ⟨fun d v _ => (∃ i, d = .int i ∧ v = .int i) ∨ ∃ b, d = .bool b ∧ v = .bl b, fun _ z => z⟩
theorem dp_fl {K : PySem.W.Frag} : DpR K RFl id := fun a v h H r _ => by
  rcases r with ⟨i, rfl, rfl⟩ | ⟨i, rfl, rfl⟩
  · exact .int i
  · exact .bl i
section
variable {α β γ : Type} {Γ : QL.Ctx} {te ta tb : TE} {K : PySem.W.Frag} {R : Rel α}
theorem ev_flI {a : Int} (h : Ev Γ te RI (fun x => x = a)) : Ev Γ te RFl (fun x => x = .int a) := h.cast fun x v h e r => ⟨_, rfl, .inl ⟨a, rfl, by rw [← e]; exact r⟩⟩
theorem ev_flB {a : Bool} (h : Ev Γ te RB (fun x => x = a)) : Ev Γ te RFl (fun x => x = .bool a) := h.cast fun x v h e r => ⟨_, rfl, .inr ⟨a, rfl, by rw [← e]; exact r⟩⟩
/-- what is evaluated is this data, from now on -/
def EvP (Γ : QL.Ctx) (K : PySem.W.Frag) (te : TE) (d : PyData) : Prop :=
  ∀ σ h H, Sat Γ σ h H → Ex h H → ∀ Q : VK, (∀ v h' H', Stp (feet Γ) h H h' H' → Sat Γ σ h' H' → (∀ h2 H2, Stp (feet Γ) h' H' h2 H2 → Sat Γ σ h2 H2 → Dp K H2 v d) → Q v H') → te σ H Q
theorem evp {f : α → PyData} {a : α} (k : DpR K R f) (h : Ev Γ te R (fun x => x = a)) : EvP Γ K te (f a) := fun σ h0 H S e Q q =>
  h σ h0 H S e _ fun v x h1 H1 px s1 S1 r => by
    subst px
    exact q v h1 H1 s1 S1 fun h2 H2 s2 _ => k _ _ _ _ (R.mono s2.kn r) s2.ex
theorem evp_list {f : α → PyData} {l : List α} (k : DpR K R f) (h : Ev Γ te (RL R) (fun x => x = l)) : EvP Γ K te (.list (l.map f)) := evp (f := fun l : List α => PyData.list (l.map f)) (dp_l k) h
theorem evp_own {f : α → PyData} {i : Nat} {p : Addr} {l : List α} (k : DpR K R f) (e : Γ[i]? = some (.vo (VL p R l))) : EvP Γ K (tVar i) (.list (l.map f)) := fun σ h0 H S x Q q =>
  ⟨_, (S.ok i _ e).1, q (.ref p) h0 H (.refl x) S fun h2 H2 s2 S2 => by
    obtain ⟨_, vs, ep, rs⟩ := S2.ok i _ e
    exact .lst (.inl (.inl ep)) (dp_reps k s2.ex rs)⟩
theorem ev_eqP {d : PyData} {n : Nat} (h1 : EvP Γ K ta d) (h2 : EvP Γ K tb d) (c : Cd d n) (l : n ≤ 64) : Ev Γ (tOp (rEqD K) ta tb) RB (fun x => x = true) := fun σ h H S e Q q =>
  h1 σ h H S e _ fun v ha Ha sa Sa ka => h2 σ ha Ha Sa sa.ex _ fun u hb Hb sb Sb kb =>
    ⟨d, d, ka hb Hb sb Sb, kb hb Hb (.refl sb.ex) Sb, c.shaped l, c.shaped l, by rw [PySem.SeqAt.eqv_refl d c.1]; exact q _ true hb Hb rfl (sa.tr sb) Sb rfl⟩
theorem ev_neP {d : PyData} {n : Nat} (h1 : EvP Γ K ta d) (h2 : EvP Γ K tb d) (c : Cd d n) (l : n ≤ 64) : Ev Γ (tOp (rNeD K) ta tb) RB (fun x => x = false) := fun σ h H S e Q q =>
  h1 σ h H S e _ fun v ha Ha sa Sa ka => h2 σ ha Ha Sa sa.ex _ fun u hb Hb sb Sb kb =>
    ⟨d, d, ka hb Hb sb Sb, kb hb Hb (.refl sb.ex) Sb, c.shaped l, c.shaped l, by rw [PySem.SeqAt.eqv_refl d c.1]; exact q _ false hb Hb rfl (sa.tr sb) Sb rfl⟩
end

/-! ### == of dicts -/
def rEqDG : R2 := fun x y H Q => ∃ a b ks ls r, x = .ref a ∧ y = .ref b ∧ Rd H a (.dK ks) ∧ Rd H b (.dK ls) ∧ ((ks.length = ls.length ∧ (∀ p ∈ ks, valV ls p.1 = some p.2 ∧ flatB p.2 = true) ∧ r = true) ∨ (ks.length ≠ ls.length ∧ r = false)) ∧ Q (.bl r) H
theorem op_eqDG {X : Cx} (hu : X.A.units < cLine) : OpR X (compareOp .Eq) rEqDG := by
  rintro pins s σ H x y v u Q I rx ry ⟨a, b, ks, ls, r, rfl, rfl, ea, eb, how, q⟩
  cases rx
  cases ry
  obtain ⟨_, la, va, ka, da⟩ := dk_rd I.hok ea
  obtain ⟨_, lb, vb, kb, db⟩ := dk_rd I.hok eb
  have na : ks.length = va.length := Paired.length ka
  have nb : ls.length = vb.length := Paired.length kb
  rcases how with ⟨same, all, rfl⟩ | ⟨other, rfl⟩
  · exact PySem.W.keq_eq (knd := mixKind X.prog X.w) (r := true) la lb da db hu (fun _ => hits_all kb ka all) (fin_bl I q (by simp [← na, ← nb, same]))
  · exact PySem.W.keq_eq (knd := mixKind X.prog X.w) (r := true) la lb da db hu (fun z => absurd (by omega) other) (fin_bl I q (by simp [← na, ← nb, other]))
section
variable {Γ : QL.Ctx} {ta tb : TE}
/-- d == {} -/
theorem ev_eqD0 {α : Type} {R R' : Rel α} {l : List (Str × α)} (h1 : EvD Γ ta R (fun x => x = l)) (h2 : EvD Γ tb R' (fun x => x = [])) : Ev Γ (tOp rEqDG ta tb) RB (fun x => x = decide (l.length = 0)) := fun σ h H S e Q q =>
  h1 σ h H S e _ fun a k1 ha Ha p1 sa Sa ga => h2 σ ha Ha Sa sa.ex _ fun b k2 hb Hb p2 sb Sb gb => by
    subst p1
    subst p2
    obtain ⟨ks, rd, r⟩ := ga hb Hb sb Sb
    obtain ⟨ls, rd2, r2⟩ := gb hb Hb (.refl sb.ex) Sb
    cases r2
    have n := r.len
    refine ⟨a, b, ks, [], decide (k1.length = 0), rfl, rfl, rd, rd2, ?_, q _ _ hb Hb rfl (sa.tr sb) Sb rfl⟩
    by_cases z : k1.length = 0
    · left
      have zk : ks = [] := List.eq_nil_of_length_eq_zero (by omega)
      exact ⟨by rw [zk], fun p m => (by rw [zk] at m; cases m), decide_eq_true z⟩
    · exact .inr ⟨by simpa using (by omega : ¬ ks.length = 0), decide_eq_false z⟩
/-- d == e, the same numbers -/
theorem ev_eqDD {l : List (Str × Int)} (h1 : EvD Γ ta RI (fun x => x = l)) (h2 : EvD Γ tb RI (fun x => x = l)) (n : (keys l).Nodup) : Ev Γ (tOp rEqDG ta tb) RB (fun x => x = true) := fun σ h H S e Q q =>
  h1 σ h H S e _ fun a k1 ha Ha p1 sa Sa ga => h2 σ ha Ha Sa sa.ex _ fun b k2 hb Hb p2 sb Sb gb => by
    subst p1
    subst p2
    obtain ⟨ks, rd, r⟩ := ga hb Hb sb Sb
    obtain ⟨ls, rd2, r2⟩ := gb hb Hb (.refl sb.ex) Sb
    have e1 := kvs_ints r
    have e2 := kvs_ints r2
    subst e1
    subst e2
    refine ⟨a, b, _, _, true, rfl, rfl, rd, rd2, .inl ⟨rfl, fun p m => ?_, rfl⟩, q _ _ hb Hb rfl (sa.tr sb) Sb rfl⟩
    obtain ⟨x, mx, rfl⟩ := List.mem_map.mp m
    rcases r.val x.1 with ⟨z, _⟩ | ⟨c, v, z, w, rv⟩
    · rw [getS_mem n (k := x.1) (v := x.2) mx] at z; cases z
    · rw [getS_mem n (k := x.1) (v := x.2) mx] at z; cases z
      exact ⟨by show valV _ (Sum.inr x.1) = _; rw [w]; exact congrArg some rv, rfl⟩
end
end QL

set_option Elab.async false
set_option linter.all false
set_option maxRecDepth 100000
namespace QL
open PySem L2
section
variable {γ : Type} {Γ : QL.Ctx} {te ta : TE} {R : Rel γ} {K : PySem.W.Frag} {F : Fr} {D : Ends}
/-- dict(pairs), one's own -/
theorem eo_dictP {P : List (Str × γ) → Prop} (k : Ev Γ te (RL (RT2 K RS R)) P) : EvO Γ (tCB (rDictPr K) (tCons te tNil)) (fun p d => VD p R d) (fun d => ∃ l, P l ∧ d = puts l) := fun σ h H S e Q q =>
  k σ h H S e _ fun v l h1 H1 pl s1 S1 ra => by
    obtain ⟨p, vs, rfl, hp, rs⟩ := ra
    have aux : ∀ {l : List (Str × γ)} {vs : List V}, Reps (RT2 K RS R) h1 l vs → ∃ (ps : List Addr) (kvs : List (Key × V)), vs = ps.map V.ref ∧ Paired (fun p kv => SqT K H1 p [kV kv.1, kv.2]) ps kvs ∧ KVs R h1 l kvs := by
      intro l vs r
      induction r with
      | nil => exact ⟨[], [], rfl, .nil, .nil⟩
      | @cons a v l vs r t ih =>
        obtain ⟨ps, kvs, e1, e2, e3⟩ := ih
        obtain ⟨d, y, z, rfl, kt, ry, rz⟩ := r
        refine ⟨d :: ps, (Sum.inr a.1, z) :: kvs, by rw [List.map_cons, e1], .cons ?_ e2, .cons ⟨rfl, rz⟩ e3⟩
        have := kt.sq s1.ex
        rw [show y = V.str a.1 from ry] at this
        exact this
    obtain ⟨ps, kvs, rfl, e2, e3⟩ := aux rs
    refine ⟨p, ps, kvs, rfl, sqL s1.ex hp, e2, fun n nn => ?_⟩
    have st : Stp MNo h1 H1 h1 (upd H1 n (.dK (mergeK [] kvs))) := .newU s1.ex nn
    exact q n (puts l) _ _ ⟨l, pl, rfl⟩ (s1.tr st.no) (S1.stepNo st) (back_none s1 nn) (s1.ex.free nn) ⟨_, upd_same, e3.merge .nil⟩
/-- x, y = {}, {} -/
theorem at_par2D {γ' : Type} {R' : Rel γ'} {i j : Nat} (n : ∀ p p', F.H p = none → F.H p' = none → At F ((Γ.set i (.vo (VD p R []))).set j (.vo (VD p' R' []))) D.nx) (li : i < Γ.length) (lj : j < Γ.length) : At F Γ (tPar i j (tCons tDNewK (tCons tDNewK tNil)) D) := fun σ h H S s f => by
  intro p np p' np'
  have st : Stp MNo h H h (upd H p (.dK [])) := .newU s.ex np
  have S1 := S.stepNo st
  have n0 := back_none s np
  have st' : Stp MNo h (upd H p (.dK [])) h (upd (upd H p (.dK [])) p' (.dK [])) := .newU st.ex np'
  have S2 := S1.stepNo st'
  have pp : p ≠ p' := fun z => by subst z; rw [upd_same] at np'; cases np'
  have np2 : H p' = none := by rw [upd_ne pp.symm] at np'; exact np'
  have n1 := back_none s np2
  have tot := (s.tr st.no).tr st'.no
  refine ⟨.ref p, .ref p', rfl, ?_⟩
  have A1 := S2.put (i := i) (x := some (V.ref p)) (s := .vo (VD p R [])) ⟨rfl, [], by rw [upd_ne pp]; exact upd_same, .nil⟩ (fun b e => by
    obtain rfl : b = p := e
    exact ⟨fun z => S.live z np, s.ex.free np⟩) li
  have A2 := A1.put (i := j) (x := some (V.ref p')) (s := .vo (VD p' R' [])) ⟨rfl, [], upd_same, .nil⟩ (fun b e => by
    obtain rfl : b = p' := e
    exact ⟨fun z => (feet_set z).elim (fun w => pp w.symm) fun w => S.live w np2, s.ex.free np2⟩) (by rw [List.length_set]; exact lj)
  refine n p p' n0 n1 _ h _ A2 tot fun b z => ?_
  rcases feet_set z with e | z
  · obtain rfl : b = p' := e
    exact .inr n1
  · rcases feet_set z with e | z
    · obtain rfl : b = p := e
      exact .inr n0
    · exact f b z
theorem reps_rev {h : Hp} : ∀ {l : List γ} {vs : List V}, Reps R h l vs → Reps R h l.reverse vs.reverse
  | _, _, .nil => .nil
  | a :: l, v :: vs, .cons r t => by
    rw [List.reverse_cons, List.reverse_cons]; exact (reps_rev t).append (.cons r .nil)
/-- l[::-1] -/
theorem ev_rev {l : List γ} (k : Ev Γ te (RL R) (fun x => x = l)) : Ev Γ (tRevL K te) (RL R) (fun x => x = l.reverse) := fun σ h H S e Q q =>
  k σ h H S e _ fun v l' h1 H1 p1 s1 S1 r => by
    obtain ⟨p, vs, rfl, hp, rs⟩ := r
    refine ⟨p, vs, rfl, sqL s1.ex hp, fun n nn => ?_⟩
    have st : Stp MNo h1 H1 (upd h1 n (.lst vs.reverse)) (upd H1 n (.lst vs.reverse)) := .new s1.ex nn
    exact q _ l'.reverse _ _ (by rw [p1]) (s1.tr st.no) (S1.stepNo st) ⟨n, _, rfl, upd_same, reps_rev (rs.mono st.kn)⟩
end
end QL

set_option Elab.async false
set_option linter.all false
set_option maxRecDepth 100000
namespace K11
open PySem L2 QL
def top (i : Nat) : Stmt := PySem.Challenge.pw_quietsums_k11_sums_by_numbers.main.body.getD i (.Pass ⟨0, 0, 0, 0⟩)
abbrev s_wall : Stmt := top 0
abbrev s_is_integer : Stmt := top 15
abbrev s_is_number : Stmt := top 16
abbrev s_is_name : Stmt := top 17
abbrev s_is_world : Stmt := top 18
abbrev s_require_modulus : Stmt := top 19
abbrev sSum_init : Stmt := inClass (top 21) 0
abbrev sSum_of : Stmt := inClass (top 21) 1
abbrev sSum_parse : Stmt := inClass (top 21) 2
abbrev sSum_modulus : Stmt := inClass (top 21) 3
abbrev sSum_constant : Stmt := inClass (top 21) 4
abbrev sSum_is_constant : Stmt := inClass (top 21) 5
abbrev sSum_weights : Stmt := inClass (top 21) 6
abbrev sSum_names : Stmt := inClass (top 21) 7
abbrev sSum_weight : Stmt := inClass (top 21) 8
abbrev sSum_at : Stmt := inClass (top 21) 9
abbrev sSum_put : Stmt := inClass (top 21) 10
abbrev sSum_add : Stmt := inClass (top 21) 11
abbrev sSum_sub : Stmt := inClass (top 21) 12
abbrev sSum_neg : Stmt := inClass (top 21) 13
abbrev sSum_mul : Stmt := inClass (top 21) 14
abbrev sSum_eq : Stmt := inClass (top 21) 15
abbrev sSum_str : Stmt := inClass (top 21) 16
abbrev sSum_repr : Stmt := inClass (top 21) 17
abbrev s_is_sum : Stmt := top 22
abbrev s_require_addend : Stmt := top 23
abbrev s_is_sum_world : Stmt := top 24
abbrev s_taken_modulo : Stmt := top 25
abbrev s_added : Stmt := top 26
abbrev s_terms : Stmt := top 27
abbrev s_law_rng : Stmt := top 29
abbrev s_law_draw : Stmt := top 30
abbrev s_law_choice : Stmt := top 31
abbrev s_law_some_names : Stmt := top 32
abbrev s_law_drawn : Stmt := top 33
abbrev s_law_added : Stmt := top 34
abbrev s_law_replaced : Stmt := top 35
abbrev s_law_value : Stmt := top 36
abbrev s_law_tells : Stmt := top 37
abbrev s_law_right : Stmt := top 38
abbrev s_law_values_right : Stmt := top 39
abbrev s_law : Stmt := top 40
/-- the built-in names are nobody else's -/
structure Txt (K : PySem.W.Frag) (mg : Str → Option Value) : Prop where
  b_len : mg "len" = none
  b_range : mg "range" = none
  b_abs : mg "abs" = none
  b_max : mg "max" = none
  b_min : mg "min" = none
  b_int : mg "int" = none
  b_isinstance : mg "isinstance" = none
  b_list : mg "list" = none
  b_dict : mg "dict" = none
  b_sorted : mg "sorted" = none
  b_sum : mg "sum" = none
  b_all : mg "all" = none
  b_divmod : mg "divmod" = none
  b_str : mg "str" = none
  b_bool : mg "bool" = none
  g_PRIMES : ∃ p, Gv mg "PRIMES" (.ref p) ∧ ∀ h, KT K h p (([2, 3, 5, 7, 11, 13] : List Int).map V.int)
  g_LETTERS : Gv mg "LETTERS" (.str LETTERS)
  g_SIGNS : Gv mg "NAME_SIGNS" (.str SIGNS)
  g_LONGEST : Gv mg "LONGEST_NAME" (.int 12)
end K11

set_option Elab.async false
set_option linter.all false
set_option maxRecDepth 100000
namespace K11
open PySem L2 QL
local macro_rules | `(tactic| walk_at "side") => `(tactic| first
  | decide | omega | exact Or.inl ⟨by omega, by omega⟩ | exact Or.inr ⟨by omega, by omega⟩ | exact ⟨by omega, by omega⟩ | exact ⟨by omega, by omega, by omega⟩ | assumption)
local macro_rules | `(tactic| walk_at "ev") => `(tactic| first
  | (((with_reducible refine' ev_var ?k1); (case k1 => exact rfl)))
  | with_reducible exact ev_int
  | with_reducible exact ev_str
  | with_reducible exact ev_bl
  | with_reducible exact ev_non
  | with_reducible exact ev_ty
  | ((with_reducible refine' ev_addD ?k1 ?k2); (case k1 => walk_at "ev"); (case k2 => walk_at "ev"))
  | ((with_reducible refine' ev_subD ?k1 ?k2); (case k1 => walk_at "ev"); (case k2 => walk_at "ev"))
  | ((with_reducible refine' ev_ltD ?k1 ?k2); (case k1 => walk_at "ev"); (case k2 => walk_at "ev"))
  | ((with_reducible refine' ev_leD ?k1 ?k2); (case k1 => walk_at "ev"); (case k2 => walk_at "ev"))
  | ((with_reducible refine' ev_gtD ?k1 ?k2); (case k1 => walk_at "ev"); (case k2 => walk_at "ev"))
  | ((with_reducible refine' ev_geD ?k1 ?k2); (case k1 => walk_at "ev"); (case k2 => walk_at "ev"))
  | ((with_reducible refine' ev_eqID ?k1 ?k2); (case k1 => walk_at "ev"); (case k2 => walk_at "ev"))
  | ((with_reducible refine' ev_neID ?k1 ?k2); (case k1 => walk_at "ev"); (case k2 => walk_at "ev"))
  | ((with_reducible refine' ev_eqSD ?k1 ?k2); (case k1 => walk_at "ev"); (case k2 => walk_at "ev"))
  | ((with_reducible refine' ev_neSD ?k1 ?k2); (case k1 => walk_at "ev"); (case k2 => walk_at "ev"))
  | ((with_reducible refine' ev_maxD ?k1 ?k2); (case k1 => walk_at "ev"); (case k2 => walk_at "ev"))
  | ((with_reducible refine' ev_minD ?k1 ?k2); (case k1 => walk_at "ev"); (case k2 => walk_at "ev"))
  | ((with_reducible refine' ev_t2D ?k1 ?k2); (case k1 => walk_at "ev"); (case k2 => walk_at "ev"))
  | ((with_reducible refine' ev_mulD ?k1 ?k2 ?k3); (case k1 => walk_at "ev"); (case k2 => walk_at "ev"); (case k3 => walk_at "side"))
  | ((with_reducible refine' ev_divD ?k1 ?k2 ?k3); (case k1 => walk_at "ev"); (case k2 => walk_at "ev"); (case k3 => walk_at "side"))
  | ((with_reducible refine' ev_modD ?k1 ?k2 ?k3); (case k1 => walk_at "ev"); (case k2 => walk_at "ev"); (case k3 => walk_at "side"))
  | ((with_reducible refine' ev_powD ?k1 ?k2 ?k3); (case k1 => walk_at "ev"); (case k2 => walk_at "ev"); (case k3 => walk_at "side"))
  | ((with_reducible refine' ev_catSD ?k1 ?k2 ?k3); (case k1 => walk_at "ev"); (case k2 => walk_at "ev"); (case k3 => walk_at "side"))
  | ((with_reducible refine' ev_stripD ?k1 ?k2 ?k3); (case k1 => walk_at "ev"); (case k2 => walk_at "ev"); (case k3 => walk_at "side"))
  | ((with_reducible refine' ev_divmodD ?k1 ?k2 ?k3); (case k1 => walk_at "ev"); (case k2 => walk_at "ev"); (case k3 => walk_at "side"))
  | ((with_reducible refine' ev_intD ?k1); (case k1 => walk_at "ev"))
  | ((with_reducible refine' ev_absD ?k1); (case k1 => walk_at "ev"))
  | ((with_reducible refine' ev_negD ?k1); (case k1 => walk_at "ev"))
  | ((with_reducible refine' ev_lenLD ?k1); (case k1 => walk_at "ev"))
  | ((with_reducible refine' ev_lenScrD ?k1); (case k1 => walk_at "ev"))
  | ((with_reducible refine' ev_lenDD ?k1); (case k1 => walk_at "ev"))
  | ((with_reducible refine' ev_fstD ?k1); (case k1 => walk_at "ev"))
  | ((with_reducible refine' ev_sndD ?k1); (case k1 => walk_at "ev"))
  | ((with_reducible refine' ev_notVD ?k1); (case k1 => walk_at "ev"))
  | ((with_reducible refine' ev_listLD ?k1); (case k1 => walk_at "ev"))
  | ((with_reducible refine' ev_listDD ?k1); (case k1 => walk_at "ev"))
  | ((with_reducible refine' ev_dictDD ?k1); (case k1 => walk_at "ev"))
  | ((with_reducible refine' ev_dictPD ?k1); (case k1 => walk_at "ev"))
  | ((with_reducible refine' ev_allD ?k1); (case k1 => walk_at "ev"))
  | ((with_reducible refine' ev_anyD ?k1); (case k1 => walk_at "ev"))
  | ((with_reducible refine' ev_sumD ?k1); (case k1 => walk_at "ev"))
  | ((with_reducible refine' ev_dinD ?k1 (ed_knownD ?k2)); (case k1 => walk_at "ev"); (case k2 => walk_at "ev"))
  | (refine' ev_dget2D (ed_knownD ?k1) ?k2 ?k3; (case k1 => walk_at "ev"); (case k2 => walk_at "ev"); (case k3 => walk_at "ev")))
local macro_rules | `(tactic| walk_at "et") => `(tactic| first
  | (refine' et_testD ?k1; (case k1 => walk_at "ev")) | (refine' et_valD ?k1; (case k1 => walk_at "ev")) | (refine' et_notD ?k1; (case k1 => walk_at "et")))
local macro_rules | `(tactic| walk_at "ea") => `(tactic| first
  | exact ea_nilD | ((refine' ea_consD ?k1 ?k2); (case k1 => walk_at "ev"); (case k2 => walk_at "ea")) | (refine' ea_voD rfl ?k1; (case k1 => walk_at "ea")))
local macro_rules | `(tactic| walk_at "es") => `(tactic| first
  | exact eas_nilD | ((refine' eas_consD ?k1 ?k2); (case k1 => walk_at "ev"); (case k2 => walk_at "es")))
local macro_rules | `(tactic| walk_at "set") => `(tactic| (first | refine' sq_setD ?k1 ?k2 | refine' at_setD ?k1 ?k2); (case k1 => walk_at "ev"))
local macro_rules | `(tactic| walk_at "le") => `(tactic| first | exact le_nil | (refine le_same ?_; walk_at "le") | (refine le_drop ?_; walk_at "le"))

section
variable {w : World} {P : Program} {mg : Str → Option Value} {K : PySem.W.Frag} {base : Heap}

theorem sc_law_rng : FnScope ["_law_script", "_law_k", "_law_cell"] ["_law_script", "_law_k"] (defScope s_law_rng) := ⟨rfl, rfl, rfl, by decide +kernel, rfl, by decide +kernel, by decide +kernel⟩
def preRng (K : PySem.W.Frag) (L : List Slot) (P : Unit → Prop) : Prop := ∃ (s : List Int) (k : Nat), L = [.va (RScr K) s, .va RI (k : Int)] ∧ k < 100 ∧ P = fun _ => True
theorem ok_law_rng {f : Addr} {fd : FuncData} (F : Fun K "_law_rng" "_law_rng" s_law_rng f fd) (T : Txt K mg) : FnOk P w K mg base CX0 1 f fd ["_law_script", "_law_k"] (FSpG WRng (preRng K)) := by
  refine F.ok sc_law_rng (fspG_len (n := 2) fun L P ⟨s, k, e, _⟩ => by rw [e]; rfl) (fun cdv A outer s H vs Q E hr h => ?_)
  refine ⟨_, (pss_cons (ps_set (i := 2) sc_law_rng.nd rfl (by first | exact Or.inl rfl | exact Or.inr rfl) (pe_op opAdd (pe_op opMul pe_int (pv 1)) pe_int)) (pss_cons (ps_if (pt_cmpR opLt (pv 1) (pe_callB clLen (by rfl) T.b_len (by decide +kernel) (pa_cons (pv 0) pa_nil)) (nomark _)) (pss_one (ps_set (i := 2) sc_law_rng.nd rfl (by first | exact Or.inl rfl | exact Or.inr rfl) (pe_ix ix_list (pv 0) (pv 1) (fun _ _ => rfl)))) pss_nil) (pss_one (ps_ret (pe_lst (pa_cons (pe_callB (clMax rfl) (by rfl) T.b_max (by decide +kernel) (pa_cons pe_int (pa_cons (pe_op opSub (pe_callB clAbs (by rfl) T.b_abs (by decide +kernel) (pa_cons (pv 2) pa_nil)) (pe_op opPow pe_int pe_int)) pa_nil))) (pa_cons (pe_op opAdd (pe_op opMod (pe_op opMul (pe_callTy clInt (by rfl) T.b_int (by decide +kernel) (pa_cons (pe_op opAdd (pe_op opMod (pe_callTy clInt (by rfl) T.b_int (by decide +kernel) (pa_cons (pe_callB clAbs (by rfl) T.b_abs (by decide +kernel) (pa_cons (pv 2) pa_nil)) pa_nil)) pe_int) pe_int) pa_nil)) (pe_op opPow (pe_op opAdd (pe_op opMul pe_int (pv 1)) pe_int) pe_int)) pe_int) pe_int) pa_nil))))))), ?_⟩
  refine body_ofG 2 h (fun L P ⟨s, k, e, _⟩ => by rw [e]; rfl) (by decide) fun L P ⟨s, k, eL, hk, eP⟩ F D hR => ?_
  subst eL
  show At F [.va (RScr K) s, .va RI (k : Int), .no] _
  walk_at "set"
  refine (at_cut Int (fun c => [.va (RScr K) s, .va RI (k : Int), .va RI c]) (fun _ => True) (fun N hN => ?_) fun c _ => ?_)
  · refine' at_ifD ?k1 ?k2 ?k3
    case k1 => walk_at "et"
    case k3 => exact fun hc => hN _ trivial
    intro hc
    have hl : k < s.length := by simpa using hc
    exact at_setD (ev_ixScrD (ev_var rfl) (ev_var rfl) rfl (List.getElem?_eq_getElem hl)) (hN _ trivial)
  · refine at_retO hR (eo_rng (PX := fun _ => True) (PY := fun y => 0 ≤ y ∧ y < 2147483549) (Ev.imp (by walk_at "ev") fun _ _ => trivial) (Ev.imp (by walk_at "ev") fun z e => ?_) fun _ e => e) (fun W z => by simp at z) fun _ _ => by rw [eP]; trivial
    rw [e]
    omega

theorem sc_law_draw : FnScope ["_law_rng_here", "_law_many", "_law_digit"] ["_law_rng_here", "_law_many"] (defScope s_law_draw) := ⟨rfl, rfl, rfl, by decide +kernel, rfl, by decide +kernel, by decide +kernel⟩
def preDraw (L : List Slot) (P : Int → Prop) : Prop := ∃ (p : Addr) (m : Int), L = [.vo (VRng p), .va RI m] ∧ 0 < m ∧ m < 1000000 ∧ P = fun d => 0 ≤ d ∧ d < m
theorem ok_law_draw {f : Addr} {fd : FuncData} (F : Fun K "_law_draw" "_law_draw" s_law_draw f fd) (T : Txt K mg) : FnOk P w K mg base CX0 1 f fd ["_law_rng_here", "_law_many"] (FSp RI preDraw) := by
  refine F.ok sc_law_draw (fsp_len (n := 2) fun L P ⟨s, k, e, _⟩ => by rw [e]; rfl) (fun cdv A outer s H vs Q E hr h => ?_)
  refine ⟨_, (pss_cons (ps_if (pt_cmpR opGt (pe_ix ix_list (pv 0) pe_int (fun _ _ => rfl)) pe_int (nomark _)) (pss_cons (ps_asg (pe_callB clDivmod (by rfl) T.b_divmod (by decide +kernel) (pa_cons (pe_ix ix_list (pv 0) pe_int (fun _ _ => rfl)) (pa_cons (pv 1) pa_nil))) (pg_tup rfl (pgs_cons (pg_sub (pv 0) pe_int set_list) (pgs_cons (pg_name (i := 2) sc_law_draw.nd rfl (by first | exact Or.inl rfl | exact Or.inr rfl)) pgs_nil)))) (pss_one (ps_ret (pv 2)))) pss_nil) (pss_cons (ps_asg (pe_op opMod (pe_callTy clInt (by rfl) T.b_int (by decide +kernel) (pa_cons (pe_op opAdd (pe_op opMul (pe_ix ix_list (pv 0) pe_int (fun _ _ => rfl)) pe_int) pe_int) pa_nil)) pe_int) (pg_sub (pv 0) pe_int set_list)) (pss_one (ps_ret (pe_op opMod (pe_op opDiv (pe_op opMod (pe_callTy clInt (by rfl) T.b_int (by decide +kernel) (pa_cons (pe_op opMul (pe_ix ix_list (pv 0) pe_int (fun _ _ => rfl)) (pe_ix ix_list (pv 0) pe_int (fun _ _ => rfl))) pa_nil)) pe_int) pe_int) (pv 1)))))), ?_⟩
  refine body_of 2 h (fun L P ⟨s, k, e, _⟩ => by rw [e]; rfl) (by decide) fun L P ⟨p, m, eL, h0, h1, eP⟩ F D hR => ?_
  subst eL
  subst eP
  show At F [.vo (VRng p), .va RI m, .no] _
  have hv : Has [.vo (VRng p), .va RI m] [.vo (VRng p), .va RI m] := fun W z => List.getElem?_of_mem z
  refine at_seq (at_if (et_test (ev_gt (ev_rng0 rfl) ev_int)) (fun _ => ?_) fun _ => ?_)
  · refine sq_rngSet0 (i := 0) rfl (ev_c2 (ev_rng0 rfl) (ev_var rfl) (c_divmod (P := fun q => 0 ≤ q.2 ∧ q.2 < m) fun a b _ e => ?_)) fun q hq => at_ret hR (ev_var rfl) (fun W z => ?_) fun a e => ?_
    · subst e
      exact ⟨⟨by omega, by omega⟩, Int.emod_nonneg _ (by omega), Int.emod_lt_of_pos _ h0⟩
    · exact ⟨0, by simp at z; rw [z]; rfl⟩
    · rw [e]; exact hq
  · refine sq_rngSet1 (i := 0) rfl (ev_mod (ev_c1 (ev_add (ev_mul (ev_rng1 rfl) ev_int fun a b ha hb => .inr ⟨by omega, by omega⟩) ev_int) (c_int fun _ e => e)) ev_int fun a b _ hb => by omega) (fun y hy => ?_) ?_
    · obtain ⟨a, b, _, rfl, rfl⟩ := hy
      exact ⟨by omega, by omega⟩
    · refine at_ret hR (ev_mod (ev_div (ev_mod (ev_c1 (ev_mul (ev_rng1 rfl) (ev_rng1 rfl) fun a b ha hb => .inr ⟨by omega, by omega⟩) (c_int fun _ e => e)) ev_int fun a b _ hb => by omega) ev_int fun a b _ hb => by rw [hb]; exact ⟨by omega, by omega⟩) (ev_var rfl) fun a b _ hb => by omega) (fun W z => ?_) fun a e => ?_
      · exact ⟨0, by simp at z; rw [z]; rfl⟩
      · obtain ⟨a, b, _, rfl, rfl⟩ := e
        exact ⟨Int.emod_nonneg _ (by omega), Int.emod_lt_of_pos _ h0⟩

end
end K11

set_option Elab.async false
set_option linter.all false
set_option maxRecDepth 100000
namespace K11
open PySem L2 QL
local macro_rules | `(tactic| walk_at "side") => `(tactic| first
  | decide | omega | exact Or.inl ⟨by omega, by omega⟩ | exact Or.inr ⟨by omega, by omega⟩ | exact ⟨by omega, by omega⟩ | exact ⟨by omega, by omega, by omega⟩ | assumption)
local macro_rules | `(tactic| walk_at "ev") => `(tactic| first
  | (((with_reducible refine' ev_var ?k1); (case k1 => exact rfl)))
  | with_reducible exact ev_int
  | with_reducible exact ev_str
  | with_reducible exact ev_bl
  | with_reducible exact ev_non
  | with_reducible exact ev_ty
  | ((with_reducible refine' ev_addD ?k1 ?k2); (case k1 => walk_at "ev"); (case k2 => walk_at "ev"))
  | ((with_reducible refine' ev_subD ?k1 ?k2); (case k1 => walk_at "ev"); (case k2 => walk_at "ev"))
  | ((with_reducible refine' ev_ltD ?k1 ?k2); (case k1 => walk_at "ev"); (case k2 => walk_at "ev"))
  | ((with_reducible refine' ev_leD ?k1 ?k2); (case k1 => walk_at "ev"); (case k2 => walk_at "ev"))
  | ((with_reducible refine' ev_gtD ?k1 ?k2); (case k1 => walk_at "ev"); (case k2 => walk_at "ev"))
  | ((with_reducible refine' ev_geD ?k1 ?k2); (case k1 => walk_at "ev"); (case k2 => walk_at "ev"))
  | ((with_reducible refine' ev_eqID ?k1 ?k2); (case k1 => walk_at "ev"); (case k2 => walk_at "ev"))
  | ((with_reducible refine' ev_neID ?k1 ?k2); (case k1 => walk_at "ev"); (case k2 => walk_at "ev"))
  | ((with_reducible refine' ev_eqSD ?k1 ?k2); (case k1 => walk_at "ev"); (case k2 => walk_at "ev"))
  | ((with_reducible refine' ev_neSD ?k1 ?k2); (case k1 => walk_at "ev"); (case k2 => walk_at "ev"))
  | ((with_reducible refine' ev_maxD ?k1 ?k2); (case k1 => walk_at "ev"); (case k2 => walk_at "ev"))
  | ((with_reducible refine' ev_minD ?k1 ?k2); (case k1 => walk_at "ev"); (case k2 => walk_at "ev"))
  | ((with_reducible refine' ev_t2D ?k1 ?k2); (case k1 => walk_at "ev"); (case k2 => walk_at "ev"))
  | ((with_reducible refine' ev_mulD ?k1 ?k2 ?k3); (case k1 => walk_at "ev"); (case k2 => walk_at "ev"); (case k3 => walk_at "side"))
  | ((with_reducible refine' ev_divD ?k1 ?k2 ?k3); (case k1 => walk_at "ev"); (case k2 => walk_at "ev"); (case k3 => walk_at "side"))
  | ((with_reducible refine' ev_modD ?k1 ?k2 ?k3); (case k1 => walk_at "ev"); (case k2 => walk_at "ev"); (case k3 => walk_at "side"))
  | ((with_reducible refine' ev_powD ?k1 ?k2 ?k3); (case k1 => walk_at "ev"); (case k2 => walk_at "ev"); (case k3 => walk_at "side"))
  | ((with_reducible refine' ev_catSD ?k1 ?k2 ?k3); (case k1 => walk_at "ev"); (case k2 => walk_at "ev"); (case k3 => walk_at "side"))
  | ((with_reducible refine' ev_stripD ?k1 ?k2 ?k3); (case k1 => walk_at "ev"); (case k2 => walk_at "ev"); (case k3 => walk_at "side"))
  | ((with_reducible refine' ev_divmodD ?k1 ?k2 ?k3); (case k1 => walk_at "ev"); (case k2 => walk_at "ev"); (case k3 => walk_at "side"))
  | ((with_reducible refine' ev_intD ?k1); (case k1 => walk_at "ev"))
  | ((with_reducible refine' ev_absD ?k1); (case k1 => walk_at "ev"))
  | ((with_reducible refine' ev_negD ?k1); (case k1 => walk_at "ev"))
  | ((with_reducible refine' ev_lenLD ?k1); (case k1 => walk_at "ev"))
  | ((with_reducible refine' ev_lenScrD ?k1); (case k1 => walk_at "ev"))
  | ((with_reducible refine' ev_lenDD ?k1); (case k1 => walk_at "ev"))
  | ((with_reducible refine' ev_fstD ?k1); (case k1 => walk_at "ev"))
  | ((with_reducible refine' ev_sndD ?k1); (case k1 => walk_at "ev"))
  | ((with_reducible refine' ev_notVD ?k1); (case k1 => walk_at "ev"))
  | ((with_reducible refine' ev_listLD ?k1); (case k1 => walk_at "ev"))
  | ((with_reducible refine' ev_listDD ?k1); (case k1 => walk_at "ev"))
  | ((with_reducible refine' ev_dictDD ?k1); (case k1 => walk_at "ev"))
  | ((with_reducible refine' ev_dictPD ?k1); (case k1 => walk_at "ev"))
  | ((with_reducible refine' ev_allD ?k1); (case k1 => walk_at "ev"))
  | ((with_reducible refine' ev_anyD ?k1); (case k1 => walk_at "ev"))
  | ((with_reducible refine' ev_sumD ?k1); (case k1 => walk_at "ev"))
  | ((with_reducible refine' ev_dinD ?k1 (ed_knownD ?k2)); (case k1 => walk_at "ev"); (case k2 => walk_at "ev"))
  | (refine' ev_dget2D (ed_knownD ?k1) ?k2 ?k3; (case k1 => walk_at "ev"); (case k2 => walk_at "ev"); (case k3 => walk_at "ev")))
local macro_rules | `(tactic| walk_at "et") => `(tactic| first
  | (refine' et_testD ?k1; (case k1 => walk_at "ev")) | (refine' et_valD ?k1; (case k1 => walk_at "ev")) | (refine' et_notD ?k1; (case k1 => walk_at "et")))
local macro_rules | `(tactic| walk_at "ea") => `(tactic| first
  | exact ea_nilD | ((refine' ea_consD ?k1 ?k2); (case k1 => walk_at "ev"); (case k2 => walk_at "ea")) | (refine' ea_voD rfl ?k1; (case k1 => walk_at "ea")))
local macro_rules | `(tactic| walk_at "es") => `(tactic| first
  | exact eas_nilD | ((refine' eas_consD ?k1 ?k2); (case k1 => walk_at "ev"); (case k2 => walk_at "es")))
local macro_rules | `(tactic| walk_at "set") => `(tactic| (first | refine' sq_setD ?k1 ?k2 | refine' at_setD ?k1 ?k2); (case k1 => walk_at "ev"))
local macro_rules | `(tactic| walk_at "le") => `(tactic| first | exact le_nil | (refine le_same ?_; walk_at "le") | (refine le_drop ?_; walk_at "le"))

section
variable {w : World} {P : Program} {mg : Str → Option Value} {K : PySem.W.Frag} {base : Heap}

theorem ev_draw {Γ : QL.Ctx} {i : Nat} {p : Addr} {tm : TE} {m : Int} (e : Γ[i]? = some (.vo (VRng p))) (h : Ev Γ tm RI (fun x => x = m)) (h0 : 0 < m) (h1 : m < 1000000) : Ev Γ (tCall (FSp RI preDraw) [] E0 (tCons (tVar i) (tCons tm tNil))) RI (fun d => 0 ≤ d ∧ d < m) :=
  ev_callD (ea_voD e (ea_consD h ea_nilD)) ⟨i, by simp, e, trivial⟩ ⟨p, m, rfl, h0, h1, rfl⟩
theorem sc_law_some_names : FnScope ["_law_rng_here", "_law_many", "_law_found", "_law_k", "_law_size", "_law_name", "_law_turn"] ["_law_rng_here", "_law_many"] (defScope s_law_some_names) := ⟨rfl, rfl, rfl, by decide +kernel, rfl, by decide +kernel, by decide +kernel⟩
def preNames (L : List Slot) (P : List Str → Prop) : Prop := ∃ (p : Addr) (m : Nat), L = [.vo (VRng p), .va RI (m : Int)] ∧ m ≤ 40 ∧ P = fun l => l.length ≤ m ∧ l.Nodup ∧ ∀ s ∈ l, IsName s
theorem ok_law_some_names {f : Addr} {fd : FuncData} (F : Fun K "_law_some_names" "_law_some_names" s_law_some_names f fd) (T : Txt K mg) (O : Own P w K mg base "_law_draw" ["_law_rng_here", "_law_many"] 1 (FSp RI preDraw)) :
    FnOk P w K mg base CX0 2 f fd ["_law_rng_here", "_law_many"] (FSpG (fun p d => VL p RS d) preNames) := by
  refine F.ok sc_law_some_names (fspG_len (n := 2) fun L P ⟨s, k, e, _⟩ => by rw [e]; rfl) (fun cdv A outer s H vs Q E hr h => ?_)
  refine ⟨_, (pss_cons (ps_set (i := 2) sc_law_some_names.nd rfl (by first | exact Or.inl rfl | exact Or.inr rfl) (pe_lst pa_nil)) (pss_cons (ps_for PassesOwn.never rfl (pi_range1 (by rfl) T.b_range (pa_cons (pv 1) pa_nil)) (pg_name (i := 3) sc_law_some_names.nd rfl (by first | exact Or.inl rfl | exact Or.inr rfl)) (pss_cons (ps_set (i := 4) sc_law_some_names.nd rfl (by first | exact Or.inl rfl | exact Or.inr rfl) (pe_ix ix_list (pe_lst (pa_cons pe_int (pa_cons pe_int (pa_cons pe_int (pa_cons pe_int pa_nil))))) (pe_own O (hr.mono (by decide)) (by rfl) (pa_cons (pv 0) (pa_cons pe_int pa_nil))) (fun _ _ => rfl))) (pss_cons (ps_set (i := 5) sc_law_some_names.nd rfl (by first | exact Or.inl rfl | exact Or.inr rfl) (pe_ix ix_str pe_str (pe_own O (hr.mono (by decide)) (by rfl) (pa_cons (pv 0) (pa_cons pe_int pa_nil))) (fun _ _ => rfl))) (pss_cons (ps_set (i := 5) sc_law_some_names.nd rfl (by first | exact Or.inl rfl | exact Or.inr rfl) (pe_op opCatS (pv 5) (pe_bm PySem.F.plainAttrs_str PySem.F.slot_str_join PySem.F.type_str_join mtJoin pe_str (pa_cons (pe_lc (own := [("_law_turn", 6)]) (g := gName 6) rfl sc_law_some_names.nd (pi_range1 (by rfl) T.b_range (pa_cons (pv 4) pa_nil)) (blkOk_by (own := [("_law_turn", 6)]) (N := ["_law_rng_here", "_law_many", "_law_found", "_law_k", "_law_size", "_law_name", "_law_turn"]) (sc := defScope s_law_some_names) (by decide +kernel)) (fun _ _ _ _ _ => (pg_name (i := 6) sc_law_some_names.nd rfl (by first | exact Or.inl rfl | exact Or.inr rfl))) (fun _ _ _ _ _ => pts_nil) (fun _ _ _ _ _ => (pe_ix ix_str pe_str (pe_own O (hr.mono (by decide)) (by rfl) (pa_cons (pv 0) (pa_cons pe_int pa_nil))) (fun _ _ => rfl)))) pa_nil)))) (pss_one (ps_if (pt_cmpR op_notIn_seq (pv 5) (pv 2) rfl) (pss_one (ps_expr (pe_bm PySem.F.plainAttrs_list PySem.F.slot_list_append PySem.F.type_list_append mt_append (pv 2) (pa_cons (pv 5) pa_nil)))) pss_nil)))))) (pss_one (ps_ret (pv 2))))), ?_⟩
  refine body_ofG 2 h (fun L P ⟨s, k, e, _⟩ => by rw [e]; rfl) (by decide) fun L P ⟨p, m, eL, hm, eP⟩ F D hR => ?_
  subst eL
  subst eP
  show At F [.vo (VRng p), .va RI (m : Int), .no, .no, .no, .no, .no] _
  refine sq_newL (R := RS) fun p2 n2 => ?_
  refine at_seq (at_for (js := [3]) (List Str) (fun l => [.vo (VRng p), .va RI (m : Int), .vo (VL p2 RS l), .no, .no, .no, .no]) (fun i l => l.length ≤ i ∧ l.Nodup ∧ ∀ s ∈ l, IsName s) [] (ei_range1 (ev_var rfl) rfl (by omega)) ⟨Nat.le_refl _, List.nodup_nil, fun _ z => by simp at z⟩ (Le.refl _) (fun l => eg_name) (fun l a b => feet_va) (fun F' le i x l N ex hI hN => ?_) fun l hI => ?_)
  · refine sq_set (ev_ixLP (R := RI) (PI := fun d => 0 ≤ d ∧ d < 4) (ev_lstD (l := [0, 1, 2, 11]) (by walk_at "es") (by decide)) (ev_draw rfl ev_int (by decide) (by decide)) fun i h => ⟨h.1, h.2⟩) fun sz hsz => ?_
    obtain ⟨n, rfl, hn⟩ : ∃ n : Nat, sz = (n : Int) ∧ n ≤ 11 := by
      obtain ⟨i, _, e⟩ := hsz
      have m := List.mem_of_getElem? e
      simp at m
      rcases m with rfl | rfl | rfl | rfl
      · exact ⟨0, rfl, by decide⟩
      · exact ⟨1, rfl, by decide⟩
      · exact ⟨2, rfl, by decide⟩
      · exact ⟨11, rfl, by decide⟩
    refine sq_set (ev_ixS (z := LETTERS) (PI := fun d => 0 ≤ d ∧ d < 26) ev_str (ev_draw rfl ev_int (by decide) (by decide)) (by rw [letters_len]; decide) fun i h => by rw [letters_len]; exact h) fun s1 hs1 => ?_
    obtain ⟨j, c, _, ec, rfl⟩ := hs1
    have hc := letters_lo c (List.mem_of_getElem? ec)
    refine sq_set (P := fun z => ∃ r, (∀ d ∈ tl r, isSg d = true) ∧ r.length ≤ 11 ∧ z = (⟨#[c]⟩ : Str) ++ r) (ev_op (ev_var rfl) (ev_joinP (a := ⟨#[]⟩) ev_str (ev_lc (RX := RI) (RY := RS) (xs := upto n) (js := [6]) (PT := fun _ b => b = true) (PY := fun _ s => s.length = 1 ∧ ∀ d ∈ tl s, isSg d = true)
      (ei_range1 (ev_var rfl) rfl (by omega)) (eg_name (by exact (by decide : 6 < 7))) (fun j h => h) (fun a b => feet_va) (fun a => le_set rfl) (nv_no rfl nv_nil) (by rw [upto_len]; omega) (fun x _ => et_yes) fun x _ _ =>
        (ev_ixS (z := SIGNS) (PI := fun d => 0 ≤ d ∧ d < 36) ev_str (ev_draw rfl ev_int (by decide) (by decide)) (by rw [signs_len]; decide) fun i h => by rw [signs_len]; exact h).imp fun s ⟨i, c, _, ec, e⟩ => by
          subst e
          exact ⟨rfl, fun d m => by
            have e : d = c := by simpa [tl] using m
            rw [e]; exact signs_sg c (List.mem_of_getElem? ec)⟩) ?_) (o2_catS ?_)) fun nm hnm => ?_
    · intro l pk
      have hl : l.length = n := by rw [pk.lenEq (fun x _ h => by cases h), upto_len]
      have h1 : ∀ s ∈ l, s.length = 1 := fun s m => by obtain ⟨x, _, _, h, _⟩ := pk.all s m; exact h
      have := join_len0 h1
      have hs : (l.map (·.length)).sum = l.length := by
        clear pk hl this
        induction l with
        | nil => rfl
        | cons x l ih => rw [List.map_cons, List.sum_cons, ih fun s m => h1 s (List.mem_cons_of_mem _ m), h1 x List.mem_cons_self, List.length_cons]; omega
      rw [hs, hl]
      show n + n * 0 ≤ _
      omega
    · intro a b ea eb
      obtain ⟨l, pk, eb⟩ := eb
      have hl : l.length = n := by rw [pk.lenEq (fun x _ h => by cases h), upto_len]
      have h1 : ∀ s ∈ l, s.length = 1 := fun s m => by obtain ⟨x, _, _, h, _⟩ := pk.all s m; exact h
      have hj := join_len0 h1
      rw [ea, eb]
      refine ⟨?_, _, fun d m => ?_, ?_, rfl⟩
      · rw [hj, hl]
        have : (⟨#[c]⟩ : Str).length = 1 := rfl
        rw [this]
        exact Nat.le_trans (by omega : 1 + n ≤ 100) (by decide)
      · obtain ⟨s, ms, md⟩ := join_mem0 m
        obtain ⟨x, _, _, _, h⟩ := pk.all s ms
        exact h d md
      · rw [hj, hl]; exact hn
    · obtain ⟨r, hr, hrl, rfl⟩ := hnm
      have nm := name_of hc hr hrl
      refine at_ifD (et_testD (ev_notInOwn (i := 2) rfl (ev_var rfl))) (fun hin => ?_) fun _ => ?_
      · refine at_append (i := 2) rfl (ev_var rfl) (by have := hI.1; have := (upto_get ex).2; omega) fun a ea => ?_
        subst ea
        refine (hN (l ++ [_]) ⟨?_, ?_, ?_⟩).le (by walk_at "le")
        · rw [List.length_append]; simp; exact hI.1
        · refine List.nodup_append.mpr ⟨hI.2.1, by simp, fun a ma b mb e => ?_⟩
          simp at mb
          subst mb
          subst e
          simp at hin
          exact hin ma
        · intro s m
          rcases List.mem_append.mp m with m | m
          · exact hI.2.2 s m
          · simp at m; subst m; exact nm
      · exact (hN l ⟨Nat.le_succ_of_le hI.1, hI.2⟩).le (by walk_at "le")
  · rw [upto_len] at hI
    exact at_retVar (i := 2) one_VL hR rfl rfl n2 (fun W z => ⟨0, by simp at z; rw [z]; rfl⟩) hI

end
end K11

set_option Elab.async false
set_option linter.all false
set_option maxRecDepth 100000
namespace K11
open PySem L2 QL
local macro_rules | `(tactic| walk_at "side") => `(tactic| first
  | decide | omega | exact Or.inl ⟨by omega, by omega⟩ | exact Or.inr ⟨by omega, by omega⟩ | exact ⟨by omega, by omega⟩ | exact ⟨by omega, by omega, by omega⟩ | assumption)
local macro_rules | `(tactic| walk_at "ev") => `(tactic| first
  | (((with_reducible refine' ev_var ?k1); (case k1 => exact rfl)))
  | with_reducible exact ev_int
  | with_reducible exact ev_str
  | with_reducible exact ev_bl
  | with_reducible exact ev_non
  | with_reducible exact ev_ty
  | ((with_reducible refine' ev_addD ?k1 ?k2); (case k1 => walk_at "ev"); (case k2 => walk_at "ev"))
  | ((with_reducible refine' ev_subD ?k1 ?k2); (case k1 => walk_at "ev"); (case k2 => walk_at "ev"))
  | ((with_reducible refine' ev_ltD ?k1 ?k2); (case k1 => walk_at "ev"); (case k2 => walk_at "ev"))
  | ((with_reducible refine' ev_leD ?k1 ?k2); (case k1 => walk_at "ev"); (case k2 => walk_at "ev"))
  | ((with_reducible refine' ev_gtD ?k1 ?k2); (case k1 => walk_at "ev"); (case k2 => walk_at "ev"))
  | ((with_reducible refine' ev_geD ?k1 ?k2); (case k1 => walk_at "ev"); (case k2 => walk_at "ev"))
  | ((with_reducible refine' ev_eqID ?k1 ?k2); (case k1 => walk_at "ev"); (case k2 => walk_at "ev"))
  | ((with_reducible refine' ev_neID ?k1 ?k2); (case k1 => walk_at "ev"); (case k2 => walk_at "ev"))
  | ((with_reducible refine' ev_eqSD ?k1 ?k2); (case k1 => walk_at "ev"); (case k2 => walk_at "ev"))
  | ((with_reducible refine' ev_neSD ?k1 ?k2); (case k1 => walk_at "ev"); (case k2 => walk_at "ev"))
  | ((with_reducible refine' ev_maxD ?k1 ?k2); (case k1 => walk_at "ev"); (case k2 => walk_at "ev"))
  | ((with_reducible refine' ev_minD ?k1 ?k2); (case k1 => walk_at "ev"); (case k2 => walk_at "ev"))
  | ((with_reducible refine' ev_t2D ?k1 ?k2); (case k1 => walk_at "ev"); (case k2 => walk_at "ev"))
  | ((with_reducible refine' ev_mulD ?k1 ?k2 ?k3); (case k1 => walk_at "ev"); (case k2 => walk_at "ev"); (case k3 => walk_at "side"))
  | ((with_reducible refine' ev_divD ?k1 ?k2 ?k3); (case k1 => walk_at "ev"); (case k2 => walk_at "ev"); (case k3 => walk_at "side"))
  | ((with_reducible refine' ev_modD ?k1 ?k2 ?k3); (case k1 => walk_at "ev"); (case k2 => walk_at "ev"); (case k3 => walk_at "side"))
  | ((with_reducible refine' ev_powD ?k1 ?k2 ?k3); (case k1 => walk_at "ev"); (case k2 => walk_at "ev"); (case k3 => walk_at "side"))
  | ((with_reducible refine' ev_catSD ?k1 ?k2 ?k3); (case k1 => walk_at "ev"); (case k2 => walk_at "ev"); (case k3 => walk_at "side"))
  | ((with_reducible refine' ev_stripD ?k1 ?k2 ?k3); (case k1 => walk_at "ev"); (case k2 => walk_at "ev"); (case k3 => walk_at "side"))
  | ((with_reducible refine' ev_divmodD ?k1 ?k2 ?k3); (case k1 => walk_at "ev"); (case k2 => walk_at "ev"); (case k3 => walk_at "side"))
  | ((with_reducible refine' ev_intD ?k1); (case k1 => walk_at "ev"))
  | ((with_reducible refine' ev_absD ?k1); (case k1 => walk_at "ev"))
  | ((with_reducible refine' ev_negD ?k1); (case k1 => walk_at "ev"))
  | ((with_reducible refine' ev_lenLD ?k1); (case k1 => walk_at "ev"))
  | ((with_reducible refine' ev_lenScrD ?k1); (case k1 => walk_at "ev"))
  | ((with_reducible refine' ev_lenDD ?k1); (case k1 => walk_at "ev"))
  | ((with_reducible refine' ev_fstD ?k1); (case k1 => walk_at "ev"))
  | ((with_reducible refine' ev_sndD ?k1); (case k1 => walk_at "ev"))
  | ((with_reducible refine' ev_notVD ?k1); (case k1 => walk_at "ev"))
  | ((with_reducible refine' ev_listLD ?k1); (case k1 => walk_at "ev"))
  | ((with_reducible refine' ev_listDD ?k1); (case k1 => walk_at "ev"))
  | ((with_reducible refine' ev_dictDD ?k1); (case k1 => walk_at "ev"))
  | ((with_reducible refine' ev_dictPD ?k1); (case k1 => walk_at "ev"))
  | ((with_reducible refine' ev_allD ?k1); (case k1 => walk_at "ev"))
  | ((with_reducible refine' ev_anyD ?k1); (case k1 => walk_at "ev"))
  | ((with_reducible refine' ev_sumD ?k1); (case k1 => walk_at "ev"))
  | ((with_reducible refine' ev_dinD ?k1 (ed_knownD ?k2)); (case k1 => walk_at "ev"); (case k2 => walk_at "ev"))
  | (refine' ev_dget2D (ed_knownD ?k1) ?k2 ?k3; (case k1 => walk_at "ev"); (case k2 => walk_at "ev"); (case k3 => walk_at "ev")))
local macro_rules | `(tactic| walk_at "et") => `(tactic| first
  | (refine' et_testD ?k1; (case k1 => walk_at "ev")) | (refine' et_valD ?k1; (case k1 => walk_at "ev")) | (refine' et_notD ?k1; (case k1 => walk_at "et")))
local macro_rules | `(tactic| walk_at "ea") => `(tactic| first
  | exact ea_nilD | ((refine' ea_consD ?k1 ?k2); (case k1 => walk_at "ev"); (case k2 => walk_at "ea")) | (refine' ea_voD rfl ?k1; (case k1 => walk_at "ea")))
local macro_rules | `(tactic| walk_at "es") => `(tactic| first
  | exact eas_nilD | ((refine' eas_consD ?k1 ?k2); (case k1 => walk_at "ev"); (case k2 => walk_at "es")))
local macro_rules | `(tactic| walk_at "set") => `(tactic| (first | refine' sq_setD ?k1 ?k2 | refine' at_setD ?k1 ?k2); (case k1 => walk_at "ev"))
local macro_rules | `(tactic| walk_at "le") => `(tactic| first | exact le_nil | (refine le_same ?_; walk_at "le") | (refine le_drop ?_; walk_at "le"))

section
variable {w : World} {P : Program} {mg : Str → Option Value} {K : PySem.W.Frag} {base : Heap}

theorem sc_is_integer : FnScope ["value"] ["value"] (defScope s_is_integer) := ⟨rfl, rfl, rfl, by decide +kernel, rfl, by decide +kernel, by decide +kernel⟩
def preIsInt (L : List Slot) (P : Bool → Prop) : Prop := ∃ i : Int, L = [.va RI i] ∧ P = fun b => b = true
theorem ok_is_integer {f : Addr} {fd : FuncData} (F : Fun K "is_integer" "is_integer" s_is_integer f fd) (T : Txt K mg) : FnOk P w K mg base CX0 1 f fd ["value"] (FSp RB preIsInt) := by
  refine F.ok sc_is_integer (fsp_len (n := 1) fun L P ⟨i, e, _⟩ => by rw [e]; rfl) (fun cdv A outer s H vs Q E hr h => ?_)
  refine ⟨_, (pss_one (ps_ret (pe_and (pe_callB call_isi (by rfl) T.b_isinstance (by decide +kernel) (pa_cons (pv 0) (pa_cons (pe_bltn (v := .ty "int") (by rfl) T.b_int (by decide +kernel) rfl) pa_nil))) (pe_one (pe_not (pe_callB call_isi (by rfl) T.b_isinstance (by decide +kernel) (pa_cons (pv 0) (pa_cons (pe_bltn (v := .ty "bool") (by rfl) T.b_bool (by decide +kernel) rfl) pa_nil)))))))), ?_⟩
  refine body_of 1 h (fun L P ⟨i, e, _⟩ => by rw [e]; rfl) (by decide) fun L P ⟨i, eL, eP⟩ F D hR => ?_
  subst eL
  subst eP
  show At F [.va RI i] _
  exact at_retD hR (ev_andVD (ev_isiD (ev_var rfl) tyr_int) fun _ => ev_notVD (ev_isiD (ev_var rfl) tyr_intB)) (fun W z => by simp at z) rfl
theorem ev_is_integer {Γ : QL.Ctx} {te : TE} {i : Int} (h : Ev Γ te RI (fun x => x = i)) : Ev Γ (tCall (FSp RB preIsInt) [] E0 (tCons te tNil)) RB (fun b => b = true) := ev_callD (ea_consD h ea_nilD) trivial ⟨i, rfl, rfl⟩
theorem sc_is_number : FnScope ["modulus", "value"] ["modulus", "value"] (defScope s_is_number) := ⟨rfl, rfl, rfl, by decide +kernel, rfl, by decide +kernel, by decide +kernel⟩
def preIsNum (L : List Slot) (P : Bool → Prop) : Prop := ∃ q i : Int, L = [.va RI q, .va RI i] ∧ P = fun b => b = (decide (0 ≤ i) && decide (i < q))
theorem ok_is_number {f : Addr} {fd : FuncData} (F : Fun K "is_number" "is_number" s_is_number f fd) (T : Txt K mg) (OI : Own P w K mg base "is_integer" ["value"] 1 (FSp RB preIsInt)) : FnOk P w K mg base CX0 2 f fd ["modulus", "value"] (FSp RB preIsNum) := by
  refine F.ok sc_is_number (fsp_len (n := 2) fun L P ⟨q, i, e, _⟩ => by rw [e]; rfl) (fun cdv A outer s H vs Q E hr h => ?_)
  refine ⟨_, (pss_one (ps_ret (pe_and (pe_own OI (hr.mono (by decide)) (by rfl) (pa_cons (pv 1) pa_nil)) (pe_one (pe_chain opLe opLt pe_int (pv 1) (pv 0)))))), ?_⟩
  refine body_of 2 h (fun L P ⟨q, i, e, _⟩ => by rw [e]; rfl) (by decide) fun L P ⟨q, i, eL, eP⟩ F D hR => ?_
  subst eL
  subst eP
  show At F [.va RI q, .va RI i] _
  exact at_retD hR (ev_andVD (ev_is_integer (ev_var rfl)) fun _ => ev_chLeLt ev_int (ev_var rfl) (ev_var rfl)) (fun W z => by simp at z) (by simp)
theorem ev_is_number {Γ : QL.Ctx} {ta tb : TE} {q i : Int} (h1 : Ev Γ ta RI (fun x => x = q)) (h2 : Ev Γ tb RI (fun x => x = i)) : Ev Γ (tCall (FSp RB preIsNum) [] E0 (tCons ta (tCons tb tNil))) RB (fun b => b = (decide (0 ≤ i) && decide (i < q))) :=
  ev_callD (ea_consD h1 (ea_consD h2 ea_nilD)) trivial ⟨q, i, rfl, rfl⟩
theorem sc_is_name : FnScope ["value"] ["value"] (defScope s_is_name) := ⟨rfl, rfl, rfl, by decide +kernel, rfl, by decide +kernel, by decide +kernel⟩
def preIsName (L : List Slot) (P : Bool → Prop) : Prop := ∃ s : Str, L = [.va RS s] ∧ IsName s ∧ P = fun b => b = true
theorem ok_is_name {f : Addr} {fd : FuncData} (F : Fun K "is_name" "is_name" s_is_name f fd) (T : Txt K mg) : FnOk P w K mg base CX0 1 f fd ["value"] (FSp RB preIsName) := by
  refine F.ok sc_is_name (fsp_len (n := 1) fun L P ⟨i, e, _⟩ => by rw [e]; rfl) (fun cdv A outer s H vs Q E hr h => ?_)
  refine ⟨_, (pss_cons (ps_if (PW.pt (pw_or (pt_not (pt_val (pe_callB call_isi (by rfl) T.b_isinstance (by decide +kernel) (pa_cons (pv 0) (pa_cons (pe_bltn (v := .ty "str") (by rfl) T.b_str (by decide +kernel) rfl) pa_nil))))) (pw_or1 (pt_not (pt_chain opLe opLe pe_int (pe_callB clLenS (by rfl) T.b_len (by decide +kernel) (pa_cons (pv 0) pa_nil)) (pe_gv (by rfl) T.g_LONGEST)))))) (pss_one (ps_ret pe_bl)) pss_nil) (pss_one (ps_ret (pe_and (pe_cmpR opInS (pe_ix ix_str (pv 0) pe_int (fun _ _ => rfl)) (pe_gv (by rfl) T.g_LETTERS) rfl) (pe_one (pe_cmpR op_eq (pe_bm PySem.F.plainAttrs_str PySem.F.slot_str_strip PySem.F.type_str_strip mtStrip (pv 0) (pa_cons (pe_gv (by rfl) T.g_SIGNS) pa_nil)) pe_str (nomark _))))))), ?_⟩
  refine body_of 1 h (fun L P ⟨i, e, _⟩ => by rw [e]; rfl) (by decide) fun L P ⟨s, eL, hn, eP⟩ F D hR => ?_
  subst eL
  subst eP
  show At F [.va RS s] _
  have hl := hn.lo
  have hh := hn.hi
  refine sq_guard (et_orD (et_notD (et_valD (ev_isiD (ev_var rfl) tyr_str))) fun _ => et_notD (et_testD (ev_chLeLe ev_int (ev_lenSD (ev_var rfl) (by omega)) ev_int))) (fun hc => ?_) fun _ => ?_
  · simp at hc
    omega
  · obtain ⟨c, hc, lo⟩ := hn.first
    have e0 : s.cps.toList[0]? = some c := by rw [← List.head?_eq_getElem?]; exact hc
    refine at_retD hR (ev_andVD (ev_inS (ev_ixSD (j := 0) (c := c) (ev_var rfl) ev_int (by omega) rfl e0) ev_str) fun _ => ev_eqSD (ev_stripD (ev_var rfl) ev_str (by omega)) ev_str) (fun W z => by simp at z) ?_
    rw [strip_name hn.all]
    simp [lo_in lo]
    rfl
theorem ev_is_name {Γ : QL.Ctx} {te : TE} {s : Str} (h : Ev Γ te RS (fun x => x = s)) (n : IsName s) : Ev Γ (tCall (FSp RB preIsName) [] E0 (tCons te tNil)) RB (fun b => b = true) := ev_callD (ea_consD h ea_nilD) trivial ⟨s, rfl, n, rfl⟩
theorem sc_is_world : FnScope ["modulus", "value", "name", "number"] ["modulus", "value"] (defScope s_is_world) := ⟨rfl, rfl, rfl, by decide +kernel, rfl, by decide +kernel, by decide +kernel⟩
def NumD (q : Int) (kvs : List (Str × Int)) : Prop := kvs.length < 64 ∧ (keys kvs).Nodup ∧ ∀ x ∈ kvs, IsName x.1 ∧ 0 ≤ x.2 ∧ x.2 < q
def preIsWorld (L : List Slot) (P : Bool → Prop) : Prop := ∃ (q : Int) (kvs : List (Str × Int)) (s : Slot), L = [.va RI q, s] ∧ DS RI kvs s ∧ NumD q kvs ∧ P = fun b => b = true
theorem ok_is_world {f : Addr} {fd : FuncData} (F : Fun K "is_world" "is_world" s_is_world f fd) (T : Txt K mg) (ON : Own P w K mg base "is_number" ["modulus", "value"] 2 (FSp RB preIsNum)) (OM : Own P w K mg base "is_name" ["value"] 1 (FSp RB preIsName)) :
    FnOk P w K mg base CX0 3 f fd ["modulus", "value"] (FSp RB preIsWorld) := by
  refine F.ok sc_is_world (fsp_len (n := 2) fun L P ⟨q, kvs, s, e, _⟩ => by rw [e]; rfl) (fun cdv A outer s H vs Q E hr h => ?_)
  refine ⟨_, (pss_cons (ps_if (pt_not (pt_val (pe_callB call_isi (by rfl) T.b_isinstance (by decide +kernel) (pa_cons (pv 1) (pa_cons (pe_bltn (v := .ty "dict") (by rfl) T.b_dict (by decide +kernel) rfl) pa_nil))))) (pss_one (ps_ret pe_bl)) pss_nil) (pss_one (ps_ret (pe_callB (cr_all rfl) (by rfl) T.b_all (by decide +kernel) (pa_cons (pe_lk (pe_lc (own := [("name", 2), ("number", 3)]) (g := gTup K 2 (gCons (gName 2) (gCons (gName 3) gNil))) rfl sc_is_world.nd (pi_items (pv 1)) (blkOk_by (own := [("name", 2), ("number", 3)]) (N := ["modulus", "value", "name", "number"]) (sc := defScope s_is_world) (by decide +kernel)) (fun _ _ _ _ _ => (pg_tup rfl (pgs_cons (pg_name (i := 2) sc_is_world.nd rfl (by first | exact Or.inl rfl | exact Or.inr rfl)) (pgs_cons (pg_name (i := 3) sc_is_world.nd rfl (by first | exact Or.inl rfl | exact Or.inr rfl)) pgs_nil)))) (fun _ _ _ _ _ => pts_nil) (fun _ _ _ _ _ => (pe_and (pe_own OM (hr.mono (by decide)) (by rfl) (pa_cons (pv 2) pa_nil)) (pe_one (pe_own ON (hr.mono (by decide)) (by rfl) (pa_cons (pv 0) (pa_cons (pv 3) pa_nil)))))))) pa_nil))))), ?_⟩
  refine body_of 2 h (fun L P ⟨q, kvs, s, e, _⟩ => by rw [e]; rfl) (by decide) fun L P ⟨q, kvs, sl, eL, ds, hn, eP⟩ F D hR => ?_
  subst eL
  subst eP
  show At F [.va RI q, sl, .no, .no] _
  refine sq_guard (et_notD (et_valD (ds.isi (i := 1) rfl))) (fun hc => by cases hc) fun _ => ?_
  refine at_ret hR (ev_c1 (ds.lc (i := 1) (js := [2, 3]) (PT := fun _ b => b = true) (PY := fun _ b => b = true) rfl (by decide) (fun s => eg_2 (eg_name (by exact (by decide : 2 < 4))) fun a => eg_name (by exact (by decide : 3 < 4))) (fun j h => h) (fun s a b z => feet_va (feet_va z)) (fun s a => le_set2 rfl rfl) (fun s => ?_) (by have := hn.1; omega) (fun s x _ => et_yes)
    fun s x m _ => ?_) (c_all (P := fun b => b = true) fun l pk => ?_)) (fun W z => ⟨1, ?_⟩) fun _ e => e
  · exact nv_no rfl (nv_no rfl nv_nil)
  · obtain ⟨h1, h2, h3⟩ := hn.2.2 x m
    refine (ev_andVD (ev_is_name (ev_var rfl) h1) fun _ => ev_is_number (ev_var rfl) (ev_var rfl)).imp fun b e => ?_
    rw [e]
    simp [h2, h3]
  · refine List.all_eq_true.mpr fun b m => ?_
    obtain ⟨x, _, _, e⟩ := pk.all b m
    exact e
  · simp at z
    rw [z]
    rfl
theorem ev_is_world {Γ : QL.Ctx} {ta : TE} {q : Int} {kvs : List (Str × Int)} {s : Slot} {i : Nat} (h1 : Ev Γ ta RI (fun x => x = q)) (d : DS RI kvs s) (e : Γ[i]? = some s) (n : NumD q kvs) : Ev Γ (tCall (FSp RB preIsWorld) [] E0 (tCons ta (tCons (tVar i) tNil))) RB (fun b => b = true) :=
  ev_callD (ea_consD h1 (d.ea e ea_nilD)) (d.voIn e) ⟨q, kvs, s, rfl, d, n, rfl⟩
theorem sc_require_modulus : FnScope ["value"] ["value"] (defScope s_require_modulus) := ⟨rfl, rfl, rfl, by decide +kernel, rfl, by decide +kernel, by decide +kernel⟩
def IsMod (q : Int) : Prop := q ∈ ([2, 3, 5, 7, 11, 13] : List Int)
theorem IsMod.b {q : Int} (h : IsMod q) : 2 ≤ q ∧ q ≤ 13 := by
  unfold IsMod at h
  simp at h
  omega
def preReqMod (L : List Slot) (P : Unit → Prop) : Prop := ∃ q : Int, L = [.va RI q] ∧ IsMod q ∧ P = fun _ => True
theorem ok_require_modulus {f : Addr} {fd : FuncData} (F : Fun K "require_modulus" "require_modulus" s_require_modulus f fd) (T : Txt K mg) (OI : Own P w K mg base "is_integer" ["value"] 1 (FSp RB preIsInt)) : FnOk P w K mg base CX0 2 f fd ["value"] (FSp RN preReqMod) := by
  obtain ⟨pr, hpr, kpr⟩ := T.g_PRIMES
  refine F.ok sc_require_modulus (fsp_len (n := 1) fun L P ⟨q, e, _⟩ => by rw [e]; rfl) (fun cdv A outer s H vs Q E hr h => ?_)
  refine ⟨_, (pss_one (ps_if (PW.pt (pw_or (pt_not (pt_val (pe_own OI (hr.mono (by decide)) (by rfl) (pa_cons (pv 0) pa_nil)))) (pw_or1 (pt_cmpR op_notIn_seq (pv 0) (pe_gv (by rfl) hpr) rfl)))) (pss_one ps_never) pss_nil)), ?_⟩
  refine body_ofN 1 h (fun L P ⟨q, e, _⟩ => by rw [e]; rfl) (by decide) fun L P ⟨q, eL, hq, eP⟩ F D hN hR => ?_
  subst eL
  subst eP
  show At F [.va RI q] _
  refine at_ifD (et_orD (et_notD (et_valD (ev_is_integer (ev_var rfl)))) fun _ => et_testD (ev_notInTup (ev_var rfl) kpr)) (fun hc => ?_) fun _ => at_end hN (fun W z => by simp at z) trivial
  have hq : q ∈ ([2, 3, 5, 7, 11, 13] : List Int) := hq
  rw [decide_eq_true hq] at hc
  cases hc
end
end K11

set_option Elab.async false
set_option linter.all false
set_option maxRecDepth 100000
namespace K11
open PySem L2 QL
local macro_rules | `(tactic| walk_at "side") => `(tactic| first
  | decide | omega | exact Or.inl ⟨by omega, by omega⟩ | exact Or.inr ⟨by omega, by omega⟩ | exact ⟨by omega, by omega⟩ | exact ⟨by omega, by omega, by omega⟩ | assumption)
local macro_rules | `(tactic| walk_at "ev") => `(tactic| first
  | (((with_reducible refine' ev_var ?k1); (case k1 => exact rfl)))
  | with_reducible exact ev_int
  | with_reducible exact ev_str
  | with_reducible exact ev_bl
  | with_reducible exact ev_non
  | with_reducible exact ev_ty
  | ((with_reducible refine' ev_addD ?k1 ?k2); (case k1 => walk_at "ev"); (case k2 => walk_at "ev"))
  | ((with_reducible refine' ev_subD ?k1 ?k2); (case k1 => walk_at "ev"); (case k2 => walk_at "ev"))
  | ((with_reducible refine' ev_ltD ?k1 ?k2); (case k1 => walk_at "ev"); (case k2 => walk_at "ev"))
  | ((with_reducible refine' ev_leD ?k1 ?k2); (case k1 => walk_at "ev"); (case k2 => walk_at "ev"))
  | ((with_reducible refine' ev_gtD ?k1 ?k2); (case k1 => walk_at "ev"); (case k2 => walk_at "ev"))
  | ((with_reducible refine' ev_geD ?k1 ?k2); (case k1 => walk_at "ev"); (case k2 => walk_at "ev"))
  | ((with_reducible refine' ev_eqID ?k1 ?k2); (case k1 => walk_at "ev"); (case k2 => walk_at "ev"))
  | ((with_reducible refine' ev_neID ?k1 ?k2); (case k1 => walk_at "ev"); (case k2 => walk_at "ev"))
  | ((with_reducible refine' ev_eqSD ?k1 ?k2); (case k1 => walk_at "ev"); (case k2 => walk_at "ev"))
  | ((with_reducible refine' ev_neSD ?k1 ?k2); (case k1 => walk_at "ev"); (case k2 => walk_at "ev"))
  | ((with_reducible refine' ev_maxD ?k1 ?k2); (case k1 => walk_at "ev"); (case k2 => walk_at "ev"))
  | ((with_reducible refine' ev_minD ?k1 ?k2); (case k1 => walk_at "ev"); (case k2 => walk_at "ev"))
  | ((with_reducible refine' ev_t2D ?k1 ?k2); (case k1 => walk_at "ev"); (case k2 => walk_at "ev"))
  | ((with_reducible refine' ev_mulD ?k1 ?k2 ?k3); (case k1 => walk_at "ev"); (case k2 => walk_at "ev"); (case k3 => walk_at "side"))
  | ((with_reducible refine' ev_divD ?k1 ?k2 ?k3); (case k1 => walk_at "ev"); (case k2 => walk_at "ev"); (case k3 => walk_at "side"))
  | ((with_reducible refine' ev_modD ?k1 ?k2 ?k3); (case k1 => walk_at "ev"); (case k2 => walk_at "ev"); (case k3 => walk_at "side"))
  | ((with_reducible refine' ev_powD ?k1 ?k2 ?k3); (case k1 => walk_at "ev"); (case k2 => walk_at "ev"); (case k3 => walk_at "side"))
  | ((with_reducible refine' ev_catSD ?k1 ?k2 ?k3); (case k1 => walk_at "ev"); (case k2 => walk_at "ev"); (case k3 => walk_at "side"))
  | ((with_reducible refine' ev_stripD ?k1 ?k2 ?k3); (case k1 => walk_at "ev"); (case k2 => walk_at "ev"); (case k3 => walk_at "side"))
  | ((with_reducible refine' ev_divmodD ?k1 ?k2 ?k3); (case k1 => walk_at "ev"); (case k2 => walk_at "ev"); (case k3 => walk_at "side"))
  | ((with_reducible refine' ev_intD ?k1); (case k1 => walk_at "ev"))
  | ((with_reducible refine' ev_absD ?k1); (case k1 => walk_at "ev"))
  | ((with_reducible refine' ev_negD ?k1); (case k1 => walk_at "ev"))
  | ((with_reducible refine' ev_lenLD ?k1); (case k1 => walk_at "ev"))
  | ((with_reducible refine' ev_lenScrD ?k1); (case k1 => walk_at "ev"))
  | ((with_reducible refine' ev_lenDD ?k1); (case k1 => walk_at "ev"))
  | ((with_reducible refine' ev_fstD ?k1); (case k1 => walk_at "ev"))
  | ((with_reducible refine' ev_sndD ?k1); (case k1 => walk_at "ev"))
  | ((with_reducible refine' ev_notVD ?k1); (case k1 => walk_at "ev"))
  | ((with_reducible refine' ev_listLD ?k1); (case k1 => walk_at "ev"))
  | ((with_reducible refine' ev_listDD ?k1); (case k1 => walk_at "ev"))
  | ((with_reducible refine' ev_dictDD ?k1); (case k1 => walk_at "ev"))
  | ((with_reducible refine' ev_dictPD ?k1); (case k1 => walk_at "ev"))
  | ((with_reducible refine' ev_allD ?k1); (case k1 => walk_at "ev"))
  | ((with_reducible refine' ev_anyD ?k1); (case k1 => walk_at "ev"))
  | ((with_reducible refine' ev_sumD ?k1); (case k1 => walk_at "ev"))
  | ((with_reducible refine' ev_dinD ?k1 (ed_knownD ?k2)); (case k1 => walk_at "ev"); (case k2 => walk_at "ev"))
  | (refine' ev_dget2D (ed_knownD ?k1) ?k2 ?k3; (case k1 => walk_at "ev"); (case k2 => walk_at "ev"); (case k3 => walk_at "ev")))
local macro_rules | `(tactic| walk_at "et") => `(tactic| first
  | (refine' et_testD ?k1; (case k1 => walk_at "ev")) | (refine' et_valD ?k1; (case k1 => walk_at "ev")) | (refine' et_notD ?k1; (case k1 => walk_at "et")))
local macro_rules | `(tactic| walk_at "ea") => `(tactic| first
  | exact ea_nilD | ((refine' ea_consD ?k1 ?k2); (case k1 => walk_at "ev"); (case k2 => walk_at "ea")) | (refine' ea_voD rfl ?k1; (case k1 => walk_at "ea")))
local macro_rules | `(tactic| walk_at "es") => `(tactic| first
  | exact eas_nilD | ((refine' eas_consD ?k1 ?k2); (case k1 => walk_at "ev"); (case k2 => walk_at "es")))
local macro_rules | `(tactic| walk_at "set") => `(tactic| (first | refine' sq_setD ?k1 ?k2 | refine' at_setD ?k1 ?k2); (case k1 => walk_at "ev"))
local macro_rules | `(tactic| walk_at "le") => `(tactic| first | exact le_nil | (refine le_same ?_; walk_at "le") | (refine le_drop ?_; walk_at "le"))

/-- what the class must have -/
structure SumC (K : PySem.W.Frag) (C : Addr) : Prop where
  cls : Cls K C
  nm : NoAttr K C "_modulus"
  nw : NoAttr K C "_weights"
  nc : NoAttr K C "_constant"
  i1 : PySem.W.findIn K (.ref C) "__class__" = some (some (.builtin "object.__class__"))
  i2 : PySem.W.specialIn K (.builtin "object.__class__") "__get__" = some (some (.builtin "getset_descriptor.__get__"))
  i3 : PySem.W.takesIn K (.builtin "object.__class__") = some true
  i4 : PySem.W.mroIn K C (.type "object") = some true
structure SumD where
  q : Int
  ws : List (Str × Int)
  c : Int
def sumF (a : SumD) : Flds := [("_modulus", .va RI a.q), ("_weights", .va (RD RI) a.ws), ("_constant", .va RI a.c)]
abbrev RSum (C : Addr) : Rel SumD := RIns C sumF
section
variable {P : Program} {w : World} {K : PySem.W.Frag} {mg : Str → Option Value} {base : Heap} {C : Addr}

theorem sc_Sum_init : FnScope ["self", "modulus", "weights", "constant", "name"] ["self", "modulus", "weights", "constant"] (defScope sSum_init) := ⟨rfl, rfl, rfl, by decide +kernel, rfl, by decide +kernel, by decide +kernel⟩
def preInit (L : List Slot) (P : SumD → Prop) : Prop := ∃ (q : Int) (kvs : List (Str × Int)) (s : Slot) (c : Int), L = [.va RI q, s, .va RI c] ∧ IsMod q ∧ DS RI kvs s ∧ NumD q kvs ∧ 0 ≤ c ∧ c < q ∧ P = fun a => a = ⟨q, nrm kvs, c⟩
theorem ok_Sum_init {f : Addr} {fd : FuncData} (F : FunD K "__init__" "Sum.__init__" (defArgs sSum_init) (defBody sSum_init) (defScope sSum_init) [.int 0] [] f fd) (T : Txt K mg) (SC : SumC K C) (OR : Own P w K mg base "require_modulus" ["value"] 2 (FSp RN preReqMod)) (OW : Own P w K mg base "is_world" ["modulus", "value"] 3 (FSp RB preIsWorld)) (ON : Own P w K mg base "is_number" ["modulus", "value"] 2 (FSp RB preIsNum)) :
    FnOk P w K mg base CX0 4 f fd ["self", "modulus", "weights", "constant"] (FSpI C sumF preInit) := by
  refine F.ok sc_Sum_init (fspI_len (n := 3) fun L P ⟨q, kvs, s, c, e, _⟩ => by rw [e]; rfl) (fun cdv A outer s H vs Q E hr h => ?_)
  refine ⟨_, (pss_cons (ps_expr (pe_own OR (hr.mono (by decide)) (by rfl) (pa_cons (pv 1) pa_nil))) (pss_cons (ps_if (pt_not (pt_val (pe_own OW (hr.mono (by decide)) (by rfl) (pa_cons (pv 1) (pa_cons (pv 2) pa_nil))))) (pss_one ps_never) pss_nil) (pss_cons (ps_if (pt_not (pt_val (pe_own ON (hr.mono (by decide)) (by rfl) (pa_cons (pv 1) (pa_cons (pv 3) pa_nil))))) (pss_one ps_never) pss_nil) (pss_cons (ps_fld (pv 0) (pv 1) rfl) (pss_cons (ps_fld (pv 0) (pe_dc (own := [("name", 4)]) (g := gName 4) rfl sc_Sum_init.nd (pi_list (pe_callB (clSrtD rfl) (by rfl) T.b_sorted (by decide +kernel) (pa_cons (pv 2) pa_nil))) (blkOk_by (own := [("name", 4)]) (N := ["self", "modulus", "weights", "constant", "name"]) (sc := defScope sSum_init) (by decide +kernel)) (fun _ _ _ _ _ => (pg_name (i := 4) sc_Sum_init.nd rfl (by first | exact Or.inl rfl | exact Or.inr rfl))) (fun _ _ _ _ _ => (pts_one (pt_cmpR op_ne (pe_dget (hu_of hr) (pv 2) (pv 4) (fun _ _ => rfl)) pe_int (nomark _)))) (fun _ _ _ _ _ => (pv 4)) (fun _ _ _ _ _ => (pe_dget (hu_of hr) (pv 2) (pv 4) (fun _ _ => rfl)))) rfl) (pss_one (ps_fld (pv 0) (pv 3) rfl))))))), ?_⟩
  refine body_ofI 3 h (fun L P ⟨q, kvs, s, c, e, _⟩ => by rw [e]; rfl) (by decide) fun L P ⟨q, kvs, sl, c, eL, hm, ds, hn, hc0, hc1, eP⟩ F p dx D n0 nf qq hq hE => ?_
  subst eL
  subst eP
  show At F [.vo (VObj p C dx []), .va RI q, sl, .va RI c, .no] _
  refine sq_drop (R := RN) (P := fun _ => True) (ev_callD (ea_consD (ev_var rfl) ea_nilD) trivial ⟨q, rfl, hm, rfl⟩) ?_
  refine sq_guard (et_notD (et_valD (ev_is_world (ev_var rfl) ds rfl hn))) (fun hc => by cases hc) fun _ => ?_
  refine sq_guard (et_notD (et_valD (ev_is_number (ev_var rfl) (ev_var rfl)))) (fun hc => by simp [hc0, hc1] at hc) fun _ => ?_
  refine sq_fld (i := 0) rfl (ev_var rfl) SC.cls SC.nm rfl (by decide) fun q' ea => ?_
  subst ea
  have hk : ∀ x ∈ srt (keys kvs), getS kvs x = some (val kvs x) := fun x m => by
    obtain ⟨v, ev⟩ := getS_some (srt_mem.mp m)
    unfold val
    rw [ev]; rfl
  refine sq_fld (i := 0) (R := RD RI) (P := fun d => d = nrm kvs) rfl (Ev.imp (ev_dc (RX := RS) (RY := RI) (js := [4]) (xs := srt (keys kvs)) (PT := fun x b => b = decide (val kvs x ≠ 0)) (PK := fun x k => k = x) (PY := fun x v => v = val kvs x) (ei_list (ev_sortD (ds.ed (i := 2) rfl) hn.1)) (eg_name (by exact (by decide : 4 < 5))) (fun j h => h) (fun a b => feet_va) (fun a => le_set rfl) (nv_no rfl nv_nil) ?_
    (fun x m => ?_) (fun x _ _ => ev_var rfl) (fun x m _ => ev_dgetD (ds.ed (i := 2) rfl) (ev_var rfl) (hk x m))) ?_) SC.cls SC.nw rfl (by simp) fun a ea => ?_
  · rw [srt_len]
    unfold keys
    rw [List.length_map]
    have := hn.1
    omega
  · refine (et_testD (ev_neID (ev_dgetD (ds.ed (i := 2) rfl) (ev_var rfl) (hk x m)) ev_int)).imp fun b eb => ?_
    rw [eb]
    by_cases z : val kvs x = 0
    · simp [z]
    · simp [z]
  · rintro d ⟨ps, pk, rfl⟩
    have e : ps = nrm kvs := pk.filterMap (fun x _ b eb => eb) (fun x _ y ey => Prod.ext ey.1 ey.2)
    rw [e]
    exact puts_self (nrm_nodup hn.2.1)
  · subst ea
    refine at_fld (i := 0) rfl (ev_var rfl) SC.cls SC.nc rfl (by simp) fun c' ea => ?_
    subst ea
    rw [hq]
    refine at_endI (i := 0) (a := ⟨q', nrm kvs, c'⟩) hE rfl n0 rfl rfl (fun W z => ⟨2, ?_⟩) nf
    simp at z
    rw [z]
    rfl
end
end K11

set_option Elab.async false
set_option linter.all false
set_option maxRecDepth 100000
namespace K11
open PySem L2 QL
local macro_rules | `(tactic| walk_at "side") => `(tactic| first
  | decide | omega | exact Or.inl ⟨by omega, by omega⟩ | exact Or.inr ⟨by omega, by omega⟩ | exact ⟨by omega, by omega⟩ | exact ⟨by omega, by omega, by omega⟩ | assumption)
local macro_rules | `(tactic| walk_at "ev") => `(tactic| first
  | (((with_reducible refine' ev_var ?k1); (case k1 => exact rfl)))
  | with_reducible exact ev_int
  | with_reducible exact ev_str
  | with_reducible exact ev_bl
  | with_reducible exact ev_non
  | with_reducible exact ev_ty
  | ((with_reducible refine' ev_addD ?k1 ?k2); (case k1 => walk_at "ev"); (case k2 => walk_at "ev"))
  | ((with_reducible refine' ev_subD ?k1 ?k2); (case k1 => walk_at "ev"); (case k2 => walk_at "ev"))
  | ((with_reducible refine' ev_ltD ?k1 ?k2); (case k1 => walk_at "ev"); (case k2 => walk_at "ev"))
  | ((with_reducible refine' ev_leD ?k1 ?k2); (case k1 => walk_at "ev"); (case k2 => walk_at "ev"))
  | ((with_reducible refine' ev_gtD ?k1 ?k2); (case k1 => walk_at "ev"); (case k2 => walk_at "ev"))
  | ((with_reducible refine' ev_geD ?k1 ?k2); (case k1 => walk_at "ev"); (case k2 => walk_at "ev"))
  | ((with_reducible refine' ev_eqID ?k1 ?k2); (case k1 => walk_at "ev"); (case k2 => walk_at "ev"))
  | ((with_reducible refine' ev_neID ?k1 ?k2); (case k1 => walk_at "ev"); (case k2 => walk_at "ev"))
  | ((with_reducible refine' ev_eqSD ?k1 ?k2); (case k1 => walk_at "ev"); (case k2 => walk_at "ev"))
  | ((with_reducible refine' ev_neSD ?k1 ?k2); (case k1 => walk_at "ev"); (case k2 => walk_at "ev"))
  | ((with_reducible refine' ev_maxD ?k1 ?k2); (case k1 => walk_at "ev"); (case k2 => walk_at "ev"))
  | ((with_reducible refine' ev_minD ?k1 ?k2); (case k1 => walk_at "ev"); (case k2 => walk_at "ev"))
  | ((with_reducible refine' ev_t2D ?k1 ?k2); (case k1 => walk_at "ev"); (case k2 => walk_at "ev"))
  | ((with_reducible refine' ev_mulD ?k1 ?k2 ?k3); (case k1 => walk_at "ev"); (case k2 => walk_at "ev"); (case k3 => walk_at "side"))
  | ((with_reducible refine' ev_divD ?k1 ?k2 ?k3); (case k1 => walk_at "ev"); (case k2 => walk_at "ev"); (case k3 => walk_at "side"))
  | ((with_reducible refine' ev_modD ?k1 ?k2 ?k3); (case k1 => walk_at "ev"); (case k2 => walk_at "ev"); (case k3 => walk_at "side"))
  | ((with_reducible refine' ev_powD ?k1 ?k2 ?k3); (case k1 => walk_at "ev"); (case k2 => walk_at "ev"); (case k3 => walk_at "side"))
  | ((with_reducible refine' ev_catSD ?k1 ?k2 ?k3); (case k1 => walk_at "ev"); (case k2 => walk_at "ev"); (case k3 => walk_at "side"))
  | ((with_reducible refine' ev_stripD ?k1 ?k2 ?k3); (case k1 => walk_at "ev"); (case k2 => walk_at "ev"); (case k3 => walk_at "side"))
  | ((with_reducible refine' ev_divmodD ?k1 ?k2 ?k3); (case k1 => walk_at "ev"); (case k2 => walk_at "ev"); (case k3 => walk_at "side"))
  | ((with_reducible refine' ev_intD ?k1); (case k1 => walk_at "ev"))
  | ((with_reducible refine' ev_absD ?k1); (case k1 => walk_at "ev"))
  | ((with_reducible refine' ev_negD ?k1); (case k1 => walk_at "ev"))
  | ((with_reducible refine' ev_lenLD ?k1); (case k1 => walk_at "ev"))
  | ((with_reducible refine' ev_lenScrD ?k1); (case k1 => walk_at "ev"))
  | ((with_reducible refine' ev_lenDD ?k1); (case k1 => walk_at "ev"))
  | ((with_reducible refine' ev_fstD ?k1); (case k1 => walk_at "ev"))
  | ((with_reducible refine' ev_sndD ?k1); (case k1 => walk_at "ev"))
  | ((with_reducible refine' ev_notVD ?k1); (case k1 => walk_at "ev"))
  | ((with_reducible refine' ev_listLD ?k1); (case k1 => walk_at "ev"))
  | ((with_reducible refine' ev_listDD ?k1); (case k1 => walk_at "ev"))
  | ((with_reducible refine' ev_dictDD ?k1); (case k1 => walk_at "ev"))
  | ((with_reducible refine' ev_dictPD ?k1); (case k1 => walk_at "ev"))
  | ((with_reducible refine' ev_allD ?k1); (case k1 => walk_at "ev"))
  | ((with_reducible refine' ev_anyD ?k1); (case k1 => walk_at "ev"))
  | ((with_reducible refine' ev_sumD ?k1); (case k1 => walk_at "ev"))
  | ((with_reducible refine' ev_dinD ?k1 (ed_knownD ?k2)); (case k1 => walk_at "ev"); (case k2 => walk_at "ev"))
  | (refine' ev_dget2D (ed_knownD ?k1) ?k2 ?k3; (case k1 => walk_at "ev"); (case k2 => walk_at "ev"); (case k3 => walk_at "ev")))
local macro_rules | `(tactic| walk_at "et") => `(tactic| first
  | (refine' et_testD ?k1; (case k1 => walk_at "ev")) | (refine' et_valD ?k1; (case k1 => walk_at "ev")) | (refine' et_notD ?k1; (case k1 => walk_at "et")))
local macro_rules | `(tactic| walk_at "ea") => `(tactic| first
  | exact ea_nilD | ((refine' ea_consD ?k1 ?k2); (case k1 => walk_at "ev"); (case k2 => walk_at "ea")) | (refine' ea_voD rfl ?k1; (case k1 => walk_at "ea")))
local macro_rules | `(tactic| walk_at "es") => `(tactic| first
  | exact eas_nilD | ((refine' eas_consD ?k1 ?k2); (case k1 => walk_at "ev"); (case k2 => walk_at "es")))
local macro_rules | `(tactic| walk_at "set") => `(tactic| (first | refine' sq_setD ?k1 ?k2 | refine' at_setD ?k1 ?k2); (case k1 => walk_at "ev"))
local macro_rules | `(tactic| walk_at "le") => `(tactic| first | exact le_nil | (refine le_same ?_; walk_at "le") | (refine le_drop ?_; walk_at "le"))

structure Good (a : SumD) : Prop where
  m : IsMod a.q
  c0 : 0 ≤ a.c
  c1 : a.c < a.q
  nd : NumD a.q a.ws
  pw : (keys a.ws).Pairwise leT
  nz : ∀ x ∈ a.ws, x.2 ≠ 0
theorem Good.nrm {a : SumD} (g : Good a) : nrm a.ws = a.ws := nrm_self g.nd.2.1 g.pw g.nz
theorem good_mk {q : Int} {kvs : List (Str × Int)} {c : Int} (m : IsMod q) (h0 : 0 ≤ c) (h1 : c < q) (n : NumD q kvs) : Good ⟨q, QL.nrm kvs, c⟩ := by
  refine ⟨m, h0, h1, ⟨Nat.lt_of_le_of_lt (nrm_len kvs) n.1, nrm_nodup n.2.1, fun x mx => ?_⟩, nrm_pw kvs, fun x mx => (nrm_nz x mx).1⟩
  obtain ⟨h2, h3, h4⟩ := nrm_nz x mx
  obtain ⟨y, my, ey⟩ := List.mem_map.mp h3
  have hv := val_mem n.2.1 my
  rw [ey] at hv
  obtain ⟨k1, k2, k3⟩ := n.2.2 y my
  rw [ey] at k1
  rw [h4, hv]
  exact ⟨k1, k2, k3⟩
section
variable {P : Program} {w : World} {K : PySem.W.Frag} {mg : Str → Option Value} {base : Heap} {C : Addr}
def preGet {γ : Type} (C : Addr) (g : SumD → γ) (L : List Slot) (P : γ → Prop) : Prop := ∃ a, L = [.va (RSum C) a] ∧ P = fun x => x = g a
section
variable {Γ : QL.Ctx} {te : TE} {a : SumD}
theorem ev_fm (h : Ev Γ te (RSum C) (fun x => x = a)) (SC : SumC K C) : Ev Γ (tFld K te "_modulus") RI (fun x => x = a.q) := ev_fld h SC.cls SC.nm rfl
theorem ev_fw (h : Ev Γ te (RSum C) (fun x => x = a)) (SC : SumC K C) : Ev Γ (tFld K te "_weights") (RD RI) (fun x => x = a.ws) := ev_fld h SC.cls SC.nw rfl
theorem ev_fc (h : Ev Γ te (RSum C) (fun x => x = a)) (SC : SumC K C) : Ev Γ (tFld K te "_constant") RI (fun x => x = a.c) := ev_fld h SC.cls SC.nc rfl
theorem pv_fw {i : Nat} (h : Γ[i]? = some (.va (RSum C) a)) (SC : SumC K C) : PthV Γ (tFld K (tVar i) "_weights") (RD RI) a.ws := pv_fld (pv_var h) SC.cls SC.nw rfl
end

theorem sc_Sum_modulus : FnScope ["self"] ["self"] (defScope sSum_modulus) := ⟨rfl, rfl, rfl, by decide +kernel, rfl, by decide +kernel, by decide +kernel⟩
theorem ok_Sum_modulus {f : Addr} {fd : FuncData} (F : Fun K "modulus" "Sum.modulus" sSum_modulus f fd) (T : Txt K mg) (SC : SumC K C) : FnOk P w K mg base CX0 1 f fd ["self"] (FSp RI (preGet C fun a => a.q)) := by
  refine F.ok sc_Sum_modulus (fsp_len (n := 1) fun L P ⟨a, e, _⟩ => by rw [e]; rfl) (fun cdv A outer s H vs Q E hr h => ?_)
  refine ⟨_, (pss_one (ps_ret (pe_fld (pv 0) rfl))), ?_⟩
  refine body_of 1 h (fun L P ⟨a, e, _⟩ => by rw [e]; rfl) (by decide) fun L P ⟨a, eL, eP⟩ F D hR => ?_
  subst eL
  subst eP
  show At F [.va (RSum C) a] _
  exact at_retD hR (ev_fm (ev_var rfl) SC) (fun W z => by simp at z) rfl
theorem sc_Sum_constant : FnScope ["self"] ["self"] (defScope sSum_constant) := ⟨rfl, rfl, rfl, by decide +kernel, rfl, by decide +kernel, by decide +kernel⟩
theorem ok_Sum_constant {f : Addr} {fd : FuncData} (F : Fun K "constant" "Sum.constant" sSum_constant f fd) (T : Txt K mg) (SC : SumC K C) : FnOk P w K mg base CX0 1 f fd ["self"] (FSp RI (preGet C fun a => a.c)) := by
  refine F.ok sc_Sum_constant (fsp_len (n := 1) fun L P ⟨a, e, _⟩ => by rw [e]; rfl) (fun cdv A outer s H vs Q E hr h => ?_)
  refine ⟨_, (pss_one (ps_ret (pe_fld (pv 0) rfl))), ?_⟩
  refine body_of 1 h (fun L P ⟨a, e, _⟩ => by rw [e]; rfl) (by decide) fun L P ⟨a, eL, eP⟩ F D hR => ?_
  subst eL
  subst eP
  show At F [.va (RSum C) a] _
  exact at_retD hR (ev_fc (ev_var rfl) SC) (fun W z => by simp at z) rfl
theorem sc_Sum_is_constant : FnScope ["self"] ["self"] (defScope sSum_is_constant) := ⟨rfl, rfl, rfl, by decide +kernel, rfl, by decide +kernel, by decide +kernel⟩
theorem ok_Sum_is_constant {f : Addr} {fd : FuncData} (F : Fun K "is_constant" "Sum.is_constant" sSum_is_constant f fd) (T : Txt K mg) (SC : SumC K C) : FnOk P w K mg base CX0 1 f fd ["self"] (FSp RB (preGet C fun a => decide ((a.ws.length : Int) = 0))) := by
  refine F.ok sc_Sum_is_constant (fsp_len (n := 1) fun L P ⟨a, e, _⟩ => by rw [e]; rfl) (fun cdv A outer s H vs Q E hr h => ?_)
  refine ⟨_, (pss_one (ps_ret (pe_cmpR op_eq (pe_callB call_lenRd (by rfl) T.b_len (by decide +kernel) (pa_cons (pe_fld (pv 0) rfl) pa_nil)) pe_int (nomark _)))), ?_⟩
  refine body_of 1 h (fun L P ⟨a, e, _⟩ => by rw [e]; rfl) (by decide) fun L P ⟨a, eL, eP⟩ F D hR => ?_
  subst eL
  subst eP
  show At F [.va (RSum C) a] _
  exact at_retD hR (ev_eqID (ev_lenDD (ev_fw (ev_var rfl) SC)) ev_int) (fun W z => by simp at z) rfl
theorem sc_Sum_weights : FnScope ["self"] ["self"] (defScope sSum_weights) := ⟨rfl, rfl, rfl, by decide +kernel, rfl, by decide +kernel, by decide +kernel⟩
theorem ok_Sum_weights {f : Addr} {fd : FuncData} (F : Fun K "weights" "Sum.weights" sSum_weights f fd) (T : Txt K mg) (SC : SumC K C) : FnOk P w K mg base CX0 1 f fd ["self"] (FSpG (fun p d => VD p RI d) (preGet C fun a => a.ws)) := by
  refine F.ok sc_Sum_weights (fspG_len (n := 1) fun L P ⟨a, e, _⟩ => by rw [e]; rfl) (fun cdv A outer s H vs Q E hr h => ?_)
  refine ⟨_, (pss_one (ps_ret (pe_callTy clDictD (by rfl) T.b_dict (by decide +kernel) (pa_cons (pe_fld (pv 0) rfl) pa_nil)))), ?_⟩
  refine body_ofG 1 h (fun L P ⟨a, e, _⟩ => by rw [e]; rfl) (by decide) fun L P ⟨a, eL, eP⟩ F D hR => ?_
  subst eL
  subst eP
  show At F [.va (RSum C) a] _
  exact at_retO hR (eo_dictD (ed_knownD (ev_fw (ev_var rfl) SC))) (fun W z => by simp at z) fun _ e => e
theorem sc_Sum_names : FnScope ["self"] ["self"] (defScope sSum_names) := ⟨rfl, rfl, rfl, by decide +kernel, rfl, by decide +kernel, by decide +kernel⟩
theorem ok_Sum_names {f : Addr} {fd : FuncData} (F : Fun K "names" "Sum.names" sSum_names f fd) (T : Txt K mg) (SC : SumC K C) : FnOk P w K mg base CX0 1 f fd ["self"] (FSpG (fun p d => VL p RS d) (preGet C fun a => keys a.ws)) := by
  refine F.ok sc_Sum_names (fspG_len (n := 1) fun L P ⟨a, e, _⟩ => by rw [e]; rfl) (fun cdv A outer s H vs Q E hr h => ?_)
  refine ⟨_, (pss_one (ps_ret (pe_callTy (clListD rfl) (by rfl) T.b_list (by decide +kernel) (pa_cons (pe_fld (pv 0) rfl) pa_nil)))), ?_⟩
  refine body_ofG 1 h (fun L P ⟨a, e, _⟩ => by rw [e]; rfl) (by decide) fun L P ⟨a, eL, eP⟩ F D hR => ?_
  subst eL
  subst eP
  show At F [.va (RSum C) a] _
  exact at_retO hR (eo_listD (ed_knownD (ev_fw (ev_var rfl) SC))) (fun W z => by simp at z) fun _ ⟨_, e, e2⟩ => by rw [e2, e]
theorem sc_Sum_weight : FnScope ["self", "name"] ["self", "name"] (defScope sSum_weight) := ⟨rfl, rfl, rfl, by decide +kernel, rfl, by decide +kernel, by decide +kernel⟩
def preWeight (K : PySem.W.Frag) (C : Addr) (L : List Slot) (P : Int → Prop) : Prop := (∃ a s, L = [.va (RSum C) a, .va RS s] ∧ P = fun x => x = val a.ws s) ∨ ∃ (a : SumD) (γ : Type) (R : Rel γ) (x : γ), TyR K R "str" false ∧ L = [.va (RSum C) a, .va R x] ∧ P = fun x => x = 0
theorem ok_Sum_weight {f : Addr} {fd : FuncData} (F : Fun K "weight" "Sum.weight" sSum_weight f fd) (T : Txt K mg) (SC : SumC K C) : FnOk P w K mg base CX0 1 f fd ["self", "name"] (FSp RI (preWeight K C)) := by
  have hl : ∀ L P, preWeight K C L P → L.length = 2 := fun L P h => by rcases h with ⟨a, s, e, _⟩ | ⟨a, γ, R, x, _, e, _⟩ <;> (rw [e]; rfl)
  refine F.ok sc_Sum_weight (fsp_len (n := 2) hl) (fun cdv A outer s H vs Q E hr h => ?_)
  refine ⟨_, (pss_one (ps_ret (pe_ifExp (pt_val (pe_callB call_isi (by rfl) T.b_isinstance (by decide +kernel) (pa_cons (pv 1) (pa_cons (pe_bltn (v := .ty "str") (by rfl) T.b_str (by decide +kernel) rfl) pa_nil)))) (pe_dget2 (hu_of hr) (pe_fld (pv 0) rfl) (pv 1) pe_int (m2_of rfl)) pe_int))), ?_⟩
  refine body_of 2 h hl (by decide) fun L P pre F D hR => ?_
  rcases pre with ⟨a, s, eL, eP⟩ | ⟨a, γ, R, x, ty, eL, eP⟩
  · subst eL
    subst eP
    show At F [.va (RSum C) a, .va RS s] _
    exact at_retD hR (ev_ifD (b := 0) (et_valD (ev_isiD (ev_var rfl) tyr_str)) (fun _ => ev_dget2D (ed_knownD (ev_fw (ev_var rfl) SC)) (ev_var rfl) ev_int) fun h => by cases h) (fun W z => by simp at z) rfl
  · subst eL
    subst eP
    show At F [.va (RSum C) a, .va R x] _
    exact at_retD hR (ev_ifD (a := 0) (et_valD (ev_isiD (ev_var rfl) ty)) (fun h => by cases h) fun _ => ev_int) (fun W z => by simp at z) rfl
theorem sc_Sum_at : FnScope ["self", "world", "name", "weight", "moves"] ["self", "world"] (defScope sSum_at) := ⟨rfl, rfl, rfl, by decide +kernel, rfl, by decide +kernel, by decide +kernel⟩
def sumAt (ws kvs : List (Str × Int)) : Int := (ws.map fun x => x.2 * val kvs x.1).sum
def preAt (C : Addr) (L : List Slot) (P : Int → Prop) : Prop := ∃ (a : SumD) (kvs : List (Str × Int)) (s : Slot), L = [.va (RSum C) a, s] ∧ Good a ∧ DS RI kvs s ∧ NumD a.q kvs ∧ (∀ k ∈ keys a.ws, k ∈ keys kvs) ∧ P = fun x => x = (a.c + sumAt a.ws kvs) % a.q
theorem ok_Sum_at {f : Addr} {fd : FuncData} (F : Fun K "at" "Sum.at" sSum_at f fd) (T : Txt K mg) (SC : SumC K C) (OW : Own P w K mg base "is_world" ["modulus", "value"] 3 (FSp RB preIsWorld)) : FnOk P w K mg base CX0 4 f fd ["self", "world"] (FSp RI (preAt C)) := by
  refine F.ok sc_Sum_at (fsp_len (n := 2) fun L P ⟨a, kvs, s, e, _⟩ => by rw [e]; rfl) (fun cdv A outer s H vs Q E hr h => ?_)
  refine ⟨_, (pss_cons (ps_if (pt_not (pt_val (pe_own OW (hr.mono (by decide)) (by rfl) (pa_cons (pe_fld (pv 0) rfl) (pa_cons (pv 1) pa_nil))))) (pss_one ps_never) pss_nil) (pss_cons (ps_lk (ps_for PassesOwn.never rfl (pi_keys (pe_fld (pv 0) rfl)) (pg_name (i := 2) sc_Sum_at.nd rfl (by first | exact Or.inl rfl | exact Or.inr rfl)) (pss_one (ps_if (pt_cmp (pc_dnotin (hu_of hr) (pv 2) (pv 1))) (pss_one ps_never) pss_nil)))) (pss_cons (ps_lk (ps_setLc (i := 4) (own := [("name", 2), ("weight", 3)]) (g := gTup K 2 (gCons (gName 2) (gCons (gName 3) gNil))) rfl sc_Sum_at.nd rfl rfl (sw_true rfl rfl rfl (by decide +kernel)) (pi_items (pe_fld (pv 0) rfl)) (blkOk_by (own := [("name", 2), ("weight", 3)]) (N := ["self", "world", "name", "weight", "moves"]) (sc := defScope sSum_at) (by decide +kernel)) (fun _ _ _ _ _ => (pg_tup rfl (pgs_cons (pg_name (i := 2) sc_Sum_at.nd rfl (by first | exact Or.inl rfl | exact Or.inr rfl)) (pgs_cons (pg_name (i := 3) sc_Sum_at.nd rfl (by first | exact Or.inl rfl | exact Or.inr rfl)) pgs_nil)))) (fun _ _ _ _ _ => pts_nil) (fun _ _ _ _ _ => (pe_op opMul (pv 3) (pe_dget (hu_of hr) (pv 1) (pv 2) (fun _ _ => rfl)))))) (pss_one (ps_ret (pe_op opMod (pe_op opAdd (pe_fld (pv 0) rfl) (pe_callB (cr_sum rfl) (by rfl) T.b_sum (by decide +kernel) (pa_cons (pv 4) pa_nil))) (pe_fld (pv 0) rfl))))))), ?_⟩
  refine body_of 2 h (fun L P ⟨a, kvs, s, e, _⟩ => by rw [e]; rfl) (by decide) fun L P ⟨a, kvs, sl, eL, gd, ds, hn, hs, eP⟩ F D hR => ?_
  subst eL
  subst eP
  show At F [.va (RSum C) a, sl, .no, .no, .no] _
  refine sq_guard (et_notD (et_valD (ev_is_world (ev_fm (ev_var rfl) SC) ds rfl hn))) (fun hc => by cases hc) fun _ => ?_
  have hval : ∀ x ∈ keys kvs, getS kvs x = some (val kvs x) := fun x m => by
    obtain ⟨v, ev⟩ := getS_some m
    unfold val
    rw [ev]; rfl
  have hb := gd.m.b
  refine at_seq (at_forKeys (js := [2]) Unit (fun _ => [.va (RSum C) a, sl, .no, .no, .no]) (fun _ _ => True) () (pv_fw rfl SC) trivial (Le.refl _) (fun _ => eg_name) (fun _ _ _ => feet_va) (fun F1 D1 br F' le i x s N ex hI hN => ?_) fun _ _ => ?_)
  · have mx : x ∈ keys kvs := hs x (List.mem_of_getElem? ex)
    refine at_ifD (et_testD (ev_dnotinD (ev_var rfl) (ds.ed (i := 1) rfl))) (fun hc => ?_) fun _ => (hN () trivial).le (le_set rfl)
    rw [hasS_iff.mpr mx] at hc
    cases hc
  · refine at_seq (at_setLcItems (Rb := RI) (js := [2, 3]) (PT := fun _ b => b = true) (PY := fun x v => v = x.2 * val kvs x.1) (pv_fw rfl SC) (eg_2 (eg_name (by exact (by decide : 2 < 5))) fun a => eg_name (by exact (by decide : 3 < 5))) (fun j h => h) (fun a b z => feet_va (feet_va z)) (fun a => le_set2 rfl rfl) (nv_no rfl (nv_no rfl nv_nil)) ?_ (fun x _ => et_yes)
      (fun x m _ => ev_mulD (ev_var rfl) (ev_dgetD (ds.ed (i := 1) rfl) (ev_var rfl) (hval x.1 (hs x.1 (List.mem_map_of_mem m)))) ?_) fun l pl => ?_)
    · have := gd.nd.1
      omega
    · have := gd.nd.2.2 x m
      exact .inl ⟨by omega, by omega⟩
    · have el := pl.map (f := fun x => x.2 * val kvs x.1) (fun x _ h => by cases h) (fun x _ y h => h)
      subst el
      exact at_retD hR (ev_modD (ev_addD (ev_fc (ev_var rfl) SC) (ev_sumD (ev_var rfl))) (ev_fm (ev_var rfl) SC) (by omega)) (fun W z => ⟨1, by simp at z; rw [z]; rfl⟩) rfl
end
end K11

set_option Elab.async false
set_option linter.all false
set_option maxRecDepth 100000
namespace K11
open PySem L2 QL
local macro_rules | `(tactic| walk_at "side") => `(tactic| first
  | decide | omega | exact Or.inl ⟨by omega, by omega⟩ | exact Or.inr ⟨by omega, by omega⟩ | exact ⟨by omega, by omega⟩ | exact ⟨by omega, by omega, by omega⟩ | assumption)
local macro_rules | `(tactic| walk_at "ev") => `(tactic| first
  | (((with_reducible refine' ev_var ?k1); (case k1 => exact rfl)))
  | with_reducible exact ev_int
  | with_reducible exact ev_str
  | with_reducible exact ev_bl
  | with_reducible exact ev_non
  | with_reducible exact ev_ty
  | ((with_reducible refine' ev_addD ?k1 ?k2); (case k1 => walk_at "ev"); (case k2 => walk_at "ev"))
  | ((with_reducible refine' ev_subD ?k1 ?k2); (case k1 => walk_at "ev"); (case k2 => walk_at "ev"))
  | ((with_reducible refine' ev_ltD ?k1 ?k2); (case k1 => walk_at "ev"); (case k2 => walk_at "ev"))
  | ((with_reducible refine' ev_leD ?k1 ?k2); (case k1 => walk_at "ev"); (case k2 => walk_at "ev"))
  | ((with_reducible refine' ev_gtD ?k1 ?k2); (case k1 => walk_at "ev"); (case k2 => walk_at "ev"))
  | ((with_reducible refine' ev_geD ?k1 ?k2); (case k1 => walk_at "ev"); (case k2 => walk_at "ev"))
  | ((with_reducible refine' ev_eqID ?k1 ?k2); (case k1 => walk_at "ev"); (case k2 => walk_at "ev"))
  | ((with_reducible refine' ev_neID ?k1 ?k2); (case k1 => walk_at "ev"); (case k2 => walk_at "ev"))
  | ((with_reducible refine' ev_eqSD ?k1 ?k2); (case k1 => walk_at "ev"); (case k2 => walk_at "ev"))
  | ((with_reducible refine' ev_neSD ?k1 ?k2); (case k1 => walk_at "ev"); (case k2 => walk_at "ev"))
  | ((with_reducible refine' ev_maxD ?k1 ?k2); (case k1 => walk_at "ev"); (case k2 => walk_at "ev"))
  | ((with_reducible refine' ev_minD ?k1 ?k2); (case k1 => walk_at "ev"); (case k2 => walk_at "ev"))
  | ((with_reducible refine' ev_t2D ?k1 ?k2); (case k1 => walk_at "ev"); (case k2 => walk_at "ev"))
  | ((with_reducible refine' ev_mulD ?k1 ?k2 ?k3); (case k1 => walk_at "ev"); (case k2 => walk_at "ev"); (case k3 => walk_at "side"))
  | ((with_reducible refine' ev_divD ?k1 ?k2 ?k3); (case k1 => walk_at "ev"); (case k2 => walk_at "ev"); (case k3 => walk_at "side"))
  | ((with_reducible refine' ev_modD ?k1 ?k2 ?k3); (case k1 => walk_at "ev"); (case k2 => walk_at "ev"); (case k3 => walk_at "side"))
  | ((with_reducible refine' ev_powD ?k1 ?k2 ?k3); (case k1 => walk_at "ev"); (case k2 => walk_at "ev"); (case k3 => walk_at "side"))
  | ((with_reducible refine' ev_catSD ?k1 ?k2 ?k3); (case k1 => walk_at "ev"); (case k2 => walk_at "ev"); (case k3 => walk_at "side"))
  | ((with_reducible refine' ev_stripD ?k1 ?k2 ?k3); (case k1 => walk_at "ev"); (case k2 => walk_at "ev"); (case k3 => walk_at "side"))
  | ((with_reducible refine' ev_divmodD ?k1 ?k2 ?k3); (case k1 => walk_at "ev"); (case k2 => walk_at "ev"); (case k3 => walk_at "side"))
  | ((with_reducible refine' ev_intD ?k1); (case k1 => walk_at "ev"))
  | ((with_reducible refine' ev_absD ?k1); (case k1 => walk_at "ev"))
  | ((with_reducible refine' ev_negD ?k1); (case k1 => walk_at "ev"))
  | ((with_reducible refine' ev_lenLD ?k1); (case k1 => walk_at "ev"))
  | ((with_reducible refine' ev_lenScrD ?k1); (case k1 => walk_at "ev"))
  | ((with_reducible refine' ev_lenDD ?k1); (case k1 => walk_at "ev"))
  | ((with_reducible refine' ev_fstD ?k1); (case k1 => walk_at "ev"))
  | ((with_reducible refine' ev_sndD ?k1); (case k1 => walk_at "ev"))
  | ((with_reducible refine' ev_notVD ?k1); (case k1 => walk_at "ev"))
  | ((with_reducible refine' ev_listLD ?k1); (case k1 => walk_at "ev"))
  | ((with_reducible refine' ev_listDD ?k1); (case k1 => walk_at "ev"))
  | ((with_reducible refine' ev_dictDD ?k1); (case k1 => walk_at "ev"))
  | ((with_reducible refine' ev_dictPD ?k1); (case k1 => walk_at "ev"))
  | ((with_reducible refine' ev_allD ?k1); (case k1 => walk_at "ev"))
  | ((with_reducible refine' ev_anyD ?k1); (case k1 => walk_at "ev"))
  | ((with_reducible refine' ev_sumD ?k1); (case k1 => walk_at "ev"))
  | ((with_reducible refine' ev_dinD ?k1 (ed_knownD ?k2)); (case k1 => walk_at "ev"); (case k2 => walk_at "ev"))
  | (refine' ev_dget2D (ed_knownD ?k1) ?k2 ?k3; (case k1 => walk_at "ev"); (case k2 => walk_at "ev"); (case k3 => walk_at "ev")))
local macro_rules | `(tactic| walk_at "et") => `(tactic| first
  | (refine' et_testD ?k1; (case k1 => walk_at "ev")) | (refine' et_valD ?k1; (case k1 => walk_at "ev")) | (refine' et_notD ?k1; (case k1 => walk_at "et")))
local macro_rules | `(tactic| walk_at "ea") => `(tactic| first
  | exact ea_nilD | ((refine' ea_consD ?k1 ?k2); (case k1 => walk_at "ev"); (case k2 => walk_at "ea")) | (refine' ea_voD rfl ?k1; (case k1 => walk_at "ea")))
local macro_rules | `(tactic| walk_at "es") => `(tactic| first
  | exact eas_nilD | ((refine' eas_consD ?k1 ?k2); (case k1 => walk_at "ev"); (case k2 => walk_at "es")))
local macro_rules | `(tactic| walk_at "set") => `(tactic| (first | refine' sq_setD ?k1 ?k2 | refine' at_setD ?k1 ?k2); (case k1 => walk_at "ev"))
local macro_rules | `(tactic| walk_at "le") => `(tactic| first | exact le_nil | (refine le_same ?_; walk_at "le") | (refine le_drop ?_; walk_at "le"))

section
variable {P : Program} {w : World} {K : PySem.W.Frag} {mg : Str → Option Value} {base : Heap} {C : Addr}
section
variable {Γ : QL.Ctx} {te : TE} {a : SumD}
theorem ev_isS (h : Ev Γ te (RSum C) (fun x => x = a)) (SC : SumC K C) : Ev Γ (tCB (rIsi K) (tCons te (tCons (tC (.ref C)) tNil))) RB (fun x => x = true) := fun σ h0 H S e Q q =>
  h σ h0 H S e _ fun v a' h1 H1 p1 s1 S1 r1 => by
    obtain ⟨p, dx, fs, rfl, hp, _⟩ := r1
    exact ⟨_, .ref C, .ref C, .ref C, true, rfl, .own C, .base (.ins (s1.ex.ins hp) SC.cls SC.i1 SC.i2 SC.i3 SC.i4), if_pos (beq_self_eq_true _), q _ true h1 H1 rfl s1 S1 rfl⟩
theorem ev_pm (h : Ev Γ te (RSum C) (fun x => x = a)) : Ev Γ (tProp C (FSp RI (preGet C fun a => a.q)) [] E0 te) RI (fun x => x = a.q) := ev_prop h ⟨a, rfl, rfl⟩
theorem ev_pc (h : Ev Γ te (RSum C) (fun x => x = a)) : Ev Γ (tProp C (FSp RI (preGet C fun a => a.c)) [] E0 te) RI (fun x => x = a.c) := ev_prop h ⟨a, rfl, rfl⟩
theorem ev_pi (h : Ev Γ te (RSum C) (fun x => x = a)) : Ev Γ (tProp C (FSp RB (preGet C fun a => decide ((a.ws.length : Int) = 0))) [] E0 te) RB (fun x => x = decide ((a.ws.length : Int) = 0)) := ev_prop h ⟨a, rfl, rfl⟩
theorem eo_weights (h : Ev Γ te (RSum C) (fun x => x = a)) : EvO Γ (tMeth C "weights" (FSpG (fun p d => VD p RI d) (preGet C fun a => a.ws)) [] E0 te tNil) (fun p d => VD p RI d) (fun d => d = a.ws) := eo_meth h rfl ea_nilD trivial ⟨a, rfl, rfl⟩
end
abbrev PrpM (P : Program) (w : World) (K : PySem.W.Frag) (mg : Str → Option Value) (base : Heap) (C : Addr) : Prop := Prp P w K mg base 1 C "modulus" (FSp RI (preGet C fun a => a.q))
abbrev PrpC (P : Program) (w : World) (K : PySem.W.Frag) (mg : Str → Option Value) (base : Heap) (C : Addr) : Prop := Prp P w K mg base 1 C "constant" (FSp RI (preGet C fun a => a.c))
abbrev MetW (P : Program) (w : World) (K : PySem.W.Frag) (mg : Str → Option Value) (base : Heap) (C : Addr) : Prop := C8.Met P w K mg base 1 C "weights" (FSpG (fun p d => VD p RI d) (preGet C fun a => a.ws)) []
abbrev MakS (P : Program) (w : World) (K : PySem.W.Frag) (mg : Str → Option Value) (base : Heap) (C : Addr) : Prop := C8.Mak P w K mg base 4 "Sum" C (FSpI C sumF preInit) []

theorem sc_is_sum : FnScope ["modulus", "value"] ["modulus", "value"] (defScope s_is_sum) := ⟨rfl, rfl, rfl, by decide +kernel, rfl, by decide +kernel, by decide +kernel⟩
def preIsSum (C : Addr) (L : List Slot) (P : Bool → Prop) : Prop := ∃ (q : Int) (a : SumD), L = [.va RI q, .va (RSum C) a] ∧ P = fun b => b = decide (a.q = q)
theorem ok_is_sum {f : Addr} {fd : FuncData} (F : Fun K "is_sum" "is_sum" s_is_sum f fd) (T : Txt K mg) (SC : SumC K C) (GS : Gv mg "Sum" (.ref C)) (PM : PrpM P w K mg base C) : FnOk P w K mg base CX0 3 f fd ["modulus", "value"] (FSp RB (preIsSum C)) := by
  refine F.ok sc_is_sum (fsp_len (n := 2) fun L P ⟨q, a, e, _⟩ => by rw [e]; rfl) (fun cdv A outer s H vs Q E hr h => ?_)
  refine ⟨_, (pss_one (ps_ret (pe_and (pe_callB call_isi (by rfl) T.b_isinstance (by decide +kernel) (pa_cons (pv 1) (pa_cons (pe_gv (by rfl) GS) pa_nil))) (pe_one (pe_cmpR op_eq (pe_pr PM hr (by decide) (pv 1) rfl) (pv 0) (nomark _)))))), ?_⟩
  refine body_of 2 h (fun L P ⟨q, a, e, _⟩ => by rw [e]; rfl) (by decide) fun L P ⟨q, a, eL, eP⟩ F D hR => ?_
  subst eL
  subst eP
  show At F [.va RI q, .va (RSum C) a] _
  exact at_retD hR (ev_andVD (ev_isS (ev_var rfl) SC) fun _ => ev_eqID (ev_pm (ev_var rfl)) (ev_var rfl)) (fun W z => by simp at z) (by simp)
theorem sc_require_addend : FnScope ["left", "right"] ["left", "right"] (defScope s_require_addend) := ⟨rfl, rfl, rfl, by decide +kernel, rfl, by decide +kernel, by decide +kernel⟩
def preReqA (C : Addr) (L : List Slot) (P : Unit → Prop) : Prop := ∃ a b : SumD, L = [.va (RSum C) a, .va (RSum C) b] ∧ a.q = b.q ∧ P = fun _ => True
theorem ok_require_addend {f : Addr} {fd : FuncData} (F : Fun K "_require_addend" "_require_addend" s_require_addend f fd) (T : Txt K mg) (SC : SumC K C) (GS : Gv mg "Sum" (.ref C)) (PM : PrpM P w K mg base C) : FnOk P w K mg base CX0 3 f fd ["left", "right"] (FSp RN (preReqA C)) := by
  refine F.ok sc_require_addend (fsp_len (n := 2) fun L P ⟨q, a, e, _⟩ => by rw [e]; rfl) (fun cdv A outer s H vs Q E hr h => ?_)
  refine ⟨_, (pss_cons (ps_if (pt_not (pt_val (pe_callB call_isi (by rfl) T.b_isinstance (by decide +kernel) (pa_cons (pv 1) (pa_cons (pe_gv (by rfl) GS) pa_nil))))) (pss_one ps_never) pss_nil) (pss_one (ps_if (pt_cmpR op_ne (pe_pr PM hr (by decide) (pv 1) rfl) (pe_pr PM hr (by decide) (pv 0) rfl) (nomark _)) (pss_one ps_never) pss_nil))), ?_⟩
  refine body_ofN 2 h (fun L P ⟨q, a, e, _⟩ => by rw [e]; rfl) (by decide) fun L P ⟨a, b, eL, hq, eP⟩ F D hN hR => ?_
  subst eL
  subst eP
  show At F [.va (RSum C) a, .va (RSum C) b] _
  refine sq_guard (et_notD (et_valD (ev_isS (ev_var rfl) SC))) (fun hc => by cases hc) fun _ => ?_
  refine at_ifD (et_testD (ev_neID (ev_pm (ev_var rfl)) (ev_pm (ev_var rfl)))) (fun hc => ?_) fun _ => at_end hN (fun W z => by simp at z) trivial
  simp [hq] at hc
theorem sc_is_sum_world : FnScope ["modulus", "value", "name", "total"] ["modulus", "value"] (defScope s_is_sum_world) := ⟨rfl, rfl, rfl, by decide +kernel, rfl, by decide +kernel, by decide +kernel⟩
def preIsSW (C : Addr) (L : List Slot) (P : Bool → Prop) : Prop := ∃ (q : Int) (ss : List (Str × SumD)), L = [.va RI q, .va (RD (RSum C)) ss] ∧ ss.length ≤ 100 ∧ (∀ x ∈ ss, IsName x.1 ∧ x.2.q = q) ∧ P = fun b => b = true
theorem ok_is_sum_world {f : Addr} {fd : FuncData} (F : Fun K "_is_sum_world" "_is_sum_world" s_is_sum_world f fd) (T : Txt K mg) (OM : Own P w K mg base "is_name" ["value"] 1 (FSp RB preIsName)) (OS : Own P w K mg base "is_sum" ["modulus", "value"] 3 (FSp RB (preIsSum C))) :
    FnOk P w K mg base CX0 4 f fd ["modulus", "value"] (FSp RB (preIsSW C)) := by
  refine F.ok sc_is_sum_world (fsp_len (n := 2) fun L P ⟨q, a, e, _⟩ => by rw [e]; rfl) (fun cdv A outer s H vs Q E hr h => ?_)
  refine ⟨_, (pss_cons (ps_if (pt_not (pt_val (pe_callB call_isi (by rfl) T.b_isinstance (by decide +kernel) (pa_cons (pv 1) (pa_cons (pe_bltn (v := .ty "dict") (by rfl) T.b_dict (by decide +kernel) rfl) pa_nil))))) (pss_one (ps_ret pe_bl)) pss_nil) (pss_one (ps_ret (pe_callB (cr_all rfl) (by rfl) T.b_all (by decide +kernel) (pa_cons (pe_lk (pe_lc (own := [("name", 2), ("total", 3)]) (g := gTup K 2 (gCons (gName 2) (gCons (gName 3) gNil))) rfl sc_is_sum_world.nd (pi_items (pv 1)) (blkOk_by (own := [("name", 2), ("total", 3)]) (N := ["modulus", "value", "name", "total"]) (sc := defScope s_is_sum_world) (by decide +kernel)) (fun _ _ _ _ _ => (pg_tup rfl (pgs_cons (pg_name (i := 2) sc_is_sum_world.nd rfl (by first | exact Or.inl rfl | exact Or.inr rfl)) (pgs_cons (pg_name (i := 3) sc_is_sum_world.nd rfl (by first | exact Or.inl rfl | exact Or.inr rfl)) pgs_nil)))) (fun _ _ _ _ _ => pts_nil) (fun _ _ _ _ _ => (pe_and (pe_own OM (hr.mono (by decide)) (by rfl) (pa_cons (pv 2) pa_nil)) (pe_one (pe_own OS (hr.mono (by decide)) (by rfl) (pa_cons (pv 0) (pa_cons (pv 3) pa_nil)))))))) pa_nil))))), ?_⟩
  refine body_of 2 h (fun L P ⟨q, a, e, _⟩ => by rw [e]; rfl) (by decide) fun L P ⟨q, ss, eL, hz, hn, eP⟩ F D hR => ?_
  subst eL
  subst eP
  show At F [.va RI q, .va (RD (RSum C)) ss, .no, .no] _
  refine sq_guard (et_notD (et_valD (ev_isiD (ev_var rfl) tyr_dict))) (fun hc => by cases hc) fun _ => ?_
  refine at_ret hR (ev_c1 (ev_lcItems (js := [2, 3]) (PT := fun _ b => b = true) (PY := fun _ b => b = true) (pv_var rfl) (eg_2 (eg_name (by exact (by decide : 2 < 4))) fun a => eg_name (by exact (by decide : 3 < 4))) (fun j h => h) (fun a b z => feet_va (feet_va z)) (fun a => le_set2 rfl rfl) (nv_no rfl (nv_no rfl nv_nil)) (by omega) (fun x _ => et_yes)
    fun x m _ => ?_) (c_all (P := fun b => b = true) fun l pk => ?_)) (fun W z => by simp at z) fun _ e => e
  · obtain ⟨h1, h2⟩ := hn x m
    refine (ev_andVD (ev_is_name (ev_var rfl) h1) fun _ => ev_callD (P := fun b => b = decide (x.2.q = q)) (ea_consD (ev_var rfl) (ea_consD (ev_var rfl) ea_nilD)) trivial ⟨q, x.2, rfl, rfl⟩).imp fun b e => ?_
    rw [e]
    simp [h2]
  · refine List.all_eq_true.mpr fun b m => ?_
    obtain ⟨x, _, _, e⟩ := pk.all b m
    exact e
theorem sc_taken_modulo : FnScope ["modulus", "weights", "constant", "name", "weight"] ["modulus", "weights", "constant"] (defScope s_taken_modulo) := ⟨rfl, rfl, rfl, by decide +kernel, rfl, by decide +kernel, by decide +kernel⟩
def modD (q : Int) (kvs : List (Str × Int)) : List (Str × Int) := kvs.map fun x => (x.1, x.2 % q)
theorem keys_modD (q : Int) (kvs : List (Str × Int)) : keys (modD q kvs) = keys kvs := by unfold keys modD; rw [List.map_map]; rfl
theorem val_modD {q : Int} {kvs : List (Str × Int)} (n : (keys kvs).Nodup) (k : Str) : val (modD q kvs) k = val kvs k % q := by
  by_cases h : k ∈ keys kvs
  · obtain ⟨x, mx, rfl⟩ := List.mem_map.mp h
    have := val_mem (l := modD q kvs) (by rw [keys_modD]; exact n) (List.mem_map_of_mem (f := fun x : Str × Int => (x.1, x.2 % q)) mx)
    rw [val_mem n mx]
    exact this
  · rw [val_not h, val_not (by rw [keys_modD]; exact h), Int.zero_emod]
/-- what is told of a sum that was made -/
structure Told (x : SumD) (q c : Int) (f : Str → Int) (n : Nat) : Prop where
  good : Good x
  hq : x.q = q
  hc : x.c = c % q
  hf : ∀ k, val x.ws k = f k % q
  hn : x.ws.length ≤ n
def preTaken (L : List Slot) (P : SumD → Prop) : Prop := ∃ (q : Int) (kvs : List (Str × Int)) (c : Int), L = [.va RI q, .va (RD RI) kvs, .va RI c] ∧ IsMod q ∧ (keys kvs).Nodup ∧ kvs.length < 64 ∧ (∀ k ∈ keys kvs, IsName k) ∧ P = fun x => Told x q c (val kvs) kvs.length
theorem ok_taken_modulo {f : Addr} {fd : FuncData} (F : Fun K "_taken_modulo" "_taken_modulo" s_taken_modulo f fd) (T : Txt K mg) (SC : SumC K C) (MK : MakS P w K mg base C) : FnOk P w K mg base CX0 6 f fd ["modulus", "weights", "constant"] (FSp (RSum C) preTaken) := by
  refine F.ok sc_taken_modulo (fsp_len (n := 3) fun L P ⟨q, kvs, c, e, _⟩ => by rw [e]; rfl) (fun cdv A outer s H vs Q E hr h => ?_)
  refine ⟨_, (pss_one (ps_ret (C8.pe_mk MK hr (by decide) (by rfl) (pa_cons (pv 0) (pa_cons (pe_lk (pe_dc (own := [("name", 3), ("weight", 4)]) (g := gTup K 2 (gCons (gName 3) (gCons (gName 4) gNil))) rfl sc_taken_modulo.nd (pi_items (pv 1)) (blkOk_by (own := [("name", 3), ("weight", 4)]) (N := ["modulus", "weights", "constant", "name", "weight"]) (sc := defScope s_taken_modulo) (by decide +kernel)) (fun _ _ _ _ _ => (pg_tup rfl (pgs_cons (pg_name (i := 3) sc_taken_modulo.nd rfl (by first | exact Or.inl rfl | exact Or.inr rfl)) (pgs_cons (pg_name (i := 4) sc_taken_modulo.nd rfl (by first | exact Or.inl rfl | exact Or.inr rfl)) pgs_nil)))) (fun _ _ _ _ _ => pts_nil) (fun _ _ _ _ _ => (pv 3)) (fun _ _ _ _ _ => (pe_op opMod (pv 4) (pv 0))))) (pa_cons (pe_op opMod (pv 2) (pv 0)) pa_nil)))))), ?_⟩
  refine body_of 3 h (fun L P ⟨q, kvs, c, e, _⟩ => by rw [e]; rfl) (by decide) fun L P ⟨q, kvs, c, eL, hm, nd, hz, hk, eP⟩ F D hR => ?_
  subst eL
  subst eP
  show At F [.va RI q, .va (RD RI) kvs, .va RI c, .no, .no] _
  have hb := hm.b
  have en : NumD q (modD q kvs) := by
    refine ⟨by unfold modD; rw [List.length_map]; exact hz, by rw [keys_modD]; exact nd, fun x mx => ?_⟩
    obtain ⟨y, my, rfl⟩ := List.mem_map.mp mx
    exact ⟨hk y.1 (List.mem_map_of_mem (f := (·.1)) my), Int.emod_nonneg _ (by omega), Int.emod_lt_of_pos _ (by omega)⟩
  refine at_ret hR (ev_make (L := [.va RI q, .va (RD RI) (modD q kvs), .va RI (c % q)]) (D := []) (P := fun x => x = ⟨q, nrm (modD q kvs), c % q⟩) (ea_consD (ev_var rfl) (ea_consD (Ev.imp (ev_dcItems (Rb := RI) (js := [3, 4]) (PT := fun _ b => b = true) (PK := fun x k => k = x.1) (PY := fun x v => v = x.2 % q) (pv_var rfl) (eg_2 (eg_name (by exact (by decide : 3 < 5))) fun a => eg_name (by exact (by decide : 4 < 5))) (fun j h => h) (fun a b z => feet_va (feet_va z)) (fun a => le_set2 rfl rfl) (nv_no rfl (nv_no rfl nv_nil)) (by omega) (fun x _ => et_yes)
    (fun x _ _ => ev_var rfl) (fun x _ _ => ev_modD (ev_var rfl) (ev_var rfl) (by omega))) ?_) (ea_consD (ev_modD (ev_var rfl) (ev_var rfl) (by omega)) ea_nilD))) trivial trivial ⟨q, modD q kvs, _, c % q, rfl, hm, .inl rfl, en, Int.emod_nonneg _ (by omega), Int.emod_lt_of_pos _ (by omega), rfl⟩) (fun W z => by simp at z) fun x ex => ?_
  · rintro d ⟨ps, pk, rfl⟩
    have e : ps = modD q kvs := pk.map (f := fun x : Str × Int => (x.1, x.2 % q)) (fun x _ h => by cases h) (fun x _ y ey => Prod.ext ey.1 ey.2)
    rw [e]
    exact puts_self en.2.1
  · subst ex
    refine ⟨good_mk hm (Int.emod_nonneg _ (by omega)) (Int.emod_lt_of_pos _ (by omega)) en, rfl, rfl, fun k => ?_, ?_⟩
    · rw [nrm_val en.2.1, val_modD nd]
    · refine Nat.le_trans (nrm_len _) ?_
      unfold modD
      rw [List.length_map]
      exact Nat.le_refl _
end
end K11

set_option Elab.async false
set_option linter.all false
set_option maxRecDepth 100000
namespace K11
open PySem L2 QL
local macro_rules | `(tactic| walk_at "side") => `(tactic| first
  | decide | omega | exact Or.inl ⟨by omega, by omega⟩ | exact Or.inr ⟨by omega, by omega⟩ | exact ⟨by omega, by omega⟩ | exact ⟨by omega, by omega, by omega⟩ | assumption)
local macro_rules | `(tactic| walk_at "ev") => `(tactic| first
  | (((with_reducible refine' ev_var ?k1); (case k1 => exact rfl)))
  | with_reducible exact ev_int
  | with_reducible exact ev_str
  | with_reducible exact ev_bl
  | with_reducible exact ev_non
  | with_reducible exact ev_ty
  | ((with_reducible refine' ev_addD ?k1 ?k2); (case k1 => walk_at "ev"); (case k2 => walk_at "ev"))
  | ((with_reducible refine' ev_subD ?k1 ?k2); (case k1 => walk_at "ev"); (case k2 => walk_at "ev"))
  | ((with_reducible refine' ev_ltD ?k1 ?k2); (case k1 => walk_at "ev"); (case k2 => walk_at "ev"))
  | ((with_reducible refine' ev_leD ?k1 ?k2); (case k1 => walk_at "ev"); (case k2 => walk_at "ev"))
  | ((with_reducible refine' ev_gtD ?k1 ?k2); (case k1 => walk_at "ev"); (case k2 => walk_at "ev"))
  | ((with_reducible refine' ev_geD ?k1 ?k2); (case k1 => walk_at "ev"); (case k2 => walk_at "ev"))
  | ((with_reducible refine' ev_eqID ?k1 ?k2); (case k1 => walk_at "ev"); (case k2 => walk_at "ev"))
  | ((with_reducible refine' ev_neID ?k1 ?k2); (case k1 => walk_at "ev"); (case k2 => walk_at "ev"))
  | ((with_reducible refine' ev_eqSD ?k1 ?k2); (case k1 => walk_at "ev"); (case k2 => walk_at "ev"))
  | ((with_reducible refine' ev_neSD ?k1 ?k2); (case k1 => walk_at "ev"); (case k2 => walk_at "ev"))
  | ((with_reducible refine' ev_maxD ?k1 ?k2); (case k1 => walk_at "ev"); (case k2 => walk_at "ev"))
  | ((with_reducible refine' ev_minD ?k1 ?k2); (case k1 => walk_at "ev"); (case k2 => walk_at "ev"))
  | ((with_reducible refine' ev_t2D ?k1 ?k2); (case k1 => walk_at "ev"); (case k2 => walk_at "ev"))
  | ((with_reducible refine' ev_mulD ?k1 ?k2 ?k3); (case k1 => walk_at "ev"); (case k2 => walk_at "ev"); (case k3 => walk_at "side"))
  | ((with_reducible refine' ev_divD ?k1 ?k2 ?k3); (case k1 => walk_at "ev"); (case k2 => walk_at "ev"); (case k3 => walk_at "side"))
  | ((with_reducible refine' ev_modD ?k1 ?k2 ?k3); (case k1 => walk_at "ev"); (case k2 => walk_at "ev"); (case k3 => walk_at "side"))
  | ((with_reducible refine' ev_powD ?k1 ?k2 ?k3); (case k1 => walk_at "ev"); (case k2 => walk_at "ev"); (case k3 => walk_at "side"))
  | ((with_reducible refine' ev_catSD ?k1 ?k2 ?k3); (case k1 => walk_at "ev"); (case k2 => walk_at "ev"); (case k3 => walk_at "side"))
  | ((with_reducible refine' ev_stripD ?k1 ?k2 ?k3); (case k1 => walk_at "ev"); (case k2 => walk_at "ev"); (case k3 => walk_at "side"))
  | ((with_reducible refine' ev_divmodD ?k1 ?k2 ?k3); (case k1 => walk_at "ev"); (case k2 => walk_at "ev"); (case k3 => walk_at "side"))
  | ((with_reducible refine' ev_intD ?k1); (case k1 => walk_at "ev"))
  | ((with_reducible refine' ev_absD ?k1); (case k1 => walk_at "ev"))
  | ((with_reducible refine' ev_negD ?k1); (case k1 => walk_at "ev"))
  | ((with_reducible refine' ev_lenLD ?k1); (case k1 => walk_at "ev"))
  | ((with_reducible refine' ev_lenScrD ?k1); (case k1 => walk_at "ev"))
  | ((with_reducible refine' ev_lenDD ?k1); (case k1 => walk_at "ev"))
  | ((with_reducible refine' ev_fstD ?k1); (case k1 => walk_at "ev"))
  | ((with_reducible refine' ev_sndD ?k1); (case k1 => walk_at "ev"))
  | ((with_reducible refine' ev_notVD ?k1); (case k1 => walk_at "ev"))
  | ((with_reducible refine' ev_listLD ?k1); (case k1 => walk_at "ev"))
  | ((with_reducible refine' ev_listDD ?k1); (case k1 => walk_at "ev"))
  | ((with_reducible refine' ev_dictDD ?k1); (case k1 => walk_at "ev"))
  | ((with_reducible refine' ev_dictPD ?k1); (case k1 => walk_at "ev"))
  | ((with_reducible refine' ev_allD ?k1); (case k1 => walk_at "ev"))
  | ((with_reducible refine' ev_anyD ?k1); (case k1 => walk_at "ev"))
  | ((with_reducible refine' ev_sumD ?k1); (case k1 => walk_at "ev"))
  | ((with_reducible refine' ev_dinD ?k1 (ed_knownD ?k2)); (case k1 => walk_at "ev"); (case k2 => walk_at "ev"))
  | (refine' ev_dget2D (ed_knownD ?k1) ?k2 ?k3; (case k1 => walk_at "ev"); (case k2 => walk_at "ev"); (case k3 => walk_at "ev")))
local macro_rules | `(tactic| walk_at "et") => `(tactic| first
  | (refine' et_testD ?k1; (case k1 => walk_at "ev")) | (refine' et_valD ?k1; (case k1 => walk_at "ev")) | (refine' et_notD ?k1; (case k1 => walk_at "et")))
local macro_rules | `(tactic| walk_at "ea") => `(tactic| first
  | exact ea_nilD | ((refine' ea_consD ?k1 ?k2); (case k1 => walk_at "ev"); (case k2 => walk_at "ea")) | (refine' ea_voD rfl ?k1; (case k1 => walk_at "ea")))
local macro_rules | `(tactic| walk_at "es") => `(tactic| first
  | exact eas_nilD | ((refine' eas_consD ?k1 ?k2); (case k1 => walk_at "ev"); (case k2 => walk_at "es")))
local macro_rules | `(tactic| walk_at "set") => `(tactic| (first | refine' sq_setD ?k1 ?k2 | refine' at_setD ?k1 ?k2); (case k1 => walk_at "ev"))
local macro_rules | `(tactic| walk_at "le") => `(tactic| first | exact le_nil | (refine le_same ?_; walk_at "le") | (refine le_drop ?_; walk_at "le"))

theorem val_snoc {l : List (Str × Int)} {x : Str × Int} (n : x.1 ∉ keys l) (k : Str) : val (l ++ [x]) k = if k = x.1 then x.2 else val l k := by
  have := val_put (l := l) (k := x.1) (j := k) (v := x.2)
  unfold putS at this
  rw [if_neg (fun z => n (hasS_iff.mp z))] at this
  exact this
theorem take_keys {l : List (Str × Int)} (n : (keys l).Nodup) {i : Nat} {x : Str × Int} (e : l[i]? = some x) : l.take (i + 1) = l.take i ++ [x] ∧ x.1 ∉ keys (l.take i) := by
  have e1 := take_snoc e
  refine ⟨e1, fun m => ?_⟩
  have sub : (keys (l.take (i + 1))).Nodup := by
    unfold keys at n ⊢
    rw [List.map_take]
    exact n.sublist (List.take_sublist _ _)
  rw [e1] at sub
  unfold keys at sub m
  rw [List.map_append, List.nodup_append] at sub
  exact sub.2.2 _ m _ (by simp) rfl
section
variable {P : Program} {w : World} {K : PySem.W.Frag} {mg : Str → Option Value} {base : Heap} {C : Addr}
abbrev OwnT (P : Program) (w : World) (K : PySem.W.Frag) (mg : Str → Option Value) (base : Heap) (C : Addr) : Prop := Own P w K mg base "_taken_modulo" ["modulus", "weights", "constant"] 6 (FSp (RSum C) preTaken)

theorem sc_added : FnScope ["one", "times", "other", "found", "name", "weight"] ["one", "times", "other"] (defScope s_added) := ⟨rfl, rfl, rfl, by decide +kernel, rfl, by decide +kernel, by decide +kernel⟩
def preAdded (C : Addr) (L : List Slot) (P : SumD → Prop) : Prop := ∃ (a : SumD) (t : Int) (b : SumD), L = [.va (RSum C) a, .va RI t, .va (RSum C) b] ∧ Good a ∧ Good b ∧ a.q = b.q ∧ a.ws.length + b.ws.length < 64 ∧ P = fun x => Told x a.q (a.c + t * b.c) (fun k => val a.ws k + t * val b.ws k) (a.ws.length + b.ws.length)
theorem ok_added {f : Addr} {fd : FuncData} (F : Fun K "_added" "_added" s_added f fd) (T : Txt K mg) (SC : SumC K C) (PM : PrpM P w K mg base C) (PC : PrpC P w K mg base C) (MW : MetW P w K mg base C) (OT : OwnT P w K mg base C) : FnOk P w K mg base CX0 7 f fd ["one", "times", "other"] (FSp (RSum C) (preAdded C)) := by
  refine F.ok sc_added (fsp_len (n := 3) fun L P ⟨a, t, b, e, _⟩ => by rw [e]; rfl) (fun cdv A outer s H vs Q E hr h => ?_)
  refine ⟨_, (pss_cons (ps_set (i := 3) sc_added.nd rfl (by first | exact Or.inl rfl | exact Or.inr rfl) (pe_callTy clDictD (by rfl) T.b_dict (by decide +kernel) (pa_cons (C8.pe_mt0 MW hr (by decide) (pv 0)) pa_nil))) (pss_cons (ps_for PassesOwn.never rfl (pi_items (pe_frz (C8.pe_mt0 MW hr (by decide) (pv 2)))) (pg_tup rfl (pgs_cons (pg_name (i := 4) sc_added.nd rfl (by first | exact Or.inl rfl | exact Or.inr rfl)) (pgs_cons (pg_name (i := 5) sc_added.nd rfl (by first | exact Or.inl rfl | exact Or.inr rfl)) pgs_nil))) (pss_one (ps_dput (hu_of hr) (pv 3) (pv 4) (pe_op opAdd (pe_dget2 (hu_of hr) (pv 3) (pv 4) pe_int (m2_of rfl)) (pe_op opMul (pv 1) (pv 5))) rfl))) (pss_one (ps_ret (pe_own OT (hr.mono (by decide)) (by rfl) (pa_cons (pe_pr PM hr (by decide) (pv 0) rfl) (pa_cons (pv 3) (pa_cons (pe_op opAdd (pe_pr PC hr (by decide) (pv 0) rfl) (pe_op opMul (pv 1) (pe_pr PC hr (by decide) (pv 2) rfl))) pa_nil)))))))), ?_⟩
  refine body_of 3 h (fun L P ⟨a, t, b, e, _⟩ => by rw [e]; rfl) (by decide) fun L P ⟨a, t, b, eL, ga, gb, hq, hz, eP⟩ F D hR => ?_
  subst eL
  subst eP
  show At F [.va (RSum C) a, .va RI t, .va (RSum C) b, .no, .no, .no] _
  have hb := ga.m.b
  refine sq_setO (i := 3) (W := fun p d => VD p RI d) one_VD (eo_dictD (ed_known ((eo_weights (ev_var rfl)).evF.ev))) fun p d ed np => ?_
  subst ed
  refine at_seq (at_for (js := [4, 5]) (List (Str × Int)) (fun d => [.va (RSum C) a, .va RI t, .va (RSum C) b, .vo (VD p RI d), .no, .no]) (fun i d => (keys d).Nodup ∧ d.length ≤ a.ws.length + i ∧ (∀ k ∈ keys d, IsName k) ∧ ∀ k, val d k = val a.ws k + t * val (b.ws.take i) k) a.ws (ei_itemsF ((eo_weights (ev_var rfl)).evF)) ?_ (Le.refl _) (fun d => eg_2 eg_name fun a => eg_name) (fun d x b z => feet_va (feet_va z)) (fun F' le i x d N ex hI hN => ?_) fun d hI => ?_)
  · refine ⟨ga.nd.2.1, by omega, fun k m => ?_, fun k => by simp [val_nil]⟩
    obtain ⟨x, mx, rfl⟩ := List.mem_map.mp m
    exact (ga.nd.2.2 x mx).1
  · obtain ⟨i1, i2, i3, i4⟩ := hI
    obtain ⟨tk, nk⟩ := take_keys gb.nd.2.1 ex
    have mx := List.mem_of_getElem? ex
    obtain ⟨x1, x2, x3⟩ := gb.nd.2.2 x mx
    have hi : i < b.ws.length := (List.getElem?_eq_some_iff.mp ex).1
    show At F' [.va (RSum C) a, .va RI t, .va (RSum C) b, .vo (VD p RI d), .va RS x.1, .va RI x.2] _
    refine at_dput (i := 3) (Pk := fun k => k = x.1) rfl (ev_addD (ev_dget2D (ed_own rfl) (ev_var rfl) ev_int) (ev_mulD (ev_var rfl) (ev_var rfl) (.inr ⟨by omega, by omega⟩))) (ev_var rfl) (by omega) fun k v ek ev => ?_
    subst ek
    subst ev
    refine (hN (putS d x.1 (val d x.1 + t * x.2)) ⟨nodup_put i1, ?_, fun k m => ?_, fun k => ?_⟩).le (by walk_at "le")
    · have := putS_len d x.1 (val d x.1 + t * x.2)
      omega
    · rw [keys_put] at m
      split at m
      · exact i3 k m
      · rcases List.mem_append.mp m with m | m
        · exact i3 k m
        · simp at m; subst m; exact x1
    · rw [val_put, tk, val_snoc nk]
      by_cases z : k = x.1
      · rw [if_pos z, if_pos z, ← z, i4 k, val_not (l := b.ws.take i) (by rw [z]; exact nk)]
        simp
      · rw [if_neg z, if_neg z]
        exact i4 k
  · obtain ⟨i1, i2, i3, i4⟩ := hI
    rw [List.take_length] at i4
    refine at_freezeD (i := 3) (p := p) rfl np ?_
    show At F [.va (RSum C) a, .va RI t, .va (RSum C) b, .va (RD RI) d, .no, .no] _
    have hc : b.c < 14 := by have := gb.c1; rw [← hq] at this; omega
    have hc0 := gb.c0
    refine at_ret hR (ev_callD (ea_consD (ev_pm (ev_var rfl)) (ea_consD (ev_var rfl) (ea_consD (ev_addD (ev_pc (ev_var rfl)) (ev_mulD (ev_var rfl) (ev_pc (ev_var rfl)) (.inr ⟨by omega, by omega⟩))) ea_nilD))) trivial ⟨a.q, d, a.c + t * b.c, rfl, ga.m, i1, by omega, i3, rfl⟩) (fun W z => by simp at z) fun x tx => ?_
    exact ⟨tx.good, tx.hq, tx.hc, fun k => by rw [tx.hf, i4], Nat.le_trans tx.hn i2⟩
end
end K11

set_option Elab.async false
set_option linter.all false
set_option maxRecDepth 100000
namespace K11
open PySem L2 QL
local macro_rules | `(tactic| walk_at "side") => `(tactic| first
  | decide | omega | exact Or.inl ⟨by omega, by omega⟩ | exact Or.inr ⟨by omega, by omega⟩ | exact ⟨by omega, by omega⟩ | exact ⟨by omega, by omega, by omega⟩ | assumption)
local macro_rules | `(tactic| walk_at "ev") => `(tactic| first
  | (((with_reducible refine' ev_var ?k1); (case k1 => exact rfl)))
  | with_reducible exact ev_int
  | with_reducible exact ev_str
  | with_reducible exact ev_bl
  | with_reducible exact ev_non
  | with_reducible exact ev_ty
  | ((with_reducible refine' ev_addD ?k1 ?k2); (case k1 => walk_at "ev"); (case k2 => walk_at "ev"))
  | ((with_reducible refine' ev_subD ?k1 ?k2); (case k1 => walk_at "ev"); (case k2 => walk_at "ev"))
  | ((with_reducible refine' ev_ltD ?k1 ?k2); (case k1 => walk_at "ev"); (case k2 => walk_at "ev"))
  | ((with_reducible refine' ev_leD ?k1 ?k2); (case k1 => walk_at "ev"); (case k2 => walk_at "ev"))
  | ((with_reducible refine' ev_gtD ?k1 ?k2); (case k1 => walk_at "ev"); (case k2 => walk_at "ev"))
  | ((with_reducible refine' ev_geD ?k1 ?k2); (case k1 => walk_at "ev"); (case k2 => walk_at "ev"))
  | ((with_reducible refine' ev_eqID ?k1 ?k2); (case k1 => walk_at "ev"); (case k2 => walk_at "ev"))
  | ((with_reducible refine' ev_neID ?k1 ?k2); (case k1 => walk_at "ev"); (case k2 => walk_at "ev"))
  | ((with_reducible refine' ev_eqSD ?k1 ?k2); (case k1 => walk_at "ev"); (case k2 => walk_at "ev"))
  | ((with_reducible refine' ev_neSD ?k1 ?k2); (case k1 => walk_at "ev"); (case k2 => walk_at "ev"))
  | ((with_reducible refine' ev_maxD ?k1 ?k2); (case k1 => walk_at "ev"); (case k2 => walk_at "ev"))
  | ((with_reducible refine' ev_minD ?k1 ?k2); (case k1 => walk_at "ev"); (case k2 => walk_at "ev"))
  | ((with_reducible refine' ev_t2D ?k1 ?k2); (case k1 => walk_at "ev"); (case k2 => walk_at "ev"))
  | ((with_reducible refine' ev_mulD ?k1 ?k2 ?k3); (case k1 => walk_at "ev"); (case k2 => walk_at "ev"); (case k3 => walk_at "side"))
  | ((with_reducible refine' ev_divD ?k1 ?k2 ?k3); (case k1 => walk_at "ev"); (case k2 => walk_at "ev"); (case k3 => walk_at "side"))
  | ((with_reducible refine' ev_modD ?k1 ?k2 ?k3); (case k1 => walk_at "ev"); (case k2 => walk_at "ev"); (case k3 => walk_at "side"))
  | ((with_reducible refine' ev_powD ?k1 ?k2 ?k3); (case k1 => walk_at "ev"); (case k2 => walk_at "ev"); (case k3 => walk_at "side"))
  | ((with_reducible refine' ev_catSD ?k1 ?k2 ?k3); (case k1 => walk_at "ev"); (case k2 => walk_at "ev"); (case k3 => walk_at "side"))
  | ((with_reducible refine' ev_stripD ?k1 ?k2 ?k3); (case k1 => walk_at "ev"); (case k2 => walk_at "ev"); (case k3 => walk_at "side"))
  | ((with_reducible refine' ev_divmodD ?k1 ?k2 ?k3); (case k1 => walk_at "ev"); (case k2 => walk_at "ev"); (case k3 => walk_at "side"))
  | ((with_reducible refine' ev_intD ?k1); (case k1 => walk_at "ev"))
  | ((with_reducible refine' ev_absD ?k1); (case k1 => walk_at "ev"))
  | ((with_reducible refine' ev_negD ?k1); (case k1 => walk_at "ev"))
  | ((with_reducible refine' ev_lenLD ?k1); (case k1 => walk_at "ev"))
  | ((with_reducible refine' ev_lenScrD ?k1); (case k1 => walk_at "ev"))
  | ((with_reducible refine' ev_lenDD ?k1); (case k1 => walk_at "ev"))
  | ((with_reducible refine' ev_fstD ?k1); (case k1 => walk_at "ev"))
  | ((with_reducible refine' ev_sndD ?k1); (case k1 => walk_at "ev"))
  | ((with_reducible refine' ev_notVD ?k1); (case k1 => walk_at "ev"))
  | ((with_reducible refine' ev_listLD ?k1); (case k1 => walk_at "ev"))
  | ((with_reducible refine' ev_listDD ?k1); (case k1 => walk_at "ev"))
  | ((with_reducible refine' ev_dictDD ?k1); (case k1 => walk_at "ev"))
  | ((with_reducible refine' ev_dictPD ?k1); (case k1 => walk_at "ev"))
  | ((with_reducible refine' ev_allD ?k1); (case k1 => walk_at "ev"))
  | ((with_reducible refine' ev_anyD ?k1); (case k1 => walk_at "ev"))
  | ((with_reducible refine' ev_sumD ?k1); (case k1 => walk_at "ev"))
  | ((with_reducible refine' ev_dinD ?k1 (ed_knownD ?k2)); (case k1 => walk_at "ev"); (case k2 => walk_at "ev"))
  | (refine' ev_dget2D (ed_knownD ?k1) ?k2 ?k3; (case k1 => walk_at "ev"); (case k2 => walk_at "ev"); (case k3 => walk_at "ev")))
local macro_rules | `(tactic| walk_at "et") => `(tactic| first
  | (refine' et_testD ?k1; (case k1 => walk_at "ev")) | (refine' et_valD ?k1; (case k1 => walk_at "ev")) | (refine' et_notD ?k1; (case k1 => walk_at "et")))
local macro_rules | `(tactic| walk_at "ea") => `(tactic| first
  | exact ea_nilD | ((refine' ea_consD ?k1 ?k2); (case k1 => walk_at "ev"); (case k2 => walk_at "ea")) | (refine' ea_voD rfl ?k1; (case k1 => walk_at "ea")))
local macro_rules | `(tactic| walk_at "es") => `(tactic| first
  | exact eas_nilD | ((refine' eas_consD ?k1 ?k2); (case k1 => walk_at "ev"); (case k2 => walk_at "es")))
local macro_rules | `(tactic| walk_at "set") => `(tactic| (first | refine' sq_setD ?k1 ?k2 | refine' at_setD ?k1 ?k2); (case k1 => walk_at "ev"))
local macro_rules | `(tactic| walk_at "le") => `(tactic| first | exact le_nil | (refine le_same ?_; walk_at "le") | (refine le_drop ?_; walk_at "le"))

section
variable {P : Program} {w : World} {K : PySem.W.Frag} {mg : Str → Option Value} {base : Heap} {C : Addr}
abbrev OwnA (P : Program) (w : World) (K : PySem.W.Frag) (mg : Str → Option Value) (base : Heap) (C : Addr) : Prop := Own P w K mg base "_added" ["one", "times", "other"] 7 (FSp (RSum C) (preAdded C))
abbrev OwnQ (P : Program) (w : World) (K : PySem.W.Frag) (mg : Str → Option Value) (base : Heap) (C : Addr) : Prop := Own P w K mg base "_require_addend" ["left", "right"] 3 (FSp RN (preReqA C))
def preAdd (C : Addr) (t : Int) (L : List Slot) (P : SumD → Prop) : Prop := ∃ (a b : SumD), L = [.va (RSum C) a, .va (RSum C) b] ∧ Good a ∧ Good b ∧ a.q = b.q ∧ a.ws.length + b.ws.length < 64 ∧ P = fun x => Told x a.q (a.c + t * b.c) (fun k => val a.ws k + t * val b.ws k) (a.ws.length + b.ws.length)

theorem sc_Sum_add : FnScope ["self", "other"] ["self", "other"] (defScope sSum_add) := ⟨rfl, rfl, rfl, by decide +kernel, rfl, by decide +kernel, by decide +kernel⟩
theorem ok_Sum_add {f : Addr} {fd : FuncData} (F : Fun K "__add__" "Sum.__add__" sSum_add f fd) (T : Txt K mg) (OQ : OwnQ P w K mg base C) (OA : OwnA P w K mg base C) : FnOk P w K mg base CX0 8 f fd ["self", "other"] (FSp (RSum C) (preAdd C 1)) := by
  refine F.ok sc_Sum_add (fsp_len (n := 2) fun L P ⟨a, b, e, _⟩ => by rw [e]; rfl) (fun cdv A outer s H vs Q E hr h => ?_)
  refine ⟨_, (pss_cons (ps_expr (pe_own OQ (hr.mono (by decide)) (by rfl) (pa_cons (pv 0) (pa_cons (pv 1) pa_nil)))) (pss_one (ps_ret (pe_own OA (hr.mono (by decide)) (by rfl) (pa_cons (pv 0) (pa_cons pe_int (pa_cons (pv 1) pa_nil))))))), ?_⟩
  refine body_of 2 h (fun L P ⟨a, b, e, _⟩ => by rw [e]; rfl) (by decide) fun L P ⟨a, b, eL, ga, gb, hq, hz, eP⟩ F D hR => ?_
  subst eL
  subst eP
  show At F [.va (RSum C) a, .va (RSum C) b] _
  refine sq_drop (R := RN) (P := fun _ => True) (ev_callD (ea_consD (ev_var rfl) (ea_consD (ev_var rfl) ea_nilD)) trivial ⟨a, b, rfl, hq, rfl⟩) ?_
  exact at_ret hR (ev_callD (ea_consD (ev_var rfl) (ea_consD ev_int (ea_consD (ev_var rfl) ea_nilD))) trivial ⟨a, 1, b, rfl, ga, gb, hq, hz, rfl⟩) (fun W z => by simp at z) fun _ e => e
theorem sc_Sum_sub : FnScope ["self", "other"] ["self", "other"] (defScope sSum_sub) := ⟨rfl, rfl, rfl, by decide +kernel, rfl, by decide +kernel, by decide +kernel⟩
theorem ok_Sum_sub {f : Addr} {fd : FuncData} (F : Fun K "__sub__" "Sum.__sub__" sSum_sub f fd) (T : Txt K mg) (OQ : OwnQ P w K mg base C) (OA : OwnA P w K mg base C) : FnOk P w K mg base CX0 8 f fd ["self", "other"] (FSp (RSum C) (preAdd C (-1))) := by
  refine F.ok sc_Sum_sub (fsp_len (n := 2) fun L P ⟨a, b, e, _⟩ => by rw [e]; rfl) (fun cdv A outer s H vs Q E hr h => ?_)
  refine ⟨_, (pss_cons (ps_expr (pe_own OQ (hr.mono (by decide)) (by rfl) (pa_cons (pv 0) (pa_cons (pv 1) pa_nil)))) (pss_one (ps_ret (pe_own OA (hr.mono (by decide)) (by rfl) (pa_cons (pv 0) (pa_cons (pe_un unNeg pe_int) (pa_cons (pv 1) pa_nil))))))), ?_⟩
  refine body_of 2 h (fun L P ⟨a, b, e, _⟩ => by rw [e]; rfl) (by decide) fun L P ⟨a, b, eL, ga, gb, hq, hz, eP⟩ F D hR => ?_
  subst eL
  subst eP
  show At F [.va (RSum C) a, .va (RSum C) b] _
  refine sq_drop (R := RN) (P := fun _ => True) (ev_callD (ea_consD (ev_var rfl) (ea_consD (ev_var rfl) ea_nilD)) trivial ⟨a, b, rfl, hq, rfl⟩) ?_
  exact at_ret hR (ev_callD (ea_consD (ev_var rfl) (ea_consD (ev_negD ev_int) (ea_consD (ev_var rfl) ea_nilD))) trivial ⟨a, (-1), b, rfl, ga, gb, hq, hz, rfl⟩) (fun W z => by simp at z) fun _ e => e
theorem sc_Sum_mul : FnScope ["self", "other", "name", "weight", "found"] ["self", "other"] (defScope sSum_mul) := ⟨rfl, rfl, rfl, by decide +kernel, rfl, by decide +kernel, by decide +kernel⟩
def preMul (C : Addr) (L : List Slot) (P : SumD → Prop) : Prop := ∃ (a : SumD) (t : Int), L = [.va (RSum C) a, .va RI t] ∧ Good a ∧ P = fun x => Told x a.q (a.c * t) (fun k => val a.ws k * t) a.ws.length
def scD (t : Int) (kvs : List (Str × Int)) : List (Str × Int) := kvs.map fun x => (x.1, x.2 * t)
theorem keys_scD (t : Int) (kvs : List (Str × Int)) : keys (scD t kvs) = keys kvs := by unfold keys scD; rw [List.map_map]; rfl
theorem val_scD {t : Int} {kvs : List (Str × Int)} (n : (keys kvs).Nodup) (k : Str) : val (scD t kvs) k = val kvs k * t := by
  by_cases h : k ∈ keys kvs
  · obtain ⟨x, mx, rfl⟩ := List.mem_map.mp h
    have := val_mem (l := scD t kvs) (by rw [keys_scD]; exact n) (List.mem_map_of_mem (f := fun x : Str × Int => (x.1, x.2 * t)) mx)
    rw [val_mem n mx]
    exact this
  · rw [val_not h, val_not (by rw [keys_scD]; exact h), Int.zero_mul]
theorem ok_Sum_mul {f : Addr} {fd : FuncData} (F : Fun K "__mul__" "Sum.__mul__" sSum_mul f fd) (T : Txt K mg) (SC : SumC K C) (OI : Own P w K mg base "is_integer" ["value"] 1 (FSp RB preIsInt)) (OT : OwnT P w K mg base C) : FnOk P w K mg base CX0 7 f fd ["self", "other"] (FSp (RSum C) (preMul C)) := by
  refine F.ok sc_Sum_mul (fsp_len (n := 2) fun L P ⟨a, b, e, _⟩ => by rw [e]; rfl) (fun cdv A outer s H vs Q E hr h => ?_)
  refine ⟨_, (pss_cons (ps_if (pt_not (pt_val (pe_own OI (hr.mono (by decide)) (by rfl) (pa_cons (pv 1) pa_nil)))) (pss_one ps_never) pss_nil) (pss_cons (ps_lk (ps_setDc (i := 4) (own := [("name", 2), ("weight", 3)]) (g := gTup K 2 (gCons (gName 2) (gCons (gName 3) gNil))) rfl sc_Sum_mul.nd rfl rfl (sw_dict rfl rfl rfl (by decide +kernel)) (pi_items (pe_fld (pv 0) rfl)) (blkOk_by (own := [("name", 2), ("weight", 3)]) (N := ["self", "other", "name", "weight", "found"]) (sc := defScope sSum_mul) (by decide +kernel)) (fun _ _ _ _ _ => (pg_tup rfl (pgs_cons (pg_name (i := 2) sc_Sum_mul.nd rfl (by first | exact Or.inl rfl | exact Or.inr rfl)) (pgs_cons (pg_name (i := 3) sc_Sum_mul.nd rfl (by first | exact Or.inl rfl | exact Or.inr rfl)) pgs_nil)))) (fun _ _ _ _ _ => pts_nil) (fun _ _ _ _ _ => (pv 2)) (fun _ _ _ _ _ => (pe_op opMul (pv 3) (pv 1))))) (pss_one (ps_ret (pe_own OT (hr.mono (by decide)) (by rfl) (pa_cons (pe_fld (pv 0) rfl) (pa_cons (pv 4) (pa_cons (pe_op opMul (pe_fld (pv 0) rfl) (pv 1)) pa_nil)))))))), ?_⟩
  refine body_of 2 h (fun L P ⟨a, b, e, _⟩ => by rw [e]; rfl) (by decide) fun L P ⟨a, t, eL, ga, eP⟩ F D hR => ?_
  subst eL
  subst eP
  show At F [.va (RSum C) a, .va RI t, .no, .no, .no] _
  have hb := ga.m.b
  refine sq_guard (et_notD (et_valD (ev_is_integer (ev_var rfl)))) (fun hc => by cases hc) fun _ => ?_
  refine at_seq (at_setDcItems (i := 4) (Rb := RI) (js := [2, 3]) (PT := fun _ b => b = true) (PK := fun x k => k = x.1) (PY := fun x v => v = x.2 * t) (pv_fw rfl SC) (eg_2 (eg_name (by exact (by decide : 2 < 5))) fun a => eg_name (by exact (by decide : 3 < 5))) (fun j h => h) (fun a b z => feet_va (feet_va z)) (fun a => le_set2 rfl rfl) (nv_no rfl (nv_no rfl nv_nil)) (by have := ga.nd.1; omega) (fun x _ => et_yes)
    (fun x _ _ => ev_var rfl) (fun x m _ => ev_mulD (ev_var rfl) (ev_var rfl) (by have := ga.nd.2.2 x m; exact .inl ⟨by omega, by omega⟩)) fun ps pk => ?_)
  · have e : ps = scD t a.ws := pk.map (f := fun x : Str × Int => (x.1, x.2 * t)) (fun x _ h => by cases h) (fun x _ y ey => Prod.ext ey.1 ey.2)
    rw [e, puts_self (l := scD t a.ws) (by rw [keys_scD]; exact ga.nd.2.1)]
    have hc0 := ga.c0
    have hc1 := ga.c1
    refine at_ret hR (ev_callD (ea_consD (ev_fm (ev_var rfl) SC) (ea_consD (ev_var rfl) (ea_consD (ev_mulD (ev_fc (ev_var rfl) SC) (ev_var rfl) (.inl ⟨by omega, by omega⟩)) ea_nilD))) trivial ⟨a.q, scD t a.ws, a.c * t, rfl, ga.m, by rw [keys_scD]; exact ga.nd.2.1, by unfold scD; rw [List.length_map]; exact ga.nd.1, fun k m => ?_, rfl⟩) (fun W z => by simp at z) fun x tx => ?_
    · exact ⟨tx.good, tx.hq, tx.hc, fun k => by rw [tx.hf, val_scD ga.nd.2.1], by have := tx.hn; unfold scD at this; rw [List.length_map] at this; exact this⟩
    · rw [keys_scD] at m
      obtain ⟨y, my, rfl⟩ := List.mem_map.mp m
      exact (ga.nd.2.2 y my).1
theorem sc_Sum_neg : FnScope ["self"] ["self"] (defScope sSum_neg) := ⟨rfl, rfl, rfl, by decide +kernel, rfl, by decide +kernel, by decide +kernel⟩
def preNeg (C : Addr) (L : List Slot) (P : SumD → Prop) : Prop := ∃ (a : SumD), L = [.va (RSum C) a] ∧ Good a ∧ P = fun x => Told x a.q (a.c * -1) (fun k => val a.ws k * -1) a.ws.length
abbrev OpMul (P : Program) (w : World) (K : PySem.W.Frag) (mg : Str → Option Value) (base : Heap) (C : Addr) : Prop := OpB P w K mg base 7 C (PySem.dunder "mul") (FSp (RSum C) (preMul C))
theorem ok_Sum_neg {f : Addr} {fd : FuncData} (F : Fun K "__neg__" "Sum.__neg__" sSum_neg f fd) (T : Txt K mg) (ML : OpMul P w K mg base C) (MI : OpIF K C "mul") : FnOk P w K mg base CX0 8 f fd ["self"] (FSp (RSum C) (preNeg C)) := by
  refine F.ok sc_Sum_neg (fsp_len (n := 1) fun L P ⟨a, e, _⟩ => by rw [e]; rfl) (fun cdv A outer s H vs Q E hr h => ?_)
  refine ⟨_, (pss_one (ps_ret (pe_op (op_ownN ML MI (hr.mono (by decide))) (pv 0) (pe_un unNeg pe_int)))), ?_⟩
  refine body_of 1 h (fun L P ⟨a, e, _⟩ => by rw [e]; rfl) (by decide) fun L P ⟨a, eL, ga, eP⟩ F D hR => ?_
  subst eL
  subst eP
  show At F [.va (RSum C) a] _
  exact at_ret hR (ev_ownI (ev_var rfl) (ev_negD ev_int) ⟨a, -1, rfl, ga, rfl⟩) (fun W z => by simp at z) fun _ e => e
end
end K11

set_option Elab.async false
set_option linter.all false
set_option maxRecDepth 100000
namespace K11
open PySem L2 QL
local macro_rules | `(tactic| walk_at "side") => `(tactic| first
  | decide | omega | exact Or.inl ⟨by omega, by omega⟩ | exact Or.inr ⟨by omega, by omega⟩ | exact ⟨by omega, by omega⟩ | exact ⟨by omega, by omega, by omega⟩ | assumption)
local macro_rules | `(tactic| walk_at "ev") => `(tactic| first
  | (((with_reducible refine' ev_var ?k1); (case k1 => exact rfl)))
  | with_reducible exact ev_int
  | with_reducible exact ev_str
  | with_reducible exact ev_bl
  | with_reducible exact ev_non
  | with_reducible exact ev_ty
  | ((with_reducible refine' ev_addD ?k1 ?k2); (case k1 => walk_at "ev"); (case k2 => walk_at "ev"))
  | ((with_reducible refine' ev_subD ?k1 ?k2); (case k1 => walk_at "ev"); (case k2 => walk_at "ev"))
  | ((with_reducible refine' ev_ltD ?k1 ?k2); (case k1 => walk_at "ev"); (case k2 => walk_at "ev"))
  | ((with_reducible refine' ev_leD ?k1 ?k2); (case k1 => walk_at "ev"); (case k2 => walk_at "ev"))
  | ((with_reducible refine' ev_gtD ?k1 ?k2); (case k1 => walk_at "ev"); (case k2 => walk_at "ev"))
  | ((with_reducible refine' ev_geD ?k1 ?k2); (case k1 => walk_at "ev"); (case k2 => walk_at "ev"))
  | ((with_reducible refine' ev_eqID ?k1 ?k2); (case k1 => walk_at "ev"); (case k2 => walk_at "ev"))
  | ((with_reducible refine' ev_neID ?k1 ?k2); (case k1 => walk_at "ev"); (case k2 => walk_at "ev"))
  | ((with_reducible refine' ev_eqSD ?k1 ?k2); (case k1 => walk_at "ev"); (case k2 => walk_at "ev"))
  | ((with_reducible refine' ev_neSD ?k1 ?k2); (case k1 => walk_at "ev"); (case k2 => walk_at "ev"))
  | ((with_reducible refine' ev_maxD ?k1 ?k2); (case k1 => walk_at "ev"); (case k2 => walk_at "ev"))
  | ((with_reducible refine' ev_minD ?k1 ?k2); (case k1 => walk_at "ev"); (case k2 => walk_at "ev"))
  | ((with_reducible refine' ev_t2D ?k1 ?k2); (case k1 => walk_at "ev"); (case k2 => walk_at "ev"))
  | ((with_reducible refine' ev_mulD ?k1 ?k2 ?k3); (case k1 => walk_at "ev"); (case k2 => walk_at "ev"); (case k3 => walk_at "side"))
  | ((with_reducible refine' ev_divD ?k1 ?k2 ?k3); (case k1 => walk_at "ev"); (case k2 => walk_at "ev"); (case k3 => walk_at "side"))
  | ((with_reducible refine' ev_modD ?k1 ?k2 ?k3); (case k1 => walk_at "ev"); (case k2 => walk_at "ev"); (case k3 => walk_at "side"))
  | ((with_reducible refine' ev_powD ?k1 ?k2 ?k3); (case k1 => walk_at "ev"); (case k2 => walk_at "ev"); (case k3 => walk_at "side"))
  | ((with_reducible refine' ev_catSD ?k1 ?k2 ?k3); (case k1 => walk_at "ev"); (case k2 => walk_at "ev"); (case k3 => walk_at "side"))
  | ((with_reducible refine' ev_stripD ?k1 ?k2 ?k3); (case k1 => walk_at "ev"); (case k2 => walk_at "ev"); (case k3 => walk_at "side"))
  | ((with_reducible refine' ev_divmodD ?k1 ?k2 ?k3); (case k1 => walk_at "ev"); (case k2 => walk_at "ev"); (case k3 => walk_at "side"))
  | ((with_reducible refine' ev_intD ?k1); (case k1 => walk_at "ev"))
  | ((with_reducible refine' ev_absD ?k1); (case k1 => walk_at "ev"))
  | ((with_reducible refine' ev_negD ?k1); (case k1 => walk_at "ev"))
  | ((with_reducible refine' ev_lenLD ?k1); (case k1 => walk_at "ev"))
  | ((with_reducible refine' ev_lenScrD ?k1); (case k1 => walk_at "ev"))
  | ((with_reducible refine' ev_lenDD ?k1); (case k1 => walk_at "ev"))
  | ((with_reducible refine' ev_fstD ?k1); (case k1 => walk_at "ev"))
  | ((with_reducible refine' ev_sndD ?k1); (case k1 => walk_at "ev"))
  | ((with_reducible refine' ev_notVD ?k1); (case k1 => walk_at "ev"))
  | ((with_reducible refine' ev_listLD ?k1); (case k1 => walk_at "ev"))
  | ((with_reducible refine' ev_listDD ?k1); (case k1 => walk_at "ev"))
  | ((with_reducible refine' ev_dictDD ?k1); (case k1 => walk_at "ev"))
  | ((with_reducible refine' ev_dictPD ?k1); (case k1 => walk_at "ev"))
  | ((with_reducible refine' ev_allD ?k1); (case k1 => walk_at "ev"))
  | ((with_reducible refine' ev_anyD ?k1); (case k1 => walk_at "ev"))
  | ((with_reducible refine' ev_sumD ?k1); (case k1 => walk_at "ev"))
  | ((with_reducible refine' ev_dinD ?k1 (ed_knownD ?k2)); (case k1 => walk_at "ev"); (case k2 => walk_at "ev"))
  | (refine' ev_dget2D (ed_knownD ?k1) ?k2 ?k3; (case k1 => walk_at "ev"); (case k2 => walk_at "ev"); (case k3 => walk_at "ev")))
local macro_rules | `(tactic| walk_at "et") => `(tactic| first
  | (refine' et_testD ?k1; (case k1 => walk_at "ev")) | (refine' et_valD ?k1; (case k1 => walk_at "ev")) | (refine' et_notD ?k1; (case k1 => walk_at "et")))
local macro_rules | `(tactic| walk_at "ea") => `(tactic| first
  | exact ea_nilD | ((refine' ea_consD ?k1 ?k2); (case k1 => walk_at "ev"); (case k2 => walk_at "ea")) | (refine' ea_voD rfl ?k1; (case k1 => walk_at "ea")))
local macro_rules | `(tactic| walk_at "es") => `(tactic| first
  | exact eas_nilD | ((refine' eas_consD ?k1 ?k2); (case k1 => walk_at "ev"); (case k2 => walk_at "es")))
local macro_rules | `(tactic| walk_at "set") => `(tactic| (first | refine' sq_setD ?k1 ?k2 | refine' at_setD ?k1 ?k2); (case k1 => walk_at "ev"))
local macro_rules | `(tactic| walk_at "le") => `(tactic| first | exact le_nil | (refine le_same ?_; walk_at "le") | (refine le_drop ?_; walk_at "le"))

/-- what stands for a name -/
def inn (ss : List (Str × SumD)) (n : Str) : List (Str × Int) := match getS ss n with | some b => b.ws | none => [(n, 1)]
def inc (ss : List (Str × SumD)) (n : Str) : Int := match getS ss n with | some b => b.c | none => 0
def putV (ss : List (Str × SumD)) (l : List (Str × Int)) (k : Str) : Int := (l.map fun x => x.2 * val (inn ss x.1) k).sum
def putC (ss : List (Str × SumD)) (l : List (Str × Int)) : Int := (l.map fun x => x.2 * inc ss x.1).sum
def putN (ss : List (Str × SumD)) (l : List (Str × Int)) : Nat := (l.map fun x => (inn ss x.1).length).sum
theorem putV_snoc {ss : List (Str × SumD)} {l : List (Str × Int)} {x : Str × Int} {k : Str} : putV ss (l ++ [x]) k = putV ss l k + x.2 * val (inn ss x.1) k := by unfold putV; rw [List.map_append, List.sum_append]; simp
theorem putC_snoc {ss : List (Str × SumD)} {l : List (Str × Int)} {x : Str × Int} : putC ss (l ++ [x]) = putC ss l + x.2 * inc ss x.1 := by unfold putC; rw [List.map_append, List.sum_append]; simp
theorem putN_snoc {ss : List (Str × SumD)} {l : List (Str × Int)} {x : Str × Int} : putN ss (l ++ [x]) = putN ss l + (inn ss x.1).length := by unfold putN; rw [List.map_append, List.sum_append]; simp
theorem putN_le {ss : List (Str × SumD)} : ∀ {l : List (Str × Int)} {i : Nat}, putN ss (l.take i) ≤ putN ss l
  | [], i => by simp [putN]
  | x :: l, 0 => by simp [putN]
  | x :: l, i + 1 => by
    have := putN_le (ss := ss) (l := l) (i := i)
    unfold putN at this ⊢
    rw [List.take_succ_cons, List.map_cons, List.map_cons, List.sum_cons, List.sum_cons]
    omega
section
variable {P : Program} {w : World} {K : PySem.W.Frag} {mg : Str → Option Value} {base : Heap} {C : Addr}
abbrev OwnV (P : Program) (w : World) (K : PySem.W.Frag) (mg : Str → Option Value) (base : Heap) (C : Addr) : Prop := Own P w K mg base "_is_sum_world" ["modulus", "value"] 4 (FSp RB (preIsSW C))

theorem sc_Sum_put : FnScope ["self", "sums", "found", "constant", "name", "weight", "inner", "other", "times"] ["self", "sums"] (defScope sSum_put) := ⟨rfl, rfl, rfl, by decide +kernel, rfl, by decide +kernel, by decide +kernel⟩
def prePut (C : Addr) (L : List Slot) (P : SumD → Prop) : Prop := ∃ (a : SumD) (ss : List (Str × SumD)), L = [.va (RSum C) a, .va (RD (RSum C)) ss] ∧ Good a ∧ ss.length ≤ 100 ∧ (∀ x ∈ ss, IsName x.1 ∧ x.2.q = a.q ∧ Good x.2) ∧ putN ss a.ws < 64 ∧ P = fun x => Told x a.q (a.c + putC ss a.ws) (putV ss a.ws) (putN ss a.ws)
theorem ok_Sum_put {f : Addr} {fd : FuncData} (F : Fun K "put" "Sum.put" sSum_put f fd) (T : Txt K mg) (SC : SumC K C) (PC : PrpC P w K mg base C) (MW : MetW P w K mg base C) (OV : OwnV P w K mg base C) (OT : OwnT P w K mg base C) : FnOk P w K mg base CX0 7 f fd ["self", "sums"] (FSp (RSum C) (prePut C)) := by
  refine F.ok sc_Sum_put (fsp_len (n := 2) fun L P ⟨a, ss, e, _⟩ => by rw [e]; rfl) (fun cdv A outer s H vs Q E hr h => ?_)
  refine ⟨_, (pss_cons (ps_if (pt_not (pt_val (pe_own OV (hr.mono (by decide)) (by rfl) (pa_cons (pe_fld (pv 0) rfl) (pa_cons (pv 1) pa_nil))))) (pss_one ps_never) pss_nil) (pss_cons (ps_set (i := 2) sc_Sum_put.nd rfl (by first | exact Or.inl rfl | exact Or.inr rfl) pe_dnewK) (pss_cons (ps_set (i := 3) sc_Sum_put.nd rfl (by first | exact Or.inl rfl | exact Or.inr rfl) (pe_fld (pv 0) rfl)) (pss_cons (ps_lk (ps_for PassesOwn.never rfl (pi_items (pe_fld (pv 0) rfl)) (pg_tup rfl (pgs_cons (pg_name (i := 4) sc_Sum_put.nd rfl (by first | exact Or.inl rfl | exact Or.inr rfl)) (pgs_cons (pg_name (i := 5) sc_Sum_put.nd rfl (by first | exact Or.inl rfl | exact Or.inr rfl)) pgs_nil))) (pss_cons (ps_set (i := 6) sc_Sum_put.nd rfl (by first | exact Or.inl rfl | exact Or.inr rfl) (pe_disp (pps_cons (pv 4) pe_int pps_nil) (by rfl) (by rfl) (fun z => by cases z) (by decide))) (pss_cons (ps_if (pt_cmp (pc_din (hu_of hr) (pv 4) (pv 1))) (pss_cons (ps_set (i := 6) sc_Sum_put.nd rfl (by first | exact Or.inl rfl | exact Or.inr rfl) (C8.pe_mt0 MW hr (by decide) (pe_dget (hu_of hr) (pv 1) (pv 4) (fun _ _ => rfl)))) (pss_one (ps_set (i := 3) sc_Sum_put.nd rfl (by first | exact Or.inl rfl | exact Or.inr rfl) (pe_op opAdd (pv 3) (pe_op opMul (pv 5) (pe_pr PC hr (by decide) (pe_dget (hu_of hr) (pv 1) (pv 4) (fun _ _ => rfl)) rfl)))))) pss_nil) (pss_one (ps_lk (ps_for PassesOwn.never rfl (pi_items (pv 6)) (pg_tup rfl (pgs_cons (pg_name (i := 7) sc_Sum_put.nd rfl (by first | exact Or.inl rfl | exact Or.inr rfl)) (pgs_cons (pg_name (i := 8) sc_Sum_put.nd rfl (by first | exact Or.inl rfl | exact Or.inr rfl)) pgs_nil))) (pss_one (ps_dput (hu_of hr) (pv 2) (pv 7) (pe_op opAdd (pe_dget2 (hu_of hr) (pv 2) (pv 7) pe_int (m2_of rfl)) (pe_op opMul (pv 5) (pv 8))) rfl))))))))) (pss_one (ps_ret (pe_own OT (hr.mono (by decide)) (by rfl) (pa_cons (pe_fld (pv 0) rfl) (pa_cons (pv 2) (pa_cons (pv 3) pa_nil)))))))))), ?_⟩
  refine body_of 2 h (fun L P ⟨a, ss, e, _⟩ => by rw [e]; rfl) (by decide) fun L P ⟨a, ss, eL, ga, hss, hs, hz, eP⟩ F D hR => ?_
  subst eL
  subst eP
  show At F [.va (RSum C) a, .va (RD (RSum C)) ss, .no, .no, .no, .no, .no, .no, .no] _
  have hb := ga.m.b
  have gi : ∀ {n b}, getS ss n = some b → b.q = a.q ∧ Good b := fun {n b} e => (hs (n, b) (mem_of_getS e)).2
  have inK : ∀ n, IsName n → (keys (inn ss n)).Nodup ∧ (∀ y ∈ inn ss n, IsName y.1 ∧ 0 ≤ y.2 ∧ y.2 < 14) ∧ 0 ≤ inc ss n ∧ inc ss n < 14 := fun n hn => by
    unfold inn inc
    cases e : getS ss n with
    | none => exact ⟨by simp [keys], fun y m => by simp at m; subst m; exact ⟨hn, by simp, by simp⟩, by decide, by decide⟩
    | some b =>
      obtain ⟨e1, gb⟩ := gi e
      refine ⟨gb.nd.2.1, fun y m => ?_, gb.c0, ?_⟩
      · obtain ⟨y1, y2, y3⟩ := gb.nd.2.2 y m
        exact ⟨y1, y2, by omega⟩
      · have h1 : b.c < b.q := gb.c1
        show b.c < 14
        omega
  refine sq_guard (et_notD (et_valD (ev_callD (P := fun b => b = true) (ea_consD (ev_fm (ev_var rfl) SC) (ea_consD (ev_var rfl) ea_nilD)) trivial ⟨a.q, ss, rfl, hss, fun x m => ⟨(hs x m).1, (hs x m).2.1⟩, rfl⟩))) (fun hc => by cases hc) fun _ => ?_
  refine sq_newD (i := 2) (R := RI) fun p np => ?_
  refine sq_setD (i := 3) (ev_fc (ev_var rfl) SC) ?_
  show At F [.va (RSum C) a, .va (RD (RSum C)) ss, .vo (VD p RI []), .va RI a.c, .no, .no, .no, .no, .no] _
  refine at_seq (at_forItems (js := [4, 5]) (List (Str × Int) × Int) (fun s => [.va (RSum C) a, .va (RD (RSum C)) ss, .vo (VD p RI s.1), .va RI s.2, .no, .no, .no, .no, .no])
    (fun i s => (keys s.1).Nodup ∧ s.1.length ≤ putN ss (a.ws.take i) ∧ (∀ k ∈ keys s.1, IsName k) ∧ (∀ k, val s.1 k = putV ss (a.ws.take i) k) ∧ s.2 = a.c + putC ss (a.ws.take i)) ([], a.c) (pv_fw rfl SC) ?_ (Le.refl _) (fun s => eg_2 eg_name fun a => eg_name) (fun s x b z => feet_va (feet_va z)) (fun F1 D1 br F' le i x s N ex hI hN => ?_) fun s hI => ?_)
  · exact ⟨List.nodup_nil, Nat.zero_le _, fun k m => by simp [keys] at m, fun k => rfl, by simp [putC]⟩
  · obtain ⟨d, c⟩ := s
    obtain ⟨i1, i2, i3, i4, i5⟩ := hI
    dsimp only at i1 i2 i3 i4 i5
    obtain ⟨tk, nk⟩ := take_keys ga.nd.2.1 ex
    obtain ⟨x1, x2, x3⟩ := ga.nd.2.2 x (List.mem_of_getElem? ex)
    obtain ⟨k1, k2, k3, k4⟩ := inK x.1 x1
    show At F' [.va (RSum C) a, .va (RD (RSum C)) ss, .vo (VD p RI d), .va RI c, .va RS x.1, .va RI x.2, .no, .no, .no] _
    refine sq_setD (i := 6) (ev_disp1 (ev_var rfl) ev_int) ?_
    show At F' [.va (RSum C) a, .va (RD (RSum C)) ss, .vo (VD p RI d), .va RI c, .va RS x.1, .va RI x.2, .va (RD RI) [(x.1, 1)], .no, .no] _
    refine at_cut Unit (fun _ => [.va (RSum C) a, .va (RD (RSum C)) ss, .vo (VD p RI d), .va RI (c + x.2 * inc ss x.1), .va RS x.1, .va RI x.2, .va (RD RI) (inn ss x.1), .no, .no]) (fun _ => True) (fun N2 hN2 => ?_) fun _ _ => ?_
    · refine at_ifD (et_testD (ev_dinD (ev_var rfl) (ed_knownD (ev_var rfl)))) (fun hc => ?_) fun hc => ?_
      · obtain ⟨b, eb⟩ := getS_some (hasS_iff.mp hc)
        obtain ⟨e1, gb⟩ := gi eb
        have ei : inn ss x.1 = b.ws := by unfold inn; rw [eb]
        have ec : inc ss x.1 = b.c := by unfold inc; rw [eb]
        refine sq_setD (i := 6) (R := RD RI) ((eo_weights (ev_dgetD (ed_knownD (ev_var rfl)) (ev_var rfl) eb)).evF.ev) ?_
        refine at_setD (i := 3) (ev_addD (ev_var rfl) (ev_mulD (ev_var rfl) (ev_pc (ev_dgetD (ed_knownD (ev_var rfl)) (ev_var rfl) eb)) (.inl ⟨by omega, by omega⟩))) ?_
        rw [← ei, ← ec]
        exact hN2 () trivial
      · have en : getS ss x.1 = none := getS_none fun m => by rw [hasS_iff.mpr m] at hc; cases hc
        have ei : inn ss x.1 = [(x.1, 1)] := by unfold inn; rw [en]
        have ec : inc ss x.1 = 0 := by unfold inc; rw [en]
        have := hN2 () trivial
        rw [ei, ec, Int.mul_zero, Int.add_zero] at this
        exact this
    · refine at_forItems (js := [7, 8]) (List (Str × Int)) (fun d' => [.va (RSum C) a, .va (RD (RSum C)) ss, .vo (VD p RI d'), .va RI (c + x.2 * inc ss x.1), .va RS x.1, .va RI x.2, .va (RD RI) (inn ss x.1), .no, .no])
        (fun j d' => (keys d').Nodup ∧ d'.length ≤ d.length + j ∧ (∀ k ∈ keys d', IsName k) ∧ ∀ k, val d' k = val d k + x.2 * val ((inn ss x.1).take j) k) d (pv_var rfl) ?_ (Le.refl _) (fun s => eg_2 eg_name fun a => eg_name) (fun s x b z => feet_va (feet_va z)) (fun F2 D2 br2 F3 le3 j y d' N3 ey hJ hN3 => ?_) fun d' hJ => ?_
      · exact ⟨i1, Nat.le_refl _, i3, fun k => by simp [val_nil]⟩
      · obtain ⟨j1, j2, j3, j4⟩ := hJ
        obtain ⟨tj, nj⟩ := take_keys k1 ey
        have lj : j < (inn ss x.1).length := (List.getElem?_eq_some_iff.mp ey).1
        have tot : putN ss (a.ws.take i) + (inn ss x.1).length ≤ putN ss a.ws := by
          have := putN_le (ss := ss) (l := a.ws) (i := i + 1)
          rw [tk, putN_snoc] at this
          exact this
        obtain ⟨y1, y2, y3⟩ := k2 y (List.mem_of_getElem? ey)
        show At F3 [.va (RSum C) a, .va (RD (RSum C)) ss, .vo (VD p RI d'), .va RI (c + x.2 * inc ss x.1), .va RS x.1, .va RI x.2, .va (RD RI) (inn ss x.1), .va RS y.1, .va RI y.2] _
        refine at_dput (i := 2) (Pk := fun k => k = y.1) rfl (ev_addD (ev_dget2D (ed_own rfl) (ev_var rfl) ev_int) (ev_mulD (ev_var rfl) (ev_var rfl) (.inr ⟨by omega, by omega⟩))) (ev_var rfl) (by omega) fun k v ek ev => ?_
        subst ek
        subst ev
        refine (hN3 (putS d' y.1 (val d' y.1 + x.2 * y.2)) ⟨nodup_put j1, ?_, fun k m => ?_, fun k => ?_⟩).le (by walk_at "le")
        · have := putS_len d' y.1 (val d' y.1 + x.2 * y.2)
          omega
        · rw [keys_put] at m
          split at m
          · exact j3 k m
          · rcases List.mem_append.mp m with m | m
            · exact j3 k m
            · simp at m; subst m; exact y1
        · rw [val_put, tj, val_snoc nj]
          by_cases z : k = y.1
          · rw [if_pos z, if_pos z, ← z, j4 k, val_not (l := (inn ss x.1).take j) (by rw [z]; exact nj)]
            simp
          · rw [if_neg z, if_neg z]
            exact j4 k
      · obtain ⟨j1, j2, j3, j4⟩ := hJ
        rw [List.take_length] at j4
        refine (hN (d', c + x.2 * inc ss x.1) ⟨j1, ?_, j3, fun k => ?_, ?_⟩).le (by walk_at "le")
        · rw [tk, putN_snoc]
          show d'.length ≤ _
          omega
        · rw [tk, putV_snoc]
          show val d' k = _
          rw [j4 k, i4 k]
        · rw [tk, putC_snoc, i5]
          show _ + _ = _
          omega
  · obtain ⟨d, c⟩ := s
    obtain ⟨i1, i2, i3, i4, i5⟩ := hI
    dsimp only at i1 i2 i3 i4 i5
    rw [List.take_length] at i2 i4 i5
    refine at_freezeD (i := 2) (p := p) rfl np ?_
    show At F [.va (RSum C) a, .va (RD (RSum C)) ss, .va (RD RI) d, .va RI c, .no, .no, .no, .no, .no] _
    refine at_ret hR (ev_callD (ea_consD (ev_fm (ev_var rfl) SC) (ea_consD (ev_var rfl) (ea_consD (ev_var rfl) ea_nilD))) trivial ⟨a.q, d, c, rfl, ga.m, i1, by omega, i3, rfl⟩) (fun W z => by simp at z) fun x tx => ?_
    exact ⟨tx.good, tx.hq, by rw [tx.hc, i5], fun k => by rw [tx.hf, i4], Nat.le_trans tx.hn i2⟩
end
end K11

set_option Elab.async false
set_option linter.all false
set_option maxRecDepth 100000
namespace K11
open PySem L2 QL
local macro_rules | `(tactic| walk_at "side") => `(tactic| first
  | decide | omega | exact Or.inl ⟨by omega, by omega⟩ | exact Or.inr ⟨by omega, by omega⟩ | exact ⟨by omega, by omega⟩ | exact ⟨by omega, by omega, by omega⟩ | assumption)
local macro_rules | `(tactic| walk_at "ev") => `(tactic| first
  | (((with_reducible refine' ev_var ?k1); (case k1 => exact rfl)))
  | with_reducible exact ev_int
  | with_reducible exact ev_str
  | with_reducible exact ev_bl
  | with_reducible exact ev_non
  | with_reducible exact ev_ty
  | ((with_reducible refine' ev_addD ?k1 ?k2); (case k1 => walk_at "ev"); (case k2 => walk_at "ev"))
  | ((with_reducible refine' ev_subD ?k1 ?k2); (case k1 => walk_at "ev"); (case k2 => walk_at "ev"))
  | ((with_reducible refine' ev_ltD ?k1 ?k2); (case k1 => walk_at "ev"); (case k2 => walk_at "ev"))
  | ((with_reducible refine' ev_leD ?k1 ?k2); (case k1 => walk_at "ev"); (case k2 => walk_at "ev"))
  | ((with_reducible refine' ev_gtD ?k1 ?k2); (case k1 => walk_at "ev"); (case k2 => walk_at "ev"))
  | ((with_reducible refine' ev_geD ?k1 ?k2); (case k1 => walk_at "ev"); (case k2 => walk_at "ev"))
  | ((with_reducible refine' ev_eqID ?k1 ?k2); (case k1 => walk_at "ev"); (case k2 => walk_at "ev"))
  | ((with_reducible refine' ev_neID ?k1 ?k2); (case k1 => walk_at "ev"); (case k2 => walk_at "ev"))
  | ((with_reducible refine' ev_eqSD ?k1 ?k2); (case k1 => walk_at "ev"); (case k2 => walk_at "ev"))
  | ((with_reducible refine' ev_neSD ?k1 ?k2); (case k1 => walk_at "ev"); (case k2 => walk_at "ev"))
  | ((with_reducible refine' ev_maxD ?k1 ?k2); (case k1 => walk_at "ev"); (case k2 => walk_at "ev"))
  | ((with_reducible refine' ev_minD ?k1 ?k2); (case k1 => walk_at "ev"); (case k2 => walk_at "ev"))
  | ((with_reducible refine' ev_t2D ?k1 ?k2); (case k1 => walk_at "ev"); (case k2 => walk_at "ev"))
  | ((with_reducible refine' ev_mulD ?k1 ?k2 ?k3); (case k1 => walk_at "ev"); (case k2 => walk_at "ev"); (case k3 => walk_at "side"))
  | ((with_reducible refine' ev_divD ?k1 ?k2 ?k3); (case k1 => walk_at "ev"); (case k2 => walk_at "ev"); (case k3 => walk_at "side"))
  | ((with_reducible refine' ev_modD ?k1 ?k2 ?k3); (case k1 => walk_at "ev"); (case k2 => walk_at "ev"); (case k3 => walk_at "side"))
  | ((with_reducible refine' ev_powD ?k1 ?k2 ?k3); (case k1 => walk_at "ev"); (case k2 => walk_at "ev"); (case k3 => walk_at "side"))
  | ((with_reducible refine' ev_catSD ?k1 ?k2 ?k3); (case k1 => walk_at "ev"); (case k2 => walk_at "ev"); (case k3 => walk_at "side"))
  | ((with_reducible refine' ev_stripD ?k1 ?k2 ?k3); (case k1 => walk_at "ev"); (case k2 => walk_at "ev"); (case k3 => walk_at "side"))
  | ((with_reducible refine' ev_divmodD ?k1 ?k2 ?k3); (case k1 => walk_at "ev"); (case k2 => walk_at "ev"); (case k3 => walk_at "side"))
  | ((with_reducible refine' ev_intD ?k1); (case k1 => walk_at "ev"))
  | ((with_reducible refine' ev_absD ?k1); (case k1 => walk_at "ev"))
  | ((with_reducible refine' ev_negD ?k1); (case k1 => walk_at "ev"))
  | ((with_reducible refine' ev_lenLD ?k1); (case k1 => walk_at "ev"))
  | ((with_reducible refine' ev_lenScrD ?k1); (case k1 => walk_at "ev"))
  | ((with_reducible refine' ev_lenDD ?k1); (case k1 => walk_at "ev"))
  | ((with_reducible refine' ev_fstD ?k1); (case k1 => walk_at "ev"))
  | ((with_reducible refine' ev_sndD ?k1); (case k1 => walk_at "ev"))
  | ((with_reducible refine' ev_notVD ?k1); (case k1 => walk_at "ev"))
  | ((with_reducible refine' ev_listLD ?k1); (case k1 => walk_at "ev"))
  | ((with_reducible refine' ev_listDD ?k1); (case k1 => walk_at "ev"))
  | ((with_reducible refine' ev_dictDD ?k1); (case k1 => walk_at "ev"))
  | ((with_reducible refine' ev_dictPD ?k1); (case k1 => walk_at "ev"))
  | ((with_reducible refine' ev_allD ?k1); (case k1 => walk_at "ev"))
  | ((with_reducible refine' ev_anyD ?k1); (case k1 => walk_at "ev"))
  | ((with_reducible refine' ev_sumD ?k1); (case k1 => walk_at "ev"))
  | ((with_reducible refine' ev_dinD ?k1 (ed_knownD ?k2)); (case k1 => walk_at "ev"); (case k2 => walk_at "ev"))
  | (refine' ev_dget2D (ed_knownD ?k1) ?k2 ?k3; (case k1 => walk_at "ev"); (case k2 => walk_at "ev"); (case k3 => walk_at "ev")))
local macro_rules | `(tactic| walk_at "et") => `(tactic| first
  | (refine' et_testD ?k1; (case k1 => walk_at "ev")) | (refine' et_valD ?k1; (case k1 => walk_at "ev")) | (refine' et_notD ?k1; (case k1 => walk_at "et")))
local macro_rules | `(tactic| walk_at "ea") => `(tactic| first
  | exact ea_nilD | ((refine' ea_consD ?k1 ?k2); (case k1 => walk_at "ev"); (case k2 => walk_at "ea")) | (refine' ea_voD rfl ?k1; (case k1 => walk_at "ea")))
local macro_rules | `(tactic| walk_at "es") => `(tactic| first
  | exact eas_nilD | ((refine' eas_consD ?k1 ?k2); (case k1 => walk_at "ev"); (case k2 => walk_at "es")))
local macro_rules | `(tactic| walk_at "set") => `(tactic| (first | refine' sq_setD ?k1 ?k2 | refine' at_setD ?k1 ?k2); (case k1 => walk_at "ev"))
local macro_rules | `(tactic| walk_at "le") => `(tactic| first | exact le_nil | (refine le_same ?_; walk_at "le") | (refine le_drop ?_; walk_at "le"))

abbrev RMod (K : PySem.W.Frag) : Rel (List (Str × Int) × Int) := RT2 K (RD RI) RI
/-- a model: weights other than 0, a constant -/
structure Mdl (m : List (Str × Int) × Int) : Prop where
  nd : (keys m.1).Nodup
  b : ∀ x ∈ m.1, 0 < x.2 ∧ x.2 < 14
  c : 0 ≤ m.2 ∧ m.2 < 14
/-- .. with these weights and this constant -/
structure MdlOf (m : List (Str × Int) × Int) (q c : Int) (f : Str → Int) (n : Nat) : Prop where
  ok : Mdl m
  hc : m.2 = c % q
  hf : ∀ k, val m.1 k = f k % q
  hn : m.1.length ≤ n
section
variable {P : Program} {w : World} {K : PySem.W.Frag} {mg : Str → Option Value} {base : Heap} {C : Addr}

theorem sc_law_added : FnScope ["_law_one", "_law_other", "_law_by", "_law_q", "_law_weights", "_law_name", "_law_weight"] ["_law_one", "_law_other", "_law_by", "_law_q"] (defScope s_law_added) := ⟨rfl, rfl, rfl, by decide +kernel, rfl, by decide +kernel, by decide +kernel⟩
def preLA (K : PySem.W.Frag) (L : List Slot) (P : List (Str × Int) × Int → Prop) : Prop := ∃ (a b : List (Str × Int) × Int) (t q : Int), L = [.va (RMod K) a, .va (RMod K) b, .va RI t, .va RI q] ∧ Mdl a ∧ Mdl b ∧ 0 < q ∧ q < 14 ∧ a.1.length + b.1.length ≤ 300 ∧ P = fun m => MdlOf m q (a.2 + t * b.2) (fun k => val a.1 k + t * val b.1 k) (a.1.length + b.1.length)
theorem val_bd {m : List (Str × Int) × Int} (h : Mdl m) (k : Str) : 0 ≤ val m.1 k ∧ val m.1 k < 14 := by
  by_cases z : k ∈ keys m.1
  · obtain ⟨x, mx, rfl⟩ := List.mem_map.mp z
    rw [val_mem h.nd mx]
    have := h.b x mx
    omega
  · rw [val_not z]; omega
theorem ok_law_added {f : Addr} {fd : FuncData} (F : Fun K "_law_added" "_law_added" s_law_added f fd) (T : Txt K mg) : FnOk P w K mg base CX0 1 f fd ["_law_one", "_law_other", "_law_by", "_law_q"] (FSp (RMod K) (preLA K)) := by
  refine F.ok sc_law_added (fsp_len (n := 4) fun L P ⟨a, b, t, q, e, _⟩ => by rw [e]; rfl) (fun cdv A outer s H vs Q E hr h => ?_)
  refine ⟨_, (pss_cons (ps_set (i := 4) sc_law_added.nd rfl (by first | exact Or.inl rfl | exact Or.inr rfl) pe_dnewK) (pss_cons (ps_for PassesOwn.never rfl (pi_list (pe_op op_cat (pe_callTy (clListD rfl) (by rfl) T.b_list (by decide +kernel) (pa_cons (pe_ix ix_tup (pv 0) pe_int (fun _ _ => rfl)) pa_nil)) (pe_callTy (clListD rfl) (by rfl) T.b_list (by decide +kernel) (pa_cons (pe_ix ix_tup (pv 1) pe_int (fun _ _ => rfl)) pa_nil)))) (pg_name (i := 5) sc_law_added.nd rfl (by first | exact Or.inl rfl | exact Or.inr rfl)) (pss_cons (ps_set (i := 6) sc_law_added.nd rfl (by first | exact Or.inl rfl | exact Or.inr rfl) (pe_op opMod (pe_callTy clInt (by rfl) T.b_int (by decide +kernel) (pa_cons (pe_op opAdd (pe_dget2 (hu_of hr) (pe_ix ix_tup (pv 0) pe_int (fun _ _ => rfl)) (pv 5) pe_int (m2_of rfl)) (pe_op opMul (pv 2) (pe_dget2 (hu_of hr) (pe_ix ix_tup (pv 1) pe_int (fun _ _ => rfl)) (pv 5) pe_int (m2_of rfl)))) pa_nil)) (pv 3))) (pss_one (ps_if (pt_cmpR op_ne (pv 6) pe_int (nomark _)) (pss_one (ps_dput (hu_of hr) (pv 4) (pv 5) (pv 6) rfl)) pss_nil)))) (pss_one (ps_ret (pe_tup (pa_cons (pv 4) (pa_cons (pe_op opMod (pe_callTy clInt (by rfl) T.b_int (by decide +kernel) (pa_cons (pe_op opAdd (pe_ix ix_tup (pv 0) pe_int (fun _ _ => rfl)) (pe_op opMul (pv 2) (pe_ix ix_tup (pv 1) pe_int (fun _ _ => rfl)))) pa_nil)) (pv 3)) pa_nil))))))), ?_⟩
  refine body_of 4 h (fun L P ⟨a, b, t, q, e, _⟩ => by rw [e]; rfl) (by decide) fun L P ⟨a, b, t, q, eL, ga, gb, q0, q1, hz, eP⟩ F D hR => ?_
  subst eL
  subst eP
  show At F [.va (RMod K) a, .va (RMod K) b, .va RI t, .va RI q, .no, .no, .no] _
  refine sq_newD (i := 4) (R := RI) fun p np => ?_
  show At F [.va (RMod K) a, .va (RMod K) b, .va RI t, .va RI q, .vo (VD p RI []), .no, .no] _
  refine at_seq (at_for (js := [5]) (R := RS) (List (Str × Int)) (fun d => [.va (RMod K) a, .va (RMod K) b, .va RI t, .va RI q, .vo (VD p RI d), .no, .no])
    (fun i d => (keys d).Nodup ∧ d.length ≤ i ∧ (∀ x ∈ d, 0 < x.2 ∧ x.2 < 14) ∧ (∀ k ∈ keys d, k ∈ (keys a.1 ++ keys b.1).take i) ∧ ∀ k ∈ (keys a.1 ++ keys b.1).take i, val d k = (val a.1 k + t * val b.1 k) % q) [] (ei_list (xs := keys a.1 ++ keys b.1) (ev_catD (ev_listDD (ev_fstD (ev_var rfl))) (ev_listDD (ev_fstD (ev_var rfl))) ?_)) ?_ (Le.refl _) (fun d => eg_name) (fun d x b z => feet_va z) (fun F' le i x d N ex hI hN => ?_) fun d hI => ?_)
  · show (keys a.1).length + (keys b.1).length ≤ 1000
    rw [keys_len, keys_len]
    omega
  · exact ⟨List.nodup_nil, Nat.le_refl _, fun x m => by simp at m, fun k m => by simp [keys] at m, fun k m => by simp at m⟩
  · obtain ⟨i1, i2, i3, i4, i5⟩ := hI
    have tk := take_snoc ex
    have li : i < (keys a.1 ++ keys b.1).length := (List.getElem?_eq_some_iff.mp ex).1
    rw [List.length_append, keys_len, keys_len] at li
    have vb := val_bd gb x
    show At F' [.va (RMod K) a, .va (RMod K) b, .va RI t, .va RI q, .vo (VD p RI d), .va RS x, .no] _
    refine sq_setD (i := 6) (a := (val a.1 x + t * val b.1 x) % q) (ev_modD (ev_intD (ev_addD (ev_dget2D (ed_knownD (ev_fstD (ev_var rfl))) (ev_var rfl) ev_int) (ev_mulD (ev_var rfl) (ev_dget2D (ed_knownD (ev_fstD (ev_var rfl))) (ev_var rfl) ev_int) (.inr ⟨by show _ < val b.1 x; omega, by show val b.1 x < _; omega⟩)))) (ev_var rfl) q0) ?_
    show At F' [.va (RMod K) a, .va (RMod K) b, .va RI t, .va RI q, .vo (VD p RI d), .va RS x, .va RI ((val a.1 x + t * val b.1 x) % q)] _
    have g0 : 0 ≤ (val a.1 x + t * val b.1 x) % q := Int.emod_nonneg _ (by omega)
    have g1 : (val a.1 x + t * val b.1 x) % q < q := Int.emod_lt_of_pos _ q0
    refine at_ifD (et_testD (ev_neID (ev_var rfl) ev_int)) (fun hc => ?_) fun hc => ?_
    · have nz : ¬ (val a.1 x + t * val b.1 x) % q = 0 := by simpa using hc
      refine at_dput (i := 4) (Pk := fun k => k = x) rfl (ev_var rfl) (ev_var rfl) (by omega) fun k v ek ev => ?_
      subst ek
      subst ev
      refine (hN (putS d k ((val a.1 k + t * val b.1 k) % q)) ⟨nodup_put i1, ?_, fun y m => ?_, fun j m => ?_, fun j m => ?_⟩).le (by walk_at "le")
      · have := putS_len d k ((val a.1 k + t * val b.1 k) % q)
        omega
      · have vy := val_mem (nodup_put (l := d) (k := k) (v := (val a.1 k + t * val b.1 k) % q) i1) m
        rw [val_put] at vy
        by_cases z : y.1 = k
        · rw [if_pos z] at vy
          omega
        · rw [if_neg z] at vy
          have my : y.1 ∈ keys d := by
            have := List.mem_map_of_mem (f := (·.1)) m
            have this : y.1 ∈ keys (putS d k ((val a.1 k + t * val b.1 k) % q)) := this
            rw [keys_put] at this
            split at this
            · exact this
            · rcases List.mem_append.mp this with q | q
              · exact q
              · simp at q; exact absurd q z
          obtain ⟨y2, m2, e2⟩ := List.mem_map.mp my
          have := val_mem i1 m2
          rw [e2] at this
          have := i3 y2 m2
          omega
      · rw [tk]
        rw [keys_put] at m
        split at m
        · exact List.mem_append_left _ (i4 j m)
        · rcases List.mem_append.mp m with m | m
          · exact List.mem_append_left _ (i4 j m)
          · exact List.mem_append_right _ m
      · rw [val_put]
        by_cases z : j = k
        · rw [if_pos z, z]
        · rw [if_neg z]
          rw [tk] at m
          rcases List.mem_append.mp m with m | m
          · exact i5 j m
          · simp at m; exact absurd m z
    · have nz : (val a.1 x + t * val b.1 x) % q = 0 := by simpa using hc
      refine (hN d ⟨i1, by omega, i3, fun j m => by rw [tk]; exact List.mem_append_left _ (i4 j m), fun j m => ?_⟩).le (by walk_at "le")
      rw [tk] at m
      by_cases z : j ∈ (keys a.1 ++ keys b.1).take i
      · exact i5 j z
      · rcases List.mem_append.mp m with m | m
        · exact absurd m z
        · simp at m
          rw [m, nz]
          exact val_not fun y => z (by rw [m]; exact i4 x y)
  · obtain ⟨i1, i2, i3, i4, i5⟩ := hI
    rw [List.take_length] at i4 i5
    have hvf : ∀ k, val d k = (val a.1 k + t * val b.1 k) % q := fun k => by
      by_cases z : k ∈ keys a.1 ++ keys b.1
      · exact i5 k z
      · rw [val_not fun y => z (i4 k y)]
        rw [List.mem_append, not_or] at z
        rw [val_not z.1, val_not z.2]
        simp
    have c0 : 0 ≤ (a.2 + t * b.2) % q := Int.emod_nonneg _ (by omega)
    have c1 : (a.2 + t * b.2) % q < q := Int.emod_lt_of_pos _ q0
    have bc := gb.c
    refine at_freezeD (i := 4) (p := p) rfl np ?_
    show At F [.va (RMod K) a, .va (RMod K) b, .va RI t, .va RI q, .va (RD RI) d, .no, .no] _
    refine at_ret hR (ev_t2D (ev_var rfl) (ev_modD (ev_intD (ev_addD (ev_sndD (ev_var rfl)) (ev_mulD (ev_var rfl) (ev_sndD (ev_var rfl)) (.inr ⟨by omega, by omega⟩)))) (ev_var rfl) q0)) (fun W z => by simp at z) fun m em => ?_
    subst em
    rw [List.length_append, keys_len, keys_len] at i2
    exact ⟨⟨i1, i3, c0, by show (a.2 + t * b.2) % q < 14; omega⟩, rfl, hvf, i2⟩
end
end K11

set_option Elab.async false
set_option linter.all false
set_option maxRecDepth 100000
namespace K11
open PySem L2 QL
local macro_rules | `(tactic| walk_at "side") => `(tactic| first
  | decide | omega | exact Or.inl ⟨by omega, by omega⟩ | exact Or.inr ⟨by omega, by omega⟩ | exact ⟨by omega, by omega⟩ | exact ⟨by omega, by omega, by omega⟩ | assumption)
local macro_rules | `(tactic| walk_at "ev") => `(tactic| first
  | (((with_reducible refine' ev_var ?k1); (case k1 => exact rfl)))
  | with_reducible exact ev_int
  | with_reducible exact ev_str
  | with_reducible exact ev_bl
  | with_reducible exact ev_non
  | with_reducible exact ev_ty
  | ((with_reducible refine' ev_addD ?k1 ?k2); (case k1 => walk_at "ev"); (case k2 => walk_at "ev"))
  | ((with_reducible refine' ev_subD ?k1 ?k2); (case k1 => walk_at "ev"); (case k2 => walk_at "ev"))
  | ((with_reducible refine' ev_ltD ?k1 ?k2); (case k1 => walk_at "ev"); (case k2 => walk_at "ev"))
  | ((with_reducible refine' ev_leD ?k1 ?k2); (case k1 => walk_at "ev"); (case k2 => walk_at "ev"))
  | ((with_reducible refine' ev_gtD ?k1 ?k2); (case k1 => walk_at "ev"); (case k2 => walk_at "ev"))
  | ((with_reducible refine' ev_geD ?k1 ?k2); (case k1 => walk_at "ev"); (case k2 => walk_at "ev"))
  | ((with_reducible refine' ev_eqID ?k1 ?k2); (case k1 => walk_at "ev"); (case k2 => walk_at "ev"))
  | ((with_reducible refine' ev_neID ?k1 ?k2); (case k1 => walk_at "ev"); (case k2 => walk_at "ev"))
  | ((with_reducible refine' ev_eqSD ?k1 ?k2); (case k1 => walk_at "ev"); (case k2 => walk_at "ev"))
  | ((with_reducible refine' ev_neSD ?k1 ?k2); (case k1 => walk_at "ev"); (case k2 => walk_at "ev"))
  | ((with_reducible refine' ev_maxD ?k1 ?k2); (case k1 => walk_at "ev"); (case k2 => walk_at "ev"))
  | ((with_reducible refine' ev_minD ?k1 ?k2); (case k1 => walk_at "ev"); (case k2 => walk_at "ev"))
  | ((with_reducible refine' ev_t2D ?k1 ?k2); (case k1 => walk_at "ev"); (case k2 => walk_at "ev"))
  | ((with_reducible refine' ev_mulD ?k1 ?k2 ?k3); (case k1 => walk_at "ev"); (case k2 => walk_at "ev"); (case k3 => walk_at "side"))
  | ((with_reducible refine' ev_divD ?k1 ?k2 ?k3); (case k1 => walk_at "ev"); (case k2 => walk_at "ev"); (case k3 => walk_at "side"))
  | ((with_reducible refine' ev_modD ?k1 ?k2 ?k3); (case k1 => walk_at "ev"); (case k2 => walk_at "ev"); (case k3 => walk_at "side"))
  | ((with_reducible refine' ev_powD ?k1 ?k2 ?k3); (case k1 => walk_at "ev"); (case k2 => walk_at "ev"); (case k3 => walk_at "side"))
  | ((with_reducible refine' ev_catSD ?k1 ?k2 ?k3); (case k1 => walk_at "ev"); (case k2 => walk_at "ev"); (case k3 => walk_at "side"))
  | ((with_reducible refine' ev_stripD ?k1 ?k2 ?k3); (case k1 => walk_at "ev"); (case k2 => walk_at "ev"); (case k3 => walk_at "side"))
  | ((with_reducible refine' ev_divmodD ?k1 ?k2 ?k3); (case k1 => walk_at "ev"); (case k2 => walk_at "ev"); (case k3 => walk_at "side"))
  | ((with_reducible refine' ev_intD ?k1); (case k1 => walk_at "ev"))
  | ((with_reducible refine' ev_absD ?k1); (case k1 => walk_at "ev"))
  | ((with_reducible refine' ev_negD ?k1); (case k1 => walk_at "ev"))
  | ((with_reducible refine' ev_lenLD ?k1); (case k1 => walk_at "ev"))
  | ((with_reducible refine' ev_lenScrD ?k1); (case k1 => walk_at "ev"))
  | ((with_reducible refine' ev_lenDD ?k1); (case k1 => walk_at "ev"))
  | ((with_reducible refine' ev_fstD ?k1); (case k1 => walk_at "ev"))
  | ((with_reducible refine' ev_sndD ?k1); (case k1 => walk_at "ev"))
  | ((with_reducible refine' ev_notVD ?k1); (case k1 => walk_at "ev"))
  | ((with_reducible refine' ev_listLD ?k1); (case k1 => walk_at "ev"))
  | ((with_reducible refine' ev_listDD ?k1); (case k1 => walk_at "ev"))
  | ((with_reducible refine' ev_dictDD ?k1); (case k1 => walk_at "ev"))
  | ((with_reducible refine' ev_dictPD ?k1); (case k1 => walk_at "ev"))
  | ((with_reducible refine' ev_allD ?k1); (case k1 => walk_at "ev"))
  | ((with_reducible refine' ev_anyD ?k1); (case k1 => walk_at "ev"))
  | ((with_reducible refine' ev_sumD ?k1); (case k1 => walk_at "ev"))
  | ((with_reducible refine' ev_dinD ?k1 (ed_knownD ?k2)); (case k1 => walk_at "ev"); (case k2 => walk_at "ev"))
  | (refine' ev_dget2D (ed_knownD ?k1) ?k2 ?k3; (case k1 => walk_at "ev"); (case k2 => walk_at "ev"); (case k3 => walk_at "ev")))
local macro_rules | `(tactic| walk_at "et") => `(tactic| first
  | (refine' et_testD ?k1; (case k1 => walk_at "ev")) | (refine' et_valD ?k1; (case k1 => walk_at "ev")) | (refine' et_notD ?k1; (case k1 => walk_at "et")))
local macro_rules | `(tactic| walk_at "ea") => `(tactic| first
  | exact ea_nilD | ((refine' ea_consD ?k1 ?k2); (case k1 => walk_at "ev"); (case k2 => walk_at "ea")) | (refine' ea_voD rfl ?k1; (case k1 => walk_at "ea")))
local macro_rules | `(tactic| walk_at "es") => `(tactic| first
  | exact eas_nilD | ((refine' eas_consD ?k1 ?k2); (case k1 => walk_at "ev"); (case k2 => walk_at "es")))
local macro_rules | `(tactic| walk_at "set") => `(tactic| (first | refine' sq_setD ?k1 ?k2 | refine' at_setD ?k1 ?k2); (case k1 => walk_at "ev"))
local macro_rules | `(tactic| walk_at "le") => `(tactic| first | exact le_nil | (refine le_same ?_; walk_at "le") | (refine le_drop ?_; walk_at "le"))

theorem ev_dnew {γ : Type} {R : Rel γ} {Γ : QL.Ctx} : Ev Γ tDNewK (RD R) (fun x => x = []) := fun σ h H S e Q q p np => by
  have st : Stp MNo h H (upd h p (.dK [])) (upd H p (.dK [])) := .new e np
  exact q (.ref p) [] _ _ rfl st.no (S.stepNo st) ⟨p, [], rfl, upd_same, .nil⟩
abbrev Mo := List (Str × Int) × Int
def minn (ms : List (Str × Mo)) (n : Str) : Mo := (getS ms n).getD ([(n, 1)], 0)
def mputV (ms : List (Str × Mo)) (l : List (Str × Int)) (k : Str) : Int := (l.map fun x => x.2 * val (minn ms x.1).1 k).sum
def mputC (ms : List (Str × Mo)) (l : List (Str × Int)) : Int := (l.map fun x => x.2 * (minn ms x.1).2).sum
def mputN (ms : List (Str × Mo)) (l : List (Str × Int)) : Nat := (l.map fun x => (minn ms x.1).1.length).sum
theorem mputV_snoc {ss : List (Str × Mo)} {l : List (Str × Int)} {x : Str × Int} {k : Str} : mputV ss (l ++ [x]) k = mputV ss l k + x.2 * val (minn ss x.1).1 k := by unfold mputV; rw [List.map_append, List.sum_append]; simp
theorem mputC_snoc {ss : List (Str × Mo)} {l : List (Str × Int)} {x : Str × Int} : mputC ss (l ++ [x]) = mputC ss l + x.2 * (minn ss x.1).2 := by unfold mputC; rw [List.map_append, List.sum_append]; simp
theorem mputN_snoc {ss : List (Str × Mo)} {l : List (Str × Int)} {x : Str × Int} : mputN ss (l ++ [x]) = mputN ss l + (minn ss x.1).1.length := by unfold mputN; rw [List.map_append, List.sum_append]; simp
theorem mputN_le {ss : List (Str × Mo)} : ∀ {l : List (Str × Int)} {i : Nat}, mputN ss (l.take i) ≤ mputN ss l
  | [], i => by simp [mputN]
  | x :: l, 0 => by simp [mputN]
  | x :: l, i + 1 => by
    have := mputN_le (ss := ss) (l := l) (i := i)
    unfold mputN at this ⊢
    rw [List.take_succ_cons, List.map_cons, List.map_cons, List.sum_cons, List.sum_cons]
    omega
section
variable {P : Program} {w : World} {K : PySem.W.Frag} {mg : Str → Option Value} {base : Heap} {C : Addr}
abbrev OwnLA (P : Program) (w : World) (K : PySem.W.Frag) (mg : Str → Option Value) (base : Heap) : Prop := Own P w K mg base "_law_added" ["_law_one", "_law_other", "_law_by", "_law_q"] 1 (FSp (RMod K) (preLA K))

theorem sc_law_replaced : FnScope ["_law_model", "_law_sums", "_law_q", "_law_found", "_law_name", "_law_weight"] ["_law_model", "_law_sums", "_law_q"] (defScope s_law_replaced) := ⟨rfl, rfl, rfl, by decide +kernel, rfl, by decide +kernel, by decide +kernel⟩
def preLR (K : PySem.W.Frag) (L : List Slot) (P : Mo → Prop) : Prop := ∃ (m : Mo) (ms : List (Str × Mo)) (q : Int), L = [.va (RMod K) m, .va (RD (RMod K)) ms, .va RI q] ∧ Mdl m ∧ m.2 < q ∧ (∀ x ∈ ms, Mdl x.2) ∧ 0 < q ∧ q < 14 ∧ m.1.length ≤ 100 ∧ mputN ms m.1 ≤ 200 ∧ P = fun r => MdlOf r q (m.2 + mputC ms m.1) (mputV ms m.1) (mputN ms m.1)
theorem ok_law_replaced {f : Addr} {fd : FuncData} (F : Fun K "_law_replaced" "_law_replaced" s_law_replaced f fd) (T : Txt K mg) (LA : OwnLA P w K mg base) : FnOk P w K mg base CX0 2 f fd ["_law_model", "_law_sums", "_law_q"] (FSp (RMod K) (preLR K)) := by
  refine F.ok sc_law_replaced (fsp_len (n := 3) fun L P ⟨a, b, q, e, _⟩ => by rw [e]; rfl) (fun cdv A outer s H vs Q E hr h => ?_)
  refine ⟨_, (pss_cons (ps_set (i := 3) sc_law_replaced.nd rfl (by first | exact Or.inl rfl | exact Or.inr rfl) (pe_tup (pa_cons pe_dnewK (pa_cons (pe_ix ix_tup (pv 0) pe_int (fun _ _ => rfl)) pa_nil)))) (pss_cons (ps_lk (ps_for PassesOwn.never rfl (pi_items (pe_ix ix_tup (pv 0) pe_int (fun _ _ => rfl))) (pg_tup rfl (pgs_cons (pg_name (i := 4) sc_law_replaced.nd rfl (by first | exact Or.inl rfl | exact Or.inr rfl)) (pgs_cons (pg_name (i := 5) sc_law_replaced.nd rfl (by first | exact Or.inl rfl | exact Or.inr rfl)) pgs_nil))) (pss_one (ps_set (i := 3) sc_law_replaced.nd rfl (by first | exact Or.inl rfl | exact Or.inr rfl) (pe_own LA (hr.mono (by decide)) (by rfl) (pa_cons (pv 3) (pa_cons (pe_dget2 (hu_of hr) (pv 1) (pv 4) (pe_tup (pa_cons (pe_disp (pps_cons (pv 4) pe_int pps_nil) (by rfl) (by rfl) (fun z => by cases z) (by decide)) (pa_cons pe_int pa_nil))) (m2_of rfl)) (pa_cons (pv 5) (pa_cons (pv 2) pa_nil))))))))) (pss_one (ps_ret (pv 3))))), ?_⟩
  refine body_of 3 h (fun L P ⟨a, b, q, e, _⟩ => by rw [e]; rfl) (by decide) fun L P ⟨m, ms, q, eL, gm, mq, hs, q0, q1, lm, hz, eP⟩ F D hR => ?_
  subst eL
  subst eP
  show At F [.va (RMod K) m, .va (RD (RMod K)) ms, .va RI q, .no, .no, .no] _
  have gi : ∀ n, Mdl (minn ms n) := fun n => by
    unfold minn
    cases e : getS ms n with
    | none => exact ⟨by simp [keys], fun y m => by simp at m; subst m; exact ⟨by simp, by simp⟩, by simp⟩
    | some b => exact hs (n, b) (mem_of_getS e)
  refine sq_setD (i := 3) (R := RMod K) (a := (([] : List (Str × Int)), m.2)) (ev_t2D ev_dnew (ev_sndD (ev_var rfl))) ?_
  show At F [.va (RMod K) m, .va (RD (RMod K)) ms, .va RI q, .va (RMod K) ([], m.2), .no, .no] _
  have c0 := gm.c
  refine at_seq (at_forItems (js := [4, 5]) Mo (fun r => [.va (RMod K) m, .va (RD (RMod K)) ms, .va RI q, .va (RMod K) r, .no, .no])
    (fun i r => MdlOf r q (m.2 + mputC ms (m.1.take i)) (mputV ms (m.1.take i)) (mputN ms (m.1.take i))) ([], m.2) (pv_fst (pv_var rfl)) ?_ (Le.refl _) (fun s => eg_2 eg_name fun a => eg_name) (fun s x b z => feet_va (feet_va z)) (fun F1 D1 br F' le i x r N ex hI hN => ?_) fun r hI => ?_)
  · refine ⟨⟨List.nodup_nil, fun x m => by simp at m, c0.1, by omega⟩, ?_, fun k => ?_, Nat.zero_le _⟩
    · rw [List.take_zero]
      show m.2 = (m.2 + 0) % q
      rw [Int.add_zero, Int.emod_eq_of_lt c0.1 mq]
    · rw [List.take_zero]
      show 0 = 0 % q
      simp
  · have tk := take_snoc ex
    have lt := mputN_le (ss := ms) (l := m.1) (i := i)
    have lt2 := mputN_le (ss := ms) (l := m.1) (i := i + 1)
    rw [tk, mputN_snoc] at lt2
    show At F' [.va (RMod K) m, .va (RD (RMod K)) ms, .va RI q, .va (RMod K) r, .va RS x.1, .va RI x.2] _
    refine at_set (i := 3) (ev_callD (ea_consD (ev_var rfl) (ea_consD (ev_dget2D (ed_knownD (ev_var rfl)) (ev_var rfl) (ev_t2D (ev_disp1 (ev_var rfl) ev_int) ev_int)) (ea_consD (ev_var rfl) (ea_consD (ev_var rfl) ea_nilD)))) trivial ⟨r, minn ms x.1, x.2, q, rfl, hI.ok, gi x.1, q0, q1, by have := hI.hn; omega, rfl⟩) fun r2 h2 => ?_
    refine (hN r2 ⟨h2.ok, ?_, fun k => ?_, ?_⟩).le (by walk_at "le")
    · rw [h2.hc, hI.hc, tk, mputC_snoc, Int.emod_add_emod, Int.add_assoc]
    · rw [h2.hf, hI.hf, tk, mputV_snoc, Int.emod_add_emod]
    · rw [tk, mputN_snoc]
      have := h2.hn
      have := hI.hn
      omega
  · rw [List.take_length] at hI
    exact at_retD hR (ev_var rfl) (fun W z => by simp at z) hI
theorem sc_law_value : FnScope ["_law_model", "_law_world", "_law_q", "_law_name", "_law_weight"] ["_law_model", "_law_world", "_law_q"] (defScope s_law_value) := ⟨rfl, rfl, rfl, by decide +kernel, rfl, by decide +kernel, by decide +kernel⟩
def preLV (K : PySem.W.Frag) (L : List Slot) (P : Int → Prop) : Prop := ∃ (m : Mo) (kvs : List (Str × Int)) (s : Slot) (q : Int), L = [.va (RMod K) m, s, .va RI q] ∧ Mdl m ∧ DS RI kvs s ∧ 0 < q ∧ m.1.length ≤ 100 ∧ (∀ k ∈ keys m.1, k ∈ keys kvs) ∧ P = fun x => x = (sumAt m.1 kvs + m.2) % q
theorem ok_law_value {f : Addr} {fd : FuncData} (F : Fun K "_law_value" "_law_value" s_law_value f fd) (T : Txt K mg) : FnOk P w K mg base CX0 1 f fd ["_law_model", "_law_world", "_law_q"] (FSp RI (preLV K)) := by
  refine F.ok sc_law_value (fsp_len (n := 3) fun L P ⟨a, b, s, q, e, _⟩ => by rw [e]; rfl) (fun cdv A outer s H vs Q E hr h => ?_)
  refine ⟨_, (pss_one (ps_ret (pe_op opMod (pe_callTy clInt (by rfl) T.b_int (by decide +kernel) (pa_cons (pe_op opAdd (pe_callB (cr_sum rfl) (by rfl) T.b_sum (by decide +kernel) (pa_cons (pe_lk (pe_lc (own := [("_law_name", 3), ("_law_weight", 4)]) (g := gTup K 2 (gCons (gName 3) (gCons (gName 4) gNil))) rfl sc_law_value.nd (pi_items (pe_ix ix_tup (pv 0) pe_int (fun _ _ => rfl))) (blkOk_by (own := [("_law_name", 3), ("_law_weight", 4)]) (N := ["_law_model", "_law_world", "_law_q", "_law_name", "_law_weight"]) (sc := defScope s_law_value) (by decide +kernel)) (fun _ _ _ _ _ => (pg_tup rfl (pgs_cons (pg_name (i := 3) sc_law_value.nd rfl (by first | exact Or.inl rfl | exact Or.inr rfl)) (pgs_cons (pg_name (i := 4) sc_law_value.nd rfl (by first | exact Or.inl rfl | exact Or.inr rfl)) pgs_nil)))) (fun _ _ _ _ _ => pts_nil) (fun _ _ _ _ _ => (pe_op opMul (pv 4) (pe_dget (hu_of hr) (pv 1) (pv 3) (fun _ _ => rfl)))))) pa_nil)) (pe_ix ix_tup (pv 0) pe_int (fun _ _ => rfl))) pa_nil)) (pv 2)))), ?_⟩
  refine body_of 3 h (fun L P ⟨a, b, s, q, e, _⟩ => by rw [e]; rfl) (by decide) fun L P ⟨m, kvs, sl, q, eL, gm, ds, q0, hz, hs, eP⟩ F D hR => ?_
  subst eL
  subst eP
  show At F [.va (RMod K) m, sl, .va RI q, .no, .no] _
  have hval : ∀ x ∈ keys kvs, getS kvs x = some (val kvs x) := fun x m => by
    obtain ⟨v, ev⟩ := getS_some m
    unfold val
    rw [ev]; rfl
  refine at_retD hR (ev_modD (ev_intD (ev_addD (ev_sumD (l := m.1.map fun x => x.2 * val kvs x.1) (Ev.imp (ev_lcItems (Rb := RI) (js := [3, 4]) (PT := fun _ b => b = true) (PY := fun x v => v = x.2 * val kvs x.1) (pv_fst (pv_var rfl)) (eg_2 (eg_name (by exact (by decide : 3 < 5))) fun a => eg_name (by exact (by decide : 4 < 5))) (fun j h => h) (fun a b z => feet_va (feet_va z)) (fun a => le_set2 rfl rfl) (nv_no rfl (nv_no rfl nv_nil)) (by omega) (fun x _ => et_yes)
    fun x mx _ => ev_mulD (ev_var rfl) (ev_dgetD (ds.ed (i := 1) rfl) (ev_var rfl) (hval x.1 (hs x.1 (List.mem_map_of_mem mx)))) (by have := gm.b x mx; exact .inl ⟨by omega, by omega⟩)) fun l pl => pl.map (f := fun x => x.2 * val kvs x.1) (fun x _ h => by cases h) (fun x _ y h => h))) (ev_sndD (ev_var rfl)))) (ev_var rfl) q0) (fun W z => ⟨1, by simp at z; rw [z]; rfl⟩) rfl
end
end K11

set_option Elab.async false
set_option linter.all false
set_option maxRecDepth 100000
namespace K11
open PySem L2 QL
local macro_rules | `(tactic| walk_at "side") => `(tactic| first
  | decide | omega | exact Or.inl ⟨by omega, by omega⟩ | exact Or.inr ⟨by omega, by omega⟩ | exact ⟨by omega, by omega⟩ | exact ⟨by omega, by omega, by omega⟩ | assumption)
local macro_rules | `(tactic| walk_at "ev") => `(tactic| first
  | (((with_reducible refine' ev_var ?k1); (case k1 => exact rfl)))
  | with_reducible exact ev_int
  | with_reducible exact ev_str
  | with_reducible exact ev_bl
  | with_reducible exact ev_non
  | with_reducible exact ev_ty
  | ((with_reducible refine' ev_addD ?k1 ?k2); (case k1 => walk_at "ev"); (case k2 => walk_at "ev"))
  | ((with_reducible refine' ev_subD ?k1 ?k2); (case k1 => walk_at "ev"); (case k2 => walk_at "ev"))
  | ((with_reducible refine' ev_ltD ?k1 ?k2); (case k1 => walk_at "ev"); (case k2 => walk_at "ev"))
  | ((with_reducible refine' ev_leD ?k1 ?k2); (case k1 => walk_at "ev"); (case k2 => walk_at "ev"))
  | ((with_reducible refine' ev_gtD ?k1 ?k2); (case k1 => walk_at "ev"); (case k2 => walk_at "ev"))
  | ((with_reducible refine' ev_geD ?k1 ?k2); (case k1 => walk_at "ev"); (case k2 => walk_at "ev"))
  | ((with_reducible refine' ev_eqID ?k1 ?k2); (case k1 => walk_at "ev"); (case k2 => walk_at "ev"))
  | ((with_reducible refine' ev_neID ?k1 ?k2); (case k1 => walk_at "ev"); (case k2 => walk_at "ev"))
  | ((with_reducible refine' ev_eqSD ?k1 ?k2); (case k1 => walk_at "ev"); (case k2 => walk_at "ev"))
  | ((with_reducible refine' ev_neSD ?k1 ?k2); (case k1 => walk_at "ev"); (case k2 => walk_at "ev"))
  | ((with_reducible refine' ev_maxD ?k1 ?k2); (case k1 => walk_at "ev"); (case k2 => walk_at "ev"))
  | ((with_reducible refine' ev_minD ?k1 ?k2); (case k1 => walk_at "ev"); (case k2 => walk_at "ev"))
  | ((with_reducible refine' ev_t2D ?k1 ?k2); (case k1 => walk_at "ev"); (case k2 => walk_at "ev"))
  | ((with_reducible refine' ev_mulD ?k1 ?k2 ?k3); (case k1 => walk_at "ev"); (case k2 => walk_at "ev"); (case k3 => walk_at "side"))
  | ((with_reducible refine' ev_divD ?k1 ?k2 ?k3); (case k1 => walk_at "ev"); (case k2 => walk_at "ev"); (case k3 => walk_at "side"))
  | ((with_reducible refine' ev_modD ?k1 ?k2 ?k3); (case k1 => walk_at "ev"); (case k2 => walk_at "ev"); (case k3 => walk_at "side"))
  | ((with_reducible refine' ev_powD ?k1 ?k2 ?k3); (case k1 => walk_at "ev"); (case k2 => walk_at "ev"); (case k3 => walk_at "side"))
  | ((with_reducible refine' ev_catSD ?k1 ?k2 ?k3); (case k1 => walk_at "ev"); (case k2 => walk_at "ev"); (case k3 => walk_at "side"))
  | ((with_reducible refine' ev_stripD ?k1 ?k2 ?k3); (case k1 => walk_at "ev"); (case k2 => walk_at "ev"); (case k3 => walk_at "side"))
  | ((with_reducible refine' ev_divmodD ?k1 ?k2 ?k3); (case k1 => walk_at "ev"); (case k2 => walk_at "ev"); (case k3 => walk_at "side"))
  | ((with_reducible refine' ev_intD ?k1); (case k1 => walk_at "ev"))
  | ((with_reducible refine' ev_absD ?k1); (case k1 => walk_at "ev"))
  | ((with_reducible refine' ev_negD ?k1); (case k1 => walk_at "ev"))
  | ((with_reducible refine' ev_lenLD ?k1); (case k1 => walk_at "ev"))
  | ((with_reducible refine' ev_lenScrD ?k1); (case k1 => walk_at "ev"))
  | ((with_reducible refine' ev_lenDD ?k1); (case k1 => walk_at "ev"))
  | ((with_reducible refine' ev_fstD ?k1); (case k1 => walk_at "ev"))
  | ((with_reducible refine' ev_sndD ?k1); (case k1 => walk_at "ev"))
  | ((with_reducible refine' ev_notVD ?k1); (case k1 => walk_at "ev"))
  | ((with_reducible refine' ev_listLD ?k1); (case k1 => walk_at "ev"))
  | ((with_reducible refine' ev_listDD ?k1); (case k1 => walk_at "ev"))
  | ((with_reducible refine' ev_dictDD ?k1); (case k1 => walk_at "ev"))
  | ((with_reducible refine' ev_dictPD ?k1); (case k1 => walk_at "ev"))
  | ((with_reducible refine' ev_allD ?k1); (case k1 => walk_at "ev"))
  | ((with_reducible refine' ev_anyD ?k1); (case k1 => walk_at "ev"))
  | ((with_reducible refine' ev_sumD ?k1); (case k1 => walk_at "ev"))
  | ((with_reducible refine' ev_dinD ?k1 (ed_knownD ?k2)); (case k1 => walk_at "ev"); (case k2 => walk_at "ev"))
  | (refine' ev_dget2D (ed_knownD ?k1) ?k2 ?k3; (case k1 => walk_at "ev"); (case k2 => walk_at "ev"); (case k3 => walk_at "ev")))
local macro_rules | `(tactic| walk_at "et") => `(tactic| first
  | (refine' et_testD ?k1; (case k1 => walk_at "ev")) | (refine' et_valD ?k1; (case k1 => walk_at "ev")) | (refine' et_notD ?k1; (case k1 => walk_at "et")))
local macro_rules | `(tactic| walk_at "ea") => `(tactic| first
  | exact ea_nilD | ((refine' ea_consD ?k1 ?k2); (case k1 => walk_at "ev"); (case k2 => walk_at "ea")) | (refine' ea_voD rfl ?k1; (case k1 => walk_at "ea")))
local macro_rules | `(tactic| walk_at "es") => `(tactic| first
  | exact eas_nilD | ((refine' eas_consD ?k1 ?k2); (case k1 => walk_at "ev"); (case k2 => walk_at "es")))
local macro_rules | `(tactic| walk_at "set") => `(tactic| (first | refine' sq_setD ?k1 ?k2 | refine' at_setD ?k1 ?k2); (case k1 => walk_at "ev"))
local macro_rules | `(tactic| walk_at "le") => `(tactic| first | exact le_nil | (refine le_same ?_; walk_at "le") | (refine le_drop ?_; walk_at "le"))

abbrev Dr := Mo × List (Str × Int)
/-- a tuple of a model, and a dict of one's own -/
def FSpDr (K : PySem.W.Frag) (Pre : List Slot → (Dr → Prop) → Prop) : Sp := fun vs H Q _ => ∃ L P h, Pre L P ∧ Sat L (vs.map some) h H ∧ Ex h H ∧
  ∀ t x p (r : Dr) h' H', P r → Stp (feet L) h H h' H' → (∀ W, Slot.vo W ∈ L → W.r h' H') → H p = none → h' p = none → (VD p RI r.2).r h' H' → h' t = some (.tup [x, .ref p]) → (RMod K).r r.1 x h' → Q (.ref t) H'
theorem fspDr_len {K : PySem.W.Frag} {Pre : List Slot → (Dr → Prop) → Prop} {n : Nat} (hl : ∀ L P, Pre L P → L.length = n) : ∀ vs H Q E, FSpDr K Pre vs H Q E → vs.length = n := fun vs H Q E ⟨L, P, h, p, S, _⟩ => by
  have := S.len
  rw [List.length_map] at this
  rw [this, hl L P p]
def RtOkDr (K : PySem.W.Frag) (F : Fr) (L : List Slot) (P : Dr → Prop) (q : VK) : Prop :=
  ∀ t x p (r : Dr) h H, P r → Stp F.M F.h F.H h H → (∀ W, Slot.vo W ∈ L → W.r h H) → F.H p = none → h p = none → (VD p RI r.2).r h H → h t = some (.tup [x, .ref p]) → (RMod K).r r.1 x h → q (.ref t) H
theorem body_ofDr {K : PySem.W.Frag} {Pre : List Slot → (Dr → Prop) → Prop} {N : List Str} {vs : List V} {H : Hp} {Q : VK} {E : XK} {t : TS} (n : Nat) (hsp : FSpDr K Pre vs H Q E) (hn : ∀ L P, Pre L P → L.length = n) (hN : n ≤ N.length)
    (hb : ∀ (L : List Slot) (P : Dr → Prop), Pre L P → ∀ (F : Fr) (D : Ends), RtOkDr K F L P D.rt → At F (L ++ List.replicate (N.length - n) .no) (t D)) : t { nx := fun _ H' => Q .non H', rt := Q } (L2.start N vs) H := by
  obtain ⟨L, P, h, pre, S, e, k⟩ := hsp
  have hl : vs.length = n := by have := S.len; rw [List.length_map] at this; rw [this, hn L P pre]
  have z := hb L P pre ⟨h, H, feet L⟩ { nx := fun _ H' => Q .non H', rt := Q } (fun t x p r h' H' pr s w n0 n1 v e1 e2 => k t x p r h' H' pr s w n0 n1 v e1 e2)
  rw [← hl] at z
  refine z _ h H (start_sat S (by rw [hl]; exact hN)) (.refl e) fun b z => ?_
  obtain ⟨m, s, em, f⟩ := z
  left
  by_cases y : m < L.length
  · rw [List.getElem?_append_left y] at em; exact ⟨m, s, em, f⟩
  · rw [List.getElem?_append_right (by omega), List.getElem?_replicate] at em
    split at em
    · cases em; exact f.elim
    · cases em
section
variable {F : Fr} {Γ : QL.Ctx} {tm : TE} {D : Ends} {K : PySem.W.Frag}
theorem at_retDr {i : Nat} {p : Addr} {kvs : List (Str × Int)} {L : List Slot} {P : Dr → Prop} {PM : Mo → Prop} (o : RtOkDr K F L P D.rt) (e : Γ[i]? = some (.vo (VD p RI kvs))) (np : F.H p = none) (k : Ev Γ tm (RMod K) PM) (hl : Has Γ L) (pr : ∀ m, PM m → P (m, kvs)) :
    At F Γ (tRet (tTup (tCons tm (tCons (tVar i) tNil))) D) := fun σ h H S s f =>
  k σ h H S s.ex _ fun x m h1 H1 pm s1 S1 rm => by
    obtain ⟨ev, rp⟩ := S1.ok i _ e
    refine ⟨_, ev, by show 2 ≤ sizeLine; decide, fun t nt => ?_⟩
    have st : Stp MNo h1 H1 (upd h1 t (.tup [x, .ref p])) (upd H1 t (.tup [x, .ref p])) := .new s1.ex nt
    have S2 := S1.stepNo st
    exact o t x p (m, kvs) _ _ (pr m pm) ((feet_stp (Γ := Γ) (σ := σ) s s1 f).tr st.no) (S2.vols hl) np (S2.out i _ p e rfl) (S2.ok i _ e).2 upd_same ((RMod K).mono st.kn rm)
end
section
variable {P : Program} {w : World} {K : PySem.W.Frag} {mg : Str → Option Value} {base : Heap} {C : Addr}
abbrev OwnD (P : Program) (w : World) (K : PySem.W.Frag) (mg : Str → Option Value) (base : Heap) : Prop := Own P w K mg base "_law_draw" ["_law_rng_here", "_law_many"] 1 (FSp RI preDraw)

theorem sc_law_drawn : FnScope ["_law_rng_here", "_law_names", "_law_q", "_law_handed", "_law_name", "_law_weight", "_law_kept"] ["_law_rng_here", "_law_names", "_law_q"] (defScope s_law_drawn) := ⟨rfl, rfl, rfl, by decide +kernel, rfl, by decide +kernel, by decide +kernel⟩
def nzs (kvs : List (Str × Int)) : List (Str × Int) := kvs.filter fun x => decide (x.2 ≠ 0)
def preDrawn (L : List Slot) (P : Dr → Prop) : Prop := ∃ (p : Addr) (ns : List Str) (q : Int), L = [.vo (VRng p), .va (RL RS) ns, .va RI q] ∧ ns.length ≤ 40 ∧ ns.Nodup ∧ (∀ s ∈ ns, IsName s) ∧ 0 < q ∧ q < 14 ∧
  P = fun r => NumD q r.2 ∧ r.2.length ≤ ns.length ∧ (∀ k ∈ keys r.2, k ∈ ns) ∧ r.1.1 = nzs r.2 ∧ 0 ≤ r.1.2 ∧ r.1.2 < q
theorem ok_law_drawn {f : Addr} {fd : FuncData} (F : Fun K "_law_drawn" "_law_drawn" s_law_drawn f fd) (T : Txt K mg) (OD : OwnD P w K mg base) : FnOk P w K mg base CX0 2 f fd ["_law_rng_here", "_law_names", "_law_q"] (FSpDr K preDrawn) := by
  refine F.ok sc_law_drawn (fspDr_len (n := 3) fun L P ⟨a, b, q, e, _⟩ => by rw [e]; rfl) (fun cdv A outer s H vs Q E hr h => ?_)
  refine ⟨_, (pss_cons (ps_set (i := 3) sc_law_drawn.nd rfl (by first | exact Or.inl rfl | exact Or.inr rfl) pe_dnewK) (pss_cons (ps_for PassesOwn.never rfl (pi_list (pv 1)) (pg_name (i := 4) sc_law_drawn.nd rfl (by first | exact Or.inl rfl | exact Or.inr rfl)) (pss_one (ps_if (pt_cmpR opGt (pe_own OD (hr.mono (by decide)) (by rfl) (pa_cons (pv 0) (pa_cons pe_int pa_nil))) pe_int (nomark _)) (pss_one (ps_dput (hu_of hr) (pv 3) (pv 4) (pe_own OD (hr.mono (by decide)) (by rfl) (pa_cons (pv 0) (pa_cons (pv 2) pa_nil))) rfl)) pss_nil))) (pss_cons (ps_set (i := 6) sc_law_drawn.nd rfl (by first | exact Or.inl rfl | exact Or.inr rfl) (pe_callTy (clDictP rfl) (by rfl) T.b_dict (by decide +kernel) (pa_cons (pe_lk (pe_lc (own := [("_law_name", 4), ("_law_weight", 5)]) (g := gTup K 2 (gCons (gName 4) (gCons (gName 5) gNil))) rfl sc_law_drawn.nd (pi_items (pv 3)) (blkOk_by (own := [("_law_name", 4), ("_law_weight", 5)]) (N := ["_law_rng_here", "_law_names", "_law_q", "_law_handed", "_law_name", "_law_weight", "_law_kept"]) (sc := defScope s_law_drawn) (by decide +kernel)) (fun _ _ _ _ _ => (pg_tup rfl (pgs_cons (pg_name (i := 4) sc_law_drawn.nd rfl (by first | exact Or.inl rfl | exact Or.inr rfl)) (pgs_cons (pg_name (i := 5) sc_law_drawn.nd rfl (by first | exact Or.inl rfl | exact Or.inr rfl)) pgs_nil)))) (fun _ _ _ _ _ => (pts_one (pt_cmpR op_ne (pv 5) pe_int (nomark _)))) (fun _ _ _ _ _ => (pe_tup (pa_cons (pv 4) (pa_cons (pv 5) pa_nil)))))) pa_nil))) (pss_one (ps_ret (pe_tup (pa_cons (pe_tup (pa_cons (pv 6) (pa_cons (pe_own OD (hr.mono (by decide)) (by rfl) (pa_cons (pv 0) (pa_cons (pv 2) pa_nil))) pa_nil))) (pa_cons (pv 3) pa_nil)))))))), ?_⟩
  refine body_ofDr 3 h (fun L P ⟨a, b, q, e, _⟩ => by rw [e]; rfl) (by decide) fun L P ⟨p, ns, q, eL, hl, hd, hn, q0, q1, eP⟩ F D hR => ?_
  subst eL
  subst eP
  show At F [.vo (VRng p), .va (RL RS) ns, .va RI q, .no, .no, .no, .no] _
  refine sq_newD (i := 3) (R := RI) fun p2 n2 => ?_
  show At F [.vo (VRng p), .va (RL RS) ns, .va RI q, .vo (VD p2 RI []), .no, .no, .no] _
  refine at_seq (at_for (js := [4]) (R := RS) (List (Str × Int)) (fun d => [.vo (VRng p), .va (RL RS) ns, .va RI q, .vo (VD p2 RI d), .no, .no, .no])
    (fun i d => (keys d).Nodup ∧ d.length ≤ i ∧ (∀ k ∈ keys d, k ∈ ns.take i) ∧ ∀ x ∈ d, 0 ≤ x.2 ∧ x.2 < q) [] (ei_list (xs := ns) (ev_var rfl)) ⟨List.nodup_nil, Nat.le_refl _, fun k m => by simp [keys] at m, fun x m => by simp at m⟩ (Le.refl _) (fun d => eg_name) (fun d x b z => feet_va z) (fun F' le i x d N ex hI hN => ?_) fun d hI => ?_)
  · obtain ⟨i1, i2, i3, i4⟩ := hI
    have tk := take_snoc ex
    have li : i < ns.length := (List.getElem?_eq_some_iff.mp ex).1
    show At F' [.vo (VRng p), .va (RL RS) ns, .va RI q, .vo (VD p2 RI d), .va RS x, .no, .no] _
    refine at_if (et_test (ev_gt (ev_draw rfl ev_int (by decide) (by decide)) ev_int)) (fun _ => ?_) fun _ => ?_
    · refine at_dput (i := 3) (Pk := fun k => k = x) rfl (ev_draw rfl (ev_var rfl) q0 (by omega)) (ev_var rfl) (by omega) fun k v ek hv => ?_
      subst ek
      have nk : k ∉ keys d := fun m => by
        have h1 := i3 k m
        have h2 := hd.sublist (List.take_sublist (i + 1) ns)
        rw [tk, List.nodup_append] at h2
        exact h2.2.2 k h1 k (by simp) rfl
      have ep : putS d k v = d ++ [(k, v)] := by unfold putS; rw [if_neg (fun z => nk (hasS_iff.mp z))]
      refine (hN (putS d k v) ⟨nodup_put i1, ?_, fun j m => ?_, fun y m => ?_⟩).le (by walk_at "le")
      · have := putS_len d k v
        omega
      · rw [tk]
        rw [keys_put, if_neg nk] at m
        rcases List.mem_append.mp m with m | m
        · exact List.mem_append_left _ (i3 j m)
        · exact List.mem_append_right _ m
      · rw [ep] at m
        rcases List.mem_append.mp m with m | m
        · exact i4 y m
        · simp at m; subst m; exact hv
    · exact (hN d ⟨i1, by omega, fun j m => by rw [tk]; exact List.mem_append_left _ (i3 j m), i4⟩).le (by walk_at "le")
  · obtain ⟨i1, i2, i3, i4⟩ := hI
    rw [List.take_length] at i3
    have nk : (keys (nzs d)).Nodup := i1.sublist (List.Sublist.map _ List.filter_sublist)
    refine sq_set (i := 6) (R := RD RI) (P := fun d2 => d2 = nzs d) (Ev.imp (ev_dictPD (l := nzs d) (Ev.imp (ev_lcOwn (Rb := RT2 K RS RI) (i := 3) (p := p2) (kvs := d) (js := [4, 5]) (PT := fun x b => b = decide (x.2 ≠ 0)) (PY := fun x y => y = (x.1, x.2)) rfl (by decide) (fun s => eg_2 (eg_name (by exact (by decide : 4 < 7))) fun a => eg_name (by exact (by decide : 5 < 7))) (fun j h => h) (fun s a b z => feet_va (feet_va z)) (fun s a => le_set2 rfl rfl) (fun s => nv_no rfl (nv_no rfl nv_nil)) (by omega)
      (fun s x _ => (et_testD (ev_neID (ev_var rfl) ev_int)).imp fun b eb => by rw [eb]; simp) (fun s x _ _ => ev_t2D (ev_var rfl) (ev_var rfl))) fun l pl => ?_)) fun d2 e2 => by rw [e2, puts_self nk]) fun d2 e2 => ?_
    · have := pl.filterMap (c := fun x => decide (x.2 ≠ 0)) (f := fun x : Str × Int => (x.1, x.2)) (fun x _ b h => h) (fun x _ y h => h)
      rw [this]
      unfold nzs
      exact List.map_id' _
    · subst e2
      show At F [.vo (VRng p), .va (RL RS) ns, .va RI q, .vo (VD p2 RI d), .no, .no, .va (RD RI) (nzs d)] _
      refine at_retDr hR (i := 3) rfl n2 (ev_t2P (ev_var rfl) (ev_draw rfl (ev_var rfl) q0 (by omega))) (fun W z => ⟨0, by simp at z; rw [z]; rfl⟩) fun m hm => ?_
      exact ⟨⟨by show d.length < 64; omega, i1, fun x mx => ⟨hn x.1 (i3 x.1 (List.mem_map_of_mem mx)), i4 x mx⟩⟩, i2, i3, hm.1, hm.2⟩
end
end K11

set_option Elab.async false
set_option linter.all false
set_option maxRecDepth 100000
namespace QL
open PySem L2
/-- a value that is no text -/
def NonS (K : PySem.W.Frag) (v : V) (h : Hp) : Prop := v = .non ∨ (∃ i, v = .int i) ∨ (∃ b, v = .bl b) ∨ (∃ p xs, v = .ref p ∧ h p = some (.lst xs)) ∨ (∃ p xs, v = .ref p ∧ KT K h p xs) ∨ ∃ p ks, v = .ref p ∧ h p = some (.dK ks)
theorem NonS.mono {K : PySem.W.Frag} {v : V} {h h' : Hp} (e : Ext h h') (n : NonS K v h) : NonS K v h' := by
  rcases n with z | z | z | ⟨p, xs, z, y⟩ | ⟨p, xs, z, y⟩ | ⟨p, ks, z, y⟩
  · exact .inl z
  · exact .inr (.inl z)
  · exact .inr (.inr (.inl z))
  · exact .inr (.inr (.inr (.inl ⟨p, xs, z, e _ _ y⟩)))
  · exact .inr (.inr (.inr (.inr (.inl ⟨p, xs, z, y.mono e⟩))))
  · exact .inr (.inr (.inr (.inr (.inr ⟨p, ks, z, e _ _ y⟩))))
def RNs (K : PySem.W.Frag) : Rel Unit := ⟨fun _ v h => NonS K v h, fun e n => n.mono e⟩
/-- a text, or none -/
def ROd (K : PySem.W.Frag) : Rel (Option Str) := ⟨fun o v h => match o with | some s => v = .str s | none => NonS K v h, fun {o v h h'} e n => by
  cases o with
  | some s => exact n
  | none => exact NonS.mono e n⟩
theorem tyr_ns {K : PySem.W.Frag} : TyR K (RNs K) "str" false := fun a v h H n e => by
  rcases (show NonS K v h from n) with rfl | ⟨i, rfl⟩ | ⟨b, rfl⟩ | ⟨p, xs, rfl, y⟩ | ⟨p, xs, rfl, y⟩ | ⟨p, ks, rfl, y⟩
  · exact ⟨"NoneType", ty_non, by decide +kernel⟩
  · exact ⟨"int", ty_int, by decide +kernel⟩
  · exact ⟨"bool", ty_bl, by decide +kernel⟩
  · exact ⟨"list", ty_lst (e.lst y), by decide +kernel⟩
  · refine ⟨"tuple", ?_, by decide +kernel⟩
    rcases y with y | ⟨o, its, n, y1, y2, _⟩
    · exact ty_tup (e.tup y)
    · exact .kTuple y1 y2
  · exact ⟨"dict", ty_dK (e.rd y), by decide +kernel⟩
section
variable {α : Type} {Γ : QL.Ctx} {te : TE} {K : PySem.W.Frag} {R : Rel α} {a : α}
theorem od_s {s : Str} (h : Ev Γ te RS (fun x => x = s)) : Ev Γ te (ROd K) (fun x => x = some s) := h.cast fun x v h e r => ⟨some s, rfl, by rw [← e]; exact r⟩
theorem od_of (k : ∀ x v h, R.r x v h → NonS K v h) (h : Ev Γ te R (fun x => x = a)) : Ev Γ te (ROd K) (fun x => x = none) := h.cast fun x v h e r => ⟨none, rfl, k x v h r⟩
theorem ns_int : ∀ x v h, RI.r x v h → NonS K v h := fun x v h r => .inr (.inl ⟨x, r⟩)
theorem ns_bl : ∀ x v h, RB.r x v h → NonS K v h := fun x v h r => .inr (.inr (.inl ⟨x, r⟩))
theorem ns_non : ∀ x v h, RN.r x v h → NonS K v h := fun x v h r => .inl r
theorem ns_l : ∀ x v h, (RL R).r x v h → NonS K v h := fun x v h ⟨p, vs, e, y, _⟩ => .inr (.inr (.inr (.inl ⟨p, vs, e, y⟩)))
theorem ns_t : ∀ x v h, (RTs K R).r x v h → NonS K v h := fun x v h ⟨p, vs, e, y, _⟩ => .inr (.inr (.inr (.inr (.inl ⟨p, vs, e, y⟩))))
theorem ns_d : ∀ x v h, (RD R).r x v h → NonS K v h := fun x v h ⟨p, vs, e, y, _⟩ => .inr (.inr (.inr (.inr (.inr ⟨p, vs, e, y⟩))))
/-- an own dict is emptied -/
theorem at_dclear {F : Fr} {D : Ends} {i : Nat} {p : Addr} {kvs : List (Str × α)} (e : Γ[i]? = some (.vo (VD p R kvs))) (n : At F (Γ.set i (.vo (VD p R []))) D.nx) : At F Γ (tDrop (tBM0 K "dict" rDClear (tVar i)) D) := fun σ h H S s f => by
  obtain ⟨ev, ks, ep, rs⟩ := S.ok i _ e
  refine ⟨_, ev, .inr (.inr (.inl ⟨rfl, .inl ⟨ks, ep⟩⟩)), p, ks, rfl, rfl, ep, ?_⟩
  exact at_vol (W := VD p R kvs) (W' := VD p R []) n e rfl (fun _ => Iff.rfl) rfl S s f ⟨[], upd_same, .nil⟩
theorem ev_isiOwnL {i : Nat} {p : Addr} {l : List α} (e : Γ[i]? = some (.vo (VL p R l))) : Ev Γ (tCB (rIsi K) (tCons (tVar i) (tCons (tC (.ty "list")) tNil))) RB (fun x => x = true) := fun σ h H S x Q q => by
  obtain ⟨ev, vs, ep, _⟩ := S.ok i _ e
  exact ⟨_, ev, _, .ty "list", .type "list", .type "list", true, rfl, .ty "list", ty_lst ep, kit_ty (by decide +kernel), q _ true h H rfl (.refl x) S rfl⟩
theorem rep_flat {x : Int} : ∀ n : Nat, (List.replicate n [V.int x]).flatten = (List.replicate n x).map V.int
  | 0 => rfl
  | n + 1 => by rw [List.replicate_succ, List.replicate_succ, List.flatten_cons, List.map_cons, rep_flat n]; rfl
/-- [0] * n -/
theorem ev_rep0 {te tb : TE} {n : Nat} {x : Int} {k : Int} (h1 : Ev Γ te (RL RI) (fun l => l = [x])) (h2 : Ev Γ tb RI (fun y => y = k)) (ek : k = (n : Int)) (hn : n ≤ 100) : Ev Γ (tOp rRep te tb) (RL RI) (fun l => l = List.replicate n x) :=
  ev_op h1 h2 fun a b u v h H Q pa pb ra rb e q => by
    subst pa
    subst pb
    subst ek
    obtain ⟨p, vs, rfl, hp, rs⟩ := ra
    have ev := int_reps rs
    subst ev
    refine ⟨p, (n : Int), _, rfl, rb, e.lst hp, by omega, by omega, by
      show 1 * (n : Int).toNat ≤ sizeLine
      exact Nat.le_trans (by omega : _ ≤ 100) (by decide), fun l nl => ?_⟩
    have st : Stp MNo h H (upd h l (.lst ((List.replicate n x).map V.int))) (upd H l (.lst ((List.replicate n x).map V.int))) := .new e nl
    show Q (.ref l) (upd H l (.lst (List.replicate (n : Int).toNat [V.int x]).flatten))
    rw [show ((n : Int)).toNat = n by omega, rep_flat]
    exact q _ _ _ _ rfl st ⟨l, _, rfl, upd_same, reps_int _⟩
end
end QL
namespace K11
open PySem L2 QL
local macro_rules | `(tactic| walk_at "side") => `(tactic| first
  | decide | omega | exact Or.inl ⟨by omega, by omega⟩ | exact Or.inr ⟨by omega, by omega⟩ | exact ⟨by omega, by omega⟩ | exact ⟨by omega, by omega, by omega⟩ | assumption)
local macro_rules | `(tactic| walk_at "ev") => `(tactic| first
  | (((with_reducible refine' ev_var ?k1); (case k1 => exact rfl)))
  | with_reducible exact ev_int
  | with_reducible exact ev_str
  | with_reducible exact ev_bl
  | with_reducible exact ev_non
  | with_reducible exact ev_ty
  | ((with_reducible refine' ev_addD ?k1 ?k2); (case k1 => walk_at "ev"); (case k2 => walk_at "ev"))
  | ((with_reducible refine' ev_subD ?k1 ?k2); (case k1 => walk_at "ev"); (case k2 => walk_at "ev"))
  | ((with_reducible refine' ev_ltD ?k1 ?k2); (case k1 => walk_at "ev"); (case k2 => walk_at "ev"))
  | ((with_reducible refine' ev_leD ?k1 ?k2); (case k1 => walk_at "ev"); (case k2 => walk_at "ev"))
  | ((with_reducible refine' ev_gtD ?k1 ?k2); (case k1 => walk_at "ev"); (case k2 => walk_at "ev"))
  | ((with_reducible refine' ev_geD ?k1 ?k2); (case k1 => walk_at "ev"); (case k2 => walk_at "ev"))
  | ((with_reducible refine' ev_eqID ?k1 ?k2); (case k1 => walk_at "ev"); (case k2 => walk_at "ev"))
  | ((with_reducible refine' ev_neID ?k1 ?k2); (case k1 => walk_at "ev"); (case k2 => walk_at "ev"))
  | ((with_reducible refine' ev_eqSD ?k1 ?k2); (case k1 => walk_at "ev"); (case k2 => walk_at "ev"))
  | ((with_reducible refine' ev_neSD ?k1 ?k2); (case k1 => walk_at "ev"); (case k2 => walk_at "ev"))
  | ((with_reducible refine' ev_maxD ?k1 ?k2); (case k1 => walk_at "ev"); (case k2 => walk_at "ev"))
  | ((with_reducible refine' ev_minD ?k1 ?k2); (case k1 => walk_at "ev"); (case k2 => walk_at "ev"))
  | ((with_reducible refine' ev_t2D ?k1 ?k2); (case k1 => walk_at "ev"); (case k2 => walk_at "ev"))
  | ((with_reducible refine' ev_mulD ?k1 ?k2 ?k3); (case k1 => walk_at "ev"); (case k2 => walk_at "ev"); (case k3 => walk_at "side"))
  | ((with_reducible refine' ev_divD ?k1 ?k2 ?k3); (case k1 => walk_at "ev"); (case k2 => walk_at "ev"); (case k3 => walk_at "side"))
  | ((with_reducible refine' ev_modD ?k1 ?k2 ?k3); (case k1 => walk_at "ev"); (case k2 => walk_at "ev"); (case k3 => walk_at "side"))
  | ((with_reducible refine' ev_powD ?k1 ?k2 ?k3); (case k1 => walk_at "ev"); (case k2 => walk_at "ev"); (case k3 => walk_at "side"))
  | ((with_reducible refine' ev_catSD ?k1 ?k2 ?k3); (case k1 => walk_at "ev"); (case k2 => walk_at "ev"); (case k3 => walk_at "side"))
  | ((with_reducible refine' ev_stripD ?k1 ?k2 ?k3); (case k1 => walk_at "ev"); (case k2 => walk_at "ev"); (case k3 => walk_at "side"))
  | ((with_reducible refine' ev_divmodD ?k1 ?k2 ?k3); (case k1 => walk_at "ev"); (case k2 => walk_at "ev"); (case k3 => walk_at "side"))
  | ((with_reducible refine' ev_intD ?k1); (case k1 => walk_at "ev"))
  | ((with_reducible refine' ev_absD ?k1); (case k1 => walk_at "ev"))
  | ((with_reducible refine' ev_negD ?k1); (case k1 => walk_at "ev"))
  | ((with_reducible refine' ev_lenLD ?k1); (case k1 => walk_at "ev"))
  | ((with_reducible refine' ev_lenScrD ?k1); (case k1 => walk_at "ev"))
  | ((with_reducible refine' ev_lenDD ?k1); (case k1 => walk_at "ev"))
  | ((with_reducible refine' ev_fstD ?k1); (case k1 => walk_at "ev"))
  | ((with_reducible refine' ev_sndD ?k1); (case k1 => walk_at "ev"))
  | ((with_reducible refine' ev_notVD ?k1); (case k1 => walk_at "ev"))
  | ((with_reducible refine' ev_listLD ?k1); (case k1 => walk_at "ev"))
  | ((with_reducible refine' ev_listDD ?k1); (case k1 => walk_at "ev"))
  | ((with_reducible refine' ev_dictDD ?k1); (case k1 => walk_at "ev"))
  | ((with_reducible refine' ev_dictPD ?k1); (case k1 => walk_at "ev"))
  | ((with_reducible refine' ev_allD ?k1); (case k1 => walk_at "ev"))
  | ((with_reducible refine' ev_anyD ?k1); (case k1 => walk_at "ev"))
  | ((with_reducible refine' ev_sumD ?k1); (case k1 => walk_at "ev"))
  | ((with_reducible refine' ev_dinD ?k1 (ed_knownD ?k2)); (case k1 => walk_at "ev"); (case k2 => walk_at "ev"))
  | (refine' ev_dget2D (ed_knownD ?k1) ?k2 ?k3; (case k1 => walk_at "ev"); (case k2 => walk_at "ev"); (case k3 => walk_at "ev")))
local macro_rules | `(tactic| walk_at "et") => `(tactic| first
  | (refine' et_testD ?k1; (case k1 => walk_at "ev")) | (refine' et_valD ?k1; (case k1 => walk_at "ev")) | (refine' et_notD ?k1; (case k1 => walk_at "et")))
local macro_rules | `(tactic| walk_at "ea") => `(tactic| first
  | exact ea_nilD | ((refine' ea_consD ?k1 ?k2); (case k1 => walk_at "ev"); (case k2 => walk_at "ea")) | (refine' ea_voD rfl ?k1; (case k1 => walk_at "ea")))
local macro_rules | `(tactic| walk_at "es") => `(tactic| first
  | exact eas_nilD | ((refine' eas_consD ?k1 ?k2); (case k1 => walk_at "ev"); (case k2 => walk_at "es")))
local macro_rules | `(tactic| walk_at "set") => `(tactic| (first | refine' sq_setD ?k1 ?k2 | refine' at_setD ?k1 ?k2); (case k1 => walk_at "ev"))
local macro_rules | `(tactic| walk_at "le") => `(tactic| first | exact le_nil | (refine le_same ?_; walk_at "le") | (refine le_drop ?_; walk_at "le"))

section
variable {P : Program} {w : World} {K : PySem.W.Frag} {mg : Str → Option Value} {base : Heap} {C : Addr}
abbrev PrpI (P : Program) (w : World) (K : PySem.W.Frag) (mg : Str → Option Value) (base : Heap) (C : Addr) : Prop := Prp P w K mg base 1 C "is_constant" (FSp RB (preGet C fun a => decide ((a.ws.length : Int) = 0)))
abbrev MetN (P : Program) (w : World) (K : PySem.W.Frag) (mg : Str → Option Value) (base : Heap) (C : Addr) : Prop := C8.Met P w K mg base 1 C "names" (FSpG (fun p d => VL p RS d) (preGet C fun a => keys a.ws)) []
abbrev MetX (P : Program) (w : World) (K : PySem.W.Frag) (mg : Str → Option Value) (base : Heap) (C : Addr) : Prop := C8.Met P w K mg base 1 C "weight" (FSp RI (preWeight K C)) []
section
variable {Γ : QL.Ctx} {te tn : TE} {a : SumD}
theorem eo_names (h : Ev Γ te (RSum C) (fun x => x = a)) : EvO Γ (tMeth C "names" (FSpG (fun p d => VL p RS d) (preGet C fun a => keys a.ws)) [] E0 te tNil) (fun p d => VL p RS d) (fun d => d = keys a.ws) := eo_meth h rfl ea_nilD trivial ⟨a, rfl, rfl⟩
theorem ev_wt {s : Str} (h : Ev Γ te (RSum C) (fun x => x = a)) (h2 : Ev Γ tn RS (fun x => x = s)) : Ev Γ (tMeth C "weight" (FSp RI (preWeight K C)) [] E0 te (tCons tn tNil)) RI (fun x => x = val a.ws s) := ev_meth h rfl (ea_consD h2 ea_nilD) trivial (.inl ⟨a, s, rfl, rfl⟩)
theorem ev_wt0 {γ : Type} {R : Rel γ} {x : γ} (h : Ev Γ te (RSum C) (fun x => x = a)) (ty : TyR K R "str" false) (h2 : Ev Γ tn R (fun y => y = x)) : Ev Γ (tMeth C "weight" (FSp RI (preWeight K C)) [] E0 te (tCons tn tNil)) RI (fun x => x = 0) := ev_meth h rfl (ea_consD h2 ea_nilD) trivial (.inr ⟨a, γ, R, x, ty, rfl, rfl⟩)
end
theorem cd_items {l : List (Str × Int)} (h : ∀ x ∈ l, ∀ c ∈ tl x.1, isSg c = true) : Cd (.list (l.map fun p => PyData.tuple [.str p.1, .int p.2])) 2 := cd_list fun d m => by
  obtain ⟨x, mx, rfl⟩ := List.mem_map.mp m
  refine cd_tup fun e me => ?_
  simp at me
  rcases me with rfl | rfl
  · exact cd_str (h x mx)
  · exact cd_int _
theorem cd_keys {l : List Str} (h : ∀ x ∈ l, ∀ c ∈ tl x, isSg c = true) : Cd (.list (l.map PyData.str)) 1 := cd_list fun d m => by
  obtain ⟨x, mx, rfl⟩ := List.mem_map.mp m
  exact cd_str (h x mx)
theorem cd_ints {l : List Int} : Cd (.list (l.map PyData.int)) 1 := cd_list fun d m => by
  obtain ⟨x, mx, rfl⟩ := List.mem_map.mp m
  exact cd_int x

theorem sc_law_tells : FnScope ["_law_one", "_law_model", "_law_q", "_law_turn", "_law_told", "_law_names", "_law_name", "_law_weight", "_law_odd", "_law_value_here"] ["_law_one", "_law_model", "_law_q"] (defScope s_law_tells) := ⟨rfl, rfl, rfl, by decide +kernel, rfl, by decide +kernel, by decide +kernel⟩
/-- the sum is as its model -/
structure Same (x : SumD) (m : Mo) (q : Int) : Prop where
  good : Good x
  mdl : Mdl m
  hq : x.q = q
  hc : x.c = m.2
  hf : ∀ k, val x.ws k = val m.1 k
theorem Same.sIt {x : SumD} {m : Mo} {q : Int} (s : Same x m q) : QL.sIt m.1 = x.ws := by
  rw [sIt_nrm s.mdl.nd fun y my => by have := s.mdl.b y my; omega, ← s.good.nrm]
  exact nrm_ext s.mdl.nd s.good.nd.2.1 fun k => (s.hf k).symm
theorem Same.len {x : SumD} {m : Mo} {q : Int} (s : Same x m q) : m.1.length = x.ws.length := by
  have := congrArg List.length s.sIt
  unfold QL.sIt at this
  rw [List.length_map, srt_len, keys_len] at this
  exact this
theorem Same.srt {x : SumD} {m : Mo} {q : Int} (s : Same x m q) : srt (keys m.1) = keys x.ws := by rw [← s.sIt, keys_sIt]
def preLT (K : PySem.W.Frag) (C : Addr) (L : List Slot) (P : Bool → Prop) : Prop := ∃ (x : SumD) (m : Mo) (q : Int), L = [.va (RSum C) x, .va (RMod K) m, .va RI q] ∧ Same x m q ∧ P = fun b => b = true
theorem ok_law_tells {f : Addr} {fd : FuncData} (F : Fun K "_law_tells" "_law_tells" s_law_tells f fd) (T : Txt K mg) (PM : PrpM P w K mg base C) (PC : PrpC P w K mg base C) (PI : PrpI P w K mg base C) (MW : MetW P w K mg base C) (MN : MetN P w K mg base C) (MX : MetX P w K mg base C) :
    FnOk P w K mg base CX0 3 f fd ["_law_one", "_law_model", "_law_q"] (FSp RB (preLT K C)) := by
  refine F.ok sc_law_tells (fsp_len (n := 3) fun L P ⟨x, m, q, e, _⟩ => by rw [e]; rfl) (fun cdv A outer s H vs Q E hr h => ?_)
  refine ⟨_, (pss_cons (ps_if (pt_cmpR (op_neD hr.units) (pe_lst (pa_cons (pe_pr PM hr (by decide) (pv 0) rfl) (pa_cons (pe_pr PC hr (by decide) (pv 0) rfl) (pa_cons (pe_pr PI hr (by decide) (pv 0) rfl) pa_nil)))) (pe_lst (pa_cons (pv 2) (pa_cons (pe_ix ix_tup (pv 1) pe_int (fun _ _ => rfl)) (pa_cons (pe_cmpR (op_eqDG hr.units0) (pe_ix ix_tup (pv 1) pe_int (fun _ _ => rfl)) pe_dnewK (nomark _)) pa_nil)))) (nomark _)) (pss_one (ps_ret pe_bl)) pss_nil) (pss_cons (ps_for PassesOwn.never rfl (pi_range1 (by rfl) T.b_range (pa_cons pe_int pa_nil)) (pg_name (i := 3) sc_law_tells.nd rfl (by first | exact Or.inl rfl | exact Or.inr rfl)) (pss_cons (ps_set (i := 4) sc_law_tells.nd rfl (by first | exact Or.inl rfl | exact Or.inr rfl) (C8.pe_mt0 MW hr (by decide) (pv 0))) (pss_cons (ps_if (PW.pt (pw_or (pt_not (pt_val (pe_callB call_isi (by rfl) T.b_isinstance (by decide +kernel) (pa_cons (pv 4) (pa_cons (pe_bltn (v := .ty "dict") (by rfl) T.b_dict (by decide +kernel) rfl) pa_nil))))) (pw_or1 (pt_cmpR (op_neD hr.units) (LiI.pe_listItems rfl (pv 4) (by rfl) T.b_list (by decide +kernel)) (pe_callB (cr_srtI rfl) (by rfl) T.b_sorted (by decide +kernel) (pa_cons (pe_itemsV (pe_ix ix_tup (pv 1) pe_int (fun _ _ => rfl))) pa_nil)) (nomark _))))) (pss_one (ps_ret pe_bl)) pss_nil) (pss_cons (ps_set (i := 5) sc_law_tells.nd rfl (by first | exact Or.inl rfl | exact Or.inr rfl) (C8.pe_mt0 MN hr (by decide) (pv 0))) (pss_cons (ps_if (PW.pt (pw_or (pt_not (pt_val (pe_callB call_isi (by rfl) T.b_isinstance (by decide +kernel) (pa_cons (pv 5) (pa_cons (pe_bltn (v := .ty "list") (by rfl) T.b_list (by decide +kernel) rfl) pa_nil))))) (pw_or1 (pt_cmpR (op_neD hr.units) (pv 5) (pe_callB (clSrtD rfl) (by rfl) T.b_sorted (by decide +kernel) (pa_cons (pe_ix ix_tup (pv 1) pe_int (fun _ _ => rfl)) pa_nil)) (nomark _))))) (pss_one (ps_ret pe_bl)) pss_nil) (pss_cons (ps_expr (pe_dclear (pv 4))) (pss_one (ps_expr (pe_bm PySem.F.plainAttrs_list PySem.F.slot_list_append PySem.F.type_list_append mt_append (pv 5) (pa_cons pe_str pa_nil)))))))))) (pss_cons (ps_if (pt_cmpR (op_neD hr.units) (pe_lc (own := [("_law_name", 6)]) (g := gName 6) rfl sc_law_tells.nd (pi_list (pe_callB (clSrtD rfl) (by rfl) T.b_sorted (by decide +kernel) (pa_cons (pe_ix ix_tup (pv 1) pe_int (fun _ _ => rfl)) pa_nil))) (blkOk_by (own := [("_law_name", 6)]) (N := ["_law_one", "_law_model", "_law_q", "_law_turn", "_law_told", "_law_names", "_law_name", "_law_weight", "_law_odd", "_law_value_here"]) (sc := defScope s_law_tells) (by decide +kernel)) (fun _ _ _ _ _ => (pg_name (i := 6) sc_law_tells.nd rfl (by first | exact Or.inl rfl | exact Or.inr rfl))) (fun _ _ _ _ _ => pts_nil) (fun _ _ _ _ _ => (C8.pe_mt MX hr (by decide) (pv 0) (pa_cons (pv 6) pa_nil)))) (pe_lc (own := [("_law_name", 6), ("_law_weight", 7)]) (g := gTup K 2 (gCons (gName 6) (gCons (gName 7) gNil))) rfl sc_law_tells.nd (pi_list (pe_callB (cr_srtI rfl) (by rfl) T.b_sorted (by decide +kernel) (pa_cons (pe_itemsV (pe_ix ix_tup (pv 1) pe_int (fun _ _ => rfl))) pa_nil))) (blkOk_by (own := [("_law_name", 6), ("_law_weight", 7)]) (N := ["_law_one", "_law_model", "_law_q", "_law_turn", "_law_told", "_law_names", "_law_name", "_law_weight", "_law_odd", "_law_value_here"]) (sc := defScope s_law_tells) (by decide +kernel)) (fun _ _ _ _ _ => (pg_tup rfl (pgs_cons (pg_name (i := 6) sc_law_tells.nd rfl (by first | exact Or.inl rfl | exact Or.inr rfl)) (pgs_cons (pg_name (i := 7) sc_law_tells.nd rfl (by first | exact Or.inl rfl | exact Or.inr rfl)) pgs_nil)))) (fun _ _ _ _ _ => pts_nil) (fun _ _ _ _ _ => (pv 7))) (nomark _)) (pss_one (ps_ret pe_bl)) pss_nil) (pss_cons (ps_set (i := 8) sc_law_tells.nd rfl (by first | exact Or.inl rfl | exact Or.inr rfl) (pe_lst (pa_cons pe_str (pa_cons pe_str (pa_cons pe_str (pa_cons pe_non (pa_cons pe_int (pa_cons pe_bl (pa_cons (pe_lst (pa_cons pe_str pa_nil)) (pa_cons (pe_tup (pa_cons pe_str pa_nil)) (pa_cons (pe_disp (pps_cons pe_str pe_int pps_nil) (by rfl) (by rfl) (fun z => by cases z) (by decide)) pa_nil))))))))))) (pss_one (ps_ret (pe_and (pe_cmpR (op_eqD hr.units) (pe_lc (own := [("_law_value_here", 9)]) (g := gName 9) rfl sc_law_tells.nd (pi_list (pv 8)) (blkOk_by (own := [("_law_value_here", 9)]) (N := ["_law_one", "_law_model", "_law_q", "_law_turn", "_law_told", "_law_names", "_law_name", "_law_weight", "_law_odd", "_law_value_here"]) (sc := defScope s_law_tells) (by decide +kernel)) (fun _ _ _ _ _ => (pg_name (i := 9) sc_law_tells.nd rfl (by first | exact Or.inl rfl | exact Or.inr rfl))) (fun _ _ _ _ _ => pts_nil) (fun _ _ _ _ _ => (C8.pe_mt MX hr (by decide) (pv 0) (pa_cons (pv 9) pa_nil)))) (pe_op op_rep (pe_lst (pa_cons pe_int pa_nil)) (pe_callB clLen (by rfl) T.b_len (by decide +kernel) (pa_cons (pv 8) pa_nil))) (nomark _)) (pe_one (pe_cmpR op_eq (C8.pe_mt MX hr (by decide) (pv 0) (pa_cons pe_str pa_nil)) (pe_dget2 (hu_of hr) (pe_ix ix_tup (pv 1) pe_int (fun _ _ => rfl)) pe_str pe_int (m2_of rfl)) (nomark _)))))))))), ?_⟩
  refine body_of 3 h (fun L P ⟨x, m, q, e, _⟩ => by rw [e]; rfl) (by decide) fun L P ⟨x, m, q, eL, sm, eP⟩ F D hR => ?_
  subst eL
  subst eP
  show At F [.va (RSum C) x, .va (RMod K) m, .va RI q, .no, .no, .no, .no, .no, .no, .no] _
  have gx := sm.good
  have hl := sm.len
  have sgk : ∀ k ∈ keys x.ws, ∀ c ∈ tl k, isSg c = true := fun k mk => by
    obtain ⟨y, my, rfl⟩ := List.mem_map.mp mk
    exact (gx.nd.2.2 y my).1.all
  have sg : ∀ y ∈ x.ws, ∀ c ∈ tl y.1, isSg c = true := fun y my => (gx.nd.2.2 y my).1.all
  have l64 := gx.nd.1
  have hz : decide ((x.ws.length : Int) = 0) = decide (m.1.length = 0) := by rw [hl]; simp
  refine sq_guard (et_testD (ev_neP (d := .list ([PyData.int q, .int m.2, .bool (decide (m.1.length = 0))].map id)) (n := 1) ?_ (evp_list dp_fl (ev_lstD (eas_consD (ev_flI (ev_var rfl)) (eas_consD (ev_flI (ev_sndD (ev_var rfl))) (eas_consD (ev_flB (ev_eqD0 (ed_knownD (ev_fstD (ev_var rfl))) (ed_knownD (ev_dnew (R := RI))))) eas_nilD))) (by simp))) ?_ (by decide))) (fun hc => by cases hc) fun _ => ?_
  · rw [← sm.hq, ← sm.hc, ← hz]
    exact evp_list dp_fl (ev_lstD (eas_consD (ev_flI (ev_pm (ev_var rfl))) (eas_consD (ev_flI (ev_pc (ev_var rfl))) (eas_consD (ev_flB (ev_pi (ev_var rfl))) eas_nilD))) (by simp))
  · refine cd_list fun d md => ?_
    simp at md
    rcases md with rfl | rfl | rfl
    · exact cd_int _
    · exact cd_int _
    · exact cd_bl _
  refine at_seq (at_for (js := [3]) (R := RI) Unit (fun _ => [.va (RSum C) x, .va (RMod K) m, .va RI q, .no, .no, .no, .no, .no, .no, .no]) (fun _ _ => True) () (ei_range1 (n := 2) ev_int rfl (by decide)) trivial (Le.refl _) (fun _ => eg_name) (fun _ _ _ => feet_va) (fun F' le i j s N ex _ hN => ?_) fun _ _ => ?_)
  · refine sq_setO (i := 4) (W := fun p d => VD p RI d) one_VD (eo_weights (ev_var rfl)) fun p d ed np => ?_
    subst ed
    show At F' [.va (RSum C) x, .va (RMod K) m, .va RI q, .va RI j, .vo (VD p RI x.ws), .no, .no, .no, .no, .no] _
    refine sq_guard (et_orD (et_notD (et_valD (DS.isi (R := RI) (.inr ⟨p, rfl⟩) (i := 4) rfl))) fun _ => et_testD (ev_neP (d := .list (x.ws.map fun p => PyData.tuple [.str p.1, .int p.2])) (evp_list (dp_t2 dp_str dp_int) (ev_listItemsOwn rfl)) ?_ (cd_items sg) (by decide))) (fun hc => by simp at hc) fun _ => ?_
    · rw [← sm.sIt]
      exact evp_list (dp_t2 dp_str dp_int) (ev_sortItems (ed_knownD (ev_fstD (ev_var rfl))) sm.mdl.nd (by omega))
    refine sq_setO (i := 5) (W := fun p d => VL p RS d) one_VL (eo_names (ev_var rfl)) fun p2 d2 ed2 np2 => ?_
    subst ed2
    show At F' [.va (RSum C) x, .va (RMod K) m, .va RI q, .va RI j, .vo (VD p RI x.ws), .vo (VL p2 RS (keys x.ws)), .no, .no, .no, .no] _
    refine sq_guard (et_orD (et_notD (et_valD (ev_isiOwnL (i := 5) rfl))) fun _ => et_testD (ev_neP (d := .list ((keys x.ws).map PyData.str)) (evp_own dp_str rfl) ?_ (cd_keys sgk) (by decide))) (fun hc => by simp at hc) fun _ => ?_
    · rw [← sm.srt]
      exact evp_list dp_str (ev_sortD (ed_knownD (ev_fstD (ev_var rfl))) (by omega))
    refine at_seq (at_dclear (i := 4) rfl ?_)
    show At F' [.va (RSum C) x, .va (RMod K) m, .va RI q, .va RI j, .vo (VD p RI []), .vo (VL p2 RS (keys x.ws)), .no, .no, .no, .no] _
    refine at_append (i := 5) rfl ev_str (by rw [keys_len]; omega) fun a _ => ?_
    exact (hN () trivial).le (by walk_at "le")
  · have ev2 : x.ws.map (·.2) = (keys x.ws).map (val x.ws) := by
      unfold keys
      rw [List.map_map]
      exact List.map_congr_left fun y my => (val_mem gx.nd.2.1 my).symm
    refine sq_guard (et_testD (ev_neP (d := .list (((keys x.ws).map (val x.ws)).map PyData.int)) (evp_list dp_int (Ev.imp (ev_lc (RX := RS) (RY := RI) (js := [6]) (xs := keys x.ws) (PT := fun _ b => b = true) (PY := fun s v => v = val x.ws s) (ei_list (Ev.imp (ev_sortD (ed_knownD (ev_fstD (ev_var rfl))) (by omega)) fun _ e => by rw [e, sm.srt])) (eg_name (by exact (by decide : 6 < 10))) (fun j h => h) (fun a b => feet_va) (fun a => le_set rfl) (nv_no rfl nv_nil) (by rw [keys_len]; omega) (fun _ _ => et_yes)
      fun s _ _ => ev_wt (ev_var rfl) (ev_var rfl)) fun l pl => pl.map (f := val x.ws) (fun _ _ h => by cases h) fun _ _ _ h => h))
      (evp_list dp_int (Ev.imp (ev_lc (RX := RT2 K RS RI) (RY := RI) (js := [6, 7]) (xs := x.ws) (PT := fun _ b => b = true) (PY := fun s v => v = s.2) (ei_list (Ev.imp (ev_sortItems (ed_knownD (ev_fstD (ev_var rfl))) sm.mdl.nd (by omega)) fun _ e => by rw [e, sm.sIt])) (eg_2 (eg_name (by exact (by decide : 6 < 10))) fun a => eg_name (by exact (by decide : 7 < 10))) (fun j h => h) (fun a b z => feet_va (feet_va z)) (fun a => le_set2 rfl rfl) (nv_no rfl (nv_no rfl nv_nil)) (by omega) (fun _ _ => et_yes)
      fun s _ _ => ev_var rfl) fun l pl => by rw [← ev2]; exact pl.map (f := fun y : Str × Int => y.2) (fun _ _ h => by cases h) fun _ _ _ h => h)) cd_ints (by decide))) (fun hc => by cases hc) fun _ => ?_
    refine sq_setD (i := 8) (ev_lstD (R := ROd K) (l := [some "A", some "", some "a-", none, none, none, none, none, none]) (eas_consD (od_s ev_str) (eas_consD (od_s ev_str) (eas_consD (od_s ev_str) (eas_consD (od_of ns_non ev_non) (eas_consD (od_of ns_int ev_int) (eas_consD (od_of ns_bl ev_bl) (eas_consD (od_of (R := RL RS) ns_l (ev_lstD (eas_consD ev_str eas_nilD) (by simp))) (eas_consD (od_of (R := RTs K RS) (a := ["a"]) ns_t (ev_tups (eas_consD ev_str eas_nilD) fun l e => by rw [e]; simp)) (eas_consD (od_of (R := RD RI) ns_d (ev_disp1 ev_str ev_int)) eas_nilD))))))))) (by simp)) ?_
    show At F [.va (RSum C) x, .va (RMod K) m, .va RI q, .no, .no, .no, .no, .no, .va (RL (ROd K)) [some "A", some "", some "a-", none, none, none, none, none, none], .no] _
    have odd0 : ∀ s : Str, some s ∈ ([some "A", some "", some "a-", none, none, none, none, none, none] : List (Option Str)) → val x.ws s = 0 := fun s ms => val_not fun mk => by
      obtain ⟨y, my, rfl⟩ := List.mem_map.mp mk
      have nm := (gx.nd.2.2 y my).1
      simp at ms
      rcases ms with e | e | e
      · obtain ⟨c, hc, lo⟩ := nm.first
        rw [e] at hc
        have hc : some 65 = some c := hc
        cases hc
        revert lo
        decide
      · have := nm.lo
        rw [e] at this
        exact absurd this (by decide)
      · have := nm.all 45 (by rw [e]; decide)
        revert this
        decide
    refine at_retD hR (ev_andVD (ev_eqP (d := .list ((List.replicate 9 (0 : Int)).map PyData.int)) (evp_list dp_int (Ev.imp (ev_lc (RX := ROd K) (RY := RI) (js := [9]) (PT := fun _ b => b = true) (PY := fun _ v => v = 0) (ei_list (ev_var rfl)) (eg_name (by exact (by decide : 9 < 10))) (fun j h => h) (fun a b => feet_va) (fun a => le_set rfl) (nv_no rfl nv_nil) (by simp) (fun _ _ => et_yes)
      fun o mo _ => ?_) fun l pl => (pl.map (f := fun _ => (0 : Int)) (fun _ _ h => by cases h) fun _ _ _ h => h).trans rfl)) (evp_list dp_int (ev_rep0 (ev_lstD (eas_consD ev_int eas_nilD) (by simp)) (ev_lenLD (ev_var rfl)) rfl (by decide))) cd_ints (by decide)) fun _ => ev_eqID (ev_wt (ev_var rfl) ev_str) (ev_dget2D (ed_knownD (ev_fstD (ev_var rfl))) ev_str ev_int)) (fun W z => by simp at z) ?_
    · cases o with
      | some s => exact (ev_wt (ev_var rfl) ((ev_var (R := ROd K) (a := some s) rfl).cast fun _ v h e r => ⟨s, rfl, by subst e; exact r⟩)).imp fun v e => by rw [e]; exact odd0 s mo
      | none => exact ev_wt0 (R := RNs K) (x := ()) (ev_var rfl) tyr_ns ((ev_var (R := ROd K) (a := none) rfl).cast fun _ v h e r => ⟨(), rfl, by subst e; exact r⟩)
    · rw [sm.hf]
      show (true && decide (val m.1 _ = val m.1 _)) = true
      simp
end
end K11

set_option Elab.async false
set_option linter.all false
set_option maxRecDepth 100000
namespace K11
open PySem L2 QL
local macro_rules | `(tactic| walk_at "side") => `(tactic| first
  | decide | omega | exact Or.inl ⟨by omega, by omega⟩ | exact Or.inr ⟨by omega, by omega⟩ | exact ⟨by omega, by omega⟩ | exact ⟨by omega, by omega, by omega⟩ | assumption)
local macro_rules | `(tactic| walk_at "ev") => `(tactic| first
  | (((with_reducible refine' ev_var ?k1); (case k1 => exact rfl)))
  | with_reducible exact ev_int
  | with_reducible exact ev_str
  | with_reducible exact ev_bl
  | with_reducible exact ev_non
  | with_reducible exact ev_ty
  | ((with_reducible refine' ev_addD ?k1 ?k2); (case k1 => walk_at "ev"); (case k2 => walk_at "ev"))
  | ((with_reducible refine' ev_subD ?k1 ?k2); (case k1 => walk_at "ev"); (case k2 => walk_at "ev"))
  | ((with_reducible refine' ev_ltD ?k1 ?k2); (case k1 => walk_at "ev"); (case k2 => walk_at "ev"))
  | ((with_reducible refine' ev_leD ?k1 ?k2); (case k1 => walk_at "ev"); (case k2 => walk_at "ev"))
  | ((with_reducible refine' ev_gtD ?k1 ?k2); (case k1 => walk_at "ev"); (case k2 => walk_at "ev"))
  | ((with_reducible refine' ev_geD ?k1 ?k2); (case k1 => walk_at "ev"); (case k2 => walk_at "ev"))
  | ((with_reducible refine' ev_eqID ?k1 ?k2); (case k1 => walk_at "ev"); (case k2 => walk_at "ev"))
  | ((with_reducible refine' ev_neID ?k1 ?k2); (case k1 => walk_at "ev"); (case k2 => walk_at "ev"))
  | ((with_reducible refine' ev_eqSD ?k1 ?k2); (case k1 => walk_at "ev"); (case k2 => walk_at "ev"))
  | ((with_reducible refine' ev_neSD ?k1 ?k2); (case k1 => walk_at "ev"); (case k2 => walk_at "ev"))
  | ((with_reducible refine' ev_maxD ?k1 ?k2); (case k1 => walk_at "ev"); (case k2 => walk_at "ev"))
  | ((with_reducible refine' ev_minD ?k1 ?k2); (case k1 => walk_at "ev"); (case k2 => walk_at "ev"))
  | ((with_reducible refine' ev_t2D ?k1 ?k2); (case k1 => walk_at "ev"); (case k2 => walk_at "ev"))
  | ((with_reducible refine' ev_mulD ?k1 ?k2 ?k3); (case k1 => walk_at "ev"); (case k2 => walk_at "ev"); (case k3 => walk_at "side"))
  | ((with_reducible refine' ev_divD ?k1 ?k2 ?k3); (case k1 => walk_at "ev"); (case k2 => walk_at "ev"); (case k3 => walk_at "side"))
  | ((with_reducible refine' ev_modD ?k1 ?k2 ?k3); (case k1 => walk_at "ev"); (case k2 => walk_at "ev"); (case k3 => walk_at "side"))
  | ((with_reducible refine' ev_powD ?k1 ?k2 ?k3); (case k1 => walk_at "ev"); (case k2 => walk_at "ev"); (case k3 => walk_at "side"))
  | ((with_reducible refine' ev_catSD ?k1 ?k2 ?k3); (case k1 => walk_at "ev"); (case k2 => walk_at "ev"); (case k3 => walk_at "side"))
  | ((with_reducible refine' ev_stripD ?k1 ?k2 ?k3); (case k1 => walk_at "ev"); (case k2 => walk_at "ev"); (case k3 => walk_at "side"))
  | ((with_reducible refine' ev_divmodD ?k1 ?k2 ?k3); (case k1 => walk_at "ev"); (case k2 => walk_at "ev"); (case k3 => walk_at "side"))
  | ((with_reducible refine' ev_intD ?k1); (case k1 => walk_at "ev"))
  | ((with_reducible refine' ev_absD ?k1); (case k1 => walk_at "ev"))
  | ((with_reducible refine' ev_negD ?k1); (case k1 => walk_at "ev"))
  | ((with_reducible refine' ev_lenLD ?k1); (case k1 => walk_at "ev"))
  | ((with_reducible refine' ev_lenScrD ?k1); (case k1 => walk_at "ev"))
  | ((with_reducible refine' ev_lenDD ?k1); (case k1 => walk_at "ev"))
  | ((with_reducible refine' ev_fstD ?k1); (case k1 => walk_at "ev"))
  | ((with_reducible refine' ev_sndD ?k1); (case k1 => walk_at "ev"))
  | ((with_reducible refine' ev_notVD ?k1); (case k1 => walk_at "ev"))
  | ((with_reducible refine' ev_listLD ?k1); (case k1 => walk_at "ev"))
  | ((with_reducible refine' ev_listDD ?k1); (case k1 => walk_at "ev"))
  | ((with_reducible refine' ev_dictDD ?k1); (case k1 => walk_at "ev"))
  | ((with_reducible refine' ev_dictPD ?k1); (case k1 => walk_at "ev"))
  | ((with_reducible refine' ev_allD ?k1); (case k1 => walk_at "ev"))
  | ((with_reducible refine' ev_anyD ?k1); (case k1 => walk_at "ev"))
  | ((with_reducible refine' ev_sumD ?k1); (case k1 => walk_at "ev"))
  | ((with_reducible refine' ev_dinD ?k1 (ed_knownD ?k2)); (case k1 => walk_at "ev"); (case k2 => walk_at "ev"))
  | (refine' ev_dget2D (ed_knownD ?k1) ?k2 ?k3; (case k1 => walk_at "ev"); (case k2 => walk_at "ev"); (case k3 => walk_at "ev")))
local macro_rules | `(tactic| walk_at "et") => `(tactic| first
  | (refine' et_testD ?k1; (case k1 => walk_at "ev")) | (refine' et_valD ?k1; (case k1 => walk_at "ev")) | (refine' et_notD ?k1; (case k1 => walk_at "et")))
local macro_rules | `(tactic| walk_at "ea") => `(tactic| first
  | exact ea_nilD | ((refine' ea_consD ?k1 ?k2); (case k1 => walk_at "ev"); (case k2 => walk_at "ea")) | (refine' ea_voD rfl ?k1; (case k1 => walk_at "ea")))
local macro_rules | `(tactic| walk_at "es") => `(tactic| first
  | exact eas_nilD | ((refine' eas_consD ?k1 ?k2); (case k1 => walk_at "ev"); (case k2 => walk_at "es")))
local macro_rules | `(tactic| walk_at "set") => `(tactic| (first | refine' sq_setD ?k1 ?k2 | refine' at_setD ?k1 ?k2); (case k1 => walk_at "ev"))
local macro_rules | `(tactic| walk_at "le") => `(tactic| first | exact le_nil | (refine le_same ?_; walk_at "le") | (refine le_drop ?_; walk_at "le"))

section
variable {Γ : QL.Ctx} {F : Fr} {D : Ends} {ta tb : TA} {K : PySem.W.Frag} {E : XK}
/-- a drawn model; what was handed is forgotten -/
theorem ev_drawn0 {L : List Slot} {P : Dr → Prop} (ha : EvA Γ ta (fun l => l = L)) (vi : VoIn Γ L []) (pre : preDrawn L P) : Ev Γ (tOp (rIxT K) (tCall (FSpDr K preDrawn) [] E ta) (tC (.int 0))) (RMod K) (fun m => ∃ d, P (m, d)) := fun σ h H S e Q q =>
  ha σ h H S e _ fun vs l h1 H1 pl s1 S1 ok => by
    subst pl
    obtain ⟨Sa, nf⟩ := args_sat S1 ok vi
    rw [List.append_nil]
    refine ⟨l, P, h1, pre, Sa, s1.ex, fun t x p r h' H' pr s2 ws n0 n1 vd ht rm => ?_⟩
    have st := s1.tr (s2.mono nf)
    exact ⟨t, [x, .ref p], 0, x, rfl, rfl, .inl (.inl (s2.ex.tup ht)), rfl, q x r.1 h' H' ⟨r.2, pr⟩ st (sat_after S1 vi s2 ws) rm⟩
/-- (a, b), (c, d) = drawn, drawn -/
theorem at_drawn2 {L1 L2 : List Slot} {P1 P2 : Dr → Prop} {i1 i2 i3 i4 : Nat} (ha : EvA Γ ta (fun l => l = L1)) (vi1 : VoIn Γ L1 []) (pre1 : preDrawn L1 P1) (hb : EvA Γ tb (fun l => l = L2)) (vi2 : VoIn Γ L2 []) (pre2 : preDrawn L2 P2)
    (n : ∀ p p' r r', P1 r → P2 r' → F.H p = none → F.H p' = none → At F ((((Γ.set i1 (.va (RMod K) r.1)).set i2 (.vo (VD p RI r.2))).set i3 (.va (RMod K) r'.1)).set i4 (.vo (VD p' RI r'.2))) D.nx) (l1 : i1 < Γ.length) (l2 : i2 < Γ.length) (l3 : i3 < Γ.length) (l4 : i4 < Γ.length) :
    At F Γ (tAsg (tTup (tCons (tCall (FSpDr K preDrawn) [] E ta) (tCons (tCall (FSpDr K preDrawn) [] E tb) tNil))) (gTup K 2 (gCons (gTup K 2 (gCons (gName i1) (gCons (gName i2) gNil))) (gCons (gTup K 2 (gCons (gName i3) (gCons (gName i4) gNil))) gNil))) D) := fun σ h H S s f =>
  ha σ h H S s.ex _ fun vs l h1 H1 pl s1 S1 ok => by
    subst pl
    obtain ⟨Sa, nf⟩ := args_sat S1 ok vi1
    rw [List.append_nil]
    refine ⟨l, P1, h1, pre1, Sa, s1.ex, fun t x p r h2 H2 pr s2 ws n0 n1 vd ht rm => ?_⟩
    have S2 := sat_after S1 vi1 s2 ws
    have st2 : Stp (feet Γ) h H h2 H2 := s1.tr (s2.mono nf)
    refine hb σ h2 H2 S2 st2.ex _ fun vs' l' h3 H3 pl' s3 S3 ok' => ?_
    subst pl'
    obtain ⟨Sb, nf'⟩ := args_sat S3 ok' vi2
    rw [List.append_nil]
    refine ⟨l', P2, h3, pre2, Sb, s3.ex, fun t' x' p' r' h4 H4 pr' s4 ws' n0' n1' vd' ht' rm' => ?_⟩
    have S4 := sat_after S3 vi2 s4 ws'
    have s24 : Stp (feet Γ) h2 H2 h4 H4 := s3.tr (s4.mono nf')
    have st4 : Stp (feet Γ) h H h4 H4 := st2.tr s24
    -- the first one's dict is as it was
    have np : H p = none := back_none s1 n0
    have nfp : ¬ feet Γ p := fun z => S.live z np
    have lp : H2 p ≠ none := (VD p RI r.2).live vd rfl
    have vd4 : (VD p RI r.2).r h4 H4 := (VD p RI r.2).frame vd s24.kn fun b e => by
      obtain rfl : b = p := e
      exact s24.at nfp lp
    have hp4 : h4 p = none := s24.outF n1 lp
    have np' : H p' = none := back_none (st2.tr s3) n0'
    have nfp' : ¬ feet Γ p' := fun z => S.live z np'
    have pp : p ≠ p' := fun z => by
      subst z
      exact s3.live p lp n0'
    refine ⟨by show 2 ≤ sizeLine; decide, fun tt ntt => ?_⟩
    have st5 : Stp MNo h4 H4 (upd h4 tt (.tup [.ref t, .ref t'])) (upd H4 tt (.tup [.ref t, .ref t'])) := .new st4.ex ntt
    have S5 := S4.stepNo st5
    have ex5 := st5.ex
    have tot : Stp (feet Γ) h H (upd h4 tt (.tup [.ref t, .ref t'])) (upd H4 tt (.tup [.ref t, .ref t'])) := st4.tr st5.no
    have hp5 : (upd h4 tt (.tup [.ref t, .ref t'])) p = none := by
      rw [upd_ne (fun z => by subst z; exact s24.live p lp ntt)]; exact hp4
    have hp5' : (upd h4 tt (.tup [.ref t, .ref t'])) p' = none := by
      rw [upd_ne (fun z => by subst z; exact (VD p' RI r'.2).live vd' rfl ntt)]; exact n1'
    have q1 : (upd h4 tt (.tup [.ref t, .ref t'])) t = some (.tup [x, .ref p]) := st5.kn _ _ (s24.kn _ _ ht)
    have q2 : (upd h4 tt (.tup [.ref t, .ref t'])) t' = some (.tup [x', .ref p']) := st5.kn _ _ ht'
    have vd5 : (VD p RI r.2).r (upd h4 tt (.tup [.ref t, .ref t'])) (upd H4 tt (.tup [.ref t, .ref t'])) := (VD p RI r.2).frame vd4 st5.kn fun b e => by
      obtain rfl : b = p := e
      exact upd_ne fun z => by subst z; exact s24.live b lp ntt
    have vd5' : (VD p' RI r'.2).r (upd h4 tt (.tup [.ref t, .ref t'])) (upd H4 tt (.tup [.ref t, .ref t'])) := (VD p' RI r'.2).frame vd' st5.kn fun b e => by
      obtain rfl : b = p' := e
      exact upd_ne fun z => by subst z; exact (VD b RI r'.2).live vd' rfl ntt
    have A1 := S5.putV (i := i1) (R := RMod K) (a := r.1) (v := x) ((RMod K).mono (s24.kn.trans st5.kn) rm) l1
    have fa : ∀ b, feet (Γ.set i1 (.va (RMod K) r.1)) b → feet Γ b := fun b z => feet_va z
    have A2 := A1.put (i := i2) (x := some (V.ref p)) (s := .vo (VD p RI r.2)) ⟨rfl, vd5⟩ (fun b e => by
      obtain rfl : b = p := e
      exact ⟨fun z => nfp (fa _ z), hp5⟩) (by rw [List.length_set]; exact l2)
    have A3 := A2.putV (i := i3) (R := RMod K) (a := r'.1) (v := x') ((RMod K).mono st5.kn rm') (by rw [List.length_set, List.length_set]; exact l3)
    have fb : ∀ b, feet (((Γ.set i1 (.va (RMod K) r.1)).set i2 (.vo (VD p RI r.2))).set i3 (.va (RMod K) r'.1)) b → b = p ∨ feet Γ b := fun b z => (feet_set (feet_va z)).elim (fun e => .inl e) fun z => .inr (fa b z)
    have A4 := A3.put (i := i4) (x := some (V.ref p')) (s := .vo (VD p' RI r'.2)) ⟨rfl, vd5'⟩ (fun b e => by
      obtain rfl : b = p' := e
      exact ⟨fun z => (fb _ z).elim (fun e => pp e.symm) nfp', hp5'⟩) (by rw [List.length_set, List.length_set, List.length_set]; exact l4)
    have z0 := back_none s np
    have z0' := back_none s np'
    refine ⟨tt, [.ref t, .ref t'], rfl, .inl (.inl upd_same), rfl, _, _, rfl, ?_⟩
    refine ⟨t, [x, .ref p], rfl, .inl (.inl (ex5.tup q1)), rfl, x, [.ref p], rfl, .ref p, [], rfl, rfl, ?_⟩
    refine ⟨_, [], rfl, t', [x', .ref p'], rfl, .inl (.inl (ex5.tup q2)), rfl, x', [.ref p'], rfl, .ref p', [], rfl, rfl, rfl, ?_⟩
    refine n p p' r r' pr pr' z0 z0' _ _ _ A4 (feet_stp (Γ := Γ) (σ := σ) s tot f) fun b z => ?_
    rcases feet_set z with e | z
    · obtain rfl : b = p' := e
      exact .inr z0'
    · rcases fb b z with rfl | z
      · exact .inr z0
      · exact f b z
end
end K11

set_option Elab.async false
set_option linter.all false
set_option maxRecDepth 100000
namespace K11
open PySem L2 QL
local macro_rules | `(tactic| walk_at "side") => `(tactic| first
  | decide | omega | exact Or.inl ⟨by omega, by omega⟩ | exact Or.inr ⟨by omega, by omega⟩ | exact ⟨by omega, by omega⟩ | exact ⟨by omega, by omega, by omega⟩ | assumption)
local macro_rules | `(tactic| walk_at "ev") => `(tactic| first
  | (((with_reducible refine' ev_var ?k1); (case k1 => exact rfl)))
  | with_reducible exact ev_int
  | with_reducible exact ev_str
  | with_reducible exact ev_bl
  | with_reducible exact ev_non
  | with_reducible exact ev_ty
  | ((with_reducible refine' ev_addD ?k1 ?k2); (case k1 => walk_at "ev"); (case k2 => walk_at "ev"))
  | ((with_reducible refine' ev_subD ?k1 ?k2); (case k1 => walk_at "ev"); (case k2 => walk_at "ev"))
  | ((with_reducible refine' ev_ltD ?k1 ?k2); (case k1 => walk_at "ev"); (case k2 => walk_at "ev"))
  | ((with_reducible refine' ev_leD ?k1 ?k2); (case k1 => walk_at "ev"); (case k2 => walk_at "ev"))
  | ((with_reducible refine' ev_gtD ?k1 ?k2); (case k1 => walk_at "ev"); (case k2 => walk_at "ev"))
  | ((with_reducible refine' ev_geD ?k1 ?k2); (case k1 => walk_at "ev"); (case k2 => walk_at "ev"))
  | ((with_reducible refine' ev_eqID ?k1 ?k2); (case k1 => walk_at "ev"); (case k2 => walk_at "ev"))
  | ((with_reducible refine' ev_neID ?k1 ?k2); (case k1 => walk_at "ev"); (case k2 => walk_at "ev"))
  | ((with_reducible refine' ev_eqSD ?k1 ?k2); (case k1 => walk_at "ev"); (case k2 => walk_at "ev"))
  | ((with_reducible refine' ev_neSD ?k1 ?k2); (case k1 => walk_at "ev"); (case k2 => walk_at "ev"))
  | ((with_reducible refine' ev_maxD ?k1 ?k2); (case k1 => walk_at "ev"); (case k2 => walk_at "ev"))
  | ((with_reducible refine' ev_minD ?k1 ?k2); (case k1 => walk_at "ev"); (case k2 => walk_at "ev"))
  | ((with_reducible refine' ev_t2D ?k1 ?k2); (case k1 => walk_at "ev"); (case k2 => walk_at "ev"))
  | ((with_reducible refine' ev_mulD ?k1 ?k2 ?k3); (case k1 => walk_at "ev"); (case k2 => walk_at "ev"); (case k3 => walk_at "side"))
  | ((with_reducible refine' ev_divD ?k1 ?k2 ?k3); (case k1 => walk_at "ev"); (case k2 => walk_at "ev"); (case k3 => walk_at "side"))
  | ((with_reducible refine' ev_modD ?k1 ?k2 ?k3); (case k1 => walk_at "ev"); (case k2 => walk_at "ev"); (case k3 => walk_at "side"))
  | ((with_reducible refine' ev_powD ?k1 ?k2 ?k3); (case k1 => walk_at "ev"); (case k2 => walk_at "ev"); (case k3 => walk_at "side"))
  | ((with_reducible refine' ev_catSD ?k1 ?k2 ?k3); (case k1 => walk_at "ev"); (case k2 => walk_at "ev"); (case k3 => walk_at "side"))
  | ((with_reducible refine' ev_stripD ?k1 ?k2 ?k3); (case k1 => walk_at "ev"); (case k2 => walk_at "ev"); (case k3 => walk_at "side"))
  | ((with_reducible refine' ev_divmodD ?k1 ?k2 ?k3); (case k1 => walk_at "ev"); (case k2 => walk_at "ev"); (case k3 => walk_at "side"))
  | ((with_reducible refine' ev_intD ?k1); (case k1 => walk_at "ev"))
  | ((with_reducible refine' ev_absD ?k1); (case k1 => walk_at "ev"))
  | ((with_reducible refine' ev_negD ?k1); (case k1 => walk_at "ev"))
  | ((with_reducible refine' ev_lenLD ?k1); (case k1 => walk_at "ev"))
  | ((with_reducible refine' ev_lenScrD ?k1); (case k1 => walk_at "ev"))
  | ((with_reducible refine' ev_lenDD ?k1); (case k1 => walk_at "ev"))
  | ((with_reducible refine' ev_fstD ?k1); (case k1 => walk_at "ev"))
  | ((with_reducible refine' ev_sndD ?k1); (case k1 => walk_at "ev"))
  | ((with_reducible refine' ev_notVD ?k1); (case k1 => walk_at "ev"))
  | ((with_reducible refine' ev_listLD ?k1); (case k1 => walk_at "ev"))
  | ((with_reducible refine' ev_listDD ?k1); (case k1 => walk_at "ev"))
  | ((with_reducible refine' ev_dictDD ?k1); (case k1 => walk_at "ev"))
  | ((with_reducible refine' ev_dictPD ?k1); (case k1 => walk_at "ev"))
  | ((with_reducible refine' ev_allD ?k1); (case k1 => walk_at "ev"))
  | ((with_reducible refine' ev_anyD ?k1); (case k1 => walk_at "ev"))
  | ((with_reducible refine' ev_sumD ?k1); (case k1 => walk_at "ev"))
  | ((with_reducible refine' ev_dinD ?k1 (ed_knownD ?k2)); (case k1 => walk_at "ev"); (case k2 => walk_at "ev"))
  | (refine' ev_dget2D (ed_knownD ?k1) ?k2 ?k3; (case k1 => walk_at "ev"); (case k2 => walk_at "ev"); (case k3 => walk_at "ev")))
local macro_rules | `(tactic| walk_at "et") => `(tactic| first
  | (refine' et_testD ?k1; (case k1 => walk_at "ev")) | (refine' et_valD ?k1; (case k1 => walk_at "ev")) | (refine' et_notD ?k1; (case k1 => walk_at "et")))
local macro_rules | `(tactic| walk_at "ea") => `(tactic| first
  | exact ea_nilD | ((refine' ea_consD ?k1 ?k2); (case k1 => walk_at "ev"); (case k2 => walk_at "ea")) | (refine' ea_voD rfl ?k1; (case k1 => walk_at "ea")))
local macro_rules | `(tactic| walk_at "es") => `(tactic| first
  | exact eas_nilD | ((refine' eas_consD ?k1 ?k2); (case k1 => walk_at "ev"); (case k2 => walk_at "es")))
local macro_rules | `(tactic| walk_at "set") => `(tactic| (first | refine' sq_setD ?k1 ?k2 | refine' at_setD ?k1 ?k2); (case k1 => walk_at "ev"))
local macro_rules | `(tactic| walk_at "le") => `(tactic| first | exact le_nil | (refine le_same ?_; walk_at "le") | (refine le_drop ?_; walk_at "le"))

theorem perm_sum {α : Type} {f : α → Int} {l m : List α} (p : l.Perm m) : (l.map f).sum = (m.map f).sum := by
  induction p with
  | nil => rfl
  | cons x _ ih => rw [List.map_cons, List.map_cons, List.sum_cons, List.sum_cons, ih]
  | swap x y l => rw [List.map_cons, List.map_cons, List.map_cons, List.map_cons, List.sum_cons, List.sum_cons, List.sum_cons, List.sum_cons]; omega
  | trans _ _ ih1 ih2 => rw [ih1, ih2]
theorem perm_sumN {α : Type} {f : α → Nat} {l m : List α} (p : l.Perm m) : (l.map f).sum = (m.map f).sum := by
  induction p with
  | nil => rfl
  | cons x _ ih => rw [List.map_cons, List.map_cons, List.sum_cons, List.sum_cons, ih]
  | swap x y l => rw [List.map_cons, List.map_cons, List.map_cons, List.map_cons, List.sum_cons, List.sum_cons, List.sum_cons, List.sum_cons]; omega
  | trans _ _ ih1 ih2 => rw [ih1, ih2]
theorem Same.perm {x : SumD} {m : Mo} {q : Int} (s : Same x m q) : x.ws.Perm m.1 := by rw [← s.sIt]; exact sIt_perm s.mdl.nd
theorem Same.at_ {x : SumD} {m : Mo} {q : Int} (s : Same x m q) (kvs : List (Str × Int)) : sumAt x.ws kvs = sumAt m.1 kvs := perm_sum s.perm
theorem sumAt_val {l a b : List (Str × Int)} (h : ∀ k, val a k = val b k) : sumAt l a = sumAt l b := by
  unfold sumAt
  exact congrArg List.sum (List.map_congr_left fun x _ => by rw [h])
theorem getS_mapv {α β : Type} {f : α → β} {n : Str} : ∀ {l : List (Str × α)}, getS (l.map fun z => (z.1, f z.2)) n = (getS l n).map f
  | [] => rfl
  | z :: l => by
    rw [List.map_cons, getS_cons, getS_cons, getS_mapv]
    by_cases y : z.1 = n
    · rw [if_pos y, if_pos y]; rfl
    · rw [if_neg y, if_neg y]
theorem keys_mapv {α β : Type} {f : α → β} (l : List (Str × α)) : keys (l.map fun z => (z.1, f z.2)) = keys l := by unfold keys; rw [List.map_map]; rfl
theorem putS_mapv {α β : Type} {f : α → β} {l : List (Str × α)} {k : Str} {a : α} : putS (l.map fun z => (z.1, f z.2)) k (f a) = (putS l k a).map fun z => (z.1, f z.2) := by
  unfold putS
  have e : hasS (l.map fun z => (z.1, f z.2)) k = hasS l k := by
    rw [Bool.eq_iff_iff, hasS_iff, hasS_iff, keys_mapv]
  rw [e]
  split
  · rw [List.map_map, List.map_map]
    refine List.map_congr_left fun z _ => ?_
    show (if z.1 = k then _ else _) = _
    by_cases y : z.1 = k
    · simp [y]
    · simp [y]
  · rw [List.map_append]; rfl
abbrev Zs := List (Str × (SumD × Mo))
def zS (zs : Zs) : List (Str × SumD) := zs.map fun z => (z.1, z.2.1)
def zM (zs : Zs) : List (Str × Mo) := zs.map fun z => (z.1, z.2.2)
structure ZOk (zs : Zs) (q : Int) : Prop where
  nd : (keys zs).Nodup
  ok : ∀ z ∈ zs, IsName z.1 ∧ Same z.2.1 z.2.2 q ∧ z.2.1.ws.length ≤ 6
theorem ZOk.same {zs : Zs} {q : Int} (h : ZOk zs q) (n : Str) : (∀ k, val (inn (zS zs) n) k = val (minn (zM zs) n).1 k) ∧ inc (zS zs) n = (minn (zM zs) n).2 ∧ (inn (zS zs) n).length = (minn (zM zs) n).1.length ∧ (inn (zS zs) n).length ≤ 6 := by
  unfold inn inc minn zS zM
  rw [getS_mapv, getS_mapv]
  cases e : getS zs n with
  | none => exact ⟨fun k => rfl, rfl, rfl, by show 1 ≤ 6; omega⟩
  | some z =>
    obtain ⟨h1, h2, h3⟩ := h.ok _ (mem_of_getS e)
    exact ⟨h2.hf, h2.hc, h2.len.symm, h3⟩
theorem ZOk.put {zs : Zs} {q : Int} (h : ZOk zs q) {x : SumD} {m : Mo} (s : Same x m q) : (∀ k, putV (zS zs) x.ws k = mputV (zM zs) m.1 k) ∧ putC (zS zs) x.ws = mputC (zM zs) m.1 ∧ putN (zS zs) x.ws = mputN (zM zs) m.1 ∧ putN (zS zs) x.ws ≤ 6 * x.ws.length := by
  refine ⟨fun k => ?_, ?_, ?_, ?_⟩
  · unfold putV mputV
    rw [← perm_sum s.perm]
    exact congrArg List.sum (List.map_congr_left fun y _ => by rw [(h.same y.1).1])
  · unfold putC mputC
    rw [← perm_sum s.perm]
    exact congrArg List.sum (List.map_congr_left fun y _ => by rw [(h.same y.1).2.1])
  · unfold putN mputN
    rw [← perm_sumN s.perm]
    exact congrArg List.sum (List.map_congr_left fun y _ => by rw [(h.same y.1).2.2.1])
  · unfold putN
    have : ∀ l : List (Str × Int), (l.map fun y => (inn (zS zs) y.1).length).sum ≤ 6 * l.length := by
      intro l
      induction l with
      | nil => exact Nat.le_refl _
      | cons y l ih =>
        rw [List.map_cons, List.sum_cons, List.length_cons]
        have := (h.same y.1).2.2.2
        omega
    exact this x.ws
theorem pick_fst {α β : Type} {PT : α → Bool → Prop} {PY : α → β → Prop} {g : β → α} {xs : List α} {ys : List β} (p : Pick PT PY xs ys) (ht : ∀ x ∈ xs, ¬ PT x false) (hg : ∀ x y, PY x y → g y = x) : ys.map g = xs := by
  induction p with
  | nil => rfl
  | skip _ t _ => exact absurd t (ht _ (by simp))
  | take _ _ y ih => rw [List.map_append, ih fun x m => ht x (by simp [m]), List.map_cons, List.map_nil, hg _ _ y]
theorem mem_putS {α : Type} {l : List (Str × α)} {k : Str} {v : α} {x : Str × α} (m : x ∈ putS l k v) : x = (k, v) ∨ x ∈ l := by
  unfold putS at m
  split at m
  · obtain ⟨y, my, e⟩ := List.mem_map.mp m
    by_cases z : y.1 = k
    · rw [if_pos z] at e; left; rw [← e, z]
    · rw [if_neg z] at e; right; rw [← e]; exact my
  · rcases List.mem_append.mp m with m | m
    · exact .inr m
    · simp at m; exact .inl m
theorem puts_mem {α : Type} (l : List (Str × α)) : (∀ x ∈ puts l, x ∈ l) ∧ ∀ k ∈ keys l, k ∈ keys (puts l) := by
  have : ∀ (l acc : List (Str × α)), (∀ x ∈ l.foldl (fun acc p => putS acc p.1 p.2) acc, x ∈ acc ∨ x ∈ l) ∧ ∀ k, k ∈ keys acc ∨ k ∈ keys l → k ∈ keys (l.foldl (fun acc p => putS acc p.1 p.2) acc) := by
    intro l
    induction l with
    | nil => intro acc; exact ⟨fun x m => .inl m, fun k m => m.elim id fun m => by simp [keys] at m⟩
    | cons p l ih =>
      intro acc
      obtain ⟨h1, h2⟩ := ih (putS acc p.1 p.2)
      refine ⟨fun x m => ?_, fun k m => h2 k ?_⟩
      · rcases h1 x m with m | m
        · rcases mem_putS m with e | m
          · exact .inr (by rw [e]; exact List.mem_cons_self)
          · exact .inl m
        · exact .inr (List.mem_cons_of_mem _ m)
      · have hp : k ∈ keys acc ∨ k = p.1 → k ∈ keys (putS acc p.1 p.2) := fun z => by
          rw [keys_put]
          split
          · rename_i hin
            exact z.elim id fun e => by rw [e]; exact hin
          · exact z.elim (fun z => List.mem_append_left _ z) fun e => List.mem_append_right _ (by simp [e])
        rcases m with m | m
        · exact .inl (hp (.inl m))
        · rcases List.mem_cons.mp (show k ∈ p.1 :: keys l from m) with e | m
          · exact .inl (hp (.inr e))
          · exact .inr m
  exact ⟨fun x m => ((this l []).1 x m).elim (fun m => by simp at m) id, fun k m => (this l []).2 k (.inr m)⟩
/-- what is drawn is a model, and the sum made of it is as it -/
theorem drawn_same {q : Int} {d : List (Str × Int)} {c : Int} (hm : IsMod q) (h : NumD q d) (c0 : 0 ≤ c) (c1 : c < q) : Same ⟨q, nrm d, c⟩ (nzs d, c) q := by
  have b := hm.b
  have nk : (keys (nzs d)).Nodup := h.2.1.sublist (List.Sublist.map _ List.filter_sublist)
  refine ⟨good_mk hm c0 c1 h, ⟨nk, fun x mx => ?_, c0, by show c < 14; omega⟩, rfl, rfl, fun k => ?_⟩
  · obtain ⟨m1, m2⟩ := List.mem_filter.mp mx
    have := h.2.2 x m1
    have := of_decide_eq_true m2
    omega
  · show val (nrm d) k = val (nzs d) k
    rw [nrm_val h.2.1]
    by_cases z : k ∈ keys d
    · obtain ⟨x, mx, rfl⟩ := List.mem_map.mp z
      rw [val_mem h.2.1 mx]
      by_cases y : x.2 = 0
      · rw [y]
        refine (val_not fun w => ?_).symm
        obtain ⟨x2, m2, e2⟩ := List.mem_map.mp w
        obtain ⟨m3, m4⟩ := List.mem_filter.mp m2
        have v2 := val_mem h.2.1 m3
        rw [e2, val_mem h.2.1 mx, y] at v2
        exact of_decide_eq_true m4 v2.symm
      · exact (val_mem nk (List.mem_filter.mpr ⟨mx, decide_eq_true y⟩)).symm
    · rw [val_not z]
      refine (val_not fun w => z ?_).symm
      obtain ⟨x2, m2, e2⟩ := List.mem_map.mp w
      rw [← e2]
      exact List.mem_map_of_mem (List.mem_filter.mp m2).1
theorem nzs_num {q : Int} {d : List (Str × Int)} (h : NumD q d) : NumD q (nzs d) :=
  ⟨Nat.lt_of_le_of_lt (List.length_filter_le _ _) h.1, h.2.1.sublist (List.Sublist.map _ List.filter_sublist), fun x mx => h.2.2 x (List.mem_filter.mp mx).1⟩
theorem nrm_nzs {q : Int} {d : List (Str × Int)} (hm : IsMod q) (h : NumD q d) : nrm (nzs d) = nrm d :=
  nrm_ext (nzs_num h).2.1 h.2.1 fun k => by
    have := (drawn_same (c := 0) hm h (by omega) (by have := hm.b; omega)).hf k
    rw [show val (nzs d) k = val (nrm d) k from this.symm, nrm_val h.2.1]
theorem nzs_len {q : Int} {d : List (Str × Int)} (hm : IsMod q) (h : NumD q d) {n : Nat} (l : d.length ≤ n) : (nrm d).length ≤ n := Nat.le_trans (nrm_len d) l
theorem told_same {y : SumD} {r : Mo} {q c c' : Int} {f f' : Str → Int} {n n' : Nat} (t : Told y q c f n) (m : MdlOf r q c' f' n') (hc : c = c') (hf : ∀ k, f k = f' k) : Same y r q :=
  ⟨t.good, m.ok, t.hq, by rw [t.hc, m.hc, hc], fun k => by rw [t.hf, m.hf, hf k]⟩
theorem good_val {x : SumD} (g : Good x) (k : Str) : 0 ≤ val x.ws k ∧ val x.ws k < x.q := by
  have b := g.m.b
  by_cases h : k ∈ keys x.ws
  · obtain ⟨y, my, rfl⟩ := List.mem_map.mp h
    rw [val_mem g.nd.2.1 my]
    exact (g.nd.2.2 y my).2
  · rw [val_not h]; omega
theorem putC_nil (l : List (Str × Int)) : putC [] l = 0 := by
  unfold putC
  induction l with
  | nil => rfl
  | cons x l ih => rw [List.map_cons, List.sum_cons, ih]; show x.2 * 0 + 0 = 0; simp
theorem putV_nil {l : List (Str × Int)} (n : (keys l).Nodup) (k : Str) : putV [] l k = val l k := by
  unfold putV
  induction l with
  | nil => rfl
  | cons x l ih =>
    have n' : x.1 ∉ keys l ∧ (keys l).Nodup := by
      have : (x.1 :: keys l).Nodup := n
      exact List.nodup_cons.mp this
    rw [List.map_cons, List.sum_cons, ih n'.2]
    have e : val (inn [] x.1) k = if x.1 = k then 1 else 0 := by
      show ((getS [(x.1, (1 : Int))] k).getD 0) = _
      rw [getS_cons]
      split <;> rfl
    have e2 : val (x :: l) k = if x.1 = k then x.2 else val l k := by
      unfold val
      rw [getS_cons]
      split <;> rfl
    rw [e, e2]
    by_cases z : x.1 = k
    · rw [if_pos z, if_pos z, val_not (by rw [← z]; exact n'.1)]; omega
    · rw [if_neg z, if_neg z]; omega
/-- put({}) changes nothing -/
theorem told_nil {x y : SumD} {m : Mo} {q : Int} {n : Nat} (s : Same x m q) (t : Told y x.q (x.c + putC [] x.ws) (putV [] x.ws) n) : Same y m q := by
  refine ⟨t.good, s.mdl, t.hq.trans s.hq, ?_, fun k => ?_⟩
  · rw [t.hc, putC_nil, Int.add_zero, Int.emod_eq_of_lt s.good.c0 s.good.c1, s.hc]
  · have b := good_val s.good k
    rw [t.hf, putV_nil s.good.nd.2.1, Int.emod_eq_of_lt b.1 b.2, s.hf]
theorem Same.keys {x : SumD} {m : Mo} {q : Int} (s : Same x m q) {k : Str} : k ∈ QL.keys m.1 ↔ k ∈ QL.keys x.ws := ((s.perm.map (fun y : Str × Int => y.1)).mem_iff (a := k)).symm
theorem num_rev {q : Int} {d : List (Str × Int)} (h : NumD q d) : puts d.reverse = d.reverse ∧ NumD q d.reverse ∧ ∀ k, val d.reverse k = val d k := by
  have nk : (keys d.reverse).Nodup := by
    unfold keys
    rw [List.map_reverse]
    exact (List.reverse_perm _).nodup_iff.mpr h.2.1
  exact ⟨puts_self nk, ⟨by rw [List.length_reverse]; exact h.1, nk, fun x m => h.2.2 x (List.mem_reverse.mp m)⟩, val_perm h.2.1 (List.reverse_perm d)⟩
end K11

set_option Elab.async false
set_option linter.all false
set_option maxRecDepth 100000
namespace K11
open PySem L2 QL
local macro_rules | `(tactic| walk_at "side") => `(tactic| first
  | decide | omega | exact Or.inl ⟨by omega, by omega⟩ | exact Or.inr ⟨by omega, by omega⟩ | exact ⟨by omega, by omega⟩ | exact ⟨by omega, by omega, by omega⟩ | assumption)
local macro_rules | `(tactic| walk_at "ev") => `(tactic| first
  | (((with_reducible refine' ev_var ?k1); (case k1 => exact rfl)))
  | with_reducible exact ev_int
  | with_reducible exact ev_str
  | with_reducible exact ev_bl
  | with_reducible exact ev_non
  | with_reducible exact ev_ty
  | ((with_reducible refine' ev_addD ?k1 ?k2); (case k1 => walk_at "ev"); (case k2 => walk_at "ev"))
  | ((with_reducible refine' ev_subD ?k1 ?k2); (case k1 => walk_at "ev"); (case k2 => walk_at "ev"))
  | ((with_reducible refine' ev_ltD ?k1 ?k2); (case k1 => walk_at "ev"); (case k2 => walk_at "ev"))
  | ((with_reducible refine' ev_leD ?k1 ?k2); (case k1 => walk_at "ev"); (case k2 => walk_at "ev"))
  | ((with_reducible refine' ev_gtD ?k1 ?k2); (case k1 => walk_at "ev"); (case k2 => walk_at "ev"))
  | ((with_reducible refine' ev_geD ?k1 ?k2); (case k1 => walk_at "ev"); (case k2 => walk_at "ev"))
  | ((with_reducible refine' ev_eqID ?k1 ?k2); (case k1 => walk_at "ev"); (case k2 => walk_at "ev"))
  | ((with_reducible refine' ev_neID ?k1 ?k2); (case k1 => walk_at "ev"); (case k2 => walk_at "ev"))
  | ((with_reducible refine' ev_eqSD ?k1 ?k2); (case k1 => walk_at "ev"); (case k2 => walk_at "ev"))
  | ((with_reducible refine' ev_neSD ?k1 ?k2); (case k1 => walk_at "ev"); (case k2 => walk_at "ev"))
  | ((with_reducible refine' ev_maxD ?k1 ?k2); (case k1 => walk_at "ev"); (case k2 => walk_at "ev"))
  | ((with_reducible refine' ev_minD ?k1 ?k2); (case k1 => walk_at "ev"); (case k2 => walk_at "ev"))
  | ((with_reducible refine' ev_t2D ?k1 ?k2); (case k1 => walk_at "ev"); (case k2 => walk_at "ev"))
  | ((with_reducible refine' ev_mulD ?k1 ?k2 ?k3); (case k1 => walk_at "ev"); (case k2 => walk_at "ev"); (case k3 => walk_at "side"))
  | ((with_reducible refine' ev_divD ?k1 ?k2 ?k3); (case k1 => walk_at "ev"); (case k2 => walk_at "ev"); (case k3 => walk_at "side"))
  | ((with_reducible refine' ev_modD ?k1 ?k2 ?k3); (case k1 => walk_at "ev"); (case k2 => walk_at "ev"); (case k3 => walk_at "side"))
  | ((with_reducible refine' ev_powD ?k1 ?k2 ?k3); (case k1 => walk_at "ev"); (case k2 => walk_at "ev"); (case k3 => walk_at "side"))
  | ((with_reducible refine' ev_catSD ?k1 ?k2 ?k3); (case k1 => walk_at "ev"); (case k2 => walk_at "ev"); (case k3 => walk_at "side"))
  | ((with_reducible refine' ev_stripD ?k1 ?k2 ?k3); (case k1 => walk_at "ev"); (case k2 => walk_at "ev"); (case k3 => walk_at "side"))
  | ((with_reducible refine' ev_divmodD ?k1 ?k2 ?k3); (case k1 => walk_at "ev"); (case k2 => walk_at "ev"); (case k3 => walk_at "side"))
  | ((with_reducible refine' ev_intD ?k1); (case k1 => walk_at "ev"))
  | ((with_reducible refine' ev_absD ?k1); (case k1 => walk_at "ev"))
  | ((with_reducible refine' ev_negD ?k1); (case k1 => walk_at "ev"))
  | ((with_reducible refine' ev_lenLD ?k1); (case k1 => walk_at "ev"))
  | ((with_reducible refine' ev_lenScrD ?k1); (case k1 => walk_at "ev"))
  | ((with_reducible refine' ev_lenDD ?k1); (case k1 => walk_at "ev"))
  | ((with_reducible refine' ev_fstD ?k1); (case k1 => walk_at "ev"))
  | ((with_reducible refine' ev_sndD ?k1); (case k1 => walk_at "ev"))
  | ((with_reducible refine' ev_notVD ?k1); (case k1 => walk_at "ev"))
  | ((with_reducible refine' ev_listLD ?k1); (case k1 => walk_at "ev"))
  | ((with_reducible refine' ev_listDD ?k1); (case k1 => walk_at "ev"))
  | ((with_reducible refine' ev_dictDD ?k1); (case k1 => walk_at "ev"))
  | ((with_reducible refine' ev_dictPD ?k1); (case k1 => walk_at "ev"))
  | ((with_reducible refine' ev_allD ?k1); (case k1 => walk_at "ev"))
  | ((with_reducible refine' ev_anyD ?k1); (case k1 => walk_at "ev"))
  | ((with_reducible refine' ev_sumD ?k1); (case k1 => walk_at "ev"))
  | ((with_reducible refine' ev_dinD ?k1 (ed_knownD ?k2)); (case k1 => walk_at "ev"); (case k2 => walk_at "ev"))
  | (refine' ev_dget2D (ed_knownD ?k1) ?k2 ?k3; (case k1 => walk_at "ev"); (case k2 => walk_at "ev"); (case k3 => walk_at "ev")))
local macro_rules | `(tactic| walk_at "et") => `(tactic| first
  | (refine' et_testD ?k1; (case k1 => walk_at "ev")) | (refine' et_valD ?k1; (case k1 => walk_at "ev")) | (refine' et_notD ?k1; (case k1 => walk_at "et")))
local macro_rules | `(tactic| walk_at "ea") => `(tactic| first
  | exact ea_nilD | ((refine' ea_consD ?k1 ?k2); (case k1 => walk_at "ev"); (case k2 => walk_at "ea")) | (refine' ea_voD rfl ?k1; (case k1 => walk_at "ea")))
local macro_rules | `(tactic| walk_at "es") => `(tactic| first
  | exact eas_nilD | ((refine' eas_consD ?k1 ?k2); (case k1 => walk_at "ev"); (case k2 => walk_at "es")))
local macro_rules | `(tactic| walk_at "set") => `(tactic| (first | refine' sq_setD ?k1 ?k2 | refine' at_setD ?k1 ?k2); (case k1 => walk_at "ev"))
local macro_rules | `(tactic| walk_at "le") => `(tactic| first | exact le_nil | (refine le_same ?_; walk_at "le") | (refine le_drop ?_; walk_at "le"))

section
variable {P : Program} {w : World} {K : PySem.W.Frag} {mg : Str → Option Value} {base : Heap} {C : Addr}
abbrev MetA (P : Program) (w : World) (K : PySem.W.Frag) (mg : Str → Option Value) (base : Heap) (C : Addr) : Prop := C8.Met P w K mg base 4 C "at" (FSp RI (preAt C)) []
abbrev MetP (P : Program) (w : World) (K : PySem.W.Frag) (mg : Str → Option Value) (base : Heap) (C : Addr) : Prop := C8.Met P w K mg base 7 C "put" (FSp (RSum C) (prePut C)) []
abbrev OwnLD (P : Program) (w : World) (K : PySem.W.Frag) (mg : Str → Option Value) (base : Heap) : Prop := Own P w K mg base "_law_drawn" ["_law_rng_here", "_law_names", "_law_q"] 2 (FSpDr K preDrawn)
abbrev OwnLR (P : Program) (w : World) (K : PySem.W.Frag) (mg : Str → Option Value) (base : Heap) : Prop := Own P w K mg base "_law_replaced" ["_law_model", "_law_sums", "_law_q"] 2 (FSp (RMod K) (preLR K))
abbrev OwnLV (P : Program) (w : World) (K : PySem.W.Frag) (mg : Str → Option Value) (base : Heap) : Prop := Own P w K mg base "_law_value" ["_law_model", "_law_world", "_law_q"] 1 (FSp RI (preLV K))
abbrev OwnLT (P : Program) (w : World) (K : PySem.W.Frag) (mg : Str → Option Value) (base : Heap) (C : Addr) : Prop := Own P w K mg base "_law_tells" ["_law_one", "_law_model", "_law_q"] 3 (FSp RB (preLT K C))
abbrev RPr (K : PySem.W.Frag) (C : Addr) : Rel (SumD × Mo) := RT2 K (RSum C) (RMod K)

theorem sc_law_values_right : FnScope ["_law_rng_here", "_law_names", "_law_pairs", "_law_q", "_law_name", "_law_world", "_law_kept", "_law_sums", "_law_models", "_law_one", "_law_model"] ["_law_rng_here", "_law_names", "_law_pairs", "_law_q"] (defScope s_law_values_right) := ⟨rfl, rfl, rfl, by decide +kernel, rfl, by decide +kernel, by decide +kernel⟩
def preLW (K : PySem.W.Frag) (C : Addr) (L : List Slot) (P : Bool → Prop) : Prop := ∃ (p : Addr) (ns : List Str) (prs : List (SumD × Mo)) (q : Int), L = [.vo (VRng p), .va (RL RS) ns, .va (RL (RPr K C)) prs, .va RI q] ∧ ns.length ≤ 6 ∧ ns.Nodup ∧ (∀ s ∈ ns, IsName s) ∧ IsMod q ∧
  (∀ r ∈ prs, Same r.1 r.2 q ∧ r.1.ws.length ≤ 6 ∧ ∀ k ∈ keys r.1.ws, k ∈ ns) ∧ P = fun b => b = true
theorem name_q9 : IsName "q9" := ⟨by decide, by decide, ⟨113, by decide, by decide⟩, by decide⟩
theorem name_a1a : IsName "a1a" := ⟨by decide, by decide, ⟨97, by decide, by decide⟩, by decide⟩
theorem name_further : IsName "further" := ⟨by decide, by decide, ⟨102, by decide, by decide⟩, by decide⟩
theorem ok_law_values_right {f : Addr} {fd : FuncData} (F : Fun K "_law_values_right" "_law_values_right" s_law_values_right f fd) (T : Txt K mg) (OD : OwnD P w K mg base) (LD : OwnLD P w K mg base) (LR : OwnLR P w K mg base) (LV : OwnLV P w K mg base) (LT : OwnLT P w K mg base C) (MK : MakS P w K mg base C) (MA : MetA P w K mg base C) (MP : MetP P w K mg base C) :
    FnOk P w K mg base CX0 8 f fd ["_law_rng_here", "_law_names", "_law_pairs", "_law_q"] (FSp RB (preLW K C)) := by
  refine F.ok sc_law_values_right (fsp_len (n := 4) fun L P ⟨p, ns, prs, q, e, _⟩ => by rw [e]; rfl) (fun cdv A outer s H vs Q E hr h => ?_)
  refine ⟨_, (pss_cons (ps_set (i := 5) sc_law_values_right.nd rfl (by first | exact Or.inl rfl | exact Or.inr rfl) (pe_callTy (clDictP rfl) (by rfl) T.b_dict (by decide +kernel) (pa_cons (pe_lc (own := [("_law_name", 4)]) (g := gName 4) rfl sc_law_values_right.nd (pi_list (pe_op op_cat (pv 1) (pe_lst (pa_cons pe_str (pa_cons pe_str pa_nil))))) (blkOk_by (own := [("_law_name", 4)]) (N := ["_law_rng_here", "_law_names", "_law_pairs", "_law_q", "_law_name", "_law_world", "_law_kept", "_law_sums", "_law_models", "_law_one", "_law_model"]) (sc := defScope s_law_values_right) (by decide +kernel)) (fun _ _ _ _ _ => (pg_name (i := 4) sc_law_values_right.nd rfl (by first | exact Or.inl rfl | exact Or.inr rfl))) (fun _ _ _ _ _ => pts_nil) (fun _ _ _ _ _ => (pe_tup (pa_cons (pv 4) (pa_cons (pe_own OD (hr.mono (by decide)) (by rfl) (pa_cons (pv 0) (pa_cons (pv 3) pa_nil))) pa_nil))))) pa_nil))) (pss_cons (ps_set (i := 6) sc_law_values_right.nd rfl (by first | exact Or.inl rfl | exact Or.inr rfl) (pe_callTy clDictD (by rfl) T.b_dict (by decide +kernel) (pa_cons (pv 5) pa_nil))) (pss_cons (ps_par (i := 7) (j := 8) rfl sc_law_values_right.nd rfl rfl (by decide) rfl rfl (pa_cons pe_dnewK (pa_cons pe_dnewK pa_nil)) (by first | rfl | with_unfolding_all rfl)) (pss_cons (ps_for PassesOwn.never rfl (pi_list (pe_op op_cat (pv 1) (pe_lst (pa_cons pe_str pa_nil)))) (pg_name (i := 4) sc_law_values_right.nd rfl (by first | exact Or.inl rfl | exact Or.inr rfl)) (pss_one (ps_if (pt_cmpR opGt (pe_own OD (hr.mono (by decide)) (by rfl) (pa_cons (pv 0) (pa_cons pe_int pa_nil))) pe_int (nomark _)) (pss_cons (ps_dput (hu_of hr) (pv 8) (pv 4) (pe_ix ix_tup (pe_own LD (hr.mono (by decide)) (by rfl) (pa_cons (pv 0) (pa_cons (pv 1) (pa_cons (pv 3) pa_nil)))) pe_int (fun _ _ => rfl)) rfl) (pss_one (ps_dput (hu_of hr) (pv 7) (pv 4) (C8.pe_mk MK hr (by decide) (by rfl) (pa_cons (pv 3) (pa_cons (pe_ix ix_tup (pe_dget (hu_of hr) (pv 8) (pv 4) (fun _ _ => rfl)) pe_int (fun _ _ => rfl)) (pa_cons (pe_ix ix_tup (pe_dget (hu_of hr) (pv 8) (pv 4) (fun _ _ => rfl)) pe_int (fun _ _ => rfl)) pa_nil)))) rfl))) pss_nil))) (pss_cons (ps_for PassesOwn.never rfl (pi_list (pv 2)) (pg_tup rfl (pgs_cons (pg_name (i := 9) sc_law_values_right.nd rfl (by first | exact Or.inl rfl | exact Or.inr rfl)) (pgs_cons (pg_name (i := 10) sc_law_values_right.nd rfl (by first | exact Or.inl rfl | exact Or.inr rfl)) pgs_nil))) (pss_cons (ps_if (PW.pt (pw_or (pt_cmpR op_ne (C8.pe_mt MA hr (by decide) (pv 9) (pa_cons (pv 5) pa_nil)) (pe_own LV (hr.mono (by decide)) (by rfl) (pa_cons (pv 10) (pa_cons (pv 5) (pa_cons (pv 3) pa_nil)))) (nomark _)) (pw_or1 (pt_cmpR op_ne (C8.pe_mt MA hr (by decide) (pv 9) (pa_cons (pe_callTy (clDictP rfl) (by rfl) T.b_dict (by decide +kernel) (pa_cons (pe_revL (LiI.pe_listItems rfl (pv 5) (by rfl) T.b_list (by decide +kernel))) pa_nil)) pa_nil)) (C8.pe_mt MA hr (by decide) (pv 9) (pa_cons (pv 5) pa_nil)) (nomark _))))) (pss_one (ps_ret pe_bl)) pss_nil) (pss_cons (ps_if (PW.pt (pw_or (pt_not (pt_val (pe_own LT (hr.mono (by decide)) (by rfl) (pa_cons (C8.pe_mt MP hr (by decide) (pv 9) (pa_cons (pv 7) pa_nil)) (pa_cons (pe_own LR (hr.mono (by decide)) (by rfl) (pa_cons (pv 10) (pa_cons (pv 8) (pa_cons (pv 3) pa_nil)))) (pa_cons (pv 3) pa_nil)))))) (pw_or1 (pt_not (pt_val (pe_own LT (hr.mono (by decide)) (by rfl) (pa_cons (pv 9) (pa_cons (pv 10) (pa_cons (pv 3) pa_nil))))))))) (pss_one (ps_ret pe_bl)) pss_nil) (pss_one (ps_if (pt_not (pt_val (pe_own LT (hr.mono (by decide)) (by rfl) (pa_cons (C8.pe_mt MP hr (by decide) (pv 9) (pa_cons pe_dnewK pa_nil)) (pa_cons (pv 10) (pa_cons (pv 3) pa_nil)))))) (pss_one (ps_ret pe_bl)) pss_nil))))) (pss_one (ps_ret (pe_and (pe_cmpR (op_eqDG hr.units0) (pv 5) (pv 6) (nomark _)) (pe_one (pe_cmpR (op_eqD hr.units) (pe_callB (clSrtD rfl) (by rfl) T.b_sorted (by decide +kernel) (pa_cons (pv 7) pa_nil)) (pe_callB (clSrtD rfl) (by rfl) T.b_sorted (by decide +kernel) (pa_cons (pv 8) pa_nil)) (nomark _))))))))))), ?_⟩
  refine body_of 4 h (fun L P ⟨p, ns, prs, q, e, _⟩ => by rw [e]; rfl) (by decide) fun L P ⟨p, ns, prs, q, eL, hl, hd, hn, hm, hp, eP⟩ F D hR => ?_
  subst eL
  subst eP
  show At F [.vo (VRng p), .va (RL RS) ns, .va (RL (RPr K C)) prs, .va RI q, .no, .no, .no, .no, .no, .no, .no] _
  have hq := hm.b
  refine sq_setO (i := 5) (W := fun p d => VD p RI d) (P := fun d => NumD q d ∧ ∀ k ∈ ns, k ∈ keys d) one_VD (EvO.imp (eo_dictP (ev_lc (RX := RS) (RY := RT2 K RS RI) (js := [4]) (xs := ns ++ (["further", "a1a"] : List Str)) (PT := fun _ b => b = true) (PY := fun x y => y.1 = x ∧ 0 ≤ y.2 ∧ y.2 < q) (ei_list (ev_catD (ev_var rfl) (ev_lstD (eas_consD ev_str (eas_consD ev_str eas_nilD)) (by simp)) (by simp; omega))) (eg_name (by exact (by decide : 4 < 11))) (fun j h => h) (fun a b => feet_va) (fun a => le_set rfl) (nv_no rfl nv_nil) (by simp; omega) (fun _ _ => et_yes)
    fun x _ _ => (ev_t2P (ev_var rfl) (ev_draw rfl (ev_var rfl) (by omega) (by omega))).imp fun y h => h)) ?_) fun pw W hW npw => ?_
  · rintro d ⟨l, pk, rfl⟩
    have ef := pick_fst (g := fun y : Str × Int => y.1) pk (fun _ _ h => by cases h) fun x y h => h.1
    have ll : l.length ≤ 8 := by
      have := congrArg List.length ef
      rw [List.length_map, List.length_append] at this
      simp at this
      omega
    obtain ⟨pm1, pm2⟩ := puts_mem l
    refine ⟨⟨by have := puts_len l; omega, puts_nodup l, fun x mx => ?_⟩, fun k mk => pm2 k (by show k ∈ l.map (·.1); rw [ef]; exact List.mem_append_left _ mk)⟩
    obtain ⟨y, my, _, e1, e2, e3⟩ := pk.all x (pm1 x mx)
    refine ⟨?_, e2, e3⟩
    rw [e1]
    rcases List.mem_append.mp my with my | my
    · exact hn y my
    · simp at my
      rcases my with rfl | rfl
      · exact name_further
      · exact name_a1a
  · obtain ⟨hW, hWk⟩ := hW
    show At F [.vo (VRng p), .va (RL RS) ns, .va (RL (RPr K C)) prs, .va RI q, .no, .vo (VD pw RI W), .no, .no, .no, .no, .no] _
    refine sq_set (i := 6) (R := RD RI) (P := fun d => d = W) ((eo_dictD (ed_own rfl)).evF.ev) fun d ed => ?_
    subst ed
    show At F [.vo (VRng p), .va (RL RS) ns, .va (RL (RPr K C)) prs, .va RI q, .no, .vo (VD pw RI d), .va (RD RI) d, .no, .no, .no, .no] _
    refine at_seq (at_par2D (R := RSum C) (R' := RMod K) (fun ps pm nps npm => ?_) (by simp) (by simp))
    show At F [.vo (VRng p), .va (RL RS) ns, .va (RL (RPr K C)) prs, .va RI q, .no, .vo (VD pw RI d), .va (RD RI) d, .vo (VD ps (RSum C) []), .vo (VD pm (RMod K) []), .no, .no] _
    refine at_seq (at_for (js := [4]) (R := RS) Zs (fun zs => [.vo (VRng p), .va (RL RS) ns, .va (RL (RPr K C)) prs, .va RI q, .no, .vo (VD pw RI d), .va (RD RI) d, .vo (VD ps (RSum C) (zS zs)), .vo (VD pm (RMod K) (zM zs)), .no, .no])
      (fun i zs => ZOk zs q ∧ zs.length ≤ i) [] (ei_list (xs := ns ++ (["q9"] : List Str)) (ev_catD (ev_var rfl) (ev_lstD (eas_consD ev_str eas_nilD) (by simp)) (by simp; omega))) ⟨⟨List.nodup_nil, fun z m => by simp at m⟩, Nat.le_refl _⟩ (Le.refl _) (fun zs => eg_name) (fun zs x b z => feet_va z) (fun F' le i x zs N ex hI hN => ?_) fun zs hI => ?_)
    · obtain ⟨zk, zl⟩ := hI
      have hx : IsName x := by
        rcases List.mem_append.mp (List.mem_of_getElem? ex) with m | m
        · exact hn x m
        · simp at m; rw [m]; exact name_q9
      have li : i < 7 := by
        have := (List.getElem?_eq_some_iff.mp ex).1
        simp at this
        omega
      show At F' [.vo (VRng p), .va (RL RS) ns, .va (RL (RPr K C)) prs, .va RI q, .va RS x, .vo (VD pw RI d), .va (RD RI) d, .vo (VD ps (RSum C) (zS zs)), .vo (VD pm (RMod K) (zM zs)), .no, .no] _
      refine at_if (et_test (ev_gt (ev_draw rfl ev_int (by decide) (by decide)) ev_int)) (fun _ => ?_) fun _ => (hN zs ⟨zk, by omega⟩).le (by walk_at "le")
      refine at_seq (at_dput (i := 8) (Pk := fun k => k = x) rfl (ev_drawn0 (K := K) (ea_voD rfl (ea_consD (ev_var rfl) (ea_consD (ev_var rfl) ea_nilD))) ⟨0, by simp, rfl, trivial⟩ ⟨p, ns, q, rfl, by omega, hd, hn, by omega, by omega, rfl⟩) (ev_var rfl) (by unfold zM; rw [List.length_map]; omega) fun k m ek hm2 => ?_)
      subst ek
      obtain ⟨d2, hN2, l2, _, e2, c0, c1⟩ := hm2
      dsimp only at hN2 l2 e2 c0 c1
      have em : m = (nzs d2, m.2) := Prod.ext e2 rfl
      have sm := drawn_same hm hN2 c0 c1
      rw [← em] at sm
      have hg : getS (putS (zM zs) k m) k = some m := by rw [getS_put, if_pos rfl]
      refine at_dput (i := 7) (Pk := fun j => j = k) (P := fun b => b = ⟨q, nrm d2, m.2⟩) rfl (Ev.imp (ev_make (L := [.va RI q, .va (RD RI) m.1, .va RI m.2]) (D := []) (dvs := []) (P := fun b => b = ⟨q, nrm m.1, m.2⟩) (ea_consD (ev_var rfl) (ea_consD (ev_fstD (ev_dgetD (ed_own rfl) (ev_var rfl) hg)) (ea_consD (ev_sndD (ev_dgetD (ed_own rfl) (ev_var rfl) hg)) ea_nilD))) trivial trivial ⟨q, m.1, _, m.2, rfl, hm, .inl rfl, by rw [e2]; exact nzs_num hN2, c0, c1, rfl⟩) fun b eb => by rw [eb, e2, nrm_nzs hm hN2]) (ev_var rfl) (by unfold zS; rw [List.length_map]; omega) fun j b ej eb => ?_
      subst ej
      subst eb
      have q1 : putS (zS zs) j ⟨q, nrm d2, m.2⟩ = zS (putS zs j (⟨q, nrm d2, m.2⟩, m)) := putS_mapv (f := Prod.fst) (a := ((⟨q, nrm d2, m.2⟩ : SumD), m))
      have q2 : putS (zM zs) j m = zM (putS zs j (⟨q, nrm d2, m.2⟩, m)) := putS_mapv (f := Prod.snd) (a := ((⟨q, nrm d2, m.2⟩ : SumD), m))
      rw [q1, q2]
      refine (hN (putS zs j (⟨q, nrm d2, m.2⟩, m)) ⟨⟨nodup_put zk.nd, fun z mz => ?_⟩, ?_⟩).le (by walk_at "le")
      · rcases mem_putS mz with e | mz
        · rw [e]
          exact ⟨hx, sm, nzs_len hm hN2 (by omega)⟩
        · exact zk.ok z mz
      · have := putS_len zs j ((⟨q, nrm d2, m.2⟩ : SumD), m)
        omega
    · obtain ⟨zk, zl⟩ := hI
      refine at_freezeD (i := 7) (p := ps) rfl nps ?_
      refine at_freezeD (i := 8) (p := pm) rfl npm ?_
      show At F [.vo (VRng p), .va (RL RS) ns, .va (RL (RPr K C)) prs, .va RI q, .no, .vo (VD pw RI d), .va (RD RI) d, .va (RD (RSum C)) (zS zs), .va (RD (RMod K)) (zM zs), .no, .no] _
      have zsl : (zS zs).length ≤ 7 := by
        unfold zS
        rw [List.length_map]
        have := zl
        simp at this
        omega
      have hok : ∀ z ∈ zS zs, IsName z.1 ∧ z.2.q = q ∧ Good z.2 := fun z mz => by
        obtain ⟨y, my, rfl⟩ := List.mem_map.mp mz
        obtain ⟨h1, h2, _⟩ := zk.ok y my
        exact ⟨h1, h2.hq, h2.good⟩
      have mok : ∀ z ∈ zM zs, Mdl z.2 := fun z mz => by
        obtain ⟨y, my, rfl⟩ := List.mem_map.mp mz
        exact (zk.ok y my).2.1.mdl
      refine at_seq (at_for (js := [9, 10]) (R := RPr K C) Unit (fun _ => [.vo (VRng p), .va (RL RS) ns, .va (RL (RPr K C)) prs, .va RI q, .no, .vo (VD pw RI d), .va (RD RI) d, .va (RD (RSum C)) (zS zs), .va (RD (RMod K)) (zM zs), .no, .no]) (fun _ _ => True) () (ei_list (ev_var rfl)) trivial (Le.refl _) (fun _ => eg_2 eg_name fun _ => eg_name) (fun _ a b z => feet_va (feet_va z)) (fun F' le i r s N ex _ hN => ?_) fun _ _ => ?_)
      · obtain ⟨x, m⟩ := r
        obtain ⟨sm, sl, sk⟩ := hp _ (List.mem_of_getElem? ex)
        dsimp only at sm sl sk
        have gx := sm.good
        have hk : ∀ k ∈ keys x.ws, k ∈ keys d := fun k mk => hWk k (sk k mk)
        have hkm : ∀ k ∈ keys m.1, k ∈ keys d := fun k mk => hk k (sm.keys.mp mk)
        have nx : NumD x.q d := by rw [sm.hq]; exact hW
        obtain ⟨r1, r2, r3⟩ := num_rev hW
        have nr : NumD x.q d.reverse := by rw [sm.hq]; exact r2
        have hkr : ∀ k ∈ keys x.ws, k ∈ keys d.reverse := fun k mk => by
          unfold keys
          rw [List.map_reverse, List.mem_reverse]
          exact hk k mk
        have ml : m.1.length ≤ 6 := by rw [sm.len]; exact sl
        obtain ⟨u1, u2, u3, u4⟩ := zk.put sm
        obtain ⟨w1, w2, w3, w4⟩ := ZOk.put (zs := []) (q := q) ⟨List.nodup_nil, fun z m => by simp at m⟩ sm
        show At F' [.vo (VRng p), .va (RL RS) ns, .va (RL (RPr K C)) prs, .va RI q, .no, .vo (VD pw RI d), .va (RD RI) d, .va (RD (RSum C)) (zS zs), .va (RD (RMod K)) (zM zs), .va (RSum C) x, .va (RMod K) m] _
        have vi : VoIn [.vo (VRng p), .va (RL RS) ns, .va (RL (RPr K C)) prs, .va RI q, .no, .vo (VD pw RI d), .va (RD RI) d, .va (RD (RSum C)) (zS zs), .va (RD (RMod K)) (zM zs), .va (RSum C) x, .va (RMod K) m] [.vo (VD pw RI d)] [] := ⟨5, by simp, rfl, trivial⟩
        have e_at := ev_meth (Γ := [.vo (VRng p), .va (RL RS) ns, .va (RL (RPr K C)) prs, .va RI q, .no, .vo (VD pw RI d), .va (RD RI) d, .va (RD (RSum C)) (zS zs), .va (RD (RMod K)) (zM zs), .va (RSum C) x, .va (RMod K) m]) (E := E0) (R := RI) (m := "at") (Pre := preAt C) (P := fun v => v = (x.c + sumAt x.ws d) % x.q) (ev_var (i := 9) (R := RSum C) (a := x) rfl) rfl (ea_voD (i := 5) rfl ea_nilD) vi ⟨x, d, _, rfl, gx, .inr ⟨pw, rfl⟩, nx, hk, rfl⟩
        have e_rv := ev_meth (Γ := [.vo (VRng p), .va (RL RS) ns, .va (RL (RPr K C)) prs, .va RI q, .no, .vo (VD pw RI d), .va (RD RI) d, .va (RD (RSum C)) (zS zs), .va (RD (RMod K)) (zM zs), .va (RSum C) x, .va (RMod K) m]) (E := E0) (R := RI) (m := "at") (Pre := preAt C) (P := fun v => v = (x.c + sumAt x.ws d.reverse) % x.q) (ev_var (i := 9) (R := RSum C) (a := x) rfl) rfl (ea_consD (Ev.imp (ev_dictPD (K := K) (ev_rev (K := K) (ev_listItemsOwn (K := K) (i := 5) rfl))) fun _ e => by rw [e, r1]) ea_nilD) trivial ⟨x, d.reverse, _, rfl, gx, .inl rfl, nr, hkr, rfl⟩
        have e_lv := ev_callD (Γ := [.vo (VRng p), .va (RL RS) ns, .va (RL (RPr K C)) prs, .va RI q, .no, .vo (VD pw RI d), .va (RD RI) d, .va (RD (RSum C)) (zS zs), .va (RD (RMod K)) (zM zs), .va (RSum C) x, .va (RMod K) m]) (E := E0) (R := RI) (Pre := preLV K) (P := fun v => v = (sumAt m.1 d + m.2) % q) (ea_consD (ev_var (i := 10) (R := RMod K) (a := m) rfl) (ea_voD (i := 5) rfl (ea_consD (ev_var (i := 3) (R := RI) (a := q) rfl) ea_nilD))) ⟨5, by simp, rfl, trivial⟩ ⟨m, d, _, q, rfl, sm.mdl, .inr ⟨pw, rfl⟩, by omega, by omega, hkm, rfl⟩
        have eq1 : (x.c + sumAt x.ws d) % x.q = (sumAt m.1 d + m.2) % q := by rw [sm.at_, sm.hc, sm.hq, Int.add_comm]
        have eq2 : sumAt x.ws d.reverse = sumAt x.ws d := sumAt_val r3
        refine sq_guard (et_orD (et_testD (ev_neID e_at e_lv)) fun _ => et_testD (ev_neID e_rv e_at)) (fun hc => by rw [eq1, eq2, eq1] at hc; simp at hc) fun _ => ?_
        refine sq_guard (et_orD (et_notD (et_valD (ev_call (P' := fun b => b = true) (ea_cons (ev_meth (ev_var rfl) rfl (ea_consD (ev_var rfl) ea_nilD) trivial ⟨x, zS zs, rfl, gx, by omega, fun z mz => by rw [sm.hq]; exact hok z mz, by omega, rfl⟩) (ea_cons (ev_callD (ea_consD (ev_var rfl) (ea_consD (ev_var rfl) (ea_consD (ev_var rfl) ea_nilD))) trivial ⟨m, zM zs, q, rfl, sm.mdl, by rw [← sm.hc, ← sm.hq]; exact gx.c1, mok, by omega, by omega, by omega, by omega, rfl⟩) (ea_consD (ev_var rfl) ea_nilD)))
          fun l ⟨y, l1, e1, ty, r, l2, e2, mr, e3⟩ => by
            subst e3
            subst e2
            subst e1
            refine ⟨trivial, _, ⟨y, r, q, rfl, ?_, rfl⟩, fun _ z => z⟩
            refine told_same (q := q) (by rw [← sm.hq]; exact ty) mr (by rw [sm.hc, u2]) u1))) fun _ => et_notD (et_valD (ev_callD (P := fun b => b = true) (ea_consD (ev_var rfl) (ea_consD (ev_var rfl) (ea_consD (ev_var rfl) ea_nilD))) trivial ⟨x, m, q, rfl, sm, rfl⟩))) (fun hc => by simp at hc) fun _ => ?_
        refine at_ifD (et_notD (et_valD (ev_call (P' := fun b => b = true) (ea_cons (ev_meth (ev_var rfl) rfl (ea_consD (ev_dnew (R := RSum C)) ea_nilD) trivial ⟨x, [], rfl, gx, Nat.zero_le _, fun z mz => by simp at mz, by show putN (zS []) x.ws < 64; omega, rfl⟩) (ea_consD (ev_var rfl) (ea_consD (ev_var rfl) ea_nilD)))
          fun l ⟨y, l1, e1, ty, e2⟩ => by
            subst e2
            subst e1
            exact ⟨trivial, _, ⟨y, m, q, rfl, told_nil sm ty, rfl⟩, fun _ z => z⟩))) (fun hc => by cases hc) fun _ => (hN () trivial).le (by walk_at "le")
      · refine at_retD hR (ev_andVD (ev_eqDD (ed_own rfl) (ed_knownD (ev_var rfl)) hW.2.1) fun _ => ev_eqP (d := .list ((srt (keys zs)).map PyData.str)) ?_ ?_ (cd_keys fun k mk => ?_) (by decide)) (fun W z => ⟨0, by simp at z; rw [z]; rfl⟩) rfl
        · have e : keys (zS zs) = keys zs := keys_mapv (f := Prod.fst) zs
          rw [← e]
          exact evp_list dp_str (ev_sortD (ed_knownD (ev_var rfl)) (by omega))
        · have e : keys (zM zs) = keys zs := keys_mapv (f := Prod.snd) zs
          rw [← e]
          exact evp_list dp_str (ev_sortD (ed_knownD (ev_var rfl)) (by unfold zM; unfold zS at zsl; rw [List.length_map] at zsl ⊢; omega))
        · obtain ⟨y, my, rfl⟩ := List.mem_map.mp (srt_mem.mp mk)
          exact (zk.ok y my).1.all
end
end K11

set_option Elab.async false
set_option linter.all false
set_option maxRecDepth 100000
namespace QL
open PySem L2
section
variable {α β δ γ : Type} {Γ : QL.Ctx} {ta tb te : TE} {tr : TA} {R : Rel α} {S : Rel β} {RG : Rel γ} {PA : α → Prop} {PB : β → Prop} {F : Fr} {D : Ends} {W : Addr → δ → Vol} {Pre : List Slot → (δ → Prop) → Prop} {E : XK}
theorem eo_callP {PL : List Slot → Prop} {P' : δ → Prop} (ha : EvA Γ tr PL) (k : ∀ l, PL l → VoIn Γ l [] ∧ ∃ P, Pre l P ∧ ∀ a, P a → P' a) : EvO Γ (tCall (FSpG W Pre) [] E tr) W P' := fun σ h H S e Q q =>
  ha σ h H S e _ fun vs l h1 H1 pl s1 S1 ok => by
    obtain ⟨vi, P, pre, kp⟩ := k l pl
    obtain ⟨Sa, nf⟩ := args_sat S1 ok vi
    rw [List.append_nil]
    exact ⟨l, P, h1, pre, Sa, s1.ex, fun p d h' H' pd s2 ws n0 n1 r => q p d h' H' (kp d pd) (s1.tr (s2.mono nf)) (sat_after S1 vi s2 ws) (back_none s1 n0) n1 r⟩
/-- x, y = a, b -/
theorem at_par2 {i j : Nat} (h1 : Ev Γ ta R PA) (h2 : Ev Γ tb S PB) (n : ∀ a b, PA a → PB b → At F ((Γ.set i (.va R a)).set j (.va S b)) D.nx) (li : i < Γ.length) (lj : j < Γ.length) : At F Γ (tPar i j (tCons ta (tCons tb tNil)) D) := fun σ h H Sg s f =>
  h1 σ h H Sg s.ex _ fun x a ha Ha pa sa Sa ra => h2 σ ha Ha Sa sa.ex _ fun y b hb Hb pb sb Sb rb => by
    have A1 := Sb.putV (i := i) (R := R) (a := a) (v := x) (R.mono sb.kn ra) li
    have A2 := A1.putV (i := j) (R := S) (a := b) (v := y) rb (by rw [List.length_set]; exact lj)
    exact ⟨x, y, rfl, n a b pa pb _ hb Hb A2 (feet_stp (Γ := Γ) (σ := σ) s (sa.tr sb) f) fun c z => f c (feet_va (feet_va z))⟩
theorem eas_any {n : Nat} (h : Ev Γ ta R PA) (hr : EvAs Γ tr R (fun l => l.length = n)) : EvAs Γ (tCons ta tr) R (fun l => l.length = n + 1) := eas_cons h hr fun a l _ e => by rw [List.length_cons, e]
theorem eas_len0 : EvAs Γ tNil R (fun l => l.length = 0) := fun σ h H S e Q q => q [] [] h H rfl (.refl e) S .nil
theorem eas_all {n : Nat} (h : Ev Γ ta R PA) (hr : EvAs Γ tr R (fun l => (∀ x ∈ l, PA x) ∧ l.length = n)) : EvAs Γ (tCons ta tr) R (fun l => (∀ x ∈ l, PA x) ∧ l.length = n + 1) := eas_cons h hr fun a l pa ⟨e1, e2⟩ =>
  ⟨fun x m => (List.mem_cons.mp m).elim (fun e => by rw [e]; exact pa) (e1 x), by rw [List.length_cons, e2]⟩
theorem eas_none {PA : α → Prop} : EvAs Γ tNil R (fun l => (∀ x ∈ l, PA x) ∧ l.length = 0) := fun σ h H S e Q q => q [] [] h H ⟨fun x m => (by cases m), rfl⟩ (.refl e) S .nil
theorem ev_catP {n m : Nat} (h1 : Ev Γ ta (RL R) (fun l => (∀ x ∈ l, PA x) ∧ l.length = n)) (h2 : Ev Γ tb (RL R) (fun l => (∀ x ∈ l, PA x) ∧ l.length = m)) (hz : n + m ≤ 1000) : Ev Γ (tOp rCat ta tb) (RL R) (fun l => (∀ x ∈ l, PA x) ∧ l.length = n + m) :=
  ev_op h1 h2 (o2_cat fun a b pa pb => ⟨by rw [pa.2, pb.2]; exact hz, fun x mx => (List.mem_append.mp mx).elim (pa.1 x) (pb.1 x), by rw [List.length_append, pa.2, pb.2]⟩)
end
end QL
namespace K11
open PySem L2 QL
local macro_rules | `(tactic| walk_at "side") => `(tactic| first
  | decide | omega | exact Or.inl ⟨by omega, by omega⟩ | exact Or.inr ⟨by omega, by omega⟩ | exact ⟨by omega, by omega⟩ | exact ⟨by omega, by omega, by omega⟩ | assumption)
local macro_rules | `(tactic| walk_at "ev") => `(tactic| first
  | (((with_reducible refine' ev_var ?k1); (case k1 => exact rfl)))
  | with_reducible exact ev_int
  | with_reducible exact ev_str
  | with_reducible exact ev_bl
  | with_reducible exact ev_non
  | with_reducible exact ev_ty
  | ((with_reducible refine' ev_addD ?k1 ?k2); (case k1 => walk_at "ev"); (case k2 => walk_at "ev"))
  | ((with_reducible refine' ev_subD ?k1 ?k2); (case k1 => walk_at "ev"); (case k2 => walk_at "ev"))
  | ((with_reducible refine' ev_ltD ?k1 ?k2); (case k1 => walk_at "ev"); (case k2 => walk_at "ev"))
  | ((with_reducible refine' ev_leD ?k1 ?k2); (case k1 => walk_at "ev"); (case k2 => walk_at "ev"))
  | ((with_reducible refine' ev_gtD ?k1 ?k2); (case k1 => walk_at "ev"); (case k2 => walk_at "ev"))
  | ((with_reducible refine' ev_geD ?k1 ?k2); (case k1 => walk_at "ev"); (case k2 => walk_at "ev"))
  | ((with_reducible refine' ev_eqID ?k1 ?k2); (case k1 => walk_at "ev"); (case k2 => walk_at "ev"))
  | ((with_reducible refine' ev_neID ?k1 ?k2); (case k1 => walk_at "ev"); (case k2 => walk_at "ev"))
  | ((with_reducible refine' ev_eqSD ?k1 ?k2); (case k1 => walk_at "ev"); (case k2 => walk_at "ev"))
  | ((with_reducible refine' ev_neSD ?k1 ?k2); (case k1 => walk_at "ev"); (case k2 => walk_at "ev"))
  | ((with_reducible refine' ev_maxD ?k1 ?k2); (case k1 => walk_at "ev"); (case k2 => walk_at "ev"))
  | ((with_reducible refine' ev_minD ?k1 ?k2); (case k1 => walk_at "ev"); (case k2 => walk_at "ev"))
  | ((with_reducible refine' ev_t2D ?k1 ?k2); (case k1 => walk_at "ev"); (case k2 => walk_at "ev"))
  | ((with_reducible refine' ev_mulD ?k1 ?k2 ?k3); (case k1 => walk_at "ev"); (case k2 => walk_at "ev"); (case k3 => walk_at "side"))
  | ((with_reducible refine' ev_divD ?k1 ?k2 ?k3); (case k1 => walk_at "ev"); (case k2 => walk_at "ev"); (case k3 => walk_at "side"))
  | ((with_reducible refine' ev_modD ?k1 ?k2 ?k3); (case k1 => walk_at "ev"); (case k2 => walk_at "ev"); (case k3 => walk_at "side"))
  | ((with_reducible refine' ev_powD ?k1 ?k2 ?k3); (case k1 => walk_at "ev"); (case k2 => walk_at "ev"); (case k3 => walk_at "side"))
  | ((with_reducible refine' ev_catSD ?k1 ?k2 ?k3); (case k1 => walk_at "ev"); (case k2 => walk_at "ev"); (case k3 => walk_at "side"))
  | ((with_reducible refine' ev_stripD ?k1 ?k2 ?k3); (case k1 => walk_at "ev"); (case k2 => walk_at "ev"); (case k3 => walk_at "side"))
  | ((with_reducible refine' ev_divmodD ?k1 ?k2 ?k3); (case k1 => walk_at "ev"); (case k2 => walk_at "ev"); (case k3 => walk_at "side"))
  | ((with_reducible refine' ev_intD ?k1); (case k1 => walk_at "ev"))
  | ((with_reducible refine' ev_absD ?k1); (case k1 => walk_at "ev"))
  | ((with_reducible refine' ev_negD ?k1); (case k1 => walk_at "ev"))
  | ((with_reducible refine' ev_lenLD ?k1); (case k1 => walk_at "ev"))
  | ((with_reducible refine' ev_lenScrD ?k1); (case k1 => walk_at "ev"))
  | ((with_reducible refine' ev_lenDD ?k1); (case k1 => walk_at "ev"))
  | ((with_reducible refine' ev_fstD ?k1); (case k1 => walk_at "ev"))
  | ((with_reducible refine' ev_sndD ?k1); (case k1 => walk_at "ev"))
  | ((with_reducible refine' ev_notVD ?k1); (case k1 => walk_at "ev"))
  | ((with_reducible refine' ev_listLD ?k1); (case k1 => walk_at "ev"))
  | ((with_reducible refine' ev_listDD ?k1); (case k1 => walk_at "ev"))
  | ((with_reducible refine' ev_dictDD ?k1); (case k1 => walk_at "ev"))
  | ((with_reducible refine' ev_dictPD ?k1); (case k1 => walk_at "ev"))
  | ((with_reducible refine' ev_allD ?k1); (case k1 => walk_at "ev"))
  | ((with_reducible refine' ev_anyD ?k1); (case k1 => walk_at "ev"))
  | ((with_reducible refine' ev_sumD ?k1); (case k1 => walk_at "ev"))
  | ((with_reducible refine' ev_dinD ?k1 (ed_knownD ?k2)); (case k1 => walk_at "ev"); (case k2 => walk_at "ev"))
  | (refine' ev_dget2D (ed_knownD ?k1) ?k2 ?k3; (case k1 => walk_at "ev"); (case k2 => walk_at "ev"); (case k3 => walk_at "ev")))
local macro_rules | `(tactic| walk_at "et") => `(tactic| first
  | (refine' et_testD ?k1; (case k1 => walk_at "ev")) | (refine' et_valD ?k1; (case k1 => walk_at "ev")) | (refine' et_notD ?k1; (case k1 => walk_at "et")))
local macro_rules | `(tactic| walk_at "ea") => `(tactic| first
  | exact ea_nilD | ((refine' ea_consD ?k1 ?k2); (case k1 => walk_at "ev"); (case k2 => walk_at "ea")) | (refine' ea_voD rfl ?k1; (case k1 => walk_at "ea")))
local macro_rules | `(tactic| walk_at "es") => `(tactic| first
  | exact eas_nilD | ((refine' eas_consD ?k1 ?k2); (case k1 => walk_at "ev"); (case k2 => walk_at "es")))
local macro_rules | `(tactic| walk_at "set") => `(tactic| (first | refine' sq_setD ?k1 ?k2 | refine' at_setD ?k1 ?k2); (case k1 => walk_at "ev"))
local macro_rules | `(tactic| walk_at "le") => `(tactic| first | exact le_nil | (refine le_same ?_; walk_at "le") | (refine le_drop ?_; walk_at "le"))

section
variable {P : Program} {w : World} {K : PySem.W.Frag} {mg : Str → Option Value} {base : Heap} {C : Addr}
abbrev OwnLN (P : Program) (w : World) (K : PySem.W.Frag) (mg : Str → Option Value) (base : Heap) : Prop := Own P w K mg base "_law_some_names" ["_law_rng_here", "_law_many"] 2 (FSpG (fun p d => VL p RS d) preNames)
abbrev OwnLW (P : Program) (w : World) (K : PySem.W.Frag) (mg : Str → Option Value) (base : Heap) (C : Addr) : Prop := Own P w K mg base "_law_values_right" ["_law_rng_here", "_law_names", "_law_pairs", "_law_q"] 8 (FSp RB (preLW K C))
abbrev OpAdd (P : Program) (w : World) (K : PySem.W.Frag) (mg : Str → Option Value) (base : Heap) (C : Addr) : Prop := OpB P w K mg base 8 C (PySem.dunder "add") (FSp (RSum C) (preAdd C 1))
abbrev OpSub (P : Program) (w : World) (K : PySem.W.Frag) (mg : Str → Option Value) (base : Heap) (C : Addr) : Prop := OpB P w K mg base 8 C (PySem.dunder "sub") (FSp (RSum C) (preAdd C (-1)))
abbrev OpNeg (P : Program) (w : World) (K : PySem.W.Frag) (mg : Str → Option Value) (base : Heap) (C : Addr) : Prop := OpB P w K mg base 8 C "__neg__" (FSp (RSum C) (preNeg C))
theorem same_addT {x y : SumD} {a b : Mo} {q : Int} (sx : Same x a q) (sy : Same y b q) (t : Int) {z : SumD} {r : Mo} {n n' : Nat} (tz : Told z x.q (x.c + t * y.c) (fun k => val x.ws k + t * val y.ws k) n) (mr : MdlOf r q (a.2 + t * b.2) (fun k => val a.1 k + t * val b.1 k) n') : Same z r q :=
  told_same (by rw [← sx.hq]; exact tz) mr (by rw [sx.hc, sy.hc]) fun k => by rw [sx.hf, sy.hf]
theorem same_mulT {x : SumD} {a : Mo} {q : Int} (sx : Same x a q) (t : Int) {z : SumD} {r : Mo} {n n' : Nat} (tz : Told z x.q (x.c * t) (fun k => val x.ws k * t) n) (mr : MdlOf r q (0 + t * a.2) (fun k => val [] k + t * val a.1 k) n') : Same z r q :=
  told_same (by rw [← sx.hq]; exact tz) mr (by rw [sx.hc, Int.zero_add, Int.mul_comm]) fun k => by rw [sx.hf, val_nil, Int.zero_add, Int.mul_comm]
theorem mdl_nil : Mdl (([] : List (Str × Int)), (0 : Int)) := ⟨List.nodup_nil, fun x m => (by simp at m), by decide, by decide⟩
theorem same_zero {x z : SumD} {a : Mo} {q : Int} (sx : Same x a q) {n : Nat} (tz : Told z x.q (x.c + -1 * x.c) (fun k => val x.ws k + -1 * val x.ws k) n) : Same z ([], 0) q :=
  ⟨tz.good, mdl_nil, tz.hq.trans sx.hq, by rw [tz.hc, show x.c + -1 * x.c = 0 by omega]; simp, fun k => by rw [tz.hf, show val x.ws k + -1 * val x.ws k = 0 by omega]; simp [val_nil]⟩

theorem sc_law_right : FnScope ["_law_rng_here", "_law_q", "_law_names", "_law_first", "_law_handed", "_law_second", "_law_other_handed", "_law_one", "_law_other", "_law_by", "_law_turn", "_law_pairs", "_law_number", "_law_told", "_law_model"] ["_law_rng_here"] (defScope s_law_right) := ⟨rfl, rfl, rfl, by decide +kernel, rfl, by decide +kernel, by decide +kernel⟩
def preLX (L : List Slot) (P : Bool → Prop) : Prop := ∃ (p : Addr), L = [.vo (VRng p)] ∧ P = fun b => b = true
theorem ok_law_right {f : Addr} {fd : FuncData} (F : Fun K "_law_right" "_law_right" s_law_right f fd) (T : Txt K mg) (OD : OwnD P w K mg base) (LN : OwnLN P w K mg base) (LD : OwnLD P w K mg base) (LA : OwnLA P w K mg base) (LT : OwnLT P w K mg base C) (LW : OwnLW P w K mg base C) (MK : MakS P w K mg base C)
    (AD : OpAdd P w K mg base C) (SB : OpSub P w K mg base C) (NG : OpNeg P w K mg base C) (ML : OpMul P w K mg base C) (MI : OpIF K C "mul") : FnOk P w K mg base CX0 9 f fd ["_law_rng_here"] (FSp RB preLX) := by
  refine F.ok sc_law_right (fsp_len (n := 1) fun L P ⟨p, e, _⟩ => by rw [e]; rfl) (fun cdv A outer s H vs Q E hr h => ?_)
  refine ⟨_, (pss_cons (ps_set (i := 1) sc_law_right.nd rfl (by first | exact Or.inl rfl | exact Or.inr rfl) (pe_ix ix_list (pe_lst (pa_cons pe_int (pa_cons pe_int (pa_cons pe_int (pa_cons pe_int (pa_cons pe_int (pa_cons pe_int pa_nil))))))) (pe_own OD (hr.mono (by decide)) (by rfl) (pa_cons (pv 0) (pa_cons pe_int pa_nil))) (fun _ _ => rfl))) (pss_cons (ps_set (i := 2) sc_law_right.nd rfl (by first | exact Or.inl rfl | exact Or.inr rfl) (pe_own LN (hr.mono (by decide)) (by rfl) (pa_cons (pv 0) (pa_cons (pe_op opAdd pe_int (pe_own OD (hr.mono (by decide)) (by rfl) (pa_cons (pv 0) (pa_cons pe_int pa_nil)))) pa_nil)))) (pss_cons (ps_asg (pe_tup (pa_cons (pe_own LD (hr.mono (by decide)) (by rfl) (pa_cons (pv 0) (pa_cons (pv 2) (pa_cons (pv 1) pa_nil)))) (pa_cons (pe_own LD (hr.mono (by decide)) (by rfl) (pa_cons (pv 0) (pa_cons (pv 2) (pa_cons (pv 1) pa_nil)))) pa_nil))) (pg_tup rfl (pgs_cons (pg_tup rfl (pgs_cons (pg_name (i := 3) sc_law_right.nd rfl (by first | exact Or.inl rfl | exact Or.inr rfl)) (pgs_cons (pg_name (i := 4) sc_law_right.nd rfl (by first | exact Or.inl rfl | exact Or.inr rfl)) pgs_nil))) (pgs_cons (pg_tup rfl (pgs_cons (pg_name (i := 5) sc_law_right.nd rfl (by first | exact Or.inl rfl | exact Or.inr rfl)) (pgs_cons (pg_name (i := 6) sc_law_right.nd rfl (by first | exact Or.inl rfl | exact Or.inr rfl)) pgs_nil))) pgs_nil)))) (pss_cons (ps_asg (pe_tup (pa_cons (C8.pe_mk MK hr (by decide) (by rfl) (pa_cons (pv 1) (pa_cons (pv 4) (pa_cons (pe_ix ix_tup (pv 3) pe_int (fun _ _ => rfl)) pa_nil)))) (pa_cons (C8.pe_mk MK hr (by decide) (by rfl) (pa_cons (pv 1) (pa_cons (pe_callTy (clDictP rfl) (by rfl) T.b_dict (by decide +kernel) (pa_cons (pe_revL (LiI.pe_listItems rfl (pv 6) (by rfl) T.b_list (by decide +kernel))) pa_nil)) (pa_cons (pe_ix ix_tup (pv 5) pe_int (fun _ _ => rfl)) pa_nil)))) pa_nil))) (pg_tup rfl (pgs_cons (pg_name (i := 7) sc_law_right.nd rfl (by first | exact Or.inl rfl | exact Or.inr rfl)) (pgs_cons (pg_name (i := 8) sc_law_right.nd rfl (by first | exact Or.inl rfl | exact Or.inr rfl)) pgs_nil)))) (pss_cons (ps_expr (pe_dclear (pv 4))) (pss_cons (ps_set (i := 9) sc_law_right.nd rfl (by first | exact Or.inl rfl | exact Or.inr rfl) (pe_lst (pa_cons (pe_own OD (hr.mono (by decide)) (by rfl) (pa_cons (pv 0) (pa_cons (pv 1) pa_nil))) (pa_cons (pe_op opSub (pe_un unNeg pe_int) (pe_own OD (hr.mono (by decide)) (by rfl) (pa_cons (pv 0) (pa_cons pe_int pa_nil)))) (pa_cons (pe_op opAdd (pe_op opPow pe_int pe_int) (pe_own OD (hr.mono (by decide)) (by rfl) (pa_cons (pv 0) (pa_cons pe_int pa_nil)))) (pa_cons (pe_op opSub (pe_un unNeg (pe_op opPow pe_int pe_int)) (pe_own OD (hr.mono (by decide)) (by rfl) (pa_cons (pv 0) (pa_cons pe_int pa_nil)))) (pa_cons pe_int pa_nil))))))) (pss_cons (ps_for PassesOwn.never rfl (pi_range1 (by rfl) T.b_range (pa_cons pe_int pa_nil)) (pg_name (i := 10) sc_law_right.nd rfl (by first | exact Or.inl rfl | exact Or.inr rfl)) (pss_cons (ps_set (i := 11) sc_law_right.nd rfl (by first | exact Or.inl rfl | exact Or.inr rfl) (pe_lst (pa_cons (pe_tup (pa_cons (pv 7) (pa_cons (pv 3) pa_nil))) (pa_cons (pe_tup (pa_cons (pv 8) (pa_cons (pv 5) pa_nil))) (pa_cons (pe_tup (pa_cons (pe_op (op_own2 AD (hr.mono (by decide))) (pv 7) (pv 8)) (pa_cons (pe_own LA (hr.mono (by decide)) (by rfl) (pa_cons (pv 3) (pa_cons (pv 5) (pa_cons pe_int (pa_cons (pv 1) pa_nil))))) pa_nil))) pa_nil))))) (pss_cons (ps_set (i := 11) sc_law_right.nd rfl (by first | exact Or.inl rfl | exact Or.inr rfl) (pe_op op_cat (pv 11) (pe_lst (pa_cons (pe_tup (pa_cons (pe_op (op_own2 SB (hr.mono (by decide))) (pv 7) (pv 8)) (pa_cons (pe_own LA (hr.mono (by decide)) (by rfl) (pa_cons (pv 3) (pa_cons (pv 5) (pa_cons (pe_un unNeg pe_int) (pa_cons (pv 1) pa_nil))))) pa_nil))) (pa_cons (pe_tup (pa_cons (pe_un (un_own NG (hr.mono (by decide))) (pv 7)) (pa_cons (pe_own LA (hr.mono (by decide)) (by rfl) (pa_cons (pe_tup (pa_cons pe_dnewK (pa_cons pe_int pa_nil))) (pa_cons (pv 3) (pa_cons (pe_un unNeg pe_int) (pa_cons (pv 1) pa_nil))))) pa_nil))) pa_nil))))) (pss_cons (ps_set (i := 11) sc_law_right.nd rfl (by first | exact Or.inl rfl | exact Or.inr rfl) (pe_op op_cat (pv 11) (pe_lc (own := [("_law_number", 12)]) (g := gName 12) rfl sc_law_right.nd (pi_list (pv 9)) (blkOk_by (own := [("_law_number", 12)]) (N := ["_law_rng_here", "_law_q", "_law_names", "_law_first", "_law_handed", "_law_second", "_law_other_handed", "_law_one", "_law_other", "_law_by", "_law_turn", "_law_pairs", "_law_number", "_law_told", "_law_model"]) (sc := defScope s_law_right) (by decide +kernel)) (fun _ _ _ _ _ => (pg_name (i := 12) sc_law_right.nd rfl (by first | exact Or.inl rfl | exact Or.inr rfl))) (fun _ _ _ _ _ => pts_nil) (fun _ _ _ _ _ => (pe_tup (pa_cons (pe_op (op_ownN ML MI (hr.mono (by decide))) (pv 7) (pv 12)) (pa_cons (pe_own LA (hr.mono (by decide)) (by rfl) (pa_cons (pe_tup (pa_cons pe_dnewK (pa_cons pe_int pa_nil))) (pa_cons (pv 3) (pa_cons (pv 12) (pa_cons (pv 1) pa_nil))))) pa_nil))))))) (pss_cons (ps_set (i := 11) sc_law_right.nd rfl (by first | exact Or.inl rfl | exact Or.inr rfl) (pe_op op_cat (pv 11) (pe_lst (pa_cons (pe_tup (pa_cons (pe_op (op_own2 AD (hr.mono (by decide))) (pv 7) (pv 7)) (pa_cons (pe_own LA (hr.mono (by decide)) (by rfl) (pa_cons (pv 3) (pa_cons (pv 3) (pa_cons pe_int (pa_cons (pv 1) pa_nil))))) pa_nil))) (pa_cons (pe_tup (pa_cons (pe_op (op_own2 SB (hr.mono (by decide))) (pv 8) (pv 8)) (pa_cons (pe_tup (pa_cons pe_dnewK (pa_cons pe_int pa_nil))) pa_nil))) pa_nil))))) (pss_one (ps_if (pt_not (pt_val (pe_callB (cr_all rfl) (by rfl) T.b_all (by decide +kernel) (pa_cons (pe_lc (own := [("_law_told", 13), ("_law_model", 14)]) (g := gTup K 2 (gCons (gName 13) (gCons (gName 14) gNil))) rfl sc_law_right.nd (pi_list (pv 11)) (blkOk_by (own := [("_law_told", 13), ("_law_model", 14)]) (N := ["_law_rng_here", "_law_q", "_law_names", "_law_first", "_law_handed", "_law_second", "_law_other_handed", "_law_one", "_law_other", "_law_by", "_law_turn", "_law_pairs", "_law_number", "_law_told", "_law_model"]) (sc := defScope s_law_right) (by decide +kernel)) (fun _ _ _ _ _ => (pg_tup rfl (pgs_cons (pg_name (i := 13) sc_law_right.nd rfl (by first | exact Or.inl rfl | exact Or.inr rfl)) (pgs_cons (pg_name (i := 14) sc_law_right.nd rfl (by first | exact Or.inl rfl | exact Or.inr rfl)) pgs_nil)))) (fun _ _ _ _ _ => pts_nil) (fun _ _ _ _ _ => (pe_own LT (hr.mono (by decide)) (by rfl) (pa_cons (pv 13) (pa_cons (pv 14) (pa_cons (pv 1) pa_nil)))))) pa_nil)))) (pss_one (ps_ret pe_bl)) pss_nil))))))) (pss_one (ps_ret (pe_own LW (hr.mono (by decide)) (by rfl) (pa_cons (pv 0) (pa_cons (pv 2) (pa_cons (pe_lst (pa_cons (pe_tup (pa_cons (pv 7) (pa_cons (pv 3) pa_nil))) (pa_cons (pe_tup (pa_cons (pv 8) (pa_cons (pv 5) pa_nil))) pa_nil))) (pa_cons (pv 1) pa_nil)))))))))))))), ?_⟩
  refine body_of 1 h (fun L P ⟨p, e, _⟩ => by rw [e]; rfl) (by decide) fun L P ⟨p, eL, eP⟩ F D hR => ?_
  subst eL
  subst eP
  show At F [.vo (VRng p), .no, .no, .no, .no, .no, .no, .no, .no, .no, .no, .no, .no, .no, .no] _
  refine sq_set (i := 1) (R := RI) (P := IsMod) (Ev.imp (ev_ixLP (R := RI) (PI := fun d => 0 ≤ d ∧ d < 6) (ev_lstD (l := [2, 3, 5, 7, 11, 13]) (by walk_at "es") (by decide)) (ev_draw rfl ev_int (by decide) (by decide)) fun i h => ⟨h.1, h.2⟩) fun q ⟨i, _, e⟩ => List.mem_of_getElem? e) fun q hm => ?_
  have hq := hm.b
  show At F [.vo (VRng p), .va RI q, .no, .no, .no, .no, .no, .no, .no, .no, .no, .no, .no, .no, .no] _
  have en : EvO [.vo (VRng p), .va RI q, .no, .no, .no, .no, .no, .no, .no, .no, .no, .no, .no, .no, .no] (tCall (FSpG (fun p d => VL p RS d) preNames) [] E0 (tCons (tVar 0) (tCons (tOp kAdd (tC (.int 1)) (tCall (FSp RI preDraw) [] E0 (tCons (tVar 0) (tCons (tC (.int 6)) tNil)))) tNil))) (fun p d => VL p RS d) (fun l => l.length ≤ 6 ∧ l.Nodup ∧ ∀ s ∈ l, IsName s) :=
    eo_callP (ea_vo rfl (ea_cons (ev_add ev_int (ev_draw rfl ev_int (by decide) (by decide))) ea_nil)) fun l ⟨l1, e1, v, l2, e2, hv, e3⟩ => by
      subst e3
      subst e2
      subst e1
      obtain ⟨a, b, ha, hb, hv⟩ := hv
      obtain ⟨n, hn⟩ : ∃ n : Nat, v = (n : Int) := ⟨v.toNat, by omega⟩
      exact ⟨⟨0, by simp, rfl, trivial⟩, _, ⟨p, n, by rw [hn], by omega, rfl⟩, fun l hl => ⟨by have := hl.1; omega, hl.2⟩⟩
  refine sq_set (i := 2) (R := RL RS) en.evFL.ev fun ns hns => ?_
  obtain ⟨nl, nd, nn⟩ := hns
  show At F [.vo (VRng p), .va RI q, .va (RL RS) ns, .no, .no, .no, .no, .no, .no, .no, .no, .no, .no, .no, .no] _
  have vi : VoIn [.vo (VRng p), .va RI q, .va (RL RS) ns, .no, .no, .no, .no, .no, .no, .no, .no, .no, .no, .no, .no] [.vo (VRng p), .va (RL RS) ns, .va RI q] [] := ⟨0, by simp, rfl, trivial⟩
  have pd : preDrawn [.vo (VRng p), .va (RL RS) ns, .va RI q] _ := ⟨p, ns, q, rfl, by omega, nd, nn, by omega, by omega, rfl⟩
  refine at_seq (at_drawn2 (i1 := 3) (i2 := 4) (i3 := 5) (i4 := 6) (ea_voD rfl (ea_consD (ev_var rfl) (ea_consD (ev_var rfl) ea_nilD))) vi pd (ea_voD rfl (ea_consD (ev_var rfl) (ea_consD (ev_var rfl) ea_nilD))) vi pd (fun p1 p2 r r' h1 h2 n1 n2 => ?_) (by simp) (by simp) (by simp) (by simp))
  obtain ⟨m1, d1⟩ := r
  obtain ⟨m2, d2⟩ := r'
  obtain ⟨a1, a2, a3, a4, a5, a6⟩ := h1
  obtain ⟨b1, b2, b3, b4, b5, b6⟩ := h2
  dsimp only at a1 a2 a3 a4 a5 a6 b1 b2 b3 b4 b5 b6
  show At F [.vo (VRng p), .va RI q, .va (RL RS) ns, .va (RMod K) m1, .vo (VD p1 RI d1), .va (RMod K) m2, .vo (VD p2 RI d2), .no, .no, .no, .no, .no, .no, .no, .no] _
  obtain ⟨r1, r2, r3⟩ := num_rev b1
  have enr : nrm d2.reverse = nrm d2 := nrm_ext r2.2.1 b1.2.1 r3
  have s1 := drawn_same hm a1 a5 a6
  have s2 := drawn_same hm b1 b5 b6
  have em1 : m1 = (nzs d1, m1.2) := Prod.ext a4 rfl
  have em2 : m2 = (nzs d2, m2.2) := Prod.ext b4 rfl
  rw [← em1] at s1
  rw [← em2] at s2
  have l1 : (nrm d1).length ≤ 6 := nzs_len hm a1 (by omega)
  have l2 : (nrm d2).length ≤ 6 := nzs_len hm b1 (by omega)
  have k1 : ∀ k ∈ keys (nrm d1), k ∈ ns := fun k mk => by
    obtain ⟨y, my, rfl⟩ := List.mem_map.mp mk
    exact a3 y.1 (nrm_nz y my).2.1
  have k2 : ∀ k ∈ keys (nrm d2), k ∈ ns := fun k mk => by
    obtain ⟨y, my, rfl⟩ := List.mem_map.mp mk
    exact b3 y.1 (nrm_nz y my).2.1
  have v1 : VoIn [.vo (VRng p), .va RI q, .va (RL RS) ns, .va (RMod K) m1, .vo (VD p1 RI d1), .va (RMod K) m2, .vo (VD p2 RI d2), .no, .no, .no, .no, .no, .no, .no, .no] ([.va RI q, .vo (VD p1 RI d1), .va RI m1.2] ++ []) [] := ⟨4, by simp, rfl, trivial⟩
  refine at_seq (at_asg (R := RT2 K (RSum C) (RSum C)) (P := fun r => r = ((⟨q, nrm d1, m1.2⟩ : SumD), (⟨q, nrm d2, m2.2⟩ : SumD))) (js := [7] ++ [8]) (ev_t2 (ev_make (dvs := []) (D := []) (L := [.va RI q, .vo (VD p1 RI d1), .va RI m1.2]) (P := fun x => x = ⟨q, nrm d1, m1.2⟩) (ea_consD (ev_var rfl) (ea_voD rfl (ea_consD (ev_sndD (ev_var rfl)) ea_nilD))) trivial v1 ⟨q, d1, _, m1.2, rfl, hm, .inr ⟨p1, rfl⟩, a1, a5, a6, rfl⟩)
    (ev_make (dvs := []) (D := []) (L := [.va RI q, .va (RD RI) d2.reverse, .va RI m2.2]) (P := fun x => x = ⟨q, nrm d2.reverse, m2.2⟩) (ea_consD (ev_var rfl) (ea_consD (Ev.imp (ev_dictPD (ev_rev (ev_listItemsOwn (i := 6) rfl))) fun _ e => by rw [e, r1]) (ea_consD (ev_sndD (ev_var rfl)) ea_nilD))) trivial trivial ⟨q, d2.reverse, _, m2.2, rfl, hm, .inl rfl, r2, b5, b6, rfl⟩) fun x y ex ey => by rw [ex, ey, enr]) (eg_2 (eg_name (by exact (by decide : 7 < 15))) fun _ => eg_name (by exact (by decide : 8 < 15))) (fun _ b z => feet_va (feet_va z)) fun r er => ?_)
  subst er
  show At F [.vo (VRng p), .va RI q, .va (RL RS) ns, .va (RMod K) m1, .vo (VD p1 RI d1), .va (RMod K) m2, .vo (VD p2 RI d2), .va (RSum C) ⟨q, nrm d1, m1.2⟩, .va (RSum C) ⟨q, nrm d2, m2.2⟩, .no, .no, .no, .no, .no, .no] _
  have l1 : (⟨q, nrm d1, m1.2⟩ : SumD).ws.length ≤ 6 := l1
  have l2 : (⟨q, nrm d2, m2.2⟩ : SumD).ws.length ≤ 6 := l2
  have k1 : ∀ k ∈ keys (⟨q, nrm d1, m1.2⟩ : SumD).ws, k ∈ ns := k1
  have k2 : ∀ k ∈ keys (⟨q, nrm d2, m2.2⟩ : SumD).ws, k ∈ ns := k2
  generalize (⟨q, nrm d1, m1.2⟩ : SumD) = x at s1 l1 k1 ⊢
  generalize (⟨q, nrm d2, m2.2⟩ : SumD) = y at s2 l2 k2 ⊢
  have ml1 : m1.1.length ≤ 6 := by rw [s1.len]; exact l1
  have ml2 : m2.1.length ≤ 6 := by rw [s2.len]; exact l2
  have xy : x.q = y.q := s1.hq.trans s2.hq.symm
  refine at_seq (at_dclear (i := 4) rfl ?_)
  show At F [.vo (VRng p), .va RI q, .va (RL RS) ns, .va (RMod K) m1, .vo (VD p1 RI []), .va (RMod K) m2, .vo (VD p2 RI d2), .va (RSum C) x, .va (RSum C) y, .no, .no, .no, .no, .no, .no] _
  refine sq_set (i := 9) (R := RL RI) (P := fun l => l.length = 5) (ev_lst (eas_any (ev_draw rfl (ev_var rfl) (by omega) (by omega)) (eas_any (ev_sub (ev_negD ev_int) (ev_draw rfl ev_int (by decide) (by decide))) (eas_any (ev_add (ev_powD ev_int ev_int ⟨by decide, by decide, by decide⟩) (ev_draw rfl ev_int (by decide) (by decide))) (eas_any (ev_sub (ev_negD (ev_powD ev_int ev_int ⟨by decide, by decide, by decide⟩)) (ev_draw rfl ev_int (by decide) (by decide))) (eas_any ev_int eas_len0)))) ) fun l e => by rw [e]; decide) fun bys hby => ?_
  show At F [.vo (VRng p), .va RI q, .va (RL RS) ns, .va (RMod K) m1, .vo (VD p1 RI []), .va (RMod K) m2, .vo (VD p2 RI d2), .va (RSum C) x, .va (RSum C) y, .va (RL RI) bys, .no, .no, .no, .no, .no] _
  refine at_seq (at_for (js := [10]) (R := RI) Unit (fun _ => [.vo (VRng p), .va RI q, .va (RL RS) ns, .va (RMod K) m1, .vo (VD p1 RI []), .va (RMod K) m2, .vo (VD p2 RI d2), .va (RSum C) x, .va (RSum C) y, .va (RL RI) bys, .no, .no, .no, .no, .no]) (fun _ _ => True) () (ei_range1 (n := 2) ev_int rfl (by decide)) trivial (Le.refl _) (fun _ => eg_name) (fun _ _ _ => feet_va) (fun F' le i j s N ex _ hN => ?_) fun _ _ => ?_)
  · show At F' [.vo (VRng p), .va RI q, .va (RL RS) ns, .va (RMod K) m1, .vo (VD p1 RI []), .va (RMod K) m2, .vo (VD p2 RI d2), .va (RSum C) x, .va (RSum C) y, .va (RL RI) bys, .va RI j, .no, .no, .no, .no] _
    refine sq_set (i := 11) (R := RL (RPr K C)) (P := fun l => (∀ r ∈ l, Same r.1 r.2 q) ∧ l.length = 3) (ev_lst (eas_all (ev_t2 (ev_var rfl) (ev_var rfl) fun a b ea eb => by rw [ea, eb]; exact s1) (eas_all (ev_t2 (ev_var rfl) (ev_var rfl) fun a b ea eb => by rw [ea, eb]; exact s2) (eas_all (ev_t2 (ev_own2 (ev_var rfl) (ev_var rfl) ⟨x, y, rfl, s1.good, s2.good, xy, by omega, rfl⟩) (ev_callD (ea_consD (ev_var rfl) (ea_consD (ev_var rfl) (ea_consD ev_int (ea_consD (ev_var rfl) ea_nilD)))) trivial ⟨m1, m2, 1, q, rfl, s1.mdl, s2.mdl, by omega, by omega, by omega, rfl⟩) fun a b ta tb => same_addT s1 s2 1 ta tb) eas_none))) fun l e => by rw [e.2]; decide) fun pr1 hp1 => ?_
    show At F' [.vo (VRng p), .va RI q, .va (RL RS) ns, .va (RMod K) m1, .vo (VD p1 RI []), .va (RMod K) m2, .vo (VD p2 RI d2), .va (RSum C) x, .va (RSum C) y, .va (RL RI) bys, .va RI j, .va (RL (RPr K C)) pr1, .no, .no, .no] _
    have cat : ∀ {Γ : QL.Ctx} {te tb : TE} {l : List (SumD × Mo)} {n m : Nat}, (∀ r ∈ l, Same r.1 r.2 q) ∧ l.length = n → Ev Γ te (RL (RPr K C)) (fun z => z = l) → Ev Γ tb (RL (RPr K C)) (fun l => (∀ r ∈ l, Same r.1 r.2 q) ∧ l.length = m) → n + m ≤ 1000 → Ev Γ (tOp rCat te tb) (RL (RPr K C)) (fun l => (∀ r ∈ l, Same r.1 r.2 q) ∧ l.length = n + m) :=
      fun hl h1 h2 hz => ev_catP (PA := fun r : SumD × Mo => Same r.1 r.2 q) (h1.imp fun z e => by rw [e]; exact hl) h2 hz
    refine sq_set (i := 11) (R := RL (RPr K C)) (cat hp1 (ev_var rfl) (ev_lst (eas_all (ev_t2 (ev_own2 (ev_var rfl) (ev_var rfl) ⟨x, y, rfl, s1.good, s2.good, xy, by omega, rfl⟩) (ev_callD (ea_consD (ev_var rfl) (ea_consD (ev_var rfl) (ea_consD (ev_negD ev_int) (ea_consD (ev_var rfl) ea_nilD)))) trivial ⟨m1, m2, -1, q, rfl, s1.mdl, s2.mdl, by omega, by omega, by omega, rfl⟩) fun a b ta tb => same_addT s1 s2 (-1) ta tb)
      (eas_all (ev_t2 (ev_own1 (ev_var rfl) ⟨x, rfl, s1.good, rfl⟩) (ev_callD (ea_consD (ev_t2D (ev_dnew (R := RI)) ev_int) (ea_consD (ev_var rfl) (ea_consD (ev_negD ev_int) (ea_consD (ev_var rfl) ea_nilD)))) trivial ⟨([], 0), m1, -1, q, rfl, mdl_nil, s1.mdl, by omega, by omega, by show 0 + m1.1.length ≤ 300; omega, rfl⟩) fun a b ta tb => same_mulT s1 (-1) ta tb) eas_none)) fun l e => by rw [e.2]; decide) (by decide)) fun pr2 hp2 => ?_
    show At F' [.vo (VRng p), .va RI q, .va (RL RS) ns, .va (RMod K) m1, .vo (VD p1 RI []), .va (RMod K) m2, .vo (VD p2 RI d2), .va (RSum C) x, .va (RSum C) y, .va (RL RI) bys, .va RI j, .va (RL (RPr K C)) pr2, .no, .no, .no] _
    refine sq_set (i := 11) (R := RL (RPr K C)) (cat hp2 (ev_var rfl) (Ev.imp (ev_lc (RX := RI) (RY := RPr K C) (js := [12]) (xs := bys) (PT := fun _ b => b = true) (PY := fun _ r => Same r.1 r.2 q) (ei_list (ev_var rfl)) (eg_name (by exact (by decide : 12 < 15))) (fun j h => h) (fun a b => feet_va) (fun a => le_set rfl) (nv_no rfl nv_nil) (by omega) (fun _ _ => et_yes)
      fun t _ _ => ev_t2 (ev_ownI (ev_var rfl) (ev_var rfl) ⟨x, t, rfl, s1.good, rfl⟩) (ev_callD (ea_consD (ev_t2D (ev_dnew (R := RI)) ev_int) (ea_consD (ev_var rfl) (ea_consD (ev_var rfl) (ea_consD (ev_var rfl) ea_nilD)))) trivial ⟨([], 0), m1, t, q, rfl, mdl_nil, s1.mdl, by omega, by omega, by show 0 + m1.1.length ≤ 300; omega, rfl⟩) fun a b ta tb => same_mulT s1 t ta tb) fun l pk => ⟨fun r mr => (let ⟨_, _, _, h⟩ := pk.all r mr; h), (pk.lenEq fun _ _ h => by cases h).trans hby⟩) (by decide)) fun pr3 hp3 => ?_
    show At F' [.vo (VRng p), .va RI q, .va (RL RS) ns, .va (RMod K) m1, .vo (VD p1 RI []), .va (RMod K) m2, .vo (VD p2 RI d2), .va (RSum C) x, .va (RSum C) y, .va (RL RI) bys, .va RI j, .va (RL (RPr K C)) pr3, .no, .no, .no] _
    refine sq_set (i := 11) (R := RL (RPr K C)) (cat hp3 (ev_var rfl) (ev_lst (eas_all (ev_t2 (ev_own2 (ev_var rfl) (ev_var rfl) ⟨x, x, rfl, s1.good, s1.good, rfl, by omega, rfl⟩) (ev_callD (ea_consD (ev_var rfl) (ea_consD (ev_var rfl) (ea_consD ev_int (ea_consD (ev_var rfl) ea_nilD)))) trivial ⟨m1, m1, 1, q, rfl, s1.mdl, s1.mdl, by omega, by omega, by omega, rfl⟩) fun a b ta tb => same_addT s1 s1 1 ta tb)
      (eas_all (ev_t2 (ev_own2 (ev_var rfl) (ev_var rfl) ⟨y, y, rfl, s2.good, s2.good, rfl, by omega, rfl⟩) (ev_t2D (ev_dnew (R := RI)) ev_int) fun a b ta tb => by rw [tb]; exact same_zero s2 ta) eas_none)) fun l e => by rw [e.2]; decide) (by decide)) fun pr4 hp4 => ?_
    show At F' [.vo (VRng p), .va RI q, .va (RL RS) ns, .va (RMod K) m1, .vo (VD p1 RI []), .va (RMod K) m2, .vo (VD p2 RI d2), .va (RSum C) x, .va (RSum C) y, .va (RL RI) bys, .va RI j, .va (RL (RPr K C)) pr4, .no, .no, .no] _
    refine at_ifD (et_notD (et_valD (ev_c1 (P := fun b => b = true) (ev_lc (RX := RPr K C) (RY := RB) (js := [13, 14]) (xs := pr4) (PT := fun _ b => b = true) (PY := fun _ b => b = true) (ei_list (ev_var rfl)) (eg_2 (eg_name (by exact (by decide : 13 < 15))) fun a => eg_name (by exact (by decide : 14 < 15))) (fun j h => h) (fun a b z => feet_va (feet_va z)) (fun a => le_set2 rfl rfl) (nv_no rfl (nv_no rfl nv_nil)) (by rw [hp4.2]; decide) (fun _ _ => et_yes)
      fun r mr _ => ev_callD (P := fun b => b = true) (ea_consD (ev_var rfl) (ea_consD (ev_var rfl) (ea_consD (ev_var rfl) ea_nilD))) trivial ⟨r.1, r.2, q, rfl, hp4.1 r mr, rfl⟩) (c_all fun l pk => List.all_eq_true.mpr fun b mb => (let ⟨_, _, _, h⟩ := pk.all b mb; h))))) (fun hc => by cases hc) fun _ => (hN () trivial).le (by walk_at "le")
  · refine at_ret hR (ev_callD (P := fun b => b = true) (L := [.vo (VRng p), .va (RL RS) ns, .va (RL (RPr K C)) [(x, m1), (y, m2)], .va RI q]) (ea_voD rfl (ea_consD (ev_var rfl) (ea_consD (ev_lstD (eas_consD (ev_t2D (ev_var rfl) (ev_var rfl)) (eas_consD (ev_t2D (ev_var rfl) (ev_var rfl)) eas_nilD)) (by simp)) (ea_consD (ev_var rfl) ea_nilD)))) ⟨0, by simp, rfl, trivial⟩ ⟨p, ns, _, q, rfl, nl, nd, nn, hm, fun r mr => ?_, rfl⟩) (fun W z => ⟨0, by simp at z; rw [z]; rfl⟩) fun _ e => e
    simp at mr
    rcases mr with rfl | rfl
    · exact ⟨s1, l1, k1⟩
    · exact ⟨s2, l2, k2⟩
end
end K11

set_option Elab.async false
set_option linter.all false
set_option maxRecDepth 100000
namespace K11
open PySem L2 QL
local macro_rules | `(tactic| walk_at "side") => `(tactic| first
  | decide | omega | exact Or.inl ⟨by omega, by omega⟩ | exact Or.inr ⟨by omega, by omega⟩ | exact ⟨by omega, by omega⟩ | exact ⟨by omega, by omega, by omega⟩ | assumption)
local macro_rules | `(tactic| walk_at "ev") => `(tactic| first
  | (((with_reducible refine' ev_var ?k1); (case k1 => exact rfl)))
  | with_reducible exact ev_int
  | with_reducible exact ev_str
  | with_reducible exact ev_bl
  | with_reducible exact ev_non
  | with_reducible exact ev_ty
  | ((with_reducible refine' ev_addD ?k1 ?k2); (case k1 => walk_at "ev"); (case k2 => walk_at "ev"))
  | ((with_reducible refine' ev_subD ?k1 ?k2); (case k1 => walk_at "ev"); (case k2 => walk_at "ev"))
  | ((with_reducible refine' ev_ltD ?k1 ?k2); (case k1 => walk_at "ev"); (case k2 => walk_at "ev"))
  | ((with_reducible refine' ev_leD ?k1 ?k2); (case k1 => walk_at "ev"); (case k2 => walk_at "ev"))
  | ((with_reducible refine' ev_gtD ?k1 ?k2); (case k1 => walk_at "ev"); (case k2 => walk_at "ev"))
  | ((with_reducible refine' ev_geD ?k1 ?k2); (case k1 => walk_at "ev"); (case k2 => walk_at "ev"))
  | ((with_reducible refine' ev_eqID ?k1 ?k2); (case k1 => walk_at "ev"); (case k2 => walk_at "ev"))
  | ((with_reducible refine' ev_neID ?k1 ?k2); (case k1 => walk_at "ev"); (case k2 => walk_at "ev"))
  | ((with_reducible refine' ev_eqSD ?k1 ?k2); (case k1 => walk_at "ev"); (case k2 => walk_at "ev"))
  | ((with_reducible refine' ev_neSD ?k1 ?k2); (case k1 => walk_at "ev"); (case k2 => walk_at "ev"))
  | ((with_reducible refine' ev_maxD ?k1 ?k2); (case k1 => walk_at "ev"); (case k2 => walk_at "ev"))
  | ((with_reducible refine' ev_minD ?k1 ?k2); (case k1 => walk_at "ev"); (case k2 => walk_at "ev"))
  | ((with_reducible refine' ev_t2D ?k1 ?k2); (case k1 => walk_at "ev"); (case k2 => walk_at "ev"))
  | ((with_reducible refine' ev_mulD ?k1 ?k2 ?k3); (case k1 => walk_at "ev"); (case k2 => walk_at "ev"); (case k3 => walk_at "side"))
  | ((with_reducible refine' ev_divD ?k1 ?k2 ?k3); (case k1 => walk_at "ev"); (case k2 => walk_at "ev"); (case k3 => walk_at "side"))
  | ((with_reducible refine' ev_modD ?k1 ?k2 ?k3); (case k1 => walk_at "ev"); (case k2 => walk_at "ev"); (case k3 => walk_at "side"))
  | ((with_reducible refine' ev_powD ?k1 ?k2 ?k3); (case k1 => walk_at "ev"); (case k2 => walk_at "ev"); (case k3 => walk_at "side"))
  | ((with_reducible refine' ev_catSD ?k1 ?k2 ?k3); (case k1 => walk_at "ev"); (case k2 => walk_at "ev"); (case k3 => walk_at "side"))
  | ((with_reducible refine' ev_stripD ?k1 ?k2 ?k3); (case k1 => walk_at "ev"); (case k2 => walk_at "ev"); (case k3 => walk_at "side"))
  | ((with_reducible refine' ev_divmodD ?k1 ?k2 ?k3); (case k1 => walk_at "ev"); (case k2 => walk_at "ev"); (case k3 => walk_at "side"))
  | ((with_reducible refine' ev_intD ?k1); (case k1 => walk_at "ev"))
  | ((with_reducible refine' ev_absD ?k1); (case k1 => walk_at "ev"))
  | ((with_reducible refine' ev_negD ?k1); (case k1 => walk_at "ev"))
  | ((with_reducible refine' ev_lenLD ?k1); (case k1 => walk_at "ev"))
  | ((with_reducible refine' ev_lenScrD ?k1); (case k1 => walk_at "ev"))
  | ((with_reducible refine' ev_lenDD ?k1); (case k1 => walk_at "ev"))
  | ((with_reducible refine' ev_fstD ?k1); (case k1 => walk_at "ev"))
  | ((with_reducible refine' ev_sndD ?k1); (case k1 => walk_at "ev"))
  | ((with_reducible refine' ev_notVD ?k1); (case k1 => walk_at "ev"))
  | ((with_reducible refine' ev_listLD ?k1); (case k1 => walk_at "ev"))
  | ((with_reducible refine' ev_listDD ?k1); (case k1 => walk_at "ev"))
  | ((with_reducible refine' ev_dictDD ?k1); (case k1 => walk_at "ev"))
  | ((with_reducible refine' ev_dictPD ?k1); (case k1 => walk_at "ev"))
  | ((with_reducible refine' ev_allD ?k1); (case k1 => walk_at "ev"))
  | ((with_reducible refine' ev_anyD ?k1); (case k1 => walk_at "ev"))
  | ((with_reducible refine' ev_sumD ?k1); (case k1 => walk_at "ev"))
  | ((with_reducible refine' ev_dinD ?k1 (ed_knownD ?k2)); (case k1 => walk_at "ev"); (case k2 => walk_at "ev"))
  | (refine' ev_dget2D (ed_knownD ?k1) ?k2 ?k3; (case k1 => walk_at "ev"); (case k2 => walk_at "ev"); (case k3 => walk_at "ev")))
local macro_rules | `(tactic| walk_at "et") => `(tactic| first
  | (refine' et_testD ?k1; (case k1 => walk_at "ev")) | (refine' et_valD ?k1; (case k1 => walk_at "ev")) | (refine' et_notD ?k1; (case k1 => walk_at "et")))
local macro_rules | `(tactic| walk_at "ea") => `(tactic| first
  | exact ea_nilD | ((refine' ea_consD ?k1 ?k2); (case k1 => walk_at "ev"); (case k2 => walk_at "ea")) | (refine' ea_voD rfl ?k1; (case k1 => walk_at "ea")))
local macro_rules | `(tactic| walk_at "es") => `(tactic| first
  | exact eas_nilD | ((refine' eas_consD ?k1 ?k2); (case k1 => walk_at "ev"); (case k2 => walk_at "es")))
local macro_rules | `(tactic| walk_at "set") => `(tactic| (first | refine' sq_setD ?k1 ?k2 | refine' at_setD ?k1 ?k2); (case k1 => walk_at "ev"))
local macro_rules | `(tactic| walk_at "le") => `(tactic| first | exact le_nil | (refine le_same ?_; walk_at "le") | (refine le_drop ?_; walk_at "le"))

section
variable {P : Program} {w : World} {K : PySem.W.Frag} {mg : Str → Option Value} {base : Heap} {C : Addr}
abbrev OwnLG (P : Program) (w : World) (K : PySem.W.Frag) (mg : Str → Option Value) (base : Heap) : Prop := Own P w K mg base "_law_rng" ["_law_script", "_law_k"] 1 (FSpG WRng (preRng K))
abbrev OwnLX (P : Program) (w : World) (K : PySem.W.Frag) (mg : Str → Option Value) (base : Heap) : Prop := Own P w K mg base "_law_right" ["_law_rng_here"] 9 (FSp RB preLX)

theorem sc_law : FnScope ["_law_script", "_law_k", "_law_rng_here", "_law_turn"] ["_law_script"] (defScope s_law) := ⟨rfl, rfl, rfl, by decide +kernel, rfl, by decide +kernel, by decide +kernel⟩
def preLaw (K : PySem.W.Frag) (L : List Slot) (P : Bool → Prop) : Prop := ∃ (s : List Int), L = [.va (RScr K) s] ∧ P = fun b => b = true
theorem ok_law {f : Addr} {fd : FuncData} (F : Fun K "law" "law" s_law f fd) (T : Txt K mg) (LG : OwnLG P w K mg base) (LX : OwnLX P w K mg base) : FnOk P w K mg base CX0 10 f fd ["_law_script"] (FSp RB (preLaw K)) := by
  refine F.ok sc_law (fsp_len (n := 1) fun L P ⟨s, e, _⟩ => by rw [e]; rfl) (fun cdv A outer s H vs Q E hr h => ?_)
  refine ⟨_, (pss_cons (ps_for PassesOwn.never rfl (pi_range1 (by rfl) T.b_range (pa_cons (pe_callB (clMax rfl) (by rfl) T.b_max (by decide +kernel) (pa_cons pe_int (pa_cons (pe_callB (clMin rfl) (by rfl) T.b_min (by decide +kernel) (pa_cons pe_int (pa_cons (pe_callB clLen (by rfl) T.b_len (by decide +kernel) (pa_cons (pv 0) pa_nil)) pa_nil))) pa_nil))) pa_nil)) (pg_name (i := 1) sc_law.nd rfl (by first | exact Or.inl rfl | exact Or.inr rfl)) (pss_cons (ps_set (i := 2) sc_law.nd rfl (by first | exact Or.inl rfl | exact Or.inr rfl) (pe_own LG (hr.mono (by decide)) (by rfl) (pa_cons (pv 0) (pa_cons (pv 1) pa_nil)))) (pss_one (ps_for PassesOwn.never rfl (pi_range1 (by rfl) T.b_range (pa_cons pe_int pa_nil)) (pg_name (i := 3) sc_law.nd rfl (by first | exact Or.inl rfl | exact Or.inr rfl)) (pss_one (ps_if (pt_not (pt_val (pe_own LX (hr.mono (by decide)) (by rfl) (pa_cons (pv 2) pa_nil)))) (pss_one (ps_ret pe_bl)) pss_nil)))))) (pss_one (ps_ret pe_bl))), ?_⟩
  refine body_of 1 h (fun L P ⟨s, e, _⟩ => by rw [e]; rfl) (by decide) fun L P ⟨s, eL, eP⟩ F D hR => ?_
  subst eL
  subst eP
  show At F [.va (RScr K) s, .no, .no, .no] _
  obtain ⟨n, hn, h3⟩ : ∃ n : Nat, (if (if (s.length : Int) < 3 then (s.length : Int) else 3) > 1 then (if (s.length : Int) < 3 then (s.length : Int) else 3) else 1) = (n : Int) ∧ n ≤ 3 := by
    refine ⟨(if (if (s.length : Int) < 3 then (s.length : Int) else 3) > 1 then (if (s.length : Int) < 3 then (s.length : Int) else 3) else 1).toNat, ?_, ?_⟩ <;> (repeat' split) <;> omega
  refine at_seq (at_for (js := [1]) (R := RI) Unit (fun _ => [.va (RScr K) s, .no, .no, .no]) (fun _ _ => True) () (ei_range1 (n := n) (ev_maxD ev_int (ev_minD ev_int (ev_lenScrD (ev_var rfl)))) hn (by omega)) trivial (Le.refl _) (fun _ => eg_name) (fun _ _ _ => feet_va) (fun F' le i j s' N ex _ hN => ?_) fun _ _ => ?_)
  · obtain ⟨rfl, hi⟩ := upto_get ex
    show At F' [.va (RScr K) s, .va RI (i : Int), .no, .no] _
    refine sq_setO (i := 2) (W := WRng) one_rng (eo_call (P := fun _ => True) (ea_consD (ev_var rfl) (ea_consD (ev_var rfl) ea_nilD)) trivial ⟨s, i, rfl, by omega, rfl⟩) fun p _ _ np => ?_
    show At F' [.va (RScr K) s, .va RI (i : Int), .vo (VRng p), .no] _
    refine at_for (js := [3]) (R := RI) Unit (fun _ => [.va (RScr K) s, .va RI (i : Int), .vo (VRng p), .no]) (fun _ _ => True) () (ei_range1 (n := 3) ev_int rfl (by decide)) trivial (Le.refl _) (fun _ => eg_name) (fun _ _ _ => feet_va) (fun F2 le2 i2 j2 s2 N2 ex2 _ hN2 => ?_) fun _ _ => (hN () trivial).le (by walk_at "le")
    show At F2 [.va (RScr K) s, .va RI (i : Int), .vo (VRng p), .va RI j2] _
    exact at_ifD (et_notD (et_valD (ev_callD (P := fun b => b = true) (ea_voD rfl ea_nilD) ⟨2, by simp, rfl, trivial⟩ ⟨p, rfl, rfl⟩))) (fun hc => by cases hc) fun _ => (hN2 () trivial).le (by walk_at "le")
  · exact at_retD hR ev_bl (fun W z => by simp at z) rfl
end
end K11

set_option Elab.async false
set_option linter.all false
set_option maxRecDepth 100000
set_option maxHeartbeats 0
namespace K11
open PySem L2 QL
theorem all_mk {l : PySem.W.OpenLaw} {w : World} {K : PySem.W.Frag} {h : Heap} {mg : Str → Option Value} {fa : Addr} (X : K.In h) (G : h.Ns mainGlobals mg) (hfa : mg "law" = some (.ref fa)) {C pr Td fF0 fF1 fF2 fF3 fF4 fF5 fF6 fF7 fF8 fF9 fF10 fF11 fF12 fF13 fF14 fF15 fF16 fF17 fF18 fF19 fF20 fI fM0 fM1 fM2 fM3 fM4 fM5 fM6 fM7 fM8 pp0 fP0 pp1 fP1 pp2 fP2 : Addr} {ocT ocF0 kVF0 dcF0 pmF0 cdF0 ctF0 ocF1 kVF1 dcF1 pmF1 cdF1 ctF1 ocF2 kVF2 dcF2 pmF2 cdF2 ctF2 ocF3 kVF3 dcF3 pmF3 cdF3 ctF3 ocF4 kVF4 dcF4 pmF4 cdF4 ctF4 ocF5 kVF5 dcF5 pmF5 cdF5 ctF5 ocF6 kVF6 dcF6 pmF6 cdF6 ctF6 ocF7 kVF7 dcF7 pmF7 cdF7 ctF7 ocF8 kVF8 dcF8 pmF8 cdF8 ctF8 ocF9 kVF9 dcF9 pmF9 cdF9 ctF9 ocF10 kVF10 dcF10 pmF10 cdF10 ctF10 ocF11 kVF11 dcF11 pmF11 cdF11 ctF11 ocF12 kVF12 dcF12 pmF12 cdF12 ctF12 ocF13 kVF13 dcF13 pmF13 cdF13 ctF13 ocF14 kVF14 dcF14 pmF14 cdF14 ctF14 ocF15 kVF15 dcF15 pmF15 cdF15 ctF15 ocF16 kVF16 dcF16 pmF16 cdF16 ctF16 ocF17 kVF17 dcF17 pmF17 cdF17 ctF17 ocF18 kVF18 dcF18 pmF18 cdF18 ctF18 ocF19 kVF19 dcF19 pmF19 cdF19 ctF19 ocF20 kVF20 dcF20 pmF20 cdF20 ctF20 ocI kVI dcI pmI cdI ctI ocM0 kVM0 dcM0 pmM0 cdM0 ctM0 ocM1 kVM1 dcM1 pmM1 cdM1 ctM1 ocM2 kVM2 dcM2 pmM2 cdM2 ctM2 ocM3 kVM3 dcM3 pmM3 cdM3 ctM3 ocM4 kVM4 dcM4 pmM4 cdM4 ctM4 ocM5 kVM5 dcM5 pmM5 cdM5 ctM5 ocM6 kVM6 dcM6 pmM6 cdM6 ctM6 ocM7 kVM7 dcM7 pmM7 cdM7 ctM7 ocM8 kVM8 dcM8 pmM8 cdM8 ctM8 ocP0 kVP0 dcP0 pmP0 cdP0 ctP0 ocP1 kVP1 dcP1 pmP1 cdP1 ctP1 ocP2 kVP2 dcP2 pmP2 cdP2 ctP2 : Value} {odP odT odF0 anF0 odF1 anF1 odF2 anF2 odF3 anF3 odF4 anF4 odF5 anF5 odF6 anF6 odF7 anF7 odF8 anF8 odF9 anF9 odF10 anF10 odF11 anF11 odF12 anF12 odF13 anF13 odF14 anF14 odF15 anF15 odF16 anF16 odF17 anF17 odF18 anF18 odF19 anF19 odF20 anF20 odI anI odM0 anM0 odM1 anM1 odM2 anM2 odM3 anM3 odM4 anM4 odM5 anM5 odM6 anM6 odM7 anM7 odM8 anM8 odP0 anP0 odP1 anP1 odP2 anP2 : Option Addr} {slP slT slF0 slF1 slF2 slF3 slF4 slF5 slF6 slF7 slF8 slF9 slF10 slF11 slF12 slF13 slF14 slF15 slF16 slF17 slF18 slF19 slF20 slI slM0 slM1 slM2 slM3 slM4 slM5 slM6 slM7 slM8 slP0 slP1 slP2 : Array (Option Value)} {rest0 rest1 rest2 : List Value} {fo ro : Option Value} {nP nT : Nat} {t1 t2 t3 t4 t5 t6 tL tS tN tT : Tok}
    (aC : PySem.W.nsIn K mainGlobals "Sum" = some (some (.ref C)))
    (aF0 : PySem.W.nsIn K mainGlobals "is_integer" = some (some (.ref fF0)))
    (lF0 : K.lookup fF0 = some ⟨ocF0, odF0, .func (PySem.W.fnOf "is_integer" "is_integer" (defArgs s_is_integer) (defBody s_is_integer) (defScope s_is_integer) .none kVF0 dcF0 pmF0 anF0 cdF0 ctF0), slF0⟩)
    (cF0 : PySem.W.codeIn K cdF0 "is_integer" = true)
    (kF0 : PySem.W.keepIn K (.ref fF0) = true)
    (aF1 : PySem.W.nsIn K mainGlobals "is_number" = some (some (.ref fF1)))
    (lF1 : K.lookup fF1 = some ⟨ocF1, odF1, .func (PySem.W.fnOf "is_number" "is_number" (defArgs s_is_number) (defBody s_is_number) (defScope s_is_number) .none kVF1 dcF1 pmF1 anF1 cdF1 ctF1), slF1⟩)
    (cF1 : PySem.W.codeIn K cdF1 "is_number" = true)
    (kF1 : PySem.W.keepIn K (.ref fF1) = true)
    (aF2 : PySem.W.nsIn K mainGlobals "is_name" = some (some (.ref fF2)))
    (lF2 : K.lookup fF2 = some ⟨ocF2, odF2, .func (PySem.W.fnOf "is_name" "is_name" (defArgs s_is_name) (defBody s_is_name) (defScope s_is_name) .none kVF2 dcF2 pmF2 anF2 cdF2 ctF2), slF2⟩)
    (cF2 : PySem.W.codeIn K cdF2 "is_name" = true)
    (kF2 : PySem.W.keepIn K (.ref fF2) = true)
    (aF3 : PySem.W.nsIn K mainGlobals "is_world" = some (some (.ref fF3)))
    (lF3 : K.lookup fF3 = some ⟨ocF3, odF3, .func (PySem.W.fnOf "is_world" "is_world" (defArgs s_is_world) (defBody s_is_world) (defScope s_is_world) .none kVF3 dcF3 pmF3 anF3 cdF3 ctF3), slF3⟩)
    (cF3 : PySem.W.codeIn K cdF3 "is_world" = true)
    (kF3 : PySem.W.keepIn K (.ref fF3) = true)
    (aF4 : PySem.W.nsIn K mainGlobals "require_modulus" = some (some (.ref fF4)))
    (lF4 : K.lookup fF4 = some ⟨ocF4, odF4, .func (PySem.W.fnOf "require_modulus" "require_modulus" (defArgs s_require_modulus) (defBody s_require_modulus) (defScope s_require_modulus) .none kVF4 dcF4 pmF4 anF4 cdF4 ctF4), slF4⟩)
    (cF4 : PySem.W.codeIn K cdF4 "require_modulus" = true)
    (kF4 : PySem.W.keepIn K (.ref fF4) = true)
    (aF5 : PySem.W.nsIn K mainGlobals "is_sum" = some (some (.ref fF5)))
    (lF5 : K.lookup fF5 = some ⟨ocF5, odF5, .func (PySem.W.fnOf "is_sum" "is_sum" (defArgs s_is_sum) (defBody s_is_sum) (defScope s_is_sum) .none kVF5 dcF5 pmF5 anF5 cdF5 ctF5), slF5⟩)
    (cF5 : PySem.W.codeIn K cdF5 "is_sum" = true)
    (kF5 : PySem.W.keepIn K (.ref fF5) = true)
    (aF6 : PySem.W.nsIn K mainGlobals "_require_addend" = some (some (.ref fF6)))
    (lF6 : K.lookup fF6 = some ⟨ocF6, odF6, .func (PySem.W.fnOf "_require_addend" "_require_addend" (defArgs s_require_addend) (defBody s_require_addend) (defScope s_require_addend) .none kVF6 dcF6 pmF6 anF6 cdF6 ctF6), slF6⟩)
    (cF6 : PySem.W.codeIn K cdF6 "_require_addend" = true)
    (kF6 : PySem.W.keepIn K (.ref fF6) = true)
    (aF7 : PySem.W.nsIn K mainGlobals "_is_sum_world" = some (some (.ref fF7)))
    (lF7 : K.lookup fF7 = some ⟨ocF7, odF7, .func (PySem.W.fnOf "_is_sum_world" "_is_sum_world" (defArgs s_is_sum_world) (defBody s_is_sum_world) (defScope s_is_sum_world) .none kVF7 dcF7 pmF7 anF7 cdF7 ctF7), slF7⟩)
    (cF7 : PySem.W.codeIn K cdF7 "_is_sum_world" = true)
    (kF7 : PySem.W.keepIn K (.ref fF7) = true)
    (aF8 : PySem.W.nsIn K mainGlobals "_taken_modulo" = some (some (.ref fF8)))
    (lF8 : K.lookup fF8 = some ⟨ocF8, odF8, .func (PySem.W.fnOf "_taken_modulo" "_taken_modulo" (defArgs s_taken_modulo) (defBody s_taken_modulo) (defScope s_taken_modulo) .none kVF8 dcF8 pmF8 anF8 cdF8 ctF8), slF8⟩)
    (cF8 : PySem.W.codeIn K cdF8 "_taken_modulo" = true)
    (kF8 : PySem.W.keepIn K (.ref fF8) = true)
    (aF9 : PySem.W.nsIn K mainGlobals "_added" = some (some (.ref fF9)))
    (lF9 : K.lookup fF9 = some ⟨ocF9, odF9, .func (PySem.W.fnOf "_added" "_added" (defArgs s_added) (defBody s_added) (defScope s_added) .none kVF9 dcF9 pmF9 anF9 cdF9 ctF9), slF9⟩)
    (cF9 : PySem.W.codeIn K cdF9 "_added" = true)
    (kF9 : PySem.W.keepIn K (.ref fF9) = true)
    (aF10 : PySem.W.nsIn K mainGlobals "_law_rng" = some (some (.ref fF10)))
    (lF10 : K.lookup fF10 = some ⟨ocF10, odF10, .func (PySem.W.fnOf "_law_rng" "_law_rng" (defArgs s_law_rng) (defBody s_law_rng) (defScope s_law_rng) .none kVF10 dcF10 pmF10 anF10 cdF10 ctF10), slF10⟩)
    (cF10 : PySem.W.codeIn K cdF10 "_law_rng" = true)
    (kF10 : PySem.W.keepIn K (.ref fF10) = true)
    (aF11 : PySem.W.nsIn K mainGlobals "_law_draw" = some (some (.ref fF11)))
    (lF11 : K.lookup fF11 = some ⟨ocF11, odF11, .func (PySem.W.fnOf "_law_draw" "_law_draw" (defArgs s_law_draw) (defBody s_law_draw) (defScope s_law_draw) .none kVF11 dcF11 pmF11 anF11 cdF11 ctF11), slF11⟩)
    (cF11 : PySem.W.codeIn K cdF11 "_law_draw" = true)
    (kF11 : PySem.W.keepIn K (.ref fF11) = true)
    (aF12 : PySem.W.nsIn K mainGlobals "_law_some_names" = some (some (.ref fF12)))
    (lF12 : K.lookup fF12 = some ⟨ocF12, odF12, .func (PySem.W.fnOf "_law_some_names" "_law_some_names" (defArgs s_law_some_names) (defBody s_law_some_names) (defScope s_law_some_names) .none kVF12 dcF12 pmF12 anF12 cdF12 ctF12), slF12⟩)
    (cF12 : PySem.W.codeIn K cdF12 "_law_some_names" = true)
    (kF12 : PySem.W.keepIn K (.ref fF12) = true)
    (aF13 : PySem.W.nsIn K mainGlobals "_law_drawn" = some (some (.ref fF13)))
    (lF13 : K.lookup fF13 = some ⟨ocF13, odF13, .func (PySem.W.fnOf "_law_drawn" "_law_drawn" (defArgs s_law_drawn) (defBody s_law_drawn) (defScope s_law_drawn) .none kVF13 dcF13 pmF13 anF13 cdF13 ctF13), slF13⟩)
    (cF13 : PySem.W.codeIn K cdF13 "_law_drawn" = true)
    (kF13 : PySem.W.keepIn K (.ref fF13) = true)
    (aF14 : PySem.W.nsIn K mainGlobals "_law_added" = some (some (.ref fF14)))
    (lF14 : K.lookup fF14 = some ⟨ocF14, odF14, .func (PySem.W.fnOf "_law_added" "_law_added" (defArgs s_law_added) (defBody s_law_added) (defScope s_law_added) .none kVF14 dcF14 pmF14 anF14 cdF14 ctF14), slF14⟩)
    (cF14 : PySem.W.codeIn K cdF14 "_law_added" = true)
    (kF14 : PySem.W.keepIn K (.ref fF14) = true)
    (aF15 : PySem.W.nsIn K mainGlobals "_law_replaced" = some (some (.ref fF15)))
    (lF15 : K.lookup fF15 = some ⟨ocF15, odF15, .func (PySem.W.fnOf "_law_replaced" "_law_replaced" (defArgs s_law_replaced) (defBody s_law_replaced) (defScope s_law_replaced) .none kVF15 dcF15 pmF15 anF15 cdF15 ctF15), slF15⟩)
    (cF15 : PySem.W.codeIn K cdF15 "_law_replaced" = true)
    (kF15 : PySem.W.keepIn K (.ref fF15) = true)
    (aF16 : PySem.W.nsIn K mainGlobals "_law_value" = some (some (.ref fF16)))
    (lF16 : K.lookup fF16 = some ⟨ocF16, odF16, .func (PySem.W.fnOf "_law_value" "_law_value" (defArgs s_law_value) (defBody s_law_value) (defScope s_law_value) .none kVF16 dcF16 pmF16 anF16 cdF16 ctF16), slF16⟩)
    (cF16 : PySem.W.codeIn K cdF16 "_law_value" = true)
    (kF16 : PySem.W.keepIn K (.ref fF16) = true)
    (aF17 : PySem.W.nsIn K mainGlobals "_law_tells" = some (some (.ref fF17)))
    (lF17 : K.lookup fF17 = some ⟨ocF17, odF17, .func (PySem.W.fnOf "_law_tells" "_law_tells" (defArgs s_law_tells) (defBody s_law_tells) (defScope s_law_tells) .none kVF17 dcF17 pmF17 anF17 cdF17 ctF17), slF17⟩)
    (cF17 : PySem.W.codeIn K cdF17 "_law_tells" = true)
    (kF17 : PySem.W.keepIn K (.ref fF17) = true)
    (aF18 : PySem.W.nsIn K mainGlobals "_law_values_right" = some (some (.ref fF18)))
    (lF18 : K.lookup fF18 = some ⟨ocF18, odF18, .func (PySem.W.fnOf "_law_values_right" "_law_values_right" (defArgs s_law_values_right) (defBody s_law_values_right) (defScope s_law_values_right) .none kVF18 dcF18 pmF18 anF18 cdF18 ctF18), slF18⟩)
    (cF18 : PySem.W.codeIn K cdF18 "_law_values_right" = true)
    (kF18 : PySem.W.keepIn K (.ref fF18) = true)
    (aF19 : PySem.W.nsIn K mainGlobals "_law_right" = some (some (.ref fF19)))
    (lF19 : K.lookup fF19 = some ⟨ocF19, odF19, .func (PySem.W.fnOf "_law_right" "_law_right" (defArgs s_law_right) (defBody s_law_right) (defScope s_law_right) .none kVF19 dcF19 pmF19 anF19 cdF19 ctF19), slF19⟩)
    (cF19 : PySem.W.codeIn K cdF19 "_law_right" = true)
    (kF19 : PySem.W.keepIn K (.ref fF19) = true)
    (aF20 : PySem.W.nsIn K mainGlobals "law" = some (some (.ref fF20)))
    (lF20 : K.lookup fF20 = some ⟨ocF20, odF20, .func (PySem.W.fnOf "law" "law" (defArgs s_law) (defBody s_law) (defScope s_law) .none kVF20 dcF20 pmF20 anF20 cdF20 ctF20), slF20⟩)
    (cF20 : PySem.W.codeIn K cdF20 "law" = true)
    (kF20 : PySem.W.keepIn K (.ref fF20) = true)
    (aI : PySem.W.findIn K (.ref C) "__init__" = some (some (.ref fI)))
    (iI : PySem.W.isFn K (.ref fI) = true)
    (lI : K.lookup fI = some ⟨ocI, odI, .func (PySem.W.fnOf "__init__" "Sum.__init__" (defArgs sSum_init) (defBody sSum_init) (defScope sSum_init) (.ref Td) kVI dcI pmI anI cdI ctI), slI⟩)
    (cI : PySem.W.codeIn K cdI "Sum.__init__" = true)
    (kI : PySem.W.keepIn K (.ref fI) = true)
    (lT : K.lookup Td = some ⟨ocT, odT, .seq #[.int 0 tT] nT, slT⟩)
    (aM0 : PySem.W.findIn K (.ref C) "weights" = some (some (.ref fM0)))
    (iM0 : PySem.W.isFn K (.ref fM0) = true)
    (lM0 : K.lookup fM0 = some ⟨ocM0, odM0, .func (PySem.W.fnOf "weights" "Sum.weights" (defArgs sSum_weights) (defBody sSum_weights) (defScope sSum_weights) .none kVM0 dcM0 pmM0 anM0 cdM0 ctM0), slM0⟩)
    (cM0 : PySem.W.codeIn K cdM0 "Sum.weights" = true)
    (kM0 : PySem.W.keepIn K (.ref fM0) = true)
    (aM1 : PySem.W.findIn K (.ref C) "names" = some (some (.ref fM1)))
    (iM1 : PySem.W.isFn K (.ref fM1) = true)
    (lM1 : K.lookup fM1 = some ⟨ocM1, odM1, .func (PySem.W.fnOf "names" "Sum.names" (defArgs sSum_names) (defBody sSum_names) (defScope sSum_names) .none kVM1 dcM1 pmM1 anM1 cdM1 ctM1), slM1⟩)
    (cM1 : PySem.W.codeIn K cdM1 "Sum.names" = true)
    (kM1 : PySem.W.keepIn K (.ref fM1) = true)
    (aM2 : PySem.W.findIn K (.ref C) "weight" = some (some (.ref fM2)))
    (iM2 : PySem.W.isFn K (.ref fM2) = true)
    (lM2 : K.lookup fM2 = some ⟨ocM2, odM2, .func (PySem.W.fnOf "weight" "Sum.weight" (defArgs sSum_weight) (defBody sSum_weight) (defScope sSum_weight) .none kVM2 dcM2 pmM2 anM2 cdM2 ctM2), slM2⟩)
    (cM2 : PySem.W.codeIn K cdM2 "Sum.weight" = true)
    (kM2 : PySem.W.keepIn K (.ref fM2) = true)
    (aM3 : PySem.W.findIn K (.ref C) "at" = some (some (.ref fM3)))
    (iM3 : PySem.W.isFn K (.ref fM3) = true)
    (lM3 : K.lookup fM3 = some ⟨ocM3, odM3, .func (PySem.W.fnOf "at" "Sum.at" (defArgs sSum_at) (defBody sSum_at) (defScope sSum_at) .none kVM3 dcM3 pmM3 anM3 cdM3 ctM3), slM3⟩)
    (cM3 : PySem.W.codeIn K cdM3 "Sum.at" = true)
    (kM3 : PySem.W.keepIn K (.ref fM3) = true)
    (aM4 : PySem.W.findIn K (.ref C) "put" = some (some (.ref fM4)))
    (iM4 : PySem.W.isFn K (.ref fM4) = true)
    (lM4 : K.lookup fM4 = some ⟨ocM4, odM4, .func (PySem.W.fnOf "put" "Sum.put" (defArgs sSum_put) (defBody sSum_put) (defScope sSum_put) .none kVM4 dcM4 pmM4 anM4 cdM4 ctM4), slM4⟩)
    (cM4 : PySem.W.codeIn K cdM4 "Sum.put" = true)
    (kM4 : PySem.W.keepIn K (.ref fM4) = true)
    (aM5 : PySem.W.findIn K (.ref C) "__add__" = some (some (.ref fM5)))
    (iM5 : PySem.W.isFn K (.ref fM5) = true)
    (lM5 : K.lookup fM5 = some ⟨ocM5, odM5, .func (PySem.W.fnOf "__add__" "Sum.__add__" (defArgs sSum_add) (defBody sSum_add) (defScope sSum_add) .none kVM5 dcM5 pmM5 anM5 cdM5 ctM5), slM5⟩)
    (cM5 : PySem.W.codeIn K cdM5 "Sum.__add__" = true)
    (kM5 : PySem.W.keepIn K (.ref fM5) = true)
    (aM6 : PySem.W.findIn K (.ref C) "__sub__" = some (some (.ref fM6)))
    (iM6 : PySem.W.isFn K (.ref fM6) = true)
    (lM6 : K.lookup fM6 = some ⟨ocM6, odM6, .func (PySem.W.fnOf "__sub__" "Sum.__sub__" (defArgs sSum_sub) (defBody sSum_sub) (defScope sSum_sub) .none kVM6 dcM6 pmM6 anM6 cdM6 ctM6), slM6⟩)
    (cM6 : PySem.W.codeIn K cdM6 "Sum.__sub__" = true)
    (kM6 : PySem.W.keepIn K (.ref fM6) = true)
    (aM7 : PySem.W.findIn K (.ref C) "__neg__" = some (some (.ref fM7)))
    (iM7 : PySem.W.isFn K (.ref fM7) = true)
    (lM7 : K.lookup fM7 = some ⟨ocM7, odM7, .func (PySem.W.fnOf "__neg__" "Sum.__neg__" (defArgs sSum_neg) (defBody sSum_neg) (defScope sSum_neg) .none kVM7 dcM7 pmM7 anM7 cdM7 ctM7), slM7⟩)
    (cM7 : PySem.W.codeIn K cdM7 "Sum.__neg__" = true)
    (kM7 : PySem.W.keepIn K (.ref fM7) = true)
    (aM8 : PySem.W.findIn K (.ref C) "__mul__" = some (some (.ref fM8)))
    (iM8 : PySem.W.isFn K (.ref fM8) = true)
    (lM8 : K.lookup fM8 = some ⟨ocM8, odM8, .func (PySem.W.fnOf "__mul__" "Sum.__mul__" (defArgs sSum_mul) (defBody sSum_mul) (defScope sSum_mul) .none kVM8 dcM8 pmM8 anM8 cdM8 ctM8), slM8⟩)
    (cM8 : PySem.W.codeIn K cdM8 "Sum.__mul__" = true)
    (kM8 : PySem.W.keepIn K (.ref fM8) = true)
    (aP0 : PySem.W.findIn K (.ref C) "modulus" = some (some (.ref pp0)))
    (gP0 : PySem.W.specialIn K (.ref pp0) "__get__" = some (some (.builtin "property.__get__")))
    (hP0 : PySem.W.takesIn K (.ref pp0) = some true)
    (rP0 : PySem.W.recIn K pp0 "property" = some (.ref fP0 :: rest0))
    (lP0 : K.lookup fP0 = some ⟨ocP0, odP0, .func (PySem.W.fnOf "modulus" "Sum.modulus" (defArgs sSum_modulus) (defBody sSum_modulus) (defScope sSum_modulus) .none kVP0 dcP0 pmP0 anP0 cdP0 ctP0), slP0⟩)
    (cP0 : PySem.W.codeIn K cdP0 "Sum.modulus" = true)
    (kP0 : PySem.W.keepIn K (.ref fP0) = true)
    (aP1 : PySem.W.findIn K (.ref C) "constant" = some (some (.ref pp1)))
    (gP1 : PySem.W.specialIn K (.ref pp1) "__get__" = some (some (.builtin "property.__get__")))
    (hP1 : PySem.W.takesIn K (.ref pp1) = some true)
    (rP1 : PySem.W.recIn K pp1 "property" = some (.ref fP1 :: rest1))
    (lP1 : K.lookup fP1 = some ⟨ocP1, odP1, .func (PySem.W.fnOf "constant" "Sum.constant" (defArgs sSum_constant) (defBody sSum_constant) (defScope sSum_constant) .none kVP1 dcP1 pmP1 anP1 cdP1 ctP1), slP1⟩)
    (cP1 : PySem.W.codeIn K cdP1 "Sum.constant" = true)
    (kP1 : PySem.W.keepIn K (.ref fP1) = true)
    (aP2 : PySem.W.findIn K (.ref C) "is_constant" = some (some (.ref pp2)))
    (gP2 : PySem.W.specialIn K (.ref pp2) "__get__" = some (some (.builtin "property.__get__")))
    (hP2 : PySem.W.takesIn K (.ref pp2) = some true)
    (rP2 : PySem.W.recIn K pp2 "property" = some (.ref fP2 :: rest2))
    (lP2 : K.lookup fP2 = some ⟨ocP2, odP2, .func (PySem.W.fnOf "is_constant" "Sum.is_constant" (defArgs sSum_is_constant) (defBody sSum_is_constant) (defScope sSum_is_constant) .none kVP2 dcP2 pmP2 anP2 cdP2 ctP2), slP2⟩)
    (cP2 : PySem.W.codeIn K cdP2 "Sum.is_constant" = true)
    (kP2 : PySem.W.keepIn K (.ref fP2) = true)
    (pg : PySem.W.plainGet K C Str.empty = true)
    (hd : PySem.W.hasDictIn K C = true)
    (po : PySem.W.plainOver K C = true)
    (sa : PySem.W.findIn K (.ref C) "__setattr__" = some (some (.builtin "object.__setattr__")))
    (mk : PySem.W.makesIn K C = true)
    (kc : PySem.W.keepIn K (.ref C) = true)
    (sf : PySem.W.selfFirst K C = true)
    (nm : PySem.W.findIn K (.ref C) "_modulus" = some none)
    (nw : PySem.W.findIn K (.ref C) "_weights" = some none)
    (nc : PySem.W.findIn K (.ref C) "_constant" = some none)
    (j1 : PySem.W.findIn K (.ref C) "__class__" = some (some (.builtin "object.__class__")))
    (j2 : PySem.W.specialIn K (.builtin "object.__class__") "__get__" = some (some (.builtin "getset_descriptor.__get__")))
    (j3 : PySem.W.takesIn K (.builtin "object.__class__") = some true)
    (j4 : PySem.W.mroIn K C (.type "object") = some true)
    (o1 : PySem.W.findIn K (.ref C) "__rmul__" = some none)
    (o2 : PySem.W.findIn K (.type "int") "__mul__" = some fo)
    (o3 : PySem.W.findIn K (.type "int") "__rmul__" = some ro)
    (o4 : PySem.W.subIn K (.type "int") (.ref C) = some false)
    (aP : PySem.W.nsIn K mainGlobals "PRIMES" = some (some (.ref pr)))
    (lP : K.lookup pr = some ⟨.type "tuple", odP, .seq #[.int 2 t1, .int 3 t2, .int 5 t3, .int 7 t4, .int 11 t5, .int 13 t6] nP, slP⟩)
    (aL : PySem.W.nsIn K mainGlobals "LETTERS" = some (some (.str LETTERS tL)))
    (aS : PySem.W.nsIn K mainGlobals "NAME_SIGNS" = some (some (.str SIGNS tS)))
    (aN : PySem.W.nsIn K mainGlobals "LONGEST_NAME" = some (some (.int 12 tN)))
    (z_len : PySem.W.nsIn K mainGlobals "len" = some none)
    (z_range : PySem.W.nsIn K mainGlobals "range" = some none)
    (z_abs : PySem.W.nsIn K mainGlobals "abs" = some none)
    (z_max : PySem.W.nsIn K mainGlobals "max" = some none)
    (z_min : PySem.W.nsIn K mainGlobals "min" = some none)
    (z_int : PySem.W.nsIn K mainGlobals "int" = some none)
    (z_isinstance : PySem.W.nsIn K mainGlobals "isinstance" = some none)
    (z_list : PySem.W.nsIn K mainGlobals "list" = some none)
    (z_dict : PySem.W.nsIn K mainGlobals "dict" = some none)
    (z_sorted : PySem.W.nsIn K mainGlobals "sorted" = some none)
    (z_sum : PySem.W.nsIn K mainGlobals "sum" = some none)
    (z_all : PySem.W.nsIn K mainGlobals "all" = some none)
    (z_divmod : PySem.W.nsIn K mainGlobals "divmod" = some none)
    (z_str : PySem.W.nsIn K mainGlobals "str" = some none)
    (z_bool : PySem.W.nsIn K mainGlobals "bool" = some none) :
    ∃ fd : FuncData, (∀ (s : Shared) (v : Value), BindsTo s fd ⟨[v], []⟩ [("_law_script", v)]) ∧ ∀ base : Heap, K.In base → base.Ns mainGlobals mg → FnOk l.prog w K mg base CX0 10 fa fd ["_law_script"] (FSp RB (preLaw K)) := by
  have e := hfa.symm.trans (PySem.W.mg_of X G aF20)
  cases e
  have T : Txt K mg := ⟨PySem.W.mg_none_of X G z_len, PySem.W.mg_none_of X G z_range, PySem.W.mg_none_of X G z_abs, PySem.W.mg_none_of X G z_max, PySem.W.mg_none_of X G z_min, PySem.W.mg_none_of X G z_int, PySem.W.mg_none_of X G z_isinstance, PySem.W.mg_none_of X G z_list, PySem.W.mg_none_of X G z_dict, PySem.W.mg_none_of X G z_sorted, PySem.W.mg_none_of X G z_sum, PySem.W.mg_none_of X G z_all, PySem.W.mg_none_of X G z_divmod, PySem.W.mg_none_of X G z_str, PySem.W.mg_none_of X G z_bool, ⟨pr, ⟨_, PySem.W.mg_of X G aP, rfl⟩, fun h => .inr ⟨_, _, _, lP, rfl, rfl, by show 6 ≤ sizeLine; decide, .cons ⟨t1, rfl⟩ (.cons ⟨t2, rfl⟩ (.cons ⟨t3, rfl⟩ (.cons ⟨t4, rfl⟩ (.cons ⟨t5, rfl⟩ (.cons ⟨t6, rfl⟩ .nil)))))⟩⟩, ⟨_, PySem.W.mg_of X G aL, ⟨tL, rfl⟩⟩, ⟨_, PySem.W.mg_of X G aS, ⟨tS, rfl⟩⟩, ⟨_, PySem.W.mg_of X G aN, ⟨tN, rfl⟩⟩⟩
  have cls : Cls K C := ⟨pg, hd, po, sa⟩
  have SC : SumC K C := ⟨cls, nm, nw, nc, j1, j2, j3, j4⟩
  have GS : Gv mg "Sum" (.ref C) := ⟨_, PySem.W.mg_of X G aC, rfl⟩
  have F0 := fun_mk (st := s_is_integer) lF0 cF0 kF0
  have bF0 := F0.binds (ps := ["value"]) fun _ _ _ _ _ _ us hl => match us, hl with | [_], _ => rfl
  have F1 := fun_mk (st := s_is_number) lF1 cF1 kF1
  have bF1 := F1.binds (ps := ["modulus", "value"]) fun _ _ _ _ _ _ us hl => match us, hl with | [_, _], _ => rfl
  have F2 := fun_mk (st := s_is_name) lF2 cF2 kF2
  have bF2 := F2.binds (ps := ["value"]) fun _ _ _ _ _ _ us hl => match us, hl with | [_], _ => rfl
  have F3 := fun_mk (st := s_is_world) lF3 cF3 kF3
  have bF3 := F3.binds (ps := ["modulus", "value"]) fun _ _ _ _ _ _ us hl => match us, hl with | [_, _], _ => rfl
  have F4 := fun_mk (st := s_require_modulus) lF4 cF4 kF4
  have bF4 := F4.binds (ps := ["value"]) fun _ _ _ _ _ _ us hl => match us, hl with | [_], _ => rfl
  have F5 := fun_mk (st := s_is_sum) lF5 cF5 kF5
  have bF5 := F5.binds (ps := ["modulus", "value"]) fun _ _ _ _ _ _ us hl => match us, hl with | [_, _], _ => rfl
  have F6 := fun_mk (st := s_require_addend) lF6 cF6 kF6
  have bF6 := F6.binds (ps := ["left", "right"]) fun _ _ _ _ _ _ us hl => match us, hl with | [_, _], _ => rfl
  have F7 := fun_mk (st := s_is_sum_world) lF7 cF7 kF7
  have bF7 := F7.binds (ps := ["modulus", "value"]) fun _ _ _ _ _ _ us hl => match us, hl with | [_, _], _ => rfl
  have F8 := fun_mk (st := s_taken_modulo) lF8 cF8 kF8
  have bF8 := F8.binds (ps := ["modulus", "weights", "constant"]) fun _ _ _ _ _ _ us hl => match us, hl with | [_, _, _], _ => rfl
  have F9 := fun_mk (st := s_added) lF9 cF9 kF9
  have bF9 := F9.binds (ps := ["one", "times", "other"]) fun _ _ _ _ _ _ us hl => match us, hl with | [_, _, _], _ => rfl
  have F10 := fun_mk (st := s_law_rng) lF10 cF10 kF10
  have bF10 := F10.binds (ps := ["_law_script", "_law_k"]) fun _ _ _ _ _ _ us hl => match us, hl with | [_, _], _ => rfl
  have F11 := fun_mk (st := s_law_draw) lF11 cF11 kF11
  have bF11 := F11.binds (ps := ["_law_rng_here", "_law_many"]) fun _ _ _ _ _ _ us hl => match us, hl with | [_, _], _ => rfl
  have F12 := fun_mk (st := s_law_some_names) lF12 cF12 kF12
  have bF12 := F12.binds (ps := ["_law_rng_here", "_law_many"]) fun _ _ _ _ _ _ us hl => match us, hl with | [_, _], _ => rfl
  have F13 := fun_mk (st := s_law_drawn) lF13 cF13 kF13
  have bF13 := F13.binds (ps := ["_law_rng_here", "_law_names", "_law_q"]) fun _ _ _ _ _ _ us hl => match us, hl with | [_, _, _], _ => rfl
  have F14 := fun_mk (st := s_law_added) lF14 cF14 kF14
  have bF14 := F14.binds (ps := ["_law_one", "_law_other", "_law_by", "_law_q"]) fun _ _ _ _ _ _ us hl => match us, hl with | [_, _, _, _], _ => rfl
  have F15 := fun_mk (st := s_law_replaced) lF15 cF15 kF15
  have bF15 := F15.binds (ps := ["_law_model", "_law_sums", "_law_q"]) fun _ _ _ _ _ _ us hl => match us, hl with | [_, _, _], _ => rfl
  have F16 := fun_mk (st := s_law_value) lF16 cF16 kF16
  have bF16 := F16.binds (ps := ["_law_model", "_law_world", "_law_q"]) fun _ _ _ _ _ _ us hl => match us, hl with | [_, _, _], _ => rfl
  have F17 := fun_mk (st := s_law_tells) lF17 cF17 kF17
  have bF17 := F17.binds (ps := ["_law_one", "_law_model", "_law_q"]) fun _ _ _ _ _ _ us hl => match us, hl with | [_, _, _], _ => rfl
  have F18 := fun_mk (st := s_law_values_right) lF18 cF18 kF18
  have bF18 := F18.binds (ps := ["_law_rng_here", "_law_names", "_law_pairs", "_law_q"]) fun _ _ _ _ _ _ us hl => match us, hl with | [_, _, _, _], _ => rfl
  have F19 := fun_mk (st := s_law_right) lF19 cF19 kF19
  have bF19 := F19.binds (ps := ["_law_rng_here"]) fun _ _ _ _ _ _ us hl => match us, hl with | [_], _ => rfl
  have F20 := fun_mk (st := s_law) lF20 cF20 kF20
  have M0 := fun_mk (st := sSum_weights) lM0 cM0 kM0
  have bM0 := M0.binds (ps := ["self"]) fun _ _ _ _ _ _ us hl => match us, hl with | [_], _ => rfl
  have M1 := fun_mk (st := sSum_names) lM1 cM1 kM1
  have bM1 := M1.binds (ps := ["self"]) fun _ _ _ _ _ _ us hl => match us, hl with | [_], _ => rfl
  have M2 := fun_mk (st := sSum_weight) lM2 cM2 kM2
  have bM2 := M2.binds (ps := ["self", "name"]) fun _ _ _ _ _ _ us hl => match us, hl with | [_, _], _ => rfl
  have M3 := fun_mk (st := sSum_at) lM3 cM3 kM3
  have bM3 := M3.binds (ps := ["self", "world"]) fun _ _ _ _ _ _ us hl => match us, hl with | [_, _], _ => rfl
  have M4 := fun_mk (st := sSum_put) lM4 cM4 kM4
  have bM4 := M4.binds (ps := ["self", "sums"]) fun _ _ _ _ _ _ us hl => match us, hl with | [_, _], _ => rfl
  have M5 := fun_mk (st := sSum_add) lM5 cM5 kM5
  have bM5 := M5.binds (ps := ["self", "other"]) fun _ _ _ _ _ _ us hl => match us, hl with | [_, _], _ => rfl
  have M6 := fun_mk (st := sSum_sub) lM6 cM6 kM6
  have bM6 := M6.binds (ps := ["self", "other"]) fun _ _ _ _ _ _ us hl => match us, hl with | [_, _], _ => rfl
  have M7 := fun_mk (st := sSum_neg) lM7 cM7 kM7
  have bM7 := M7.binds (ps := ["self"]) fun _ _ _ _ _ _ us hl => match us, hl with | [_], _ => rfl
  have M8 := fun_mk (st := sSum_mul) lM8 cM8 kM8
  have bM8 := M8.binds (ps := ["self", "other"]) fun _ _ _ _ _ _ us hl => match us, hl with | [_, _], _ => rfl
  have P0 := fun_mk (st := sSum_modulus) lP0 cP0 kP0
  have bP0 := P0.binds (ps := ["self"]) fun _ _ _ _ _ _ us hl => match us, hl with | [_], _ => rfl
  have P1 := fun_mk (st := sSum_constant) lP1 cP1 kP1
  have bP1 := P1.binds (ps := ["self"]) fun _ _ _ _ _ _ us hl => match us, hl with | [_], _ => rfl
  have P2 := fun_mk (st := sSum_is_constant) lP2 cP2 kP2
  have bP2 := P2.binds (ps := ["self"]) fun _ _ _ _ _ _ us hl => match us, hl with | [_], _ => rfl
  have FI : FunD K "__init__" "Sum.__init__" (defArgs sSum_init) (defBody sSum_init) (defScope sSum_init) [.int 0] [] fI (PySem.W.fnOf "__init__" "Sum.__init__" (defArgs sSum_init) (defBody sSum_init) (defScope sSum_init) (.ref Td) kVI dcI pmI anI cdI ctI) := ⟨⟨_, _, _, _, _, _, _, _, _, _, rfl, lI, cI, .inr ⟨by simp, Td, _, [.int 0 tT], nT, rfl, lT, rfl, .cons ⟨tT, rfl⟩ .nil⟩, (.inl rfl)⟩, kI⟩
  have bI : Binds K (PySem.W.fnOf "__init__" "Sum.__init__" (defArgs sSum_init) (defBody sSum_init) (defScope sSum_init) (.ref Td) kVI dcI pmI anI cdI ctI) ["self", "modulus", "weights", "constant"] [] := by
    obtain ⟨ds, v, b⟩ := FI.binds1 (ps := ["self", "modulus", "weights", "constant"]) 4 1 (by simp) rfl fun T kV doc pm an cdv ct us its hu hi => by
      match us, its, hu, hi with
      | [_, _, _, _], [_], _, _ => exact ⟨_, rfl, rfl⟩
    cases v
    exact b
  refine ⟨PySem.W.fnOf "law" "law" (defArgs s_law) (defBody s_law) (defScope s_law) .none kVF20 dcF20 pmF20 anF20 cdF20 ctF20, fun s v => .of_eq rfl, fun base _ _ => ?_⟩
  have OI : Own l.prog w K mg base "is_integer" ["value"] 1 (FSp RB preIsInt) := ⟨⟨fF0, _, ok_is_integer F0 T, PySem.W.mg_of X G aF0, kF0, bF0⟩⟩
  have ON : Own l.prog w K mg base "is_number" ["modulus", "value"] 2 (FSp RB preIsNum) := ⟨⟨fF1, _, ok_is_number F1 T OI, PySem.W.mg_of X G aF1, kF1, bF1⟩⟩
  have OM : Own l.prog w K mg base "is_name" ["value"] 1 (FSp RB preIsName) := ⟨⟨fF2, _, ok_is_name F2 T, PySem.W.mg_of X G aF2, kF2, bF2⟩⟩
  have OW : Own l.prog w K mg base "is_world" ["modulus", "value"] 3 (FSp RB preIsWorld) := ⟨⟨fF3, _, ok_is_world F3 T ON OM, PySem.W.mg_of X G aF3, kF3, bF3⟩⟩
  have OR : Own l.prog w K mg base "require_modulus" ["value"] 2 (FSp RN preReqMod) := ⟨⟨fF4, _, ok_require_modulus F4 T OI, PySem.W.mg_of X G aF4, kF4, bF4⟩⟩
  have MK : MakS l.prog w K mg base C := ⟨fI, _, _, [], ⟨mk, aI, iI, kc⟩, ok_Sum_init FI T SC OR OW ON, PySem.W.mg_of X G aC, bI, .nil⟩
  have PM : PrpM l.prog w K mg base C := ⟨pp0, fP0, _, _, cls, ⟨aP0, gP0, hP0, _, rP0⟩, ok_Sum_modulus P0 T SC, bP0⟩
  have PC : PrpC l.prog w K mg base C := ⟨pp1, fP1, _, _, cls, ⟨aP1, gP1, hP1, _, rP1⟩, ok_Sum_constant P1 T SC, bP1⟩
  have PI : PrpI l.prog w K mg base C := ⟨pp2, fP2, _, _, cls, ⟨aP2, gP2, hP2, _, rP2⟩, ok_Sum_is_constant P2 T SC, bP2⟩
  have MW : MetW l.prog w K mg base C := ⟨fM0, _, _, [], cls, ⟨aM0, iM0, kM0⟩, ok_Sum_weights M0 T SC, bM0, .nil⟩
  have MN : MetN l.prog w K mg base C := ⟨fM1, _, _, [], cls, ⟨aM1, iM1, kM1⟩, ok_Sum_names M1 T SC, bM1, .nil⟩
  have MX : MetX l.prog w K mg base C := ⟨fM2, _, _, [], cls, ⟨aM2, iM2, kM2⟩, ok_Sum_weight M2 T SC, bM2, .nil⟩
  have MA : MetA l.prog w K mg base C := ⟨fM3, _, _, [], cls, ⟨aM3, iM3, kM3⟩, ok_Sum_at M3 T SC OW, bM3, .nil⟩
  have OS : Own l.prog w K mg base "is_sum" ["modulus", "value"] 3 (FSp RB (preIsSum C)) := ⟨⟨fF5, _, ok_is_sum F5 T SC GS PM, PySem.W.mg_of X G aF5, kF5, bF5⟩⟩
  have OQ : Own l.prog w K mg base "_require_addend" ["left", "right"] 3 (FSp RN (preReqA C)) := ⟨⟨fF6, _, ok_require_addend F6 T SC GS PM, PySem.W.mg_of X G aF6, kF6, bF6⟩⟩
  have OV : Own l.prog w K mg base "_is_sum_world" ["modulus", "value"] 4 (FSp RB (preIsSW C)) := ⟨⟨fF7, _, ok_is_sum_world F7 T OM OS, PySem.W.mg_of X G aF7, kF7, bF7⟩⟩
  have OT : Own l.prog w K mg base "_taken_modulo" ["modulus", "weights", "constant"] 6 (FSp (RSum C) preTaken) := ⟨⟨fF8, _, ok_taken_modulo F8 T SC MK, PySem.W.mg_of X G aF8, kF8, bF8⟩⟩
  have OA : Own l.prog w K mg base "_added" ["one", "times", "other"] 7 (FSp (RSum C) (preAdded C)) := ⟨⟨fF9, _, ok_added F9 T SC PM PC MW OT, PySem.W.mg_of X G aF9, kF9, bF9⟩⟩
  have MP : MetP l.prog w K mg base C := ⟨fM4, _, _, [], cls, ⟨aM4, iM4, kM4⟩, ok_Sum_put M4 T SC PC MW OV OT, bM4, .nil⟩
  have AD : OpAdd l.prog w K mg base C := ⟨sf, fM5, _, _, aM5, iM5, ok_Sum_add M5 T OQ OA, bM5⟩
  have SB : OpSub l.prog w K mg base C := ⟨sf, fM6, _, _, aM6, iM6, ok_Sum_sub M6 T OQ OA, bM6⟩
  have ML : OpMul l.prog w K mg base C := ⟨sf, fM8, _, _, aM8, iM8, ok_Sum_mul M8 T SC OI OT, bM8⟩
  have MI : OpIF K C "mul" := ⟨fo, ro, none, o1, .inl rfl, o2, o3, o4⟩
  have NG : OpNeg l.prog w K mg base C := ⟨sf, fM7, _, _, aM7, iM7, ok_Sum_neg M7 T ML MI, bM7⟩
  have LG : Own l.prog w K mg base "_law_rng" ["_law_script", "_law_k"] 1 (FSpG WRng (preRng K)) := ⟨⟨fF10, _, ok_law_rng F10 T, PySem.W.mg_of X G aF10, kF10, bF10⟩⟩
  have OD : Own l.prog w K mg base "_law_draw" ["_law_rng_here", "_law_many"] 1 (FSp RI preDraw) := ⟨⟨fF11, _, ok_law_draw F11 T, PySem.W.mg_of X G aF11, kF11, bF11⟩⟩
  have LN : Own l.prog w K mg base "_law_some_names" ["_law_rng_here", "_law_many"] 2 (FSpG (fun p d => VL p RS d) preNames) := ⟨⟨fF12, _, ok_law_some_names F12 T OD, PySem.W.mg_of X G aF12, kF12, bF12⟩⟩
  have LD : Own l.prog w K mg base "_law_drawn" ["_law_rng_here", "_law_names", "_law_q"] 2 (FSpDr K preDrawn) := ⟨⟨fF13, _, ok_law_drawn F13 T OD, PySem.W.mg_of X G aF13, kF13, bF13⟩⟩
  have LA : Own l.prog w K mg base "_law_added" ["_law_one", "_law_other", "_law_by", "_law_q"] 1 (FSp (RMod K) (preLA K)) := ⟨⟨fF14, _, ok_law_added F14 T, PySem.W.mg_of X G aF14, kF14, bF14⟩⟩
  have LR : Own l.prog w K mg base "_law_replaced" ["_law_model", "_law_sums", "_law_q"] 2 (FSp (RMod K) (preLR K)) := ⟨⟨fF15, _, ok_law_replaced F15 T LA, PySem.W.mg_of X G aF15, kF15, bF15⟩⟩
  have LV : Own l.prog w K mg base "_law_value" ["_law_model", "_law_world", "_law_q"] 1 (FSp RI (preLV K)) := ⟨⟨fF16, _, ok_law_value F16 T, PySem.W.mg_of X G aF16, kF16, bF16⟩⟩
  have LT : Own l.prog w K mg base "_law_tells" ["_law_one", "_law_model", "_law_q"] 3 (FSp RB (preLT K C)) := ⟨⟨fF17, _, ok_law_tells F17 T PM PC PI MW MN MX, PySem.W.mg_of X G aF17, kF17, bF17⟩⟩
  have LW : Own l.prog w K mg base "_law_values_right" ["_law_rng_here", "_law_names", "_law_pairs", "_law_q"] 8 (FSp RB (preLW K C)) := ⟨⟨fF18, _, ok_law_values_right F18 T OD LD LR LV LT MK MA MP, PySem.W.mg_of X G aF18, kF18, bF18⟩⟩
  have LX : Own l.prog w K mg base "_law_right" ["_law_rng_here"] 9 (FSp RB preLX) := ⟨⟨fF19, _, ok_law_right F19 T OD LN LD LA LT LW MK AD SB NG ML MI, PySem.W.mg_of X G aF19, kF19, bF19⟩⟩
  exact ok_law F20 T LG LX
end K11

set_option Elab.async false
set_option linter.all false
set_option maxRecDepth 100000
namespace K11
open PySem L2 QL
theorem law_start {K : PySem.W.Frag} {H : Hp} {a : Addr} {ns : List Int} (hO : Only H) (hS : SqL K H a (ns.map V.int)) : FSp RB (preLaw K) [.ref a] H (fun v _ => v = .bl true) fun _ _ _ => False := by
  have kl : KL K H a (ns.map V.int) := by
    rcases hS with z | z
    · rcases z with z | ⟨ob, z⟩
      · rcases hO a with n | ⟨o, xs, n⟩
        · rw [n] at z; cases z
        · rw [n] at z; cases z
      · exact .inl ⟨ob, z⟩
    · exact .inr z
  have e : Ex H H := fun _ _ q => .inl q
  refine ⟨[.va (RScr K) ns], _, H, ⟨ns, rfl, rfl⟩, ⟨rfl, fun i s ei => ?_, fun i j s t b e1 _ f1 _ => ?_, fun i s b ei f => ?_⟩, e, fun v b h' H' pb _ _ r => ?_⟩
  · match i with
    | 0 => simp at ei; subst ei; exact ⟨_, rfl, a, rfl, kl⟩
    | i + 1 => simp at ei
  · match i with
    | 0 => simp at e1; subst e1; exact f1.elim
    | i + 1 => simp at e1
  · match i with
    | 0 => simp at ei; subst ei; exact f.elim
    | i + 1 => simp at ei
  · have pb : b = true := pb
    rw [show v = .bl b from r, pb]
theorem walk {l : PySem.W.OpenLaw} {q : Program} {loose : List Str} {XP : (Str → Option Value) → Heap → Prop} {YP : World → Heap → Prop} {d : DefRec} {K : Params → PySem.W.Frag} (most : l.most = some 63) (hdf : d.params.defaults = [])
    (inK : ∀ (w : World) (h : Heap), YP w h → (K w.params).In h)
    (all : ∀ (w : World) (mg : Str → Option Value) (fa : Addr) (h : Heap), (K w.params).In h → h.Ns mainGlobals mg → mg d.name = some (.ref fa) → ∃ fd : FuncData, (∀ (s : Shared) (u : Value), BindsTo s fd ⟨[u], []⟩ [("_law_script", u)]) ∧
      ∀ base : Heap, (K w.params).In base → base.Ns mainGlobals mg → FnOk l.prog w (K w.params) mg base CX0 10 fa fd ["_law_script"] (FSp RB (preLaw (K w.params)))) : PySem.W.WalkO q loose XP YP l.row.toRowW d [] (fun f vs => PySem.call f vs) :=
  L2.walk_of (n := 63) (k := 10) (x := "_law_script") (CX := fun _ => CX0) (sp := fun w => FSp RB (preLaw (K w.params))) most (by decide) hdf ⟨rfl, by decide, by decide⟩ inK all (fun _ _ _ _ _ hO hS => law_start hO hS) fun _ _ _ _ _ z => z
end K11

open PySem.W PySem PyProof.Rows in
set_option maxHeartbeats 0 in set_option maxRecDepth 100000 in
theorem PySem.Challenge.cw_quietsums_k11_sums_by_numbers_holds : PySem.Challenge.rw_quietsums_k11_sums_by_numbers.Holds := by
  w_on; o_law; k_head
  case hw => w_witness2
  k_fill
  refine K11.walk (l := PySem.Challenge.rw_quietsums_k11_sums_by_numbers) rfl rfl (fun w h Y => PySem.W.kIn_of Y) ?F
  case F =>
    intro w mg fa h KX G hmg
    refine' K11.all_mk KX G hmg ?aC ?aF0 ?lF0 ?cF0 ?kF0 ?aF1 ?lF1 ?cF1 ?kF1 ?aF2 ?lF2 ?cF2 ?kF2 ?aF3 ?lF3 ?cF3 ?kF3 ?aF4 ?lF4 ?cF4 ?kF4 ?aF5 ?lF5 ?cF5 ?kF5 ?aF6 ?lF6 ?cF6 ?kF6 ?aF7 ?lF7 ?cF7 ?kF7 ?aF8 ?lF8 ?cF8 ?kF8 ?aF9 ?lF9 ?cF9 ?kF9 ?aF10 ?lF10 ?cF10 ?kF10 ?aF11 ?lF11 ?cF11 ?kF11 ?aF12 ?lF12 ?cF12 ?kF12 ?aF13 ?lF13 ?cF13 ?kF13 ?aF14 ?lF14 ?cF14 ?kF14 ?aF15 ?lF15 ?cF15 ?kF15 ?aF16 ?lF16 ?cF16 ?kF16 ?aF17 ?lF17 ?cF17 ?kF17 ?aF18 ?lF18 ?cF18 ?kF18 ?aF19 ?lF19 ?cF19 ?kF19 ?aF20 ?lF20 ?cF20 ?kF20 ?aI ?iI ?lI ?cI ?kI ?lT ?aM0 ?iM0 ?lM0 ?cM0 ?kM0 ?aM1 ?iM1 ?lM1 ?cM1 ?kM1 ?aM2 ?iM2 ?lM2 ?cM2 ?kM2 ?aM3 ?iM3 ?lM3 ?cM3 ?kM3 ?aM4 ?iM4 ?lM4 ?cM4 ?kM4 ?aM5 ?iM5 ?lM5 ?cM5 ?kM5 ?aM6 ?iM6 ?lM6 ?cM6 ?kM6 ?aM7 ?iM7 ?lM7 ?cM7 ?kM7 ?aM8 ?iM8 ?lM8 ?cM8 ?kM8 ?aP0 ?gP0 ?hP0 ?rP0 ?lP0 ?cP0 ?kP0 ?aP1 ?gP1 ?hP1 ?rP1 ?lP1 ?cP1 ?kP1 ?aP2 ?gP2 ?hP2 ?rP2 ?lP2 ?cP2 ?kP2 ?pg ?hd ?po ?sa ?mk ?kc ?sf ?nm ?nw ?nc ?j1 ?j2 ?j3 ?j4 ?o1 ?o2 ?o3 ?o4 ?aP ?lP ?aL ?aS ?aN ?z_len ?z_range ?z_abs ?z_max ?z_min ?z_int ?z_isinstance ?z_list ?z_dict ?z_sorted ?z_sum ?z_all ?z_divmod ?z_str ?z_bool
    (case aC => k_is)
    (case aF0 => k_is)
    (case lF0 => k_is)
    (case cF0 => k_is)
    (case kF0 => k_is)
    (case aF1 => k_is)
    (case lF1 => k_is)
    (case cF1 => k_is)
    (case kF1 => k_is)
    (case aF2 => k_is)
    (case lF2 => k_is)
    (case cF2 => k_is)
    (case kF2 => k_is)
    (case aF3 => k_is)
    (case lF3 => k_is)
    (case cF3 => k_is)
    (case kF3 => k_is)
    (case aF4 => k_is)
    (case lF4 => k_is)
    (case cF4 => k_is)
    (case kF4 => k_is)
    (case aF5 => k_is)
    (case lF5 => k_is)
    (case cF5 => k_is)
    (case kF5 => k_is)
    (case aF6 => k_is)
    (case lF6 => k_is)
    (case cF6 => k_is)
    (case kF6 => k_is)
    (case aF7 => k_is)
    (case lF7 => k_is)
    (case cF7 => k_is)
    (case kF7 => k_is)
    (case aF8 => k_is)
    (case lF8 => k_is)
    (case cF8 => k_is)
    (case kF8 => k_is)
    (case aF9 => k_is)
    (case lF9 => k_is)
    (case cF9 => k_is)
    (case kF9 => k_is)
    (case aF10 => k_is)
    (case lF10 => k_is)
    (case cF10 => k_is)
    (case kF10 => k_is)
    (case aF11 => k_is)
    (case lF11 => k_is)
    (case cF11 => k_is)
    (case kF11 => k_is)
    (case aF12 => k_is)
    (case lF12 => k_is)
    (case cF12 => k_is)
    (case kF12 => k_is)
    (case aF13 => k_is)
    (case lF13 => k_is)
    (case cF13 => k_is)
    (case kF13 => k_is)
    (case aF14 => k_is)
    (case lF14 => k_is)
    (case cF14 => k_is)
    (case kF14 => k_is)
    (case aF15 => k_is)
    (case lF15 => k_is)
    (case cF15 => k_is)
    (case kF15 => k_is)
    (case aF16 => k_is)
    (case lF16 => k_is)
    (case cF16 => k_is)
    (case kF16 => k_is)
    (case aF17 => k_is)
    (case lF17 => k_is)
    (case cF17 => k_is)
    (case kF17 => k_is)
    (case aF18 => k_is)
    (case lF18 => k_is)
    (case cF18 => k_is)
    (case kF18 => k_is)
    (case aF19 => k_is)
    (case lF19 => k_is)
    (case cF19 => k_is)
    (case kF19 => k_is)
    (case aF20 => k_is)
    (case lF20 => k_is)
    (case cF20 => k_is)
    (case kF20 => k_is)
    (case aI => k_is)
    (case iI => k_is)
    (case lI => k_is)
    (case cI => k_is)
    (case kI => k_is)
    (case lT => k_is)
    (case aM0 => k_is)
    (case iM0 => k_is)
    (case lM0 => k_is)
    (case cM0 => k_is)
    (case kM0 => k_is)
    (case aM1 => k_is)
    (case iM1 => k_is)
    (case lM1 => k_is)
    (case cM1 => k_is)
    (case kM1 => k_is)
    (case aM2 => k_is)
    (case iM2 => k_is)
    (case lM2 => k_is)
    (case cM2 => k_is)
    (case kM2 => k_is)
    (case aM3 => k_is)
    (case iM3 => k_is)
    (case lM3 => k_is)
    (case cM3 => k_is)
    (case kM3 => k_is)
    (case aM4 => k_is)
    (case iM4 => k_is)
    (case lM4 => k_is)
    (case cM4 => k_is)
    (case kM4 => k_is)
    (case aM5 => k_is)
    (case iM5 => k_is)
    (case lM5 => k_is)
    (case cM5 => k_is)
    (case kM5 => k_is)
    (case aM6 => k_is)
    (case iM6 => k_is)
    (case lM6 => k_is)
    (case cM6 => k_is)
    (case kM6 => k_is)
    (case aM7 => k_is)
    (case iM7 => k_is)
    (case lM7 => k_is)
    (case cM7 => k_is)
    (case kM7 => k_is)
    (case aM8 => k_is)
    (case iM8 => k_is)
    (case lM8 => k_is)
    (case cM8 => k_is)
    (case kM8 => k_is)
    (case aP0 => k_is)
    (case gP0 => k_is)
    (case hP0 => k_is)
    (case rP0 => k_is)
    (case lP0 => k_is)
    (case cP0 => k_is)
    (case kP0 => k_is)
    (case aP1 => k_is)
    (case gP1 => k_is)
    (case hP1 => k_is)
    (case rP1 => k_is)
    (case lP1 => k_is)
    (case cP1 => k_is)
    (case kP1 => k_is)
    (case aP2 => k_is)
    (case gP2 => k_is)
    (case hP2 => k_is)
    (case rP2 => k_is)
    (case lP2 => k_is)
    (case cP2 => k_is)
    (case kP2 => k_is)
    (case pg => k_is)
    (case hd => k_is)
    (case po => k_is)
    (case sa => k_is)
    (case mk => k_is)
    (case kc => k_is)
    (case sf => k_is)
    (case nm => k_is)
    (case nw => k_is)
    (case nc => k_is)
    (case j1 => k_is)
    (case j2 => k_is)
    (case j3 => k_is)
    (case j4 => k_is)
    (case o1 => k_is)
    (case o2 => k_is)
    (case o3 => k_is)
    (case o4 => k_is)
    (case aP => k_is)
    (case lP => k_is)
    (case aL => k_is)
    (case aS => k_is)
    (case aN => k_is)
    (case z_len => k_is)
    (case z_range => k_is)
    (case z_abs => k_is)
    (case z_max => k_is)
    (case z_min => k_is)
    (case z_int => k_is)
    (case z_isinstance => k_is)
    (case z_list => k_is)
    (case z_dict => k_is)
    (case z_sorted => k_is)
    (case z_sum => k_is)
    (case z_all => k_is)
    (case z_divmod => k_is)
    (case z_str => k_is)
    (case z_bool => k_is)

