import PyProof.Rows.All
import Wide.All
import OpenK.AllK
import Wide.FinOn
import HandS.ForExc
import HandS.Defaults
import HandS.IsInst
import HandS.Gcd
import HandS.Wide
import HandS.Flow
import HandS.Evl
import HandS.ExcInit
import HandS.ExcField
import HandS.ExcIs
import HandS.TupLe
import HandS.Head0
import HandS.Head1
import HandS.Head2
import HandS.Head3
import HandS.HeadEnd
import HandS.HeadHook1
import HandS.HeadHook2
import HandS.HeadHook3
import HandS.HeadHook4
import HandS.CallSlots
import HandS.Codes
import HandS.FStr
import HandS.Comp
import HandS.Iter
import HandS.Zip
import HandS.More
import PyProof.ReprRoads
import PySem.Challenge.RW_leastlabour_k01_whole_rows_of_ratios
set_option Elab.async false
set_option linter.all false
set_option maxRecDepth 100000
set_option maxHeartbeats 4000000
/-! LLPre: a calculus over data: slots hold data (PyData) or exact values; expressions give data (EP, ED, ET), statements keep (Ok). The owned addresses O are those that may change. -/
namespace LL
open PySem PySem.Spec PyProof.Rows L2
open Evl (Ex)

/-! ### data stand when the heap grows -/
mutual
theorem dpGrow {K : PySem.W.Frag} {H H' : Hp} (e : Ex H H') : ∀ {d : PyData} {v : V}, Dp K H v d → Dp K H' v d
  | .none, _, h => by cases h; exact .non
  | .bool _, _, h => by cases h; exact .bl _
  | .int _, _, h => by cases h; exact .int _
  | .str _, _, h => by cases h; exact .str _
  | .list _, _, h => by cases h with | lst a b => exact .lst (Evl.ex_l e a) (dpGrowAll e b)
  | .tuple _, _, h => by cases h with | tup a b => exact .tup (Evl.ex_t e a) (dpGrowAll e b)
  | .dict _, _, h => by cases h
theorem dpGrowAll {K : PySem.W.Frag} {H H' : Hp} (e : Ex H H') : ∀ {ds : List PyData} {vs : List V}, DpAll K H vs ds → DpAll K H' vs ds
  | [], _, h => by cases h; exact .nil
  | _ :: _, _, h => by cases h with | cons a b => exact .cons (dpGrow e a) (dpGrowAll e b)
end
theorem dpLen {K : PySem.W.Frag} {H : Hp} : ∀ {ds : List PyData} {vs : List V}, DpAll K H vs ds → vs.length = ds.length
  | [], _, h => by cases h; rfl
  | _ :: _, _, h => by cases h with | cons a b => exact congrArg Nat.succ (dpLen b)
theorem dpAt {K : PySem.W.Frag} {H : Hp} : ∀ {ds : List PyData} {vs : List V} {j : Nat} {d : PyData}, DpAll K H vs ds → ds[j]? = some d → ∃ v, vs[j]? = some v ∧ Dp K H v d
  | [], _, j, d, _, e => by simp at e
  | _ :: _, _, 0, d, h, e => by
    cases h with
    | cons a b =>
      cases (Option.some.inj e)
      exact ⟨_, rfl, a⟩
  | _ :: _, _, j + 1, d, h, e => by
    cases h with
    | cons a b =>
      obtain ⟨v, e1, e2⟩ := dpAt (j := j) b e
      exact ⟨v, e1, e2⟩
theorem dpSnoc {K : PySem.W.Frag} {H : Hp} : ∀ {ds : List PyData} {vs : List V} {d : PyData} {v : V}, DpAll K H vs ds → Dp K H v d → DpAll K H (vs ++ [v]) (ds ++ [d])
  | [], _, d, v, h, q => by cases h; exact .cons q .nil
  | _ :: _, _, d, v, h, q => by cases h with | cons a b => exact .cons a (dpSnoc b q)

/-! ### slots -/
inductive Sl where
  /-- nothing is said -/
  | un
  /-- data -/
  | da (d : PyData)
  /-- just this value -/
  | va (v : V)
  /-- a dict -/
  | dc
def OkS (K : PySem.W.Frag) (H : Hp) (v : V) : Sl → Prop
  | .un => True
  | .da d => Dp K H v d
  | .va w => v = w
  | .dc => ∃ a kvs, v = .ref a ∧ H a = some (.dK kvs)
theorem OkS.grow {K : PySem.W.Frag} {H H' : Hp} {v : V} {s : Sl} (e : Ex H H') (h : OkS K H v s) : OkS K H' v s := by
  cases s with
  | un => exact True.intro
  | da d => exact dpGrow e h
  | va w => exact h
  | dc => obtain ⟨a, kvs, e1, e2⟩ := h; exact ⟨a, kvs, e1, e a _ e2⟩
/-- the heap without the owned addresses -/
def hid (O : Addr → Bool) (H : Hp) : Hp := fun b => if O b = true then none else H b
section
variable {O : Addr → Bool}
theorem hid_ex {H : Hp} : Ex (hid O H) H := fun b o e => by
  unfold hid at e
  by_cases h : O b = true
  · rw [if_pos h] at e; cases e
  · rw [if_neg h] at e; exact e
theorem hid_grow {H H' : Hp} (e : Ex H H') : Ex (hid O H) (hid O H') := fun b o h => by
  unfold hid at h ⊢
  by_cases q : O b = true
  · rw [if_pos q] at h; cases h
  · rw [if_neg q] at h ⊢; exact e b o h
theorem hid_at {H : Hp} {b : Addr} (h : ¬ O b = true) : hid O H b = H b := if_neg h
end
/-- what is not owned stands; what is owned is there -/
structure Step (O : Addr → Bool) (H H' : Hp) : Prop where
  ex : Ex (hid O H) (hid O H')
  tr : ∀ b, O b = true → H b ≠ none → H' b ≠ none
section
variable {O : Addr → Bool} {K : PySem.W.Frag} {H H' H1 H2 H3 : Hp}
theorem Step.refl : Step O H H := ⟨Evl.Ex.refl _, fun _ _ h => h⟩
theorem Step.trans (a : Step O H1 H2) (b : Step O H2 H3) : Step O H1 H3 := ⟨a.ex.trans b.ex, fun c o h => b.tr c o (a.tr c o h)⟩
theorem Step.of (e : Ex H H') : Step O H H' := ⟨hid_grow e, fun b _ h => by
  cases q : H b with
  | none => exact absurd q h
  | some o => rw [e b o q]; exact fun z => nomatch z⟩
end
/-- the slots hold what Γ says -/
structure En (K : PySem.W.Frag) (O : Addr → Bool) (σ : L2.St) (Γ : List Sl) (H : Hp) : Prop where
  len : σ.length = Γ.length
  at_ : ∀ (i : Nat) (s : Sl), Γ[i]? = some s → s ≠ .un → ∃ v, σ[i]? = some (some v) ∧ OkS K (hid O H) v s
  tr : ∀ b, O b = true → H b ≠ none
section
variable {O : Addr → Bool} {K : PySem.W.Frag} {σ : L2.St} {Γ : List Sl} {H H' : Hp}
theorem En.step (e : En K O σ Γ H) (s : Step O H H') : En K O σ Γ H' :=
  ⟨e.len, fun i x h n => let ⟨v, a, b⟩ := e.at_ i x h n; ⟨v, a, b.grow s.ex⟩, fun b h => s.tr b h (e.tr b h)⟩
theorem En.set (e : En K O σ Γ H) {i : Nat} {v : V} {s : Sl} (h : OkS K (hid O H) v s) : En K O (σ.set i (some v)) (Γ.set i s) H :=
  ⟨by rw [List.length_set, List.length_set]; exact e.len, fun j x hj n => by
    by_cases q : i = j
    · subst q
      by_cases l : i < Γ.length
      · rw [List.getElem?_set_self l] at hj
        cases (Option.some.inj hj)
        exact ⟨v, by rw [List.getElem?_set_self (by rw [e.len]; exact l)], h⟩
      · rw [List.getElem?_eq_none (by rw [List.length_set]; omega)] at hj
        cases hj
    · rw [List.getElem?_set_ne q] at hj
      obtain ⟨w, a, b⟩ := e.at_ j x hj n
      exact ⟨w, by rw [List.getElem?_set_ne q]; exact a, b⟩, e.tr⟩
theorem fresh_not {p : Addr} (tr : ∀ b, O b = true → H b ≠ none) (h : H p = none) : ¬ O p = true := fun o => tr p o h
end
/-- a list of values by slots -/
inductive SlAll (K : PySem.W.Frag) (H : Hp) : List V → List Sl → Prop
  | nil : SlAll K H [] []
  | cons {v : V} {vs : List V} {s : Sl} {ss : List Sl} : OkS K H v s → SlAll K H vs ss → SlAll K H (v :: vs) (s :: ss)
section
variable {K : PySem.W.Frag} {H H' : Hp}
theorem SlAll.grow (e : Ex H H') : ∀ {ss : List Sl} {vs : List V}, SlAll K H vs ss → SlAll K H' vs ss
  | [], _, h => by cases h; exact .nil
  | _ :: _, _, h => by cases h with | cons a b => exact .cons (a.grow e) (SlAll.grow e b)
theorem SlAll.len : ∀ {ss : List Sl} {vs : List V}, SlAll K H vs ss → vs.length = ss.length
  | [], _, h => by cases h; rfl
  | _ :: _, _, h => by cases h with | cons a b => exact congrArg Nat.succ (SlAll.len b)
theorem SlAll.data : ∀ {ds : List PyData} {vs : List V}, SlAll K H vs (ds.map Sl.da) → DpAll K H vs ds
  | [], _, h => by cases h; exact .nil
  | _ :: _, _, h => by cases h with | cons a b => exact .cons a (SlAll.data b)
theorem SlAll.get {K : PySem.W.Frag} {H : Hp} : ∀ {ss : List Sl} {vs : List V} {j : Nat} {s : Sl}, SlAll K H vs ss → ss[j]? = some s → ∃ v, vs[j]? = some v ∧ OkS K H v s
  | [], _, j, s, _, e => by simp at e
  | _ :: _, _, 0, s, h, e => by
    cases h with
    | cons a b =>
      cases (Option.some.inj e)
      exact ⟨_, rfl, a⟩
  | _ :: _, _, j + 1, s, h, e => by
    cases h with
    | cons a b => exact SlAll.get (j := j) b e
end
/-- the start of a def's body -/
theorem en_start {K : PySem.W.Frag} {O : Addr → Bool} {H : Hp} {vs : List V} {ss : List Sl} {N : List Str} (h : SlAll K (hid O H) vs ss) (tr : ∀ b, O b = true → H b ≠ none) (n : Nat) (hn : N.length = ss.length + n) :
    En K O (L2.start N vs) (ss ++ List.replicate n .un) H := by
  have hl := h.len
  have e : L2.start N vs = vs.map some ++ List.replicate n none := by
    unfold L2.start
    rw [show N.length - vs.length = n by omega]
  refine ⟨by rw [e, List.length_append, List.length_append, List.length_map, List.length_replicate, List.length_replicate]; omega, fun i s hs ne => ?_, tr⟩
  by_cases q : i < ss.length
  · rw [List.getElem?_append_left q] at hs
    obtain ⟨v, a, b⟩ := h.get hs
    refine ⟨v, ?_, b⟩
    rw [e, List.getElem?_append_left (by rw [List.length_map]; omega), List.getElem?_map, a]
    rfl
  · rw [List.getElem?_append_right (by omega)] at hs
    have := List.mem_of_getElem? hs
    exact absurd (List.eq_of_mem_replicate this) ne
end LL


set_option Elab.async false
set_option linter.all false
set_option maxRecDepth 100000
set_option maxHeartbeats 4000000
namespace LL
open PySem PySem.Spec PyProof.Rows L2
open Evl (Ex)
/-- J is kept when the heap grows -/
def Gr (J : Hp → Prop) : Prop := ∀ H H', Ex H H' → J H → J H'
/-! ### expressions: whatever is known of the value is P -/
def EP (K : PySem.W.Frag) (O : Addr → Bool) (J : Hp → Prop) (Γ : List Sl) (te : TE) (P : Sl → Prop) : Prop :=
  ∀ (σ : L2.St) (H1 : Hp), J H1 → En K O σ Γ H1 → ∀ Q : VK, (∀ s v H2, P s → J H2 → Step O H1 H2 → OkS K (hid O H2) v s → Q v H2) → te σ H1 Q
abbrev ES (K : PySem.W.Frag) (O : Addr → Bool) (J : Hp → Prop) (Γ : List Sl) (te : TE) (s : Sl) : Prop := EP K O J Γ te (fun x => x = s)
abbrev ED (K : PySem.W.Frag) (O : Addr → Bool) (J : Hp → Prop) (Γ : List Sl) (te : TE) (d : PyData) : Prop := ES K O J Γ te (.da d)
def ET (K : PySem.W.Frag) (O : Addr → Bool) (J : Hp → Prop) (Γ : List Sl) (tt : TT) (b : Bool) : Prop :=
  ∀ (σ : L2.St) (H1 : Hp), J H1 → En K O σ Γ H1 → ∀ Q : Bool → Hp → Prop, (∀ H2, J H2 → Step O H1 H2 → Q b H2) → tt σ H1 Q
/-- arguments: a list of slots, not determined -/
def EA (K : PySem.W.Frag) (O : Addr → Bool) (J : Hp → Prop) (Γ : List Sl) (ta : TA) (P : List Sl → Prop) : Prop :=
  ∀ (σ : L2.St) (H1 : Hp), J H1 → En K O σ Γ H1 → ∀ Q : List V → Hp → Prop, (∀ ss vs H2, P ss → J H2 → Step O H1 H2 → SlAll K (hid O H2) vs ss → Q vs H2) → ta σ H1 Q
abbrev EAs (K : PySem.W.Frag) (O : Addr → Bool) (J : Hp → Prop) (Γ : List Sl) (ta : TA) (ss : List Sl) : Prop := EA K O J Γ ta (fun x => x = ss)
section
variable {K : PySem.W.Frag} {O : Addr → Bool} {J : Hp → Prop} {Γ : List Sl} {ta tb te : TE} {tt tu : TT} {P : Sl → Prop} {s : Sl} {d : PyData} {i j : Int} {a b : Bool}
theorem EP.imp {P' : Sl → Prop} (h : EP K O J Γ te P) (k : ∀ s, P s → P' s) : EP K O J Γ te P' := fun σ H1 hJ hE Q q => h σ H1 hJ hE Q fun s v H2 p => q s v H2 (k s p)
theorem ES.to {s : Sl} (h : ES K O J Γ te s) (k : P s) : EP K O J Γ te P := h.imp fun _ e => e ▸ k
theorem e_is {s s' : Sl} (h : ES K O J Γ te s) (e : s = s') : ES K O J Γ te s' := e ▸ h
theorem e_var {n : Nat} (h : Γ[n]? = some s) (ne : s ≠ .un) : ES K O J Γ (tVar n) s := fun σ H1 hJ hE Q q =>
  let ⟨v, a, b⟩ := hE.at_ n s h ne; ⟨v, a, q s v H1 rfl hJ .refl b⟩
theorem e_d {n : Nat} (h : Γ[n]? = some (.da d)) : ED K O J Γ (tVar n) d := e_var h (fun z => nomatch z)
theorem e_v {n : Nat} {w : V} (h : Γ[n]? = some (.va w)) : ES K O J Γ (tVar n) (.va w) := e_var h (fun z => nomatch z)
theorem e_int : ED K O J Γ (tC (.int i)) (.int i) := fun σ H1 hJ hE Q q => q _ _ H1 rfl hJ .refl (.int i)
theorem e_bl : ED K O J Γ (tC (.bl a)) (.bool a) := fun σ H1 hJ hE Q q => q _ _ H1 rfl hJ .refl (.bl a)
theorem e_non : ED K O J Γ (tC .non) .none := fun σ H1 hJ hE Q q => q _ _ H1 rfl hJ .refl .non
theorem e_str {x : Str} : ED K O J Γ (tC (.str x)) (.str x) := fun σ H1 hJ hE Q q => q _ _ H1 rfl hJ .refl (.str x)
theorem e_va {w : V} : ES K O J Γ (tC w) (.va w) := fun σ H1 hJ hE Q q => q _ _ H1 rfl hJ .refl rfl
/-- a constant of the module that is data in every heap -/
theorem e_con {w : V} (h : ∀ H, Dp K H w d) : ED K O J Γ (tC w) d := fun σ H1 hJ hE Q q => q _ _ H1 rfl hJ .refl (h _)
/-- two operands, then the operator -/
theorem e_op {r : R2} {P1 P2 : Sl → Prop} (h1 : EP K O J Γ ta P1) (h2 : EP K O J Γ tb P2)
    (h : ∀ s1 s2 x y H1, P1 s1 → P2 s2 → J H1 → (∀ b, O b = true → H1 b ≠ none) → OkS K (hid O H1) x s1 → OkS K (hid O H1) y s2 → ∀ Q : VK, (∀ s v H2, P s → J H2 → Step O H1 H2 → OkS K (hid O H2) v s → Q v H2) → r x y H1 Q) :
    EP K O J Γ (tOp r ta tb) P := fun σ H1 hJ hE Q q =>
  h1 σ H1 hJ hE _ fun s1 x H2 p1 hJ2 st1 o1 => h2 σ H2 hJ2 (hE.step st1) _ fun s2 y H3 p2 hJ3 st2 o2 =>
    h s1 s2 x y H3 p1 p2 hJ3 (hE.step (st1.trans st2)).tr (o1.grow st2.ex) o2 Q fun s v H4 p hJ4 st3 o => q s v H4 p hJ4 ((st1.trans st2).trans st3) o
theorem e_un {r : V → Hp → VK → Prop} {P1 : Sl → Prop} (h1 : EP K O J Γ ta P1)
    (h : ∀ s1 x H1, P1 s1 → J H1 → (∀ b, O b = true → H1 b ≠ none) → OkS K (hid O H1) x s1 → ∀ Q : VK, (∀ s v H2, P s → J H2 → Step O H1 H2 → OkS K (hid O H2) v s → Q v H2) → r x H1 Q) :
    EP K O J Γ (tUn r ta) P := fun σ H1 hJ hE Q q =>
  h1 σ H1 hJ hE _ fun s1 x H2 p1 hJ2 st1 o1 => h s1 x H2 p1 hJ2 (hE.step st1).tr o1 Q fun s v H4 p hJ4 st3 o => q s v H4 p hJ4 (st1.trans st3) o
/-- ints -/
theorem e_I0 {g : Int → Int → V} {e : PyData} (h1 : ED K O J Γ ta (.int i)) (h2 : ED K O J Γ tb (.int j)) (hg : ∀ H, Dp K H (g i j) e) : ED K O J Γ (tOp (rI0 g) ta tb) e :=
  e_op h1 h2 fun s1 s2 x y H1 p1 p2 hJ tr o1 o2 Q q => by
    cases p1; cases p2; cases o1; cases o2
    exact ⟨i, j, rfl, rfl, q _ _ H1 rfl hJ .refl (hg _)⟩
theorem e_IC {g : Int → Int → V} {C : Int → Int → Prop} {e : PyData} (h1 : ED K O J Γ ta (.int i)) (h2 : ED K O J Γ tb (.int j)) (hc : C i j) (hg : ∀ H, Dp K H (g i j) e) : ED K O J Γ (tOp (rI C g) ta tb) e :=
  e_op h1 h2 fun s1 s2 x y H1 p1 p2 hJ tr o1 o2 Q q => by
    cases p1; cases p2; cases o1; cases o2
    exact ⟨i, j, rfl, rfl, hc, q _ _ H1 rfl hJ .refl (hg _)⟩
theorem e_add (h1 : ED K O J Γ ta (.int i)) (h2 : ED K O J Γ tb (.int j)) : ED K O J Γ (tOp (rI0 fun i j => .int (i + j)) ta tb) (.int (i + j)) := e_I0 h1 h2 fun _ => .int _
theorem e_sub (h1 : ED K O J Γ ta (.int i)) (h2 : ED K O J Γ tb (.int j)) : ED K O J Γ (tOp (rI0 fun i j => .int (i - j)) ta tb) (.int (i - j)) := e_I0 h1 h2 fun _ => .int _
theorem e_mul (h1 : ED K O J Γ ta (.int i)) (h2 : ED K O J Γ tb (.int j)) (hc : CMul i j) : ED K O J Γ (tOp (rI CMul fun i j => .int (i * j)) ta tb) (.int (i * j)) := e_IC h1 h2 hc fun _ => .int _
theorem e_mulW (h1 : ED K O J Γ ta (.int i)) (h2 : ED K O J Γ tb (.int j)) (hc : CMulW i j) : ED K O J Γ (tOp (rI CMulW fun i j => .int (i * j)) ta tb) (.int (i * j)) := e_IC h1 h2 hc fun _ => .int _
theorem e_pow (h1 : ED K O J Γ ta (.int i)) (h2 : ED K O J Γ tb (.int j)) (hc : CPow i j) : ED K O J Γ (tOp (rI CPow fun i j => .int (i ^ j.toNat)) ta tb) (.int (i ^ j.toNat)) := e_IC h1 h2 hc fun _ => .int _
theorem e_mod (h1 : ED K O J Γ ta (.int i)) (h2 : ED K O J Γ tb (.int j)) (hc : 0 < j) : ED K O J Γ (tOp (rI (fun _ j => 0 < j) fun i j => .int (i % j)) ta tb) (.int (i % j)) := e_IC h1 h2 hc fun _ => .int _
theorem e_modN (h1 : ED K O J Γ ta (.int i)) (h2 : ED K O J Γ tb (.int j)) (hc : j ≠ 0) : ED K O J Γ (tOp (rI (fun _ j => j ≠ 0) fun i j => .int (i.fmod j)) ta tb) (.int (i.fmod j)) := e_IC h1 h2 hc fun _ => .int _
theorem e_div (h1 : ED K O J Γ ta (.int i)) (h2 : ED K O J Γ tb (.int j)) (hc : CDiv i j) : ED K O J Γ (tOp (rI CDiv fun i j => .int (i / j)) ta tb) (.int (i / j)) := e_IC h1 h2 hc fun _ => .int _
theorem e_lt (h1 : ED K O J Γ ta (.int i)) (h2 : ED K O J Γ tb (.int j)) : ED K O J Γ (tOp (rI0 fun i j => .bl (decide (i < j))) ta tb) (.bool (decide (i < j))) := e_I0 h1 h2 fun _ => .bl _
theorem e_le (h1 : ED K O J Γ ta (.int i)) (h2 : ED K O J Γ tb (.int j)) : ED K O J Γ (tOp (rI0 fun i j => .bl (decide (i ≤ j))) ta tb) (.bool (decide (i ≤ j))) := e_I0 h1 h2 fun _ => .bl _
theorem e_gt (h1 : ED K O J Γ ta (.int i)) (h2 : ED K O J Γ tb (.int j)) : ED K O J Γ (tOp (rI0 fun i j => .bl (decide (j < i))) ta tb) (.bool (decide (j < i))) := e_I0 h1 h2 fun _ => .bl _
theorem e_ge (h1 : ED K O J Γ ta (.int i)) (h2 : ED K O J Γ tb (.int j)) : ED K O J Γ (tOp (rI0 fun i j => .bl (decide (j ≤ i))) ta tb) (.bool (decide (j ≤ i))) := e_I0 h1 h2 fun _ => .bl _
theorem e_neg (h1 : ED K O J Γ ta (.int i)) : ED K O J Γ (tUn (rU fun i => .int (-i)) ta) (.int (-i)) :=
  e_un h1 fun s1 x H1 p1 hJ tr o1 Q q => by
    cases p1; cases o1
    exact ⟨i, rfl, q _ _ H1 rfl hJ .refl (.int _)⟩
/-- == and != of what is scalar -/
theorem e_eqI (h1 : ED K O J Γ ta (.int i)) (h2 : ED K O J Γ tb (.int j)) : ED K O J Γ (tOp rEq ta tb) (.bool (decide (i = j))) :=
  e_op h1 h2 fun s1 s2 x y H1 p1 p2 hJ tr o1 o2 Q q => by
    cases p1; cases p2; cases o1; cases o2
    have e : decide (V.int i = V.int j) = decide (i = j) := by simp
    exact ⟨rfl, q _ _ H1 rfl hJ .refl (by rw [e]; exact .bl _)⟩
theorem e_neI (h1 : ED K O J Γ ta (.int i)) (h2 : ED K O J Γ tb (.int j)) : ED K O J Γ (tOp rNe ta tb) (.bool (!decide (i = j))) :=
  e_op h1 h2 fun s1 s2 x y H1 p1 p2 hJ tr o1 o2 Q q => by
    cases p1; cases p2; cases o1; cases o2
    have e : decide (V.int i = V.int j) = decide (i = j) := by simp
    exact ⟨rfl, q _ _ H1 rfl hJ .refl (by rw [e]; exact .bl _)⟩
theorem e_eqD {e : PyData} (h1 : ED K O J Γ ta d) (h2 : ED K O J Γ tb e) (k1 : SeqAt.shaped d = true) (k2 : SeqAt.shaped e = true) : ED K O J Γ (tOp (rEqD K) ta tb) (.bool (PyData.eqv d e)) :=
  e_op h1 h2 fun s1 s2 x y H1 p1 p2 hJ tr o1 o2 Q q => by
    cases p1; cases p2
    exact ⟨d, e, dpGrow hid_ex o1, dpGrow hid_ex o2, k1, k2, q _ _ H1 rfl hJ .refl (.bl _)⟩
theorem e_neD {e : PyData} (h1 : ED K O J Γ ta d) (h2 : ED K O J Γ tb e) (k1 : SeqAt.shaped d = true) (k2 : SeqAt.shaped e = true) : ED K O J Γ (tOp (rNeD K) ta tb) (.bool (!PyData.eqv d e)) :=
  e_op h1 h2 fun s1 s2 x y H1 p1 p2 hJ tr o1 o2 Q q => by
    cases p1; cases p2
    exact ⟨d, e, dpGrow hid_ex o1, dpGrow hid_ex o2, k1, k2, q _ _ H1 rfl hJ .refl (.bl _)⟩
/-- is None -/
def isNon : PyData → Bool
  | .none => true
  | _ => false
theorem dp_non {H : Hp} {x : V} (h : Dp K H x d) : decide (x = .non) = isNon d := by
  cases h <;> first | rfl | simp [isNon]
theorem e_isN (h1 : ED K O J Γ ta d) (h2 : ED K O J Γ tb .none) : ED K O J Γ (tOp (fun x y H Q => y = .non ∧ Q (.bl (decide (x = .non))) H) ta tb) (.bool (isNon d)) :=
  e_op h1 h2 fun s1 s2 x y H1 p1 p2 hJ tr o1 o2 Q q => by
    cases p1; cases p2
    have e := dp_non (show Dp K _ x d from o1)
    cases o2
    exact ⟨rfl, q _ _ H1 rfl hJ .refl (by rw [e]; exact .bl _)⟩
theorem e_notN (h1 : ED K O J Γ ta d) (h2 : ED K O J Γ tb .none) : ED K O J Γ (tOp (fun x y H Q => y = .non ∧ Q (.bl (!decide (x = .non))) H) ta tb) (.bool (!isNon d)) :=
  e_op h1 h2 fun s1 s2 x y H1 p1 p2 hJ tr o1 o2 Q q => by
    cases p1; cases p2
    have e := dp_non (show Dp K _ x d from o1)
    cases o2
    exact ⟨rfl, q _ _ H1 rfl hJ .refl (by rw [e]; exact .bl _)⟩
theorem e_isB (h1 : ED K O J Γ ta (.bool a)) (h2 : ED K O J Γ tb (.bool b)) : ED K O J Γ (tOp (fun x y H Q => ∃ a b, x = .bl a ∧ y = .bl b ∧ Q (.bl (decide (a = b))) H) ta tb) (.bool (decide (a = b))) :=
  e_op h1 h2 fun s1 s2 x y H1 p1 p2 hJ tr o1 o2 Q q => by
    cases p1; cases p2; cases o1; cases o2
    exact ⟨a, b, rfl, rfl, q _ _ H1 rfl hJ .refl (.bl _)⟩
theorem e_isnB (h1 : ED K O J Γ ta (.bool a)) (h2 : ED K O J Γ tb (.bool b)) : ED K O J Γ (tOp (fun x y H Q => ∃ a b, x = .bl a ∧ y = .bl b ∧ Q (.bl (!decide (a = b))) H) ta tb) (.bool (!decide (a = b))) :=
  e_op h1 h2 fun s1 s2 x y H1 p1 p2 hJ tr o1 o2 Q q => by
    cases p1; cases p2; cases o1; cases o2
    exact ⟨a, b, rfl, rfl, q _ _ H1 rfl hJ .refl (.bl _)⟩
/-- an item of a tuple, of a list -/
theorem e_ixT {ds : List PyData} {n : Nat} {e : PyData} (h1 : ED K O J Γ ta (.tuple ds)) (h2 : ED K O J Γ tb (.int (n : Int))) (hn : ds[n]? = some e) : ED K O J Γ (tOp (rIxT K) ta tb) e :=
  e_op h1 h2 fun s1 s2 x y H1 p1 p2 hJ tr o1 o2 Q q => by
    cases p1; cases p2; cases o2
    cases o1 with
    | tup hs ha =>
      obtain ⟨v, e1, e2⟩ := dpAt ha hn
      exact ⟨_, _, _, v, rfl, rfl, Evl.ex_t hid_ex hs, atI_nat e1, q _ _ H1 rfl hJ .refl e2⟩
theorem e_ixL {ds : List PyData} {n : Nat} {e : PyData} (h1 : ED K O J Γ ta (.list ds)) (h2 : ED K O J Γ tb (.int (n : Int))) (hn : ds[n]? = some e) : ED K O J Γ (tOp (rIxL K) ta tb) e :=
  e_op h1 h2 fun s1 s2 x y H1 p1 p2 hJ tr o1 o2 Q q => by
    cases p1; cases p2; cases o2
    cases o1 with
    | lst hs ha =>
      obtain ⟨v, e1, e2⟩ := dpAt ha hn
      exact ⟨_, _, _, v, rfl, rfl, Evl.ex_l hid_ex hs, atI_nat e1, q _ _ H1 rfl hJ .refl e2⟩
/-- truth, and, or, not as values; conditional expressions -/
theorem e_andV (h1 : ED K O J Γ ta (.bool a)) (h2 : a = true → ED K O J Γ tb (.bool b)) (h3 : a = false → b = false) : ED K O J Γ (tAndV ta tb) (.bool b) := fun σ H1 hJ hE Q q =>
  h1 σ H1 hJ hE _ fun s1 x H2 p1 hJ2 st1 o1 => by
    cases p1; cases o1
    refine ⟨a, rfl, ?_⟩
    cases a with
    | true => exact iteT (h2 rfl σ H2 hJ2 (hE.step st1) Q fun s v H3 p hJ3 st o => q s v H3 p hJ3 (st1.trans st) o)
    | false =>
      cases (h3 rfl)
      exact iteF (q _ _ H2 rfl hJ2 st1 (.bl _))
theorem e_orV (h1 : ED K O J Γ ta (.bool a)) (h2 : a = false → ED K O J Γ tb (.bool b)) (h3 : a = true → b = true) : ED K O J Γ (tOrV ta tb) (.bool b) := fun σ H1 hJ hE Q q =>
  h1 σ H1 hJ hE _ fun s1 x H2 p1 hJ2 st1 o1 => by
    cases p1; cases o1
    refine ⟨a, rfl, ?_⟩
    cases a with
    | true =>
      cases (h3 rfl)
      exact iteT (q _ _ H2 rfl hJ2 st1 (.bl _))
    | false => exact iteF (h2 rfl σ H2 hJ2 (hE.step st1) Q fun s v H3 p hJ3 st o => q s v H3 p hJ3 (st1.trans st) o)
theorem e_notV (h1 : ED K O J Γ ta (.bool a)) : ED K O J Γ (tNotV ta) (.bool (!a)) := fun σ H1 hJ hE Q q =>
  h1 σ H1 hJ hE _ fun s1 x H2 p1 hJ2 st1 o1 => by
    cases p1; cases o1
    exact ⟨a, rfl, q _ _ H2 rfl hJ2 st1 (.bl _)⟩
theorem e_if (h : ET K O J Γ tt a) (h1 : a = true → EP K O J Γ ta P) (h2 : a = false → EP K O J Γ tb P) : EP K O J Γ (tIf tt ta tb) P := fun σ H1 hJ hE Q q =>
  h σ H1 hJ hE _ fun H2 hJ2 st1 => by
    cases a with
    | true => exact iteT (h1 rfl σ H2 hJ2 (hE.step st1) Q fun s v H3 p hJ3 st o => q s v H3 p hJ3 (st1.trans st) o)
    | false => exact iteF (h2 rfl σ H2 hJ2 (hE.step st1) Q fun s v H3 p hJ3 st o => q s v H3 p hJ3 (st1.trans st) o)
/-! ### tests -/
def truD : PyData → Bool
  | .none => false
  | .bool b => b
  | .int i => i != 0
  | .str x => (x.length : Int) != 0
  | .list ds => !ds.isEmpty
  | .tuple ds => !ds.isEmpty
  | .dict _ => false
def sizedD : PyData → Prop
  | .str x => x.length ≤ sizeLine
  | _ => True
theorem empty_of {H : Hp} {vs : List V} {ds : List PyData} (h : DpAll K H vs ds) : (!ds.isEmpty) = !vs.isEmpty := by cases h <;> rfl
theorem t_truth (h : ED K O J Γ te d) (hz : sizedD d) : ET K O J Γ (fun σ H Q => te σ H fun x H' => ∃ k, TruV K x H' k ∧ Q k H') (truD d) := fun σ H1 hJ hE Q q =>
  h σ H1 hJ hE _ fun s1 x H2 p1 hJ2 st1 o1 => by
    cases p1
    have o : Dp K (hid O H2) x d := o1
    refine ⟨truD d, ?_, q H2 hJ2 st1⟩
    cases o with
    | non => exact rfl
    | bl b => exact rfl
    | int i => exact rfl
    | str y => exact ⟨hz, rfl⟩
    | lst hs ha => exact .inl ⟨_, Evl.ex_l hid_ex hs, empty_of ha⟩
    | tup hs ha => exact .inr (.inl ⟨_, Evl.ex_t hid_ex hs, empty_of ha⟩)
theorem t_val (h : ED K O J Γ te (.bool a)) : ET K O J Γ (tTest te) a := fun σ H1 hJ hE Q q =>
  h σ H1 hJ hE _ fun s1 x H2 p1 hJ2 st1 o1 => by
    cases p1; cases o1
    exact ⟨a, rfl, q H2 hJ2 st1⟩
theorem t_B (h : ED K O J Γ te (.bool a)) : ET K O J Γ (tB te) a := fun σ H1 hJ hE Q q =>
  h σ H1 hJ hE _ fun s1 x H2 p1 hJ2 st1 o1 => by
    cases p1; cases o1
    exact ⟨a, rfl, q H2 hJ2 st1⟩
theorem t_not (h : ET K O J Γ tt a) : ET K O J Γ (tNot tt) (!a) := fun σ H1 hJ hE Q q => h σ H1 hJ hE _ fun H2 hJ2 st => q H2 hJ2 st
theorem t_and (h1 : ET K O J Γ tt a) (h2 : a = true → ET K O J Γ tu b) (h3 : a = false → b = false) : ET K O J Γ (tAnd tt tu) b := fun σ H1 hJ hE Q q =>
  h1 σ H1 hJ hE _ fun H2 hJ2 st1 => by
    cases a with
    | true => exact iteT (h2 rfl σ H2 hJ2 (hE.step st1) Q fun H3 hJ3 st => q H3 hJ3 (st1.trans st))
    | false =>
      cases (h3 rfl)
      exact iteF (q H2 hJ2 st1)
theorem t_or (h1 : ET K O J Γ tt a) (h2 : a = false → ET K O J Γ tu b) (h3 : a = true → b = true) : ET K O J Γ (tOr tt tu) b := fun σ H1 hJ hE Q q =>
  h1 σ H1 hJ hE _ fun H2 hJ2 st1 => by
    cases a with
    | true =>
      cases (h3 rfl)
      exact iteT (q H2 hJ2 st1)
    | false => exact iteF (h2 rfl σ H2 hJ2 (hE.step st1) Q fun H3 hJ3 st => q H3 hJ3 (st1.trans st))
theorem t_is (h : ET K O J Γ tt a) (e : a = b) : ET K O J Γ tt b := e ▸ h
/-! ### arguments, displays -/
theorem a_nil : EAs K O J Γ tNil [] := fun σ H1 hJ hE Q q => q _ _ H1 rfl hJ .refl .nil
theorem a_cons {tr : TA} {ss : List Sl} (h : ES K O J Γ te s) (hr : EAs K O J Γ tr ss) : EAs K O J Γ (tCons te tr) (s :: ss) := fun σ H1 hJ hE Q q =>
  h σ H1 hJ hE _ fun s1 x H2 p1 hJ2 st1 o1 => hr σ H2 hJ2 (hE.step st1) _ fun ss2 vs H3 p2 hJ3 st2 o2 => by
    cases p1; cases p2
    exact q _ _ H3 rfl hJ3 (st1.trans st2) (.cons (o1.grow st2.ex) o2)
/-- the general one: each argument by what is known of it -/
theorem a_consP {tr : TA} {Ps : List Sl → Prop} {Pt : List Sl → Prop} (h : EP K O J Γ te P) (hr : EA K O J Γ tr Ps) (k : ∀ s ss, P s → Ps ss → Pt (s :: ss)) : EA K O J Γ (tCons te tr) Pt := fun σ H1 hJ hE Q q =>
  h σ H1 hJ hE _ fun s1 x H2 p1 hJ2 st1 o1 => hr σ H2 hJ2 (hE.step st1) _ fun ss2 vs H3 p2 hJ3 st2 o2 =>
    q _ _ H3 (k _ _ p1 p2) hJ3 (st1.trans st2) (.cons (o1.grow st2.ex) o2)
theorem hid_new {H : Hp} {p : Addr} {o : HO} (tr : ∀ b, O b = true → H b ≠ none) (h : H p = none) : hid O (upd H p o) p = some o := by
  rw [hid_at (fresh_not tr h), upd_same]
theorem e_tupP (G : Gr J) {ta : TA} {Ps : List Sl → Prop} (h : EA K O J Γ ta Ps) (hP : ∀ ss, Ps ss → ∃ ds, ss = ds.map Sl.da ∧ ds.length ≤ 100000 ∧ P (.da (.tuple ds))) : EP K O J Γ (tTup ta) P := fun σ H1 hJ hE Q q =>
  h σ H1 hJ hE _ fun ss vs H2 p1 hJ2 st1 o1 => by
    obtain ⟨ds, rfl, hl, hp⟩ := hP ss p1
    have o := o1.data
    refine ⟨Evl.sz_of (by rw [dpLen o]; exact hl), fun p np => ?_⟩
    have e : Ex H2 (upd H2 p (.tup vs)) := Evl.Ex.new np
    exact q _ _ _ hp (G _ _ e hJ2) (st1.trans (.of e)) (.tup (Evl.st_of (hid_new (hE.step st1).tr np)) (dpGrowAll (hid_grow e) o))
theorem e_tup (G : Gr J) {ta : TA} {ds : List PyData} (h : EAs K O J Γ ta (ds.map Sl.da)) (hl : ds.length ≤ 100000 := by simp) : ED K O J Γ (tTup ta) (.tuple ds) :=
  e_tupP G h fun ss e => ⟨ds, e, hl, rfl⟩
theorem e_lst (G : Gr J) {ta : TA} {ds : List PyData} (h : EAs K O J Γ ta (ds.map Sl.da)) (hl : ds.length ≤ 100000 := by simp) : ED K O J Γ (tLst ta) (.list ds) := fun σ H1 hJ hE Q q =>
  h σ H1 hJ hE _ fun ss vs H2 p1 hJ2 st1 o1 => by
    cases p1
    have o := o1.data
    refine ⟨Evl.sz_of (by rw [dpLen o]; exact hl), fun p np => ?_⟩
    have e : Ex H2 (upd H2 p (.lst vs)) := Evl.Ex.new np
    exact q _ _ _ rfl (G _ _ e hJ2) (st1.trans (.of e)) (.lst (Evl.sq_of (hid_new (hE.step st1).tr np)) (dpGrowAll (hid_grow e) o))
/-! ### calls -/
/-- what a promise gives for such arguments -/
def SpS (K : PySem.W.Frag) (O : Addr → Bool) (J : Hp → Prop) (sp : Sp) (E : XK) (ss : List Sl) (P : Sl → Prop) : Prop :=
  ∀ (vs : List V) (H1 : Hp), J H1 → (∀ b, O b = true → H1 b ≠ none) → SlAll K (hid O H1) vs ss → ∀ Q : VK, (∀ s v H2, P s → J H2 → Step O H1 H2 → OkS K (hid O H2) v s → Q v H2) → sp vs H1 Q E
theorem e_call {sp : Sp} {ta : TA} {E : XK} {ss : List Sl} (h : EAs K O J Γ ta ss) (hs : SpS K O J sp E ss P) : EP K O J Γ (tCall sp [] E ta) P := fun σ H1 hJ hE Q q =>
  h σ H1 hJ hE _ fun ss2 vs H2 p1 hJ2 st1 o1 => by
    cases p1
    show sp (vs ++ []) H2 Q E
    rw [List.append_nil]
    exact hs vs H2 hJ2 (hE.step st1).tr o1 Q fun s v H3 p hJ3 st o => q s v H3 p hJ3 (st1.trans st) o
theorem e_callP {sp : Sp} {ta : TA} {E : XK} {Ps : List Sl → Prop} (h : EA K O J Γ ta Ps) (hs : ∀ ss, Ps ss → SpS K O J sp E ss P) : EP K O J Γ (tCall sp [] E ta) P := fun σ H1 hJ hE Q q =>
  h σ H1 hJ hE _ fun ss2 vs H2 p1 hJ2 st1 o1 => by
    show sp (vs ++ []) H2 Q E
    rw [List.append_nil]
    exact hs ss2 p1 vs H2 hJ2 (hE.step st1).tr o1 Q fun s v H3 p hJ3 st o => q s v H3 p hJ3 (st1.trans st) o
/-- a call of a built-in -/
def RcS (K : PySem.W.Frag) (O : Addr → Bool) (J : Hp → Prop) (r : List V → Hp → VK → Prop) (ss : List Sl) (P : Sl → Prop) : Prop :=
  ∀ (vs : List V) (H1 : Hp), J H1 → (∀ b, O b = true → H1 b ≠ none) → SlAll K (hid O H1) vs ss → ∀ Q : VK, (∀ s v H2, P s → J H2 → Step O H1 H2 → OkS K (hid O H2) v s → Q v H2) → r vs H1 Q
theorem e_cb {r : List V → Hp → VK → Prop} {ta : TA} {ss : List Sl} (h : EAs K O J Γ ta ss) (hs : RcS K O J r ss P) : EP K O J Γ (tCB r ta) P := fun σ H1 hJ hE Q q =>
  h σ H1 hJ hE _ fun ss2 vs H2 p1 hJ2 st1 o1 => by
    cases p1
    exact hs vs H2 hJ2 (hE.step st1).tr o1 Q fun s v H3 p hJ3 st o => q s v H3 p hJ3 (st1.trans st) o
theorem sl1 {H : Hp} {vs : List V} {s : Sl} (h : SlAll K H vs [s]) : ∃ v, vs = [v] ∧ OkS K H v s := by
  cases h with | cons a b => cases b; exact ⟨_, rfl, a⟩
theorem sl2 {H : Hp} {vs : List V} {s t : Sl} (h : SlAll K H vs [s, t]) : ∃ v w, vs = [v, w] ∧ OkS K H v s ∧ OkS K H w t := by
  cases h with | cons a b => obtain ⟨w, rfl, c⟩ := sl1 b; exact ⟨_, _, rfl, a, c⟩
theorem sl3 {H : Hp} {vs : List V} {s t u : Sl} (h : SlAll K H vs [s, t, u]) : ∃ v w x, vs = [v, w, x] ∧ OkS K H v s ∧ OkS K H w t ∧ OkS K H x u := by
  cases h with | cons a b => obtain ⟨w, x, rfl, c, d⟩ := sl2 b; exact ⟨_, _, _, rfl, a, c, d⟩
/-- int(n), abs(n), gcd -/
theorem c_int : RcS K O J (fun xs H Q => (∃ i, xs = [.int i] ∧ Q (.int i) H) ∨ ∃ k, xs = [.bl k] ∧ Q (.int (if k then 1 else 0)) H) [.da (.int i)] (fun x => x = .da (.int i)) := fun vs H1 hJ tr h Q q => by
  obtain ⟨v, rfl, o⟩ := sl1 h
  cases o
  exact .inl ⟨i, rfl, q _ _ H1 rfl hJ .refl (.int i)⟩
theorem c_abs : RcS K O J (fun xs H Q => ∃ i, xs = [.int i] ∧ Q (.int (if i < 0 then -i else i)) H) [.da (.int i)] (fun x => x = .da (.int (if i < 0 then -i else i))) := fun vs H1 hJ tr h Q q => by
  obtain ⟨v, rfl, o⟩ := sl1 h
  cases o
  exact ⟨i, rfl, q _ _ H1 rfl hJ .refl (.int _)⟩
theorem c_gcd : RcS K O J rGcd [.da (.int i), .da (.int j)] (fun x => x = .da (.int ((Nat.gcd i.natAbs j.natAbs : Nat) : Int))) := fun vs H1 hJ tr h Q q => by
  obtain ⟨v, w, rfl, o1, o2⟩ := sl2 h
  cases o1; cases o2
  exact ⟨i, j, rfl, q _ _ H1 rfl hJ .refl (.int _)⟩
/-- len -/
theorem c_lenT {ds : List PyData} : RcS K O J (fun xs H Q => ∃ x n, xs = [x] ∧ LenV K x H n ∧ Q (.int n) H) [.da (.tuple ds)] (fun x => x = .da (.int (ds.length : Int))) := fun vs H1 hJ tr h Q q => by
  obtain ⟨v, rfl, o⟩ := sl1 h
  cases o with
  | tup hs ha => exact ⟨_, ds.length, rfl, .inr ⟨_, Evl.ex_t hid_ex hs, (dpLen ha).symm⟩, q _ _ H1 rfl hJ .refl (.int _)⟩
theorem c_lenL {ds : List PyData} : RcS K O J (fun xs H Q => ∃ x n, xs = [x] ∧ LenV K x H n ∧ Q (.int n) H) [.da (.list ds)] (fun x => x = .da (.int (ds.length : Int))) := fun vs H1 hJ tr h Q q => by
  obtain ⟨v, rfl, o⟩ := sl1 h
  cases o with
  | lst hs ha => exact ⟨_, ds.length, rfl, .inl ⟨_, Evl.ex_l hid_ex hs, (dpLen ha).symm⟩, q _ _ H1 rfl hJ .refl (.int _)⟩
end
end LL


set_option Elab.async false
set_option linter.all false
set_option maxRecDepth 100000
set_option maxHeartbeats 4000000
namespace LL
open PySem PySem.Spec PyProof.Rows L2
open Evl (Ex)
/-! ### statements: what is returned, what holds behind, at a break, at a continue -/
structure Po where
  rt : Sl → Prop
  nx : List Sl → Prop := fun _ => False
  bk : List Sl → Prop := fun _ => False
  ct : List Sl → Prop := fun _ => False
structure Good (K : PySem.W.Frag) (O : Addr → Bool) (J : Hp → Prop) (D : Ends) (H1 : Hp) (p : Po) : Prop where
  rt : ∀ s v H2, p.rt s → J H2 → Step O H1 H2 → OkS K (hid O H2) v s → D.rt v H2
  nx : ∀ Γ σ H2, p.nx Γ → J H2 → Step O H1 H2 → En K O σ Γ H2 → D.nx σ H2
  bk : ∀ Γ σ H2, p.bk Γ → J H2 → Step O H1 H2 → En K O σ Γ H2 → D.bk σ H2
  ct : ∀ Γ σ H2, p.ct Γ → J H2 → Step O H1 H2 → En K O σ Γ H2 → D.ct σ H2
def Ok (K : PySem.W.Frag) (O : Addr → Bool) (J : Hp → Prop) (Γ : List Sl) (t : TS) (p : Po) : Prop :=
  ∀ (D : Ends) (σ : L2.St) (H1 : Hp), J H1 → En K O σ Γ H1 → Good K O J D H1 p → t D σ H1
section
variable {K : PySem.W.Frag} {O : Addr → Bool} {J : Hp → Prop} {Γ : List Sl} {ta tb te : TE} {tt : TT} {t u w : TS} {p : Po} {P : Sl → Prop} {a b : Bool}
theorem Good.step {D : Ends} {H1 H2 : Hp} (g : Good K O J D H1 p) (s : Step O H1 H2) : Good K O J D H2 p :=
  ⟨fun x v H3 h j st => g.rt x v H3 h j (s.trans st), fun Γ σ H3 h j st => g.nx Γ σ H3 h j (s.trans st), fun Γ σ H3 h j st => g.bk Γ σ H3 h j (s.trans st), fun Γ σ H3 h j st => g.ct Γ σ H3 h j (s.trans st)⟩
theorem ok_next (h : p.nx Γ) : Ok K O J Γ tNext p := fun D σ H1 hJ hE g => g.nx Γ σ H1 h hJ .refl hE
theorem ok_break (h : p.bk Γ) : Ok K O J Γ tBreak p := fun D σ H1 hJ hE g => g.bk Γ σ H1 h hJ .refl hE
theorem ok_cont (h : p.ct Γ) : Ok K O J Γ tCont p := fun D σ H1 hJ hE g => g.ct Γ σ H1 h hJ .refl hE
theorem ok_seq {M : List Sl → Prop} (h : Ok K O J Γ t { p with nx := M }) (k : ∀ Γ', M Γ' → Ok K O J Γ' u p) : Ok K O J Γ (tSeq t u) p := fun D σ H1 hJ hE g =>
  h { D with nx := u D } σ H1 hJ hE ⟨g.rt, fun Γ' σ' H2 m hJ2 st hE2 => k Γ' m D σ' H2 hJ2 hE2 (g.step st), g.bk, g.ct⟩
theorem ok_set {i : Nat} (h : EP K O J Γ te P) (k : ∀ s, P s → p.nx (Γ.set i s)) : Ok K O J Γ (tAsg te (gName i)) p := fun D σ H1 hJ hE g =>
  h σ H1 hJ hE _ fun s v H2 ps hJ2 st o => g.nx _ _ H2 (k s ps) hJ2 st ((hE.step st).set o)
theorem q_set {i : Nat} (h : EP K O J Γ te P) (k : ∀ s, P s → Ok K O J (Γ.set i s) u p) : Ok K O J Γ (tSeq (tAsg te (gName i)) u) p :=
  ok_seq (M := fun Γ' => ∃ s, P s ∧ Γ' = Γ.set i s) (ok_set h fun s ps => ⟨s, ps, rfl⟩) fun _ ⟨s, ps, e⟩ => e ▸ k s ps
theorem ok_setS {i : Nat} {s : Sl} (h : ES K O J Γ te s) (k : p.nx (Γ.set i s)) : Ok K O J Γ (tAsg te (gName i)) p := ok_set h fun _ e => e ▸ k
theorem q_setS {i : Nat} {s : Sl} (h : ES K O J Γ te s) (k : Ok K O J (Γ.set i s) u p) : Ok K O J Γ (tSeq (tAsg te (gName i)) u) p := q_set h fun _ e => e ▸ k
theorem ok_ret (h : EP K O J Γ te p.rt) : Ok K O J Γ (tRet te) p := fun D σ H1 hJ hE g => h σ H1 hJ hE _ fun s v H2 ps hJ2 st o => g.rt s v H2 ps hJ2 st o
theorem ok_retS {s : Sl} (h : ES K O J Γ te s) (k : p.rt s) : Ok K O J Γ (tRet te) p := ok_ret (h.to k)
theorem ok_retN (k : p.rt (.da .none)) : Ok K O J Γ tRetN p := fun D σ H1 hJ hE g => g.rt _ _ H1 k hJ .refl .non
theorem q_ret (h : EP K O J Γ te p.rt) : Ok K O J Γ (tSeq (tRet te) u) p := fun D σ H1 hJ hE g => h σ H1 hJ hE _ fun s v H2 ps hJ2 st o => g.rt s v H2 ps hJ2 st o
theorem q_retS {s : Sl} (h : ES K O J Γ te s) (k : p.rt s) : Ok K O J Γ (tSeq (tRet te) u) p := q_ret (h.to k)
theorem ok_if (h : ET K O J Γ tt a) (h1 : a = true → Ok K O J Γ t p) (h2 : a = false → Ok K O J Γ u p) : Ok K O J Γ (tIfS tt t u) p := fun D σ H1 hJ hE g =>
  h σ H1 hJ hE _ fun H2 hJ2 st => by
    cases a with
    | true => exact iteT (h1 rfl D σ H2 hJ2 (hE.step st) (g.step st))
    | false => exact iteF (h2 rfl D σ H2 hJ2 (hE.step st) (g.step st))
theorem q_if (h : ET K O J Γ tt a) (h1 : a = true → Ok K O J Γ (tSeq t w) p) (h2 : a = false → Ok K O J Γ (tSeq u w) p) : Ok K O J Γ (tSeq (tIfS tt t u) w) p := fun D σ H1 hJ hE g =>
  h σ H1 hJ hE _ fun H2 hJ2 st => by
    cases a with
    | true => exact iteT (h1 rfl D σ H2 hJ2 (hE.step st) (g.step st))
    | false => exact iteF (h2 rfl D σ H2 hJ2 (hE.step st) (g.step st))
theorem q_next (h : Ok K O J Γ u p) : Ok K O J Γ (tSeq tNext u) p := h
theorem q_assoc (h : Ok K O J Γ (tSeq t (tSeq u w)) p) : Ok K O J Γ (tSeq (tSeq t u) w) p := h
/-- an if without else whose test is true only where it leaves -/
theorem q_when (h : ET K O J Γ tt a) (h1 : a = true → Ok K O J Γ (tSeq t w) p) (h2 : a = false → Ok K O J Γ w p) : Ok K O J Γ (tSeq (tIfS tt t tNext) w) p := q_if h h1 fun e => q_next (h2 e)
theorem q_not (h : ET K O J Γ tt false) (k : Ok K O J Γ w p) : Ok K O J Γ (tSeq (tIfS tt t tNext) w) p := q_when h (fun e => nomatch e) fun _ => k
theorem ok_drop (h : EP K O J Γ te P) (k : p.nx Γ) : Ok K O J Γ (tDrop te) p := fun D σ H1 hJ hE g => h σ H1 hJ hE _ fun s v H2 ps hJ2 st o => g.nx _ _ H2 k hJ2 st (hE.step st)
theorem q_drop (h : EP K O J Γ te P) (k : Ok K O J Γ u p) : Ok K O J Γ (tSeq (tDrop te) u) p := ok_seq (M := fun Γ' => Γ' = Γ) (ok_drop h rfl) fun _ e => e ▸ k
/-- x, y = e1, e2 -/
theorem q_par {i j : Nat} {ta : TA} {Ps : List Sl → Prop} (h : EA K O J Γ ta Ps) (hn : ∀ ss, Ps ss → ∃ s1 s2, ss = [s1, s2] ∧ Ok K O J ((Γ.set i s1).set j s2) u p) : Ok K O J Γ (tSeq (tPar i j ta) u) p := fun D σ H1 hJ hE g =>
  h σ H1 hJ hE _ fun ss vs H2 ps hJ2 st o => by
    obtain ⟨s1, s2, rfl, k⟩ := hn ss ps
    obtain ⟨v1, v2, rfl, o1, o2⟩ := sl2 o
    exact ⟨v1, v2, rfl, k D _ H2 hJ2 (((hE.step st).set o1).set o2) (g.step st)⟩
theorem ok_par {i j : Nat} {ta : TA} {Ps : List Sl → Prop} (h : EA K O J Γ ta Ps) (hn : ∀ ss, Ps ss → ∃ s1 s2, ss = [s1, s2] ∧ p.nx ((Γ.set i s1).set j s2)) : Ok K O J Γ (tPar i j ta) p := fun D σ H1 hJ hE g =>
  h σ H1 hJ hE _ fun ss vs H2 ps hJ2 st o => by
    obtain ⟨s1, s2, rfl, k⟩ := hn ss ps
    obtain ⟨v1, v2, rfl, o1, o2⟩ := sl2 o
    exact ⟨v1, v2, rfl, g.nx _ _ H2 k hJ2 st (((hE.step st).set o1).set o2)⟩
/-! ### loops -/
theorem ok_while (I : Nat → List Sl → Prop) (m0 : Nat) (h0 : I m0 Γ)
    (hs : ∀ m Γ', I m Γ' → ∃ c, ET K O J Γ' tt c ∧ (c = true → Ok K O J Γ' t { rt := p.rt, nx := fun Γ2 => ∃ m', m' < m ∧ I m' Γ2, ct := fun Γ2 => ∃ m', m' < m ∧ I m' Γ2, bk := p.nx }) ∧ (c = false → p.nx Γ')) : Ok K O J Γ (tWhile tt t) p := fun D σ H1 hJ hE g =>
  ⟨fun m σ' H' => J H' ∧ Step O H1 H' ∧ ∃ Γ', I m Γ' ∧ En K O σ' Γ' H', ⟨m0, hJ, .refl, Γ, h0, hE⟩, fun m σ' H' ⟨hJ', st', Γ', hi, hE'⟩ => by
    obtain ⟨c, hc, h1, h2⟩ := hs m Γ' hi
    refine hc σ' H' hJ' hE' _ fun H2 hJ2 st2 => ?_
    cases c with
    | true =>
      refine iteT ⟨fun σ2 H3 => ∃ m', m' < m ∧ (J H3 ∧ Step O H1 H3 ∧ ∃ Γ2, I m' Γ2 ∧ En K O σ2 Γ2 H3), fun σ2 H3 ⟨m', l, q⟩ => ⟨m', l, q⟩, ?_⟩
      exact h1 rfl _ σ' H2 hJ2 (hE'.step st2) ⟨fun s v H3 r j st o => g.rt s v H3 r j ((st'.trans st2).trans st) o, fun Γ2 σ2 H3 ⟨m', l, q⟩ j st e => ⟨m', l, j, (st'.trans st2).trans st, Γ2, q, e⟩,
        fun Γ2 σ2 H3 q j st e => g.nx Γ2 σ2 H3 q j ((st'.trans st2).trans st) e, fun Γ2 σ2 H3 ⟨m', l, q⟩ j st e => ⟨m', l, j, (st'.trans st2).trans st, Γ2, q, e⟩⟩
    | false => exact iteF (g.nx Γ' σ' H2 (h2 rfl) hJ2 (st'.trans st2) (hE'.step st2))⟩
theorem ok_forR {ta : TA} {j : Nat} {n : Int} (h : EAs K O J Γ ta [.da (.int n)]) (hn : n < 2 ^ 62) (hn' : -(2 ^ 62) ≤ n) (I : Nat → List Sl → Prop) (h0 : I 0 Γ)
    (hs : ∀ (i : Nat) Γ', (i : Int) < n → I i Γ' → Ok K O J (Γ'.set j (.da (.int (i : Int)))) t { rt := p.rt, nx := I (i + 1), ct := I (i + 1), bk := p.nx }) (hd : ∀ Γ', I n.toNat Γ' → p.nx Γ') : Ok K O J Γ (tFor (iRng1 ta) (gName j) t) p := fun D σ H1 hJ hE g =>
  h σ H1 hJ hE _ fun ss vs H2 ps hJ2 st o => by
    cases ps
    obtain ⟨v, rfl, o1⟩ := sl1 o
    cases o1
    refine ⟨n, rfl, hn', hn, for_range (lo := 0) (n := n.toNat) (fun i σ' H' => J H' ∧ Step O H1 H' ∧ ∃ Γ', I i Γ' ∧ En K O σ' Γ' H') ⟨hJ2, st, Γ, h0, hE.step st⟩ (fun i σ' H' hi ⟨hJ', st', Γ', q, hE'⟩ => ?_) fun σ' H' ⟨hJ', st', Γ', q, hE'⟩ => g.nx Γ' σ' H' (hd Γ' q) hJ' st' hE'⟩
    have e0 : (0 : Int) + (i : Int) = (i : Int) := Int.zero_add _
    show t _ (σ'.set j (some (.int ((0 : Int) + (i : Int))))) H'
    rw [e0]
    exact hs i Γ' (by omega) q _ _ H' hJ' (hE'.set (.int _)) ⟨fun s v H3 r jj st3 o => g.rt s v H3 r jj (st'.trans st3) o, fun Γ2 σ2 H3 r jj st3 e => ⟨jj, st'.trans st3, Γ2, r, e⟩,
      fun Γ2 σ2 H3 r jj st3 e => g.nx Γ2 σ2 H3 r jj (st'.trans st3) e, fun Γ2 σ2 H3 r jj st3 e => ⟨jj, st'.trans st3, Γ2, r, e⟩⟩
theorem ok_forT {tl : TE} {j : Nat} {ds : List PyData} (h : ED K O J Γ tl (.tuple ds)) (I : Nat → List Sl → Prop) (h0 : I 0 Γ)
    (hs : ∀ (i : Nat) (d : PyData) Γ', ds[i]? = some d → I i Γ' → Ok K O J (Γ'.set j (.da d)) t { rt := p.rt, nx := I (i + 1), ct := I (i + 1), bk := p.nx }) (hd : ∀ Γ', I ds.length Γ' → p.nx Γ') : Ok K O J Γ (tFor (iTup K tl) (gName j) t) p := fun D σ H1 hJ hE g =>
  h σ H1 hJ hE _ fun s v H2 ps hJ2 st o => by
    cases ps
    have o : Dp K (hid O H2) v (.tuple ds) := o
    cases o with
    | @tup a xs _ hq ha =>
      have hl := dpLen ha
      refine ⟨a, rfl, ⟨xs, Evl.ex_t hid_ex hq⟩, for_tup (K := K) (a := a) (xs := xs) (fun i σ' H' => J H' ∧ Step O H2 H' ∧ ∃ Γ', I i Γ' ∧ En K O σ' Γ' H') ⟨hJ2, .refl, Γ, h0, hE.step st⟩ (fun i σ' H' _ ⟨_, st', _⟩ => Evl.ex_t hid_ex (Evl.ex_t st'.ex hq)) (fun i x σ' H' hi ⟨hJ', st', Γ', q, hE'⟩ => ?_)
        fun σ' H' ⟨hJ', st', Γ', q, hE'⟩ => g.nx Γ' σ' H' (hd Γ' (by rw [← hl]; exact q)) hJ' (st.trans st') hE'⟩
      have hi' : i < ds.length := by
        have := (List.getElem?_eq_some_iff.mp hi).1
        omega
      have ed : ds[i]? = some ds[i] := List.getElem?_eq_getElem hi'
      obtain ⟨y, e1, e2⟩ := dpAt ha ed
      rw [hi] at e1
      cases e1
      exact hs i _ Γ' ed q _ _ H' hJ' (hE'.set (s := .da ds[i]) (dpGrow st'.ex e2)) ⟨fun s v H3 r jj st3 o => g.rt s v H3 r jj ((st.trans st').trans st3) o, fun Γ2 σ2 H3 r jj st3 e => ⟨jj, st'.trans st3, Γ2, r, e⟩,
        fun Γ2 σ2 H3 r jj st3 e => g.nx Γ2 σ2 H3 r jj ((st.trans st').trans st3) e, fun Γ2 σ2 H3 r jj st3 e => ⟨jj, st'.trans st3, Γ2, r, e⟩⟩
theorem ok_forL {tl : TE} {j : Nat} {ds : List PyData} (h : ED K O J Γ tl (.list ds)) (I : Nat → List Sl → Prop) (h0 : I 0 Γ)
    (hs : ∀ (i : Nat) (d : PyData) Γ', ds[i]? = some d → I i Γ' → Ok K O J (Γ'.set j (.da d)) t { rt := p.rt, nx := I (i + 1), ct := I (i + 1), bk := p.nx }) (hd : ∀ Γ', I ds.length Γ' → p.nx Γ') : Ok K O J Γ (tFor (iList K tl) (gName j) t) p := fun D σ H1 hJ hE g =>
  h σ H1 hJ hE _ fun s v H2 ps hJ2 st o => by
    cases ps
    have o : Dp K (hid O H2) v (.list ds) := o
    cases o with
    | @lst a xs _ hq ha =>
      have hl := dpLen ha
      refine ⟨a, rfl, ⟨xs, Evl.ex_l hid_ex hq⟩, for_list (K := K) (a := a) (xs := xs) (fun i σ' H' => J H' ∧ Step O H2 H' ∧ ∃ Γ', I i Γ' ∧ En K O σ' Γ' H') ⟨hJ2, .refl, Γ, h0, hE.step st⟩ (fun i σ' H' _ ⟨_, st', _⟩ => Evl.ex_l hid_ex (Evl.ex_l st'.ex hq)) (fun i x σ' H' hi ⟨hJ', st', Γ', q, hE'⟩ => ?_)
        fun σ' H' ⟨hJ', st', Γ', q, hE'⟩ => g.nx Γ' σ' H' (hd Γ' (by rw [← hl]; exact q)) hJ' (st.trans st') hE'⟩
      have hi' : i < ds.length := by
        have := (List.getElem?_eq_some_iff.mp hi).1
        omega
      have ed : ds[i]? = some ds[i] := List.getElem?_eq_getElem hi'
      obtain ⟨y, e1, e2⟩ := dpAt ha ed
      rw [hi] at e1
      cases e1
      exact hs i _ Γ' ed q _ _ H' hJ' (hE'.set (s := .da ds[i]) (dpGrow st'.ex e2)) ⟨fun s v H3 r jj st3 o => g.rt s v H3 r jj ((st.trans st').trans st3) o, fun Γ2 σ2 H3 r jj st3 e => ⟨jj, st'.trans st3, Γ2, r, e⟩,
        fun Γ2 σ2 H3 r jj st3 e => g.nx Γ2 σ2 H3 r jj ((st.trans st').trans st3) e, fun Γ2 σ2 H3 r jj st3 e => ⟨jj, st'.trans st3, Γ2, r, e⟩⟩
end
theorem slApp {K : PySem.W.Frag} {H : Hp} : ∀ {ss ts : List Sl} {vs us : List V}, SlAll K H vs ss → SlAll K H us ts → SlAll K H (vs ++ us) (ss ++ ts)
  | [], _, _, _, h, q => by cases h; exact q
  | _ :: _, _, _, _, h, q => by cases h with | cons a b => exact .cons a (slApp b q)
/-! ### promises: a function of data -/
def spG (K : PySem.W.Frag) (n : Nat) (Pre : List Sl → Prop) (R : List Sl → Sl → Prop) : Sp := fun vs H Q _ =>
  ∃ (O : Addr → Bool) (ss : List Sl), (∀ b, O b = true → H b ≠ none) ∧ SlAll K (hid O H) vs ss ∧ ss.length = n ∧ Pre ss ∧ ∀ s v H', R ss s → Ex H H' → OkS K (hid O H') v s → Q v H'
section
variable {P : Program} {w : World} {K : PySem.W.Frag} {mg : Str → Option Value} {base : Heap} {O : Addr → Bool} {J : Hp → Prop}
theorem spG_len {n : Nat} {Pre : List Sl → Prop} {R : List Sl → Sl → Prop} (vs : List V) (H : Hp) (Q : VK) (E : XK) (h : spG K n Pre R vs H Q E) : vs.length = n := by
  obtain ⟨O, ss, _, h1, h2, _⟩ := h
  rw [← h2]
  exact h1.len
/-- a caller's use -/
theorem spG_use {n : Nat} {Pre : List Sl → Prop} {R : List Sl → Sl → Prop} {ss : List Sl} {E : XK} (G : Gr J) (hl : ss.length = n) (hp : Pre ss) : SpS K O J (spG K n Pre R) E ss (R ss) := fun vs H1 hJ tr hS Q q =>
  ⟨O, ss, tr, hS, hl, hp, fun s v H' r e o => q s v H' r (G _ _ e hJ) (.of e) o⟩
theorem spG_us {n : Nat} {Pre : List Sl → Prop} {R : List Sl → Sl → Prop} {ss : List Sl} {E : XK} {P : Sl → Prop} (G : Gr J) (hl : ss.length = n) (hp : Pre ss) (hr : ∀ s, R ss s → P s) : SpS K O J (spG K n Pre R) E ss P := fun vs H1 hJ tr hS Q q =>
  ⟨O, ss, tr, hS, hl, hp, fun s v H' r e o => q s v H' (hr s r) (G _ _ e hJ) (.of e) o⟩
theorem gr_ex (H : Hp) : Gr (fun H' => Ex H H') := fun _ _ e h => Evl.Ex.trans h e
/-- the body's reading from Ok -/
theorem spG_body {n m : Nat} {N : List Str} {Pre : List Sl → Prop} {R : List Sl → Sl → Prop} {t : TS} (hN : N.length = n + m)
    (h : ∀ (O : Addr → Bool) (H : Hp) (ss : List Sl), ss.length = n → Pre ss → ∃ nx, (∀ Γ : List Sl, nx Γ → R ss (.da .none)) ∧ Ok K O (fun H' => Ex H H') (ss ++ List.replicate m .un) t { rt := R ss, nx := nx })
    (vs : List V) (H : Hp) (Q : VK) (E : XK) (hs : spG K n Pre R vs H Q E) : t { nx := fun _ H' => Q .non H', rt := Q } (L2.start N vs) H := by
  obtain ⟨O, ss, tr, hS, hl, hp, q⟩ := hs
  obtain ⟨nx, hx, hk⟩ := h O H ss hl hp
  refine hk _ _ H (Evl.Ex.refl H) (en_start hS tr m (by omega)) ⟨fun s v H2 r e st o => q s v H2 r e o, fun Γ σ H2 r e st _ => q _ _ H2 (hx Γ r) e .non, fun _ _ _ z => z.elim, fun _ _ _ z => z.elim⟩
end
/-- .. where the last arguments are left to their defaults -/
theorem spG_useD {K : PySem.W.Frag} {O : Addr → Bool} {J : Hp → Prop} {n : Nat} {Pre : List Sl → Prop} {R : List Sl → Sl → Prop} {ss ts : List Sl} {dvs : List V} {E : XK} {P : Sl → Prop} (G : Gr J) (hd : ∀ H, SlAll K H dvs ts) (hl : (ss ++ ts).length = n) (hp : Pre (ss ++ ts)) (hr : ∀ s, R (ss ++ ts) s → P s) :
    SpS K O J (fun vs => spG K n Pre R (vs ++ dvs)) E ss P := fun vs H1 hJ tr hS Q q =>
  ⟨O, ss ++ ts, tr, slApp hS (hd _), hl, hp, fun s v H' r e o => q s v H' (hr s r) (G _ _ e hJ) (.of e) o⟩
/-! ### defs by name -/
/-- the def x of the module, called with written arguments, keeps sp; what is not written is a default -/
structure Dn (P : Program) (w : World) (K : PySem.W.Frag) (mg : Str → Option Value) (base : Heap) (k : Nat) (x : Str) (sp : Sp) : Prop where
  ex : ∃ (f : Addr) (fd : FuncData) (ps : List Str) (ds : List Value) (dvs : List V) (sp' : Sp), FnOk P w K mg base (L2.CX P w) k f fd ps sp' ∧ mg x = some (.ref f) ∧ PySem.W.keepIn K (.ref f) = true ∧ Binds K fd ps ds ∧ Vals dvs ds ∧ ∀ vs, sp vs = sp' (vs ++ dvs)
section
variable {X : Cx} {k j : Nat} {x : Str} {sp : Sp} {E : XK} {p pos : Pos} {e : Expr} {es : List Expr} {t : TA}
/-- f(e, ..) -/
theorem pcall (D : Dn X.prog X.w X.K X.mg X.base k x sp) (hr : Room j X.A) (hkj : k ≤ j) (hg : Gl X x) (hx : Passes (L2.CX X.prog X.w) X E) (ha : PA X (e :: es) t)
    (hdb : (x == ("__debug__" : Str)) = false := by decide) (he : starEach (e :: es) X.env = (false, eval e X.env) :: starEach es X.env := by rfl) (hpl : (backTo pos (starEach es X.env)).any (·.1) = false := by rfl) :
    PE X (.Call (.Name x p) (e :: es) [] pos) (tCall sp [] E t) := by
  obtain ⟨f, fd, ps, ds, dvs, sp', F, hm, hk, hb, hd, hs⟩ := D.ex
  have h := pe_call (p := p) (pos := pos) F (hr.mono hkj) hg hm hk hb hd hx ha hdb he hpl
  have q : tCall sp [] E t = tCall sp' dvs E t := by
    funext σ H Q
    show t σ H (fun vs H1 => sp (vs ++ []) H1 Q E) = t σ H (fun vs H1 => sp' (vs ++ dvs) H1 Q E)
    congr 1
    funext vs H1
    rw [List.append_nil, hs]
  rw [q]
  exact h
end
end LL


set_option Elab.async false
set_option linter.all false
set_option maxRecDepth 100000
set_option maxHeartbeats 4000000
namespace LL
open PySem PySem.Spec PyProof.Rows L2
open Evl (Ex)
/-! ### names for the readings that the generator writes -/
abbrev rAddI : R2 := rI0 fun i j => .int (i + j)
abbrev rSubI : R2 := rI0 fun i j => .int (i - j)
abbrev rMulI : R2 := rI CMul fun i j => .int (i * j)
abbrev rMulW : R2 := rI CMulW fun i j => .int (i * j)
abbrev rDivC : R2 := rI CDiv fun i j => .int (i / j)
abbrev rModC : R2 := rI (fun _ j => 0 < j) fun i j => .int (i % j)
abbrev rModN : R2 := rI (fun _ j => j ≠ 0) fun i j => .int (i.fmod j)
abbrev rPowI : R2 := rI CPow fun i j => .int (i ^ j.toNat)
abbrev rLtI : R2 := rI0 fun i j => .bl (decide (i < j))
abbrev rLeI : R2 := rI0 fun i j => .bl (decide (i ≤ j))
abbrev rGtI : R2 := rI0 fun i j => .bl (decide (j < i))
abbrev rGeI : R2 := rI0 fun i j => .bl (decide (j ≤ i))
abbrev rNegI : V → Hp → VK → Prop := rU fun i => .int (-i)
abbrev rIsNon : R2 := fun x y H Q => y = .non ∧ Q (.bl (decide (x = .non))) H
abbrev rNotNon : R2 := fun x y H Q => y = .non ∧ Q (.bl (!decide (x = .non))) H
abbrev rIsBl : R2 := fun x y H Q => ∃ a b, x = .bl a ∧ y = .bl b ∧ Q (.bl (decide (a = b))) H
abbrev rIsnBl : R2 := fun x y H Q => ∃ a b, x = .bl a ∧ y = .bl b ∧ Q (.bl (!decide (a = b))) H
abbrev rIntOf : List V → Hp → VK → Prop := fun xs H Q => (∃ i, xs = [.int i] ∧ Q (.int i) H) ∨ ∃ k, xs = [.bl k] ∧ Q (.int (if k then 1 else 0)) H
abbrev rAbs : List V → Hp → VK → Prop := fun xs H Q => ∃ i, xs = [.int i] ∧ Q (.int (if i < 0 then -i else i)) H
abbrev rLen (K : PySem.W.Frag) : List V → Hp → VK → Prop := fun xs H Q => ∃ x n, xs = [x] ∧ LenV K x H n ∧ Q (.int n) H
abbrev tTru (K : PySem.W.Frag) (ta : TE) : TT := fun σ H Q => ta σ H fun x H' => ∃ k, TruV K x H' k ∧ Q k H'
/-! ### // by a divisor of any sign below 2 ^ 9000 -/
def CDivZ (_ j : Int) : Prop := j ≠ 0 ∧ j.natAbs.log2 < 9000
abbrev rDivZ : R2 := rI CDivZ fun i j => .int (i.fdiv j)
theorem op_fdivZ {X : Cx} : OpR X (binaryOp .FloorDiv) rDivZ := opI fun i j _ _ _ _ _ hc q => floordiv_int hc.1 q (.inl (PyProof.noPylong_of_log2 hc.2))
section
variable {K : PySem.W.Frag} {O : Addr → Bool} {J : Hp → Prop} {Γ : List Sl} {ta tb te : TE} {tt tu : TT} {P : Sl → Prop} {s : Sl} {d : PyData} {i j : Int} {a b : Bool}
theorem e_divZ (h1 : ED K O J Γ ta (.int i)) (h2 : ED K O J Γ tb (.int j)) (hc : CDivZ i j) : ED K O J Γ (tOp rDivZ ta tb) (.int (i.fdiv j)) := e_IC h1 h2 hc fun _ => .int _
/-- a < b < c -/
theorem e_chain {tc : TE} {x y z : Int} {f g : Int → Int → Bool} (h1 : ED K O J Γ ta (.int x)) (h2 : ED K O J Γ tb (.int y)) (h3 : ED K O J Γ tc (.int z)) :
    ED K O J Γ (tChain (rI0 fun i j => .bl (f i j)) (rI0 fun i j => .bl (g i j)) ta tb tc) (.bool (f x y && g y z)) := fun σ H1 hJ hE Q q =>
  h1 σ H1 hJ hE _ fun s1 v1 H2 p1 hJ2 st1 o1 => h2 σ H2 hJ2 (hE.step st1) _ fun s2 v2 H3 p2 hJ3 st2 o2 => by
    cases p1; cases p2; cases o1; cases o2
    refine ⟨x, y, rfl, rfl, f x y, rfl, ?_⟩
    cases e : f x y with
    | true =>
      refine h3 σ H3 hJ3 ((hE.step st1).step st2) _ fun s3 v3 H4 p3 hJ4 st3 o3 => ?_
      cases p3; cases o3
      exact ⟨y, z, rfl, rfl, q _ _ H4 rfl hJ4 ((st1.trans st2).trans st3) (by rw [e]; exact .bl _)⟩
    | false => exact q _ _ H3 rfl hJ3 (st1.trans st2) (by rw [e]; exact .bl _)
/-! ### isinstance of data -/
def tyN : PyData → String
  | .none => "NoneType"
  | .bool _ => "bool"
  | .int _ => "int"
  | .str _ => "str"
  | .list _ => "list"
  | .tuple _ => "tuple"
  | .dict _ => "dict"
theorem ty_of {H : Hp} {v : V} (h : Dp K H v d) : TyX K H v (.type (tyN d)) := by
  cases h with
  | non => exact .base .non
  | bl b => exact .base (.bl b)
  | int i => exact .base (.int i)
  | str x => exact .base (.str x)
  | lst hs ha =>
    rcases hs with (e | ⟨o, e⟩) | ⟨o, its, n, e, c, _⟩
    · exact .base (.lst e)
    · exact .base (.frz e)
    · exact .kList e c
  | tup hs ha =>
    rcases hs with (e | ⟨o, e⟩) | ⟨o, its, n, e, c, _⟩
    · exact .base (.tup e)
    · exact .fTuple e
    · exact .kTuple e c
/-- is such data an instance of the built-in class n -/
def isiD (d : PyData) (n : String) : Bool := (kitB (tyN d) n).getD false
theorem isi_kit (hn : n ∈ ["int", "bool", "str", "list", "tuple"]) : kitB (tyN d) n = some (isiD d n) := by
  have h : ∀ m ∈ ["NoneType", "bool", "int", "str", "list", "tuple", "dict"], ∀ n ∈ ["int", "bool", "str", "list", "tuple"], (kitB m n).isSome = true := by decide +kernel
  have hm : tyN d ∈ ["NoneType", "bool", "int", "str", "list", "tuple", "dict"] := by cases d <;> simp [tyN]
  have := h _ hm _ hn
  unfold isiD
  revert this
  cases kitB (tyN d) n with
  | none => intro z; cases z
  | some b => intro _; rfl
theorem c_isi {n : String} (hn : n ∈ ["int", "bool", "str", "list", "tuple"]) : RcS K O J (rIsi K) [.da d, .va (.ty n)] (fun x => x = .da (.bool (isiD d n))) := fun vs H1 hJ tr h Q q => by
  obtain ⟨v, w, rfl, o1, o2⟩ := sl2 h
  cases o2
  exact ⟨v, .ty n, .type (tyN d), .type n, isiD d n, rfl, .ty n, ty_of (dpGrow hid_ex o1), kit_ty (isi_kit hn), q _ _ H1 rfl hJ .refl (.bl _)⟩
end
theorem isi_int_int (i : Int) : isiD (.int i) "int" = true := by show (kitB "int" "int").getD false = true; decide +kernel
theorem isi_int_bool (i : Int) : isiD (.int i) "bool" = false := by show (kitB "int" "bool").getD false = false; decide +kernel
theorem isi_int_tuple (i : Int) : isiD (.int i) "tuple" = false := by show (kitB "int" "tuple").getD false = false; decide +kernel
theorem isi_bool_int (i : Bool) : isiD (.bool i) "int" = true := by show (kitB "bool" "int").getD false = true; decide +kernel
theorem isi_bool_bool (i : Bool) : isiD (.bool i) "bool" = true := by show (kitB "bool" "bool").getD false = true; decide +kernel
theorem isi_bool_tuple (i : Bool) : isiD (.bool i) "tuple" = false := by show (kitB "bool" "tuple").getD false = false; decide +kernel
theorem isi_none_int : isiD .none "int" = false := by decide +kernel
theorem isi_none_bool : isiD .none "bool" = false := by decide +kernel
theorem isi_none_tuple : isiD .none "tuple" = false := by decide +kernel
theorem isi_str_int (x : Str) : isiD (.str x) "int" = false := by show (kitB "str" "int").getD false = false; decide +kernel
theorem isi_str_bool (x : Str) : isiD (.str x) "bool" = false := by show (kitB "str" "bool").getD false = false; decide +kernel
theorem isi_str_tuple (x : Str) : isiD (.str x) "tuple" = false := by show (kitB "str" "tuple").getD false = false; decide +kernel
theorem isi_tup_int (x : List PyData) : isiD (.tuple x) "int" = false := by show (kitB "tuple" "int").getD false = false; decide +kernel
theorem isi_tup_bool (x : List PyData) : isiD (.tuple x) "bool" = false := by show (kitB "tuple" "bool").getD false = false; decide +kernel
theorem isi_tup_tuple (x : List PyData) : isiD (.tuple x) "tuple" = true := by show (kitB "tuple" "tuple").getD false = true; decide +kernel
theorem isi_list_int (x : List PyData) : isiD (.list x) "int" = false := by show (kitB "list" "int").getD false = false; decide +kernel
theorem isi_list_bool (x : List PyData) : isiD (.list x) "bool" = false := by show (kitB "list" "bool").getD false = false; decide +kernel
theorem isi_list_tuple (x : List PyData) : isiD (.list x) "tuple" = false := by show (kitB "list" "tuple").getD false = false; decide +kernel
/-! ### own errors with one field -/
/-- __init__ of the class at C keeps its one argument as the field f -/
def spOne (C : Addr) (f : Str) : Sp := fun vs H Q _ => ∃ (a : Addr) (y : V), vs = [.ref a, y] ∧ H a = some (exo a C none) ∧ ∀ dx, H dx = none → dx ≠ a → Q .non (upd (upd H dx (exd dx [(f, y)])) a (exo a C (some dx)))
/-- raise C(e): what follows is the def's own way out -/
abbrev tRaiseX (C : Addr) (f : Str) (ta : TA) (E : XK) : TS := fun _ σ H => tMkO C (spOne C f) [] ta σ H fun cls d H' => E cls d H'
theorem heap_back {H1 : Hp} {a d : Addr} {o u w x : HO} (ha : H1 a = none) (hd : d ≠ a) : upd (del (upd (upd (upd H1 a o) d u) a w) a) d x = upd H1 d x := by
  funext b
  by_cases e : b = d
  · simp [upd, e]
  · by_cases q : b = a
    · simp [upd, del, q, ha]
    · simp [upd, del, e, q]
section
variable {K : PySem.W.Frag} {O : Addr → Bool} {J : Hp → Prop} {Γ : List Sl} {ta : TA} {p : Po} {C : Addr} {f : Str} {E : XK}
theorem ok_raise {d : PyData} (h : EAs K O J Γ ta [.da d]) (k : ∀ H1 y dx, J H1 → Dp K (hid O H1) y d → H1 dx = none → E (.ref C) (some dx) (upd H1 dx (.xd [(f, y)]))) : Ok K O J Γ (tRaiseX C f ta E) p := fun D σ H1 hJ hE g =>
  h σ H1 hJ hE _ fun ss vs H2 ps hJ2 st o => by
    cases ps
    obtain ⟨y, rfl, o1⟩ := sl1 o
    refine ⟨by show 1 ≤ 1000; decide, fun a na => ⟨a, y, rfl, upd_same, fun dx ndx ne => ?_⟩⟩
    have nd : H2 dx = none := by
      rw [upd_ne ne] at ndx
      exact ndx
    refine ⟨rfl, dx, [(f, y)], upd_same, ?_, nd, ?_⟩
    · rw [upd_ne ne, upd_same]
    · rw [heap_back na ne]
      exact k H2 y dx hJ2 o1 nd
end
/-- a def that may raise an error of one class with one field -/
def spR (K : PySem.W.Frag) (C : Addr) (f : Str) (n : Nat) (Pre : List Sl → Prop) (R : List Sl → Sl → Prop) (RX : List Sl → PyData → Prop) : Sp := fun vs H Q E =>
  ∃ (O : Addr → Bool) (ss : List Sl), (∀ b, O b = true → H b ≠ none) ∧ SlAll K (hid O H) vs ss ∧ ss.length = n ∧ Pre ss ∧ (∀ s v H', R ss s → Ex H H' → OkS K (hid O H') v s → Q v H') ∧
    ∀ d y dx H', RX ss d → Ex H H' → Dp K (hid O H') y d → H dx = none → H' dx = some (.xd [(f, y)]) → E (.ref C) (some dx) H'
section
variable {K : PySem.W.Frag} {O : Addr → Bool} {J : Hp → Prop} {C : Addr} {f : Str} {n : Nat} {Pre : List Sl → Prop} {R : List Sl → Sl → Prop} {RX : List Sl → PyData → Prop}
theorem spR_len (vs : List V) (H : Hp) (Q : VK) (E : XK) (h : spR K C f n Pre R RX vs H Q E) : vs.length = n := by
  obtain ⟨O, ss, _, h1, h2, _⟩ := h
  rw [← h2]
  exact h1.len
/-- used where it surely doesn't raise -/
theorem spR_us {ss : List Sl} {E : XK} {P : Sl → Prop} (G : Gr J) (hl : ss.length = n) (hp : Pre ss) (hr : ∀ s, R ss s → P s) (hx : ∀ d, ¬ RX ss d) : SpS K O J (spR K C f n Pre R RX) E ss P := fun vs H1 hJ tr hS Q q =>
  ⟨O, ss, tr, hS, hl, hp, fun s v H' r e o => q s v H' (hr s r) (G _ _ e hJ) (.of e) o, fun d y dx H' r => absurd r (hx d)⟩
theorem spR_usD {ss ts : List Sl} {dvs : List V} {E : XK} {P : Sl → Prop} (G : Gr J) (hd : ∀ H, SlAll K H dvs ts) (hl : (ss ++ ts).length = n) (hp : Pre (ss ++ ts)) (hr : ∀ s, R (ss ++ ts) s → P s) (hx : ∀ d, ¬ RX (ss ++ ts) d) :
    SpS K O J (fun vs => spR K C f n Pre R RX (vs ++ dvs)) E ss P := fun vs H1 hJ tr hS Q q =>
  ⟨O, ss ++ ts, tr, slApp hS (hd _), hl, hp, fun s v H' r e o => q s v H' (hr s r) (G _ _ e hJ) (.of e) o, fun d y dx H' r => absurd r (hx d)⟩
theorem ex_new_at {H H1 : Hp} {dx : Addr} {o : HO} (e : Ex H H1) (h : H1 dx = none) : Ex H (upd H1 dx o) := e.trans (Evl.Ex.new h)
theorem spR_body {m : Nat} {N : List Str} {t : XK → TS} (hN : N.length = n + m)
    (h : ∀ (O : Addr → Bool) (H : Hp) (ss : List Sl) (E : XK), ss.length = n → Pre ss → (∀ d, RX ss d → ∀ H1 y dx, Ex H H1 → Dp K (hid O H1) y d → H1 dx = none → E (.ref C) (some dx) (upd H1 dx (.xd [(f, y)]))) →
      ∃ nx, (∀ Γ : List Sl, nx Γ → R ss (.da .none)) ∧ Ok K O (fun H' => Ex H H') (ss ++ List.replicate m .un) (t E) { rt := R ss, nx := nx })
    (vs : List V) (H : Hp) (Q : VK) (E : XK) (hs : spR K C f n Pre R RX vs H Q E) : t E { nx := fun _ H' => Q .non H', rt := Q } (L2.start N vs) H := by
  obtain ⟨O, ss, tr, hS, hl, hp, q, qx⟩ := hs
  obtain ⟨nx, hx, hk⟩ := h O H ss E hl hp fun d r H1 y dx e o nd => (by
    have e2 : Ex H1 (upd H1 dx (.xd [(f, y)])) := Evl.Ex.new nd
    exact qx d y dx _ r (e.trans e2) (dpGrow (hid_grow e2) o) (Evl.fresh_back e nd) upd_same)
  exact hk _ _ H (Evl.Ex.refl H) (en_start hS tr m (by omega)) ⟨fun s v H2 r e st o => q s v H2 r e o, fun Γ σ H2 r e st _ => q _ _ H2 (hx Γ r) e .non, fun _ _ _ z => z.elim, fun _ _ _ z => z.elim⟩
end
end LL


set_option Elab.async false
set_option linter.all false
set_option maxRecDepth 100000
set_option maxHeartbeats 4000000
namespace LL
open PySem PySem.Spec PyProof.Rows L2
open Evl (Ex)
/-! ### facts about own errors, as a Bool -/
def oexB (K : PySem.W.Frag) (C : Addr) : Bool := match K.lookup C with
  | some o => (match o.cls, o.data, o.slots.toList with
    | .type t, .cls cd, [_, _, _, _, some (.builtin n), _] => decide (t = "type") && (decide (n = "ValueError.__new__") && (!cd.hasDel && (cd.hasDict && (match cd.mro with
      | .ref C' :: bm => decide (C' = C) && PySem.HandSPX.refsVE bm
      | _ => false))))
    | _, _, _ => false)
  | none => false
theorem oexB_ok {K : PySem.W.Frag} {C : Addr} (h : oexB K C = true) : ∃ nm q N bs bm sn sub ab col dd k0 k1 k2 k3 k5, K.lookup C = some (excClassObj nm q C N bs bm true sn sub ab col dd k0 k1 k2 k3 k5 "ValueError.__new__") ∧ PySem.HandSPX.refsVE bm = true := by
  unfold oexB at h
  cases e : K.lookup C with
  | none => rw [e] at h; cases h
  | some o =>
    rw [e] at h
    obtain ⟨oc, od, dt, ⟨sl⟩⟩ := o
    dsimp only at h
    split at h
    · rename_i t cd k0 k1 k2 k3 n k5
      have ⟨h1, g1⟩ := Bool.and_eq_true_iff.mp h
      have ⟨h2, g2⟩ := Bool.and_eq_true_iff.mp g1
      have ⟨h3, g3⟩ := Bool.and_eq_true_iff.mp g2
      have ⟨h4, g4⟩ := Bool.and_eq_true_iff.mp g3
      clear h g1 g2 g3
      cases (of_decide_eq_true h1)
      cases (of_decide_eq_true h2)
      obtain ⟨nm, bs, mro, ns, qn, hd, sn, sb, ab, col, del⟩ := cd
      dsimp only at g4 h3 h4
      subst h4
      have h3' : del = false := by cases del <;> simp_all
      subst h3'
      match mro, g4 with
      | .ref C' :: bm, g4 =>
        have ⟨h5, h6⟩ := Bool.and_eq_true_iff.mp g4
        cases (of_decide_eq_true h5)
        exact ⟨nm, qn, ns, bs, bm, sn, sb, ab, col, od, k0, k1, k2, k3, k5, rfl, h6⟩
    · cases h
/-- an own error with one field f, made by its own __init__ -/
structure Xc (K : PySem.W.Frag) (x f : Str) : Prop where
  oex : OexC K (He.ga K x)
  xf : XfC K (He.ga K x)
  ini : PySem.W.findIn K (.ref (He.ga K x)) "__init__" = some (some (.ref (He.ma K (He.ga K x) "__init__")))
  tI : PySem.W.typeIn K (.ref (He.ma K (He.ga K x) "__init__")) = some (.type "function")
  nof : PySem.W.findIn K (.ref (He.ga K x)) f = some none
  ec : ExcC K (He.ga K x)
def xcB (K : PySem.W.Frag) (x f : Str) : Bool :=
  oexB K (He.ga K x) && (xfB K (He.ga K x) && (He.eqO (PySem.W.findIn K (.ref (He.ga K x)) "__setattr__") (some (some (.builtin "object.__setattr__"))) && (decide (PySem.W.typeIn K (.ref (He.ga K x)) = some (.type "type")) && (PySem.W.keepIn K (.ref (He.ga K x)) &&
  (He.eqO (PySem.W.findIn K (.ref (He.ga K x)) "__init__") (some (some (.ref (He.ma K (He.ga K x) "__init__")))) && (decide (PySem.W.typeIn K (.ref (He.ma K (He.ga K x) "__init__")) = some (.type "function")) && (He.eqO (PySem.W.findIn K (.ref (He.ga K x)) f) (some none) &&
  (He.eqO (PySem.W.findIn K (.ref (He.ga K x)) "__class__") (some (some (.builtin "object.__class__"))) && (He.eqO (PySem.W.specialIn K (.builtin "object.__class__") "__get__") (some (some (.builtin "getset_descriptor.__get__"))) &&
  (decide (PySem.W.takesIn K (.builtin "object.__class__") = some true) && decide (PySem.W.mroIn K (He.ga K x) (.type "object") = some true)))))))))))
theorem xcB_ok {K : PySem.W.Frag} {x f : Str} (h : xcB K x f = true) : Xc K x f := by
  obtain ⟨h1, h⟩ := Bool.and_eq_true_iff.mp h
  obtain ⟨h2, h⟩ := Bool.and_eq_true_iff.mp h
  obtain ⟨h3, h⟩ := Bool.and_eq_true_iff.mp h
  obtain ⟨h4, h⟩ := Bool.and_eq_true_iff.mp h
  obtain ⟨h5, h⟩ := Bool.and_eq_true_iff.mp h
  obtain ⟨h6, h⟩ := Bool.and_eq_true_iff.mp h
  obtain ⟨h7, h⟩ := Bool.and_eq_true_iff.mp h
  obtain ⟨h8, h⟩ := Bool.and_eq_true_iff.mp h
  obtain ⟨h9, h⟩ := Bool.and_eq_true_iff.mp h
  obtain ⟨h10, h⟩ := Bool.and_eq_true_iff.mp h
  obtain ⟨h11, h12⟩ := Bool.and_eq_true_iff.mp h
  have X := xfB_ok h2
  exact ⟨⟨oexB_ok h1, He.eqO_ok h3, X.exC, of_decide_eq_true h4, h5⟩, X, He.eqO_ok h6, of_decide_eq_true h7, He.eqO_ok h8, ⟨X.ga, X.gg, X.exC, X.hdC, He.eqO_ok h9, He.eqO_ok h10, of_decide_eq_true h11, of_decide_eq_true h12⟩⟩
/-- a name of the module that is a built-in function -/
def gbB (K : PySem.W.Frag) (x : Str) (b : String) : Bool := He.eqO (PySem.W.nsIn K mainGlobals x) (some (some (.builtin b)))
theorem gbB_ok {K : PySem.W.Frag} {h : Heap} {mg : Str → Option Value} (X : K.In h) (G : h.Ns mainGlobals mg) {x : Str} {b : String} (c : gbB K x b = true) : mg x = some (.builtin b) := PySem.W.mg_of X G (He.eqO_ok c)
/-! ### a def and what calls ask of it -/
section
variable {P : Program} {w : World} {K : PySem.W.Frag} {mg : Str → Option Value} {base : Heap}
/-- from the text and the body's meaning to the def -/
theorem fn_mk {x : Str} {args : Arguments} {body : List Stmt} {scope : Scope} {dvs : List V} {f : Addr} {fd : FuncData} {N ps : List Str} {k : Nat} {sp : Sp} {t : XK → TS} (F : FunD K x x args body scope dvs [] f fd) (S : FnScope N ps scope)
    (hl : ∀ vs H Q E, sp vs H Q E → vs.length = ps.length)
    (der : ∀ (cdv : Value) (A : Around) (outer : List Env) (s : Shared) (H : Hp) (E : XK), Room k (A.deeper (envOfC x scope s.heap.objs.size f cdv)) → PSs (cxOf (L2.CX P w) P w K mg base N x scope f cdv A outer s H E) body (t E))
    (sem : ∀ vs H Q E, sp vs H Q E → t E { nx := fun _ H' => Q .non H', rt := Q } (L2.start N vs) H) : FnOk P w K mg base (L2.CX P w) (k + 1) f fd ps sp :=
  F.ok S hl fun cdv A outer s H vs Q E hr h => ⟨t E, der cdv A outer s H E hr, sem vs H Q E h⟩
/-- called with all its arguments -/
theorem dn_all {x : Str} {args : Arguments} {body : List Stmt} {scope : Scope} {f : Addr} {fd : FuncData} {ps : List Str} {k : Nat} {sp : Sp} (F : FunD K x x args body scope [] [] f fd) (hm : mg x = some (.ref f)) (G : FnOk P w K mg base (L2.CX P w) k f fd ps sp)
    (h : ∀ (kV doc pm : Value) (an : Option Addr) (cdv ct : Value) (us : List Value), us.length = ps.length → bindArgs (PySem.W.fnOf x x args body scope .none kV doc pm an cdv ct) ⟨us, []⟩ = pure (ps.zip us)) : Dn P w K mg base k x sp :=
  ⟨f, fd, ps, [], [], sp, G, hm, F.kp, F.bindsN h, .nil, fun vs => by rw [List.append_nil]⟩
/-- called with n arguments, the defaults behind the first j fill up -/
theorem dn_dfl {x : Str} {args : Arguments} {body : List Stmt} {scope : Scope} {dvs : List V} {f : Addr} {fd : FuncData} {ps : List Str} {k : Nat} {sp : Sp} (F : FunD K x x args body scope dvs [] f fd) (hm : mg x = some (.ref f)) (G : FnOk P w K mg base (L2.CX P w) k f fd ps sp)
    (n j : Nat) (hd : dvs ≠ []) (hn : n + (dvs.length - j) = ps.length)
    (h : ∀ (T : Addr) (kV doc pm : Value) (an : Option Addr) (cdv ct : Value) (us its : List Value), us.length = n → its.length = dvs.length →
      ∃ k, bindArgs (PySem.W.fnOf x x args body scope (.ref T) kV doc pm an cdv ct) ⟨us, []⟩ = seqItems? (.ref T) >>= k ∧ k (some its.toArray) = pure (ps.zip (us ++ its.drop j))) : Dn P w K mg base k x (fun vs => sp (vs ++ dvs.drop j)) := by
  obtain ⟨ds, hv, hb⟩ := F.binds1 n j hd hn h
  exact ⟨f, fd, ps, ds, dvs.drop j, sp, G, hm, F.kp, hb, hv, fun _ => rfl⟩
end
/-! ### making an own error -/
section
variable {X : Cx} {x f : Str} {k j : Nat} {e : Expr} {es : List Expr} {ta : TA} {p pos : Pos}
/-- the class's __init__, by its promise -/
structure Di (P : Program) (w : World) (K : PySem.W.Frag) (mg : Str → Option Value) (base : Heap) (k : Nat) (x f : Str) : Prop where
  c : Xc K x f
  ex : ∃ (fd : FuncData) (ps : List Str), FnOk P w K mg base (L2.CX P w) k (He.ma K (He.ga K x) "__init__") fd ps (spOne (He.ga K x) f) ∧ Binds K fd ps []
  mg_ : mg x = some (.ref (He.ga K x))
theorem pmk_one (D : Di X.prog X.w X.K X.mg X.base k x f) (hr : Room j X.A) (hkj : k + 1 ≤ j) (hg : Gl X x) (ha : PA X (e :: es) ta)
    (hdb : (x == ("__debug__" : Str)) = false := by decide) (he : starEach (e :: es) X.env = (false, eval e X.env) :: starEach es X.env := by rfl) (hpl : (backTo pos (starEach es X.env)).any (·.1) = false := by rfl) :
    PMk X (.Call (.Name x p) (e :: es) [] pos) (tMkO (He.ga X.K x) (spOne (He.ga X.K x) f) [] ta) := by
  obtain ⟨fd, ps, F, hb⟩ := D.ex
  exact pmk_oex D.c.oex D.c.ini D.c.tI F (hr.mono hkj) hb .nil passL hg D.mg_ ha hdb he hpl
end
end LL


set_option Elab.async false
set_option linter.all false
set_option maxRecDepth 100000
set_option maxHeartbeats 4000000
namespace LL
open PySem PySem.Spec PyProof.Rows L2
open Evl (Ex)
/-! ### ratios: mathematics -/
def Bd (n : Nat) (i : Int) : Prop := i.natAbs < 2 ^ n
theorem Bd.mono {n m : Nat} {i : Int} (h : Bd n i) (l : n ≤ m) : Bd m i := Nat.lt_of_lt_of_le h (Nat.pow_le_pow_right (by decide) l)
theorem Bd.mul {n m : Nat} {i j : Int} (h : Bd n i) (k : Bd m j) : Bd (n + m) (i * j) := wide_lt h k
theorem Bd.add {n : Nat} {i j : Int} (h : Bd n i) (k : Bd n j) : Bd (n + 1) (i + j) := by
  unfold Bd at *
  have : (2 : Nat) ^ (n + 1) = 2 ^ n + 2 ^ n := by rw [Nat.pow_succ]; omega
  omega
theorem Bd.sub {n : Nat} {i j : Int} (h : Bd n i) (k : Bd n j) : Bd (n + 1) (i - j) := by
  unfold Bd at *
  have : (2 : Nat) ^ (n + 1) = 2 ^ n + 2 ^ n := by rw [Nat.pow_succ]; omega
  omega
theorem Bd.neg {n : Nat} {i : Int} (h : Bd n i) : Bd n (-i) := by
  unfold Bd at *
  omega
theorem Bd.cmul {n m : Nat} {i j : Int} (h : Bd n i) (k : Bd m j) (l : n + m + 2 ≤ 1000000) : CMulW i j :=
  wide_mul (a := n + 1) (b := m + 1) (h.mono (by omega)) (k.mono (by omega)) (by omega) (by omega) (by omega)
theorem Bd.cdiv {n : Nat} {i j : Int} (k : Bd n j) (h : j ≠ 0) (l : n + 1 ≤ 9000) : CDivZ i j :=
  ⟨h, Nat.lt_of_lt_of_le (PySem.Flt.log2_lt_of (k := n + 1) (by omega) (k.mono (by omega))) l⟩
/-- the divisor with the sign of the bottom -/
def sg (a c : Int) : Int := if c < 0 then -((Nat.gcd a.natAbs c.natAbs : Nat) : Int) else ((Nat.gcd a.natAbs c.natAbs : Nat) : Int)
def mkR (a c : Int) : Int × Int := (a.fdiv (sg a c), c.fdiv (sg a c))
def rt (q : Int × Int) : PyData := .tuple [.int q.1, .int q.2]
/-- in lowest terms, the bottom above 0 -/
def Low (q : Int × Int) : Prop := 0 < q.2 ∧ Nat.gcd q.1.natAbs q.2.natAbs = 1
theorem sg_abs (a c : Int) : (sg a c).natAbs = Nat.gcd a.natAbs c.natAbs := by
  unfold sg
  split <;> omega
theorem sg_ne {a c : Int} (h : c ≠ 0) : sg a c ≠ 0 := by
  have h1 := sg_abs a c
  have h2 : Nat.gcd a.natAbs c.natAbs ≠ 0 := fun z => by
    have := Nat.eq_zero_of_gcd_eq_zero_right z
    omega
  omega
theorem sg_bd {n : Nat} {a c : Int} (h : c ≠ 0) (k : Bd n c) : Bd n (sg a c) := by
  unfold Bd at *
  rw [sg_abs]
  exact Nat.lt_of_le_of_lt (Nat.gcd_le_right _ (by omega)) k
theorem sg_parts {a c : Int} (h : c ≠ 0) : ∃ x y, a = sg a c * x ∧ c = sg a c * y ∧ mkR a c = (x, y) := by
  have d1 : sg a c ∣ a := by
    rw [← Int.natAbs_dvd_natAbs, sg_abs]
    exact Nat.gcd_dvd_left _ _
  have d2 : sg a c ∣ c := by
    rw [← Int.natAbs_dvd_natAbs, sg_abs]
    exact Nat.gcd_dvd_right _ _
  obtain ⟨x, ex⟩ := d1
  obtain ⟨y, ey⟩ := d2
  refine ⟨x, y, ex, ey, ?_⟩
  have n := sg_ne (a := a) h
  unfold mkR
  have e1 : a.fdiv (sg a c) = x := by
    have := Int.mul_fdiv_cancel_left (a := sg a c) x n
    rw [← ex] at this
    exact this
  have e2 : c.fdiv (sg a c) = y := by
    have := Int.mul_fdiv_cancel_left (a := sg a c) y n
    rw [← ey] at this
    exact this
  rw [e1, e2]
theorem mkR_low {a c : Int} (h : c ≠ 0) : Low (mkR a c) := by
  obtain ⟨x, y, ex, ey, e⟩ := sg_parts (a := a) h
  rw [e]
  have g := sg_abs a c
  have n := sg_ne (a := a) h
  refine ⟨?_, ?_⟩
  · show 0 < y
    have hs : (sg a c < 0 ∧ c < 0) ∨ (0 < sg a c ∧ 0 < c) := by
      by_cases l : c < 0
      · left
        refine ⟨?_, l⟩
        have : sg a c = -((Nat.gcd a.natAbs c.natAbs : Nat) : Int) := if_pos l
        omega
      · right
        refine ⟨?_, by omega⟩
        have : sg a c = ((Nat.gcd a.natAbs c.natAbs : Nat) : Int) := if_neg l
        omega
    rcases hs with ⟨h1, h2⟩ | ⟨h1, h2⟩
    · refine Int.not_le.mp fun z => ?_
      have := Int.mul_nonneg_of_nonpos_of_nonpos (Int.le_of_lt h1) z
      omega
    · refine Int.not_le.mp fun z => ?_
      have := Int.mul_nonpos_of_nonneg_of_nonpos (Int.le_of_lt h1) z
      omega
  · show Nat.gcd x.natAbs y.natAbs = 1
    have e1 : a.natAbs = (sg a c).natAbs * x.natAbs := by
      have := congrArg Int.natAbs ex
      rwa [Int.natAbs_mul] at this
    have e2 : c.natAbs = (sg a c).natAbs * y.natAbs := by
      have := congrArg Int.natAbs ey
      rwa [Int.natAbs_mul] at this
    have e3 : (sg a c).natAbs = (sg a c).natAbs * Nat.gcd x.natAbs y.natAbs := by
      have h3 := Nat.gcd_mul_left (sg a c).natAbs x.natAbs y.natAbs
      rw [← e1, ← e2, ← g] at h3
      exact h3
    have p : 0 < (sg a c).natAbs := by omega
    have : (sg a c).natAbs * 1 = (sg a c).natAbs * Nat.gcd x.natAbs y.natAbs := by rw [Nat.mul_one]; exact e3
    exact (Nat.eq_of_mul_eq_mul_left p this).symm
theorem natAbs_le_mul {s x : Int} (h : s ≠ 0) : x.natAbs ≤ (s * x).natAbs := by
  rw [Int.natAbs_mul]
  exact Nat.le_mul_of_pos_left _ (by omega)
theorem mkR_bd {n m : Nat} {a c : Int} (h : c ≠ 0) (ha : Bd n a) (hc : Bd m c) : Bd n (mkR a c).1 ∧ Bd m (mkR a c).2 := by
  obtain ⟨x, y, ex, ey, e⟩ := sg_parts (a := a) h
  have n := sg_ne (a := a) h
  rw [e]
  refine ⟨?_, ?_⟩
  · show x.natAbs < _
    refine Nat.lt_of_le_of_lt (natAbs_le_mul (s := sg a c) n) ?_
    rw [← ex]
    exact ha
  · show y.natAbs < _
    refine Nat.lt_of_le_of_lt (natAbs_le_mul (s := sg a c) n) ?_
    rw [← ey]
    exact hc
/-- both parts below 2 ^ n, the bottom not 0 -/
structure BR (n : Nat) (q : Int × Int) : Prop where
  t : Bd n q.1
  b : Bd n q.2
  z : q.2 ≠ 0
/-! ### what data are a whole number, a ratio -/
def noneOr (f : Int → Bool) : PyData → Bool
  | .int i => f i
  | _ => true
def isW (d lo hi : PyData) : Bool := match d with
  | .int i => noneOr (fun l => decide (l ≤ i)) lo && noneOr (fun h => decide (i ≤ h)) hi
  | _ => false
def isR (d : PyData) : Bool := match d with
  | .tuple [.int a, .int b] => decide (1 ≤ b) && decide (Nat.gcd a.natAbs b.natAbs = 1)
  | _ => false
def optI (d : PyData) : Prop := d = .none ∨ ∃ i, d = .int i

/-! ### is_whole(thing, low=None, high=None) -/
def sp_is_whole (K : PySem.W.Frag) : Sp := spG K 3 (fun ss => ∃ d lo hi, ss = [.da d, .da lo, .da hi] ∧ optI lo ∧ optI hi) (fun ss s => ∃ d lo hi, ss = [.da d, .da lo, .da hi] ∧ s = .da (.bool (isW d lo hi)))
def sp_is_whole1 (K : PySem.W.Frag) : Sp := fun vs => sp_is_whole K (vs ++ [.non, .non])
def sp_is_whole2 (K : PySem.W.Frag) : Sp := fun vs => sp_is_whole K (vs ++ [.non])
def t_is_whole (K : PySem.W.Frag) (E : XK) : TS := (tSeq (tIfS (tOr (tNot (tTru K (tCB (rIsi K) (tCons (tVar 0) (tCons (tC (.ty "int")) tNil))))) (tTru K (tCB (rIsi K) (tCons (tVar 0) (tCons (tC (.ty "bool")) tNil))))) (tRet (tC (.bl false))) tNext)
 (tSeq (tIfS (tAnd (tTest (tOp rNotNon (tVar 1) (tC .non))) (tTest (tOp rLtI (tVar 0) (tVar 1)))) (tRet (tC (.bl false))) tNext)
 (tRet (tOrV (tOp rIsNon (tVar 2) (tC .non)) (tOp rLeI (tVar 0) (tVar 2))))))

theorem sem_is_whole {K : PySem.W.Frag} (E : XK) (O : Addr → Bool) (H : Hp) (ss : List Sl) (hl : ss.length = 3) (hp : ∃ d lo hi, ss = [.da d, .da lo, .da hi] ∧ optI lo ∧ optI hi) :
    Ok K O (fun H' => Ex H H') (ss ++ List.replicate 0 .un) (t_is_whole K E) { rt := fun s => ∃ d lo hi, ss = [.da d, .da lo, .da hi] ∧ s = .da (.bool (isW d lo hi)), nx := fun _ => False } := by
  obtain ⟨d, lo, hi, rfl, hlo, hhi⟩ := hp
  have key : ∀ b, b = isW d lo hi → ∃ d' lo' hi', [Sl.da d, .da lo, .da hi] = [.da d', .da lo', .da hi'] ∧ Sl.da (.bool b) = .da (.bool (isW d' lo' hi')) := fun b e => ⟨d, lo, hi, rfl, by rw [e]⟩
  have i1 : ET K O (fun H' => Ex H H') ([Sl.da d, .da lo, .da hi] ++ List.replicate 0 .un) (tOr (tNot (tTru K (tCB (rIsi K) (tCons (tVar 0) (tCons (tC (.ty "int")) tNil))))) (tTru K (tCB (rIsi K) (tCons (tVar 0) (tCons (tC (.ty "bool")) tNil))))) (!isiD d "int" || isiD d "bool") := by
    refine t_or (t_not (t_truth (e_cb (a_cons (e_d rfl) (a_cons e_va a_nil)) (c_isi (by decide))) True.intro)) (fun h => ?_) (fun h => ?_)
    · refine t_is (t_truth (e_cb (a_cons (e_d rfl) (a_cons e_va a_nil)) (c_isi (by decide))) True.intro) ?_
      have h' : (!isiD d "int") = false := h
      rw [h']
      rfl
    · have h' : (!isiD d "int") = true := h
      rw [h']
      rfl
  have no : (∀ i, d ≠ .int i) → (!isiD d "int" || isiD d "bool") = true := fun h => by
    cases d with
    | int i => exact absurd rfl (h i)
    | none => decide +kernel
    | bool b => rw [isi_bool_bool]; simp
    | str x => rw [isi_str_int]; rfl
    | tuple x => rw [isi_tup_int]; rfl
    | list x => rw [isi_list_int]; rfl
    | dict x => rw [show isiD (.dict x) "int" = false from by show (kitB "dict" "int").getD false = false; decide +kernel]; rfl
  by_cases hd : ∃ i, d = .int i
  · obtain ⟨i, rfl⟩ := hd
    refine q_not (t_is i1 (by rw [isi_int_int, isi_int_bool]; rfl)) ?_
    have lows : ET K O (fun H' => Ex H H') ([Sl.da (.int i), .da lo, .da hi] ++ List.replicate 0 .un) (tAnd (tTest (tOp rNotNon (tVar 1) (tC .non))) (tTest (tOp rLtI (tVar 0) (tVar 1)))) (!noneOr (fun l => decide (l ≤ i)) lo) := by
      rcases hlo with rfl | ⟨l, rfl⟩
      · exact t_and (t_val (e_notN (e_d rfl) e_non)) (fun z => nomatch z) fun _ => rfl
      · refine t_and (t_val (e_notN (e_d rfl) e_non)) (fun _ => t_is (t_val (e_lt (e_d rfl) (e_d rfl))) ?_) fun z => nomatch z
        show decide (i < l) = !decide (l ≤ i)
        by_cases q : l ≤ i
        · rw [decide_eq_true q, decide_eq_false (by omega)]; rfl
        · rw [decide_eq_false q, decide_eq_true (by omega)]; rfl
    cases e : noneOr (fun l => decide (l ≤ i)) lo with
    | false =>
      refine q_when (a := true) (t_is lows (by rw [e]; rfl)) (fun _ => q_retS e_bl (key _ ?_)) (fun z => nomatch z)
      show false = (noneOr (fun l => decide (l ≤ i)) lo && _)
      rw [e]
      rfl
    | true =>
      refine q_not (t_is lows (by rw [e]; rfl)) ?_
      refine ok_retS (s := .da (.bool (noneOr (fun h => decide (i ≤ h)) hi))) ?_ (key _ ?_)
      · rcases hhi with rfl | ⟨h, rfl⟩
        · exact e_orV (e_isN (e_d rfl) e_non) (fun z => nomatch z) fun _ => rfl
        · exact e_orV (e_isN (e_d rfl) e_non) (fun _ => e_le (e_d rfl) (e_d rfl)) fun z => nomatch z
      · show _ = (noneOr (fun l => decide (l ≤ i)) lo && _)
        rw [e]
        rfl
  · refine q_when (t_is i1 (no fun i q => hd ⟨i, q⟩)) (fun _ => q_retS e_bl (key _ ?_)) fun z => nomatch z
    cases d with
    | int i => exact absurd ⟨i, rfl⟩ hd
    | _ => rfl
theorem isW_one (d : PyData) : isW d .none .none = (match d with | .int _ => true | _ => false) := by cases d <;> rfl
section
variable {K : PySem.W.Frag} {O : Addr → Bool} {J : Hp → Prop} {E : XK}
theorem u_whole1 (G : Gr J) (d : PyData) : SpS K O J (sp_is_whole1 K) E [.da d] (fun x => x = .da (.bool (isW d .none .none))) :=
  spG_useD (ts := [.da .none, .da .none]) G (fun H => .cons .non (.cons .non .nil)) rfl ⟨_, _, _, rfl, .inl rfl, .inl rfl⟩ fun s ⟨_, _, _, e, h⟩ => by cases e; exact h
theorem u_whole2 (G : Gr J) (d : PyData) (l : Int) : SpS K O J (sp_is_whole2 K) E [.da d, .da (.int l)] (fun x => x = .da (.bool (isW d (.int l) .none))) :=
  spG_useD (ts := [.da .none]) G (fun H => .cons .non .nil) rfl ⟨_, _, _, rfl, .inr ⟨_, rfl⟩, .inl rfl⟩ fun s ⟨_, _, _, e, h⟩ => by cases e; exact h
theorem u_whole3 (G : Gr J) (d : PyData) {lo hi : PyData} (h1 : optI lo) (h2 : optI hi) : SpS K O J (sp_is_whole K) E [.da d, .da lo, .da hi] (fun x => x = .da (.bool (isW d lo hi))) :=
  spG_us G rfl ⟨_, _, _, rfl, h1, h2⟩ fun s ⟨_, _, _, e, h⟩ => by cases e; exact h
end
/-! ### is_ratio(thing) -/
def sp_is_ratio (K : PySem.W.Frag) : Sp := spG K 1 (fun ss => ∃ d, ss = [.da d]) (fun ss s => ∃ d, ss = [.da d] ∧ s = .da (.bool (isR d)))
def t_is_ratio (K : PySem.W.Frag) (E : XK) : TS := (tSeq (tIfS (tOr (tNot (tTru K (tCB (rIsi K) (tCons (tVar 0) (tCons (tC (.ty "tuple")) tNil))))) (tTest (tOp rNe (tCB (rLen K) (tCons (tVar 0) tNil)) (tC (.int 2))))) (tRet (tC (.bl false))) tNext)
 (tRet (tAndV (tCall (sp_is_whole1 K) [] E0 (tCons (tOp (rIxT K) (tVar 0) (tC (.int 0))) tNil)) (tAndV (tCall (sp_is_whole2 K) [] E0 (tCons (tOp (rIxT K) (tVar 0) (tC (.int 1))) (tCons (tC (.int 1)) tNil))) (tOp rEq (tCB rGcd (tCons (tOp (rIxT K) (tVar 0) (tC (.int 0))) (tCons (tOp (rIxT K) (tVar 0) (tC (.int 1))) tNil))) (tC (.int 1)))))))

theorem sem_is_ratio {K : PySem.W.Frag} (E : XK) (O : Addr → Bool) (H : Hp) (ss : List Sl) (hl : ss.length = 1) (hp : ∃ d, ss = [.da d]) :
    Ok K O (fun H' => Ex H H') (ss ++ List.replicate 0 .un) (t_is_ratio K E) { rt := fun s => ∃ d, ss = [.da d] ∧ s = .da (.bool (isR d)), nx := fun _ => False } := by
  obtain ⟨d, rfl⟩ := hp
  have G := gr_ex H
  have key : ∀ b, b = isR d → ∃ d', [Sl.da d] = [.da d'] ∧ Sl.da (.bool b) = .da (.bool (isR d')) := fun b e => ⟨d, rfl, by rw [e]⟩
  have t1 := t_truth (e_cb (a_cons (e_d (K := K) (O := O) (J := fun H' => Ex H H') (Γ := [Sl.da d] ++ List.replicate 0 .un) (n := 0) rfl) (a_cons (e_va (w := .ty "tuple")) a_nil)) (c_isi (by decide))) True.intro
  by_cases ht : ∃ ds, d = .tuple ds
  · obtain ⟨ds, rfl⟩ := ht
    have t2 : ET K O (fun H' => Ex H H') ([Sl.da (.tuple ds)] ++ List.replicate 0 .un) (tOr (tNot (tTru K (tCB (rIsi K) (tCons (tVar 0) (tCons (tC (.ty "tuple")) tNil))))) (tTest (tOp rNe (tCB (rLen K) (tCons (tVar 0) tNil)) (tC (.int 2))))) (!decide ((ds.length : Int) = 2)) :=
      t_or (t_not t1) (fun _ => t_val (e_neI (e_cb (a_cons (e_d rfl) a_nil) c_lenT) e_int)) fun z => by
        have z' : (!isiD (.tuple ds) "tuple") = true := z
        rw [isi_tup_tuple] at z'
        cases z'
    by_cases h2 : ds.length = 2
    · obtain ⟨x, y, rfl⟩ : ∃ x y, ds = [x, y] := by
        match ds, h2 with
        | [x, y], _ => exact ⟨x, y, rfl⟩
      refine q_not (t_is t2 (by rfl)) ?_
      refine ok_retS (s := .da (.bool (isR (.tuple [x, y])))) ?_ (key _ rfl)
      refine e_andV (e_call (a_cons (e_ixT (n := 0) (e_d rfl) e_int rfl) a_nil) (u_whole1 G x)) (fun h1 => ?_) (fun h1 => ?_)
      · obtain ⟨a, rfl⟩ : ∃ a, x = .int a := by
          cases x with
          | int a => exact ⟨a, rfl⟩
          | _ => cases h1
        refine e_andV (e_call (a_cons (e_ixT (n := 1) (e_d rfl) e_int rfl) (a_cons e_int a_nil)) (u_whole2 G y 1)) (fun h3 => ?_) (fun h3 => ?_)
        · obtain ⟨b, rfl⟩ : ∃ b, y = .int b := by
            cases y with
            | int a => exact ⟨a, rfl⟩
            | _ => cases h3
          refine e_is (e_eqI (e_cb (a_cons (e_ixT (n := 0) (e_d rfl) e_int rfl) (a_cons (e_ixT (n := 1) (e_d rfl) e_int rfl) a_nil)) c_gcd) e_int) ?_
          have h4 : decide (1 ≤ b) = true := by
            have h3' : (decide (1 ≤ b) && true) = true := h3
            rw [Bool.and_true] at h3'
            exact h3'
          show Sl.da (.bool (decide (((Nat.gcd a.natAbs b.natAbs : Nat) : Int) = 1))) = .da (.bool (decide (1 ≤ b) && decide (Nat.gcd a.natAbs b.natAbs = 1)))
          rw [h4, Bool.true_and]
          congr 2
          by_cases q : Nat.gcd a.natAbs b.natAbs = 1
          · rw [decide_eq_true q, decide_eq_true (by omega)]
          · rw [decide_eq_false q, decide_eq_false (by omega)]
        · cases y with
          | int b =>
            have h3' : (decide (1 ≤ b) && true) = false := h3
            rw [Bool.and_true] at h3'
            show (decide (1 ≤ b) && _) = false
            rw [h3']
            rfl
          | _ => rfl
      · cases x with
        | int a => cases h1
        | _ => rfl
    · refine q_when (a := true) (t_is t2 (by rw [decide_eq_false (by omega)]; rfl)) (fun _ => q_retS e_bl (key _ ?_)) fun z => nomatch z
      match ds, h2 with
      | [], _ => rfl
      | [x], _ => cases x <;> rfl
      | [x, y], h2 => exact absurd rfl h2
      | x :: y :: z :: r, _ => cases x <;> first | rfl | (cases y <;> rfl)
  · have hf : isiD d "tuple" = false := by
      cases d with
      | tuple ds => exact absurd ⟨ds, rfl⟩ ht
      | int i => exact isi_int_tuple i
      | none => exact isi_none_tuple
      | bool b => exact isi_bool_tuple b
      | str x => exact isi_str_tuple x
      | list x => exact isi_list_tuple x
      | dict x => show (kitB "dict" "tuple").getD false = false; decide +kernel
    refine q_when (a := true) (t_or (t_is (t_not t1) (b := true) ?_) (fun z => nomatch z) fun _ => rfl) (fun _ => q_retS e_bl (key _ ?_)) fun z => nomatch z
    · show (!isiD d "tuple") = true
      rw [hf]
      rfl
    · cases d with
      | tuple ds => exact absurd ⟨ds, rfl⟩ ht
      | _ => rfl
theorem u_ratio {K : PySem.W.Frag} {O : Addr → Bool} {J : Hp → Prop} {E : XK} (G : Gr J) (d : PyData) : SpS K O J (sp_is_ratio K) E [.da d] (fun x => x = .da (.bool (isR d))) :=
  spG_us G rfl ⟨_, rfl⟩ fun s ⟨_, e, h⟩ => by cases e; exact h
/-! ### make_ratio(top, bottom=1) -/
def preMk (ss : List Sl) : Prop := ∃ d e, ss = [.da d, .da e] ∧ ∀ i, e = .int i → Bd 8000 i
def relMk (ss : List Sl) (s : Sl) : Prop := ∃ a c, ss = [.da (.int a), .da (.int c)] ∧ c ≠ 0 ∧ s = .da (rt (mkR a c))
def badMk (ss : List Sl) (x : PyData) : Prop := ∃ d e, ss = [.da d, .da e] ∧ (((∀ i, d ≠ .int i) ∧ x = .str "top") ∨ ((∃ i, d = .int i) ∧ (∀ i, e = .int i → i = 0) ∧ x = .str "bottom"))
def sp_make_ratio (K : PySem.W.Frag) : Sp := spR K (He.ga K "BadRatio") "what" 2 preMk relMk badMk
def sp_make_ratio1 (K : PySem.W.Frag) : Sp := fun vs => sp_make_ratio K (vs ++ [.int 1])
def t_make_ratio (K : PySem.W.Frag) (E : XK) : TS := (tSeq (tIfS (tNot (tTru K (tCall (sp_is_whole1 K) [] E0 (tCons (tVar 0) tNil)))) (tRaiseX (He.ga K "BadRatio") "what" (tCons (tC (.str "top")) tNil) E) tNext)
 (tSeq (tIfS (tOr (tNot (tTru K (tCall (sp_is_whole1 K) [] E0 (tCons (tVar 1) tNil)))) (tTest (tOp rEq (tVar 1) (tC (.int 0))))) (tRaiseX (He.ga K "BadRatio") "what" (tCons (tC (.str "bottom")) tNil) E) tNext)
 (tSeq (tAsg (tCB rGcd (tCons (tVar 0) (tCons (tVar 1) tNil))) (gName 2))
 (tSeq (tIfS (tTest (tOp rLtI (tVar 1) (tC (.int 0)))) (tAsg (tUn rNegI (tVar 2)) (gName 2)) tNext)
 (tRet (tTup (tCons (tOp rDivZ (tVar 0) (tVar 2)) (tCons (tOp rDivZ (tVar 1) (tVar 2)) tNil))))))))

theorem sem_make_ratio {K : PySem.W.Frag} (O : Addr → Bool) (H : Hp) (ss : List Sl) (E : XK) (hl : ss.length = 2) (hp : preMk ss)
    (hx : ∀ d, badMk ss d → ∀ H1 y dx, Ex H H1 → Dp K (hid O H1) y d → H1 dx = none → E (.ref (He.ga K "BadRatio")) (some dx) (upd H1 dx (.xd [(("what" : Str), y)]))) :
    Ok K O (fun H' => Ex H H') (ss ++ List.replicate 1 .un) (t_make_ratio K E) { rt := relMk ss, nx := fun _ => relMk ss (.da .none) } := by
  obtain ⟨d, e, rfl, hb⟩ := hp
  have G := gr_ex H
  refine q_when (a := !isW d .none .none) (t_not (t_truth (e_call (a_cons (e_d rfl) a_nil) (u_whole1 G d)) True.intro)) (fun h => ?_) fun h => ?_
  · refine ok_seq (M := fun _ => False) (ok_raise (a_cons e_str a_nil) fun H1 y dx e1 o nd => hx _ ⟨d, e, rfl, .inl ⟨fun i q => ?_, rfl⟩⟩ H1 y dx e1 o nd) fun _ z => z.elim
    rw [q] at h
    cases h
  obtain ⟨a, rfl⟩ : ∃ a, d = .int a := by
    cases d with
    | int a => exact ⟨a, rfl⟩
    | _ => cases h
  by_cases he : ∃ c, e = .int c ∧ c ≠ 0
  · obtain ⟨c, rfl, hc⟩ := he
    have hcb := hb c rfl
    refine q_not (t_or (t_not (t_truth (e_call (a_cons (e_d rfl) a_nil) (u_whole1 G (.int c))) True.intro)) (fun _ => t_is (t_val (e_eqI (e_d rfl) e_int)) (decide_eq_false hc)) fun z => nomatch z) ?_
    refine q_setS (e_cb (a_cons (e_d rfl) (a_cons (e_d rfl) a_nil)) c_gcd) ?_
    have fin : ∀ g, g = sg a c → Ok K O (fun H' => Ex H H') [.da (.int a), .da (.int c), .da (.int g)] (tRet (tTup (tCons (tOp rDivZ (tVar 0) (tVar 2)) (tCons (tOp rDivZ (tVar 1) (tVar 2)) tNil)))) { rt := relMk [.da (.int a), .da (.int c)], nx := fun _ => relMk [.da (.int a), .da (.int c)] (.da .none) } := fun g eg => by
      have hz : CDivZ a g := by rw [eg]; exact (sg_bd hc hcb).cdiv (sg_ne hc) (by omega)
      have hz' : CDivZ c g := hz
      refine ok_retS (e_tup G (ds := [.int (a.fdiv g), .int (c.fdiv g)]) (a_cons (e_divZ (e_d rfl) (e_d rfl) hz) (a_cons (e_divZ (e_d rfl) (e_d rfl) hz') a_nil))) ⟨a, c, rfl, hc, ?_⟩
      rw [eg]
      rfl
    by_cases hn : c < 0
    · refine q_when (a := true) (t_is (t_val (e_lt (e_d rfl) e_int)) (decide_eq_true hn)) (fun _ => ?_) fun z => nomatch z
      exact q_setS (e_neg (e_d rfl)) (fin _ (by unfold sg; rw [if_pos hn]))
    · refine q_not (t_is (t_val (e_lt (e_d rfl) e_int)) (decide_eq_false hn)) ?_
      exact fin _ (by unfold sg; rw [if_neg hn])
  · have hbad : ∀ i, e = .int i → i = 0 := fun i q => Classical.byContradiction fun z => he ⟨i, q, z⟩
    refine q_when (a := true) ?_ (fun _ => ?_) fun z => nomatch z
    · by_cases hi : ∃ i, e = .int i
      · obtain ⟨i, rfl⟩ := hi
        exact t_or (t_not (t_truth (e_call (a_cons (e_d rfl) a_nil) (u_whole1 G (.int i))) True.intro)) (fun _ => t_is (t_val (e_eqI (e_d rfl) e_int)) (decide_eq_true (hbad i rfl))) fun z => nomatch z
      · refine t_or (t_is (t_not (t_truth (e_call (a_cons (e_d rfl) a_nil) (u_whole1 G e)) True.intro)) (b := true) ?_) (fun z => nomatch z) fun _ => rfl
        cases e with
        | int i => exact absurd ⟨i, rfl⟩ hi
        | _ => rfl
    · exact ok_seq (M := fun _ => False) (ok_raise (a_cons e_str a_nil) fun H1 y dx e1 o nd => hx _ ⟨.int a, e, rfl, .inr ⟨⟨a, rfl⟩, hbad, rfl⟩⟩ H1 y dx e1 o nd) fun _ z => z.elim
section
variable {K : PySem.W.Frag} {O : Addr → Bool} {J : Hp → Prop} {E : XK}
theorem u_make (G : Gr J) {a c : Int} (hc : c ≠ 0) (hb : Bd 8000 c) : SpS K O J (sp_make_ratio K) E [.da (.int a), .da (.int c)] (fun x => x = .da (rt (mkR a c))) :=
  spR_us G rfl ⟨_, _, rfl, fun i q => by cases q; exact hb⟩ (fun s ⟨_, _, e, _, h⟩ => by cases e; exact h) fun d ⟨_, _, e, h⟩ => by
    cases e
    rcases h with ⟨h, _⟩ | ⟨_, h, _⟩
    · exact h a rfl
    · exact hc (h c rfl)
theorem u_make1 (G : Gr J) {a : Int} : SpS K O J (sp_make_ratio1 K) E [.da (.int a)] (fun x => x = .da (rt (mkR a 1))) :=
  spR_usD (ts := [.da (.int 1)]) G (fun H => .cons (.int 1) .nil) rfl ⟨_, _, rfl, fun i q => by cases q; show (1 : Int).natAbs < 2 ^ 8000; exact Nat.one_lt_two_pow (by decide)⟩ (fun s ⟨_, _, e, _, h⟩ => by cases e; exact h) fun d ⟨_, _, e, h⟩ => by
    cases e
    rcases h with ⟨h, _⟩ | ⟨_, h, _⟩
    · exact h a rfl
    · exact absurd (h 1 rfl) (by decide)
end
/-! ### sums, products, order -/
def pre2 (ss : List Sl) : Prop := ∃ p q, ss = [.da (rt p), .da (rt q)] ∧ BR 4000 p ∧ BR 4000 q
def rel2 (f : Int × Int → Int × Int → PyData) (ss : List Sl) (s : Sl) : Prop := ∃ p q, ss = [.da (rt p), .da (rt q)] ∧ s = .da (f p q)
def addQ (p q : Int × Int) : Int × Int := mkR (p.1 * q.2 + q.1 * p.2) (p.2 * q.2)
def subQ (p q : Int × Int) : Int × Int := mkR (p.1 * q.2 - q.1 * p.2) (p.2 * q.2)
def mulQ (p q : Int × Int) : Int × Int := mkR (p.1 * q.1) (p.2 * q.2)
def divQ (p q : Int × Int) : Int × Int := mkR (p.1 * q.2) (p.2 * q.1)
def cmpQ (p q : Int × Int) : Int := if p.1 * q.2 = q.1 * p.2 then 0 else if p.1 * q.2 < q.1 * p.2 then -1 else 1
theorem BR.zz {n : Nat} {p q : Int × Int} (h : BR n p) (k : BR n q) : p.2 * q.2 ≠ 0 := fun z => by
  rcases Int.mul_eq_zero.mp z with e | e
  · exact h.z e
  · exact k.z e
section
variable {K : PySem.W.Frag} {O : Addr → Bool} {J : Hp → Prop} {E : XK} {Γ : List Sl} {p q : Int × Int} {i j : Nat}
theorem e_top {te : TE} (h : ED K O J Γ te (rt p)) : ED K O J Γ (tOp (rIxT K) te (tC (.int 0))) (.int p.1) := e_ixT (n := 0) h e_int rfl
theorem e_bot {te : TE} (h : ED K O J Γ te (rt p)) : ED K O J Γ (tOp (rIxT K) te (tC (.int 1))) (.int p.2) := e_ixT (n := 1) h e_int rfl
theorem e_mulB {ta tb : TE} {a b : Int} (h1 : ED K O J Γ ta (.int a)) (h2 : ED K O J Γ tb (.int b)) (k1 : Bd 4000 a) (k2 : Bd 4000 b) : ED K O J Γ (tOp rMulW ta tb) (.int (a * b)) := e_mulW h1 h2 (k1.cmul k2 (by decide))
end
def sp_plus (K : PySem.W.Frag) : Sp := spG K 2 pre2 (rel2 fun p q => rt (addQ p q))
def sp_minus (K : PySem.W.Frag) : Sp := spG K 2 pre2 (rel2 fun p q => rt (subQ p q))
def sp_times (K : PySem.W.Frag) : Sp := spG K 2 pre2 (rel2 fun p q => rt (mulQ p q))
def sp_compare (K : PySem.W.Frag) : Sp := spG K 2 pre2 (rel2 fun p q => .int (cmpQ p q))
def sp_negative (K : PySem.W.Frag) : Sp := spG K 1 (fun ss => ∃ p, ss = [.da (rt p)]) (fun ss s => ∃ p, ss = [.da (rt p)] ∧ s = .da (rt (-p.1, p.2)))
def badOver (ss : List Sl) (x : PyData) : Prop := ∃ p q, ss = [.da (rt p), .da (rt q)] ∧ q.1 = 0 ∧ x = .str "zero"
def relOver (ss : List Sl) (s : Sl) : Prop := ∃ p q, ss = [.da (rt p), .da (rt q)] ∧ q.1 ≠ 0 ∧ s = .da (rt (divQ p q))
def sp_over (K : PySem.W.Frag) : Sp := spR K (He.ga K "BadRatio") "what" 2 pre2 relOver badOver
def t_plus (K : PySem.W.Frag) (E : XK) : TS := (tRet (tCall (sp_make_ratio K) [] E0 (tCons (tOp rAddI (tOp rMulW (tOp (rIxT K) (tVar 0) (tC (.int 0))) (tOp (rIxT K) (tVar 1) (tC (.int 1)))) (tOp rMulW (tOp (rIxT K) (tVar 1) (tC (.int 0))) (tOp (rIxT K) (tVar 0) (tC (.int 1))))) (tCons (tOp rMulW (tOp (rIxT K) (tVar 0) (tC (.int 1))) (tOp (rIxT K) (tVar 1) (tC (.int 1)))) tNil))))
def t_minus (K : PySem.W.Frag) (E : XK) : TS := (tRet (tCall (sp_make_ratio K) [] E0 (tCons (tOp rSubI (tOp rMulW (tOp (rIxT K) (tVar 0) (tC (.int 0))) (tOp (rIxT K) (tVar 1) (tC (.int 1)))) (tOp rMulW (tOp (rIxT K) (tVar 1) (tC (.int 0))) (tOp (rIxT K) (tVar 0) (tC (.int 1))))) (tCons (tOp rMulW (tOp (rIxT K) (tVar 0) (tC (.int 1))) (tOp (rIxT K) (tVar 1) (tC (.int 1)))) tNil))))
def t_times (K : PySem.W.Frag) (E : XK) : TS := (tRet (tCall (sp_make_ratio K) [] E0 (tCons (tOp rMulW (tOp (rIxT K) (tVar 0) (tC (.int 0))) (tOp (rIxT K) (tVar 1) (tC (.int 0)))) (tCons (tOp rMulW (tOp (rIxT K) (tVar 0) (tC (.int 1))) (tOp (rIxT K) (tVar 1) (tC (.int 1)))) tNil))))
def t_over (K : PySem.W.Frag) (E : XK) : TS := (tSeq (tIfS (tTest (tOp rEq (tOp (rIxT K) (tVar 1) (tC (.int 0))) (tC (.int 0)))) (tRaiseX (He.ga K "BadRatio") "what" (tCons (tC (.str "zero")) tNil) E) tNext)
 (tRet (tCall (sp_make_ratio K) [] E0 (tCons (tOp rMulW (tOp (rIxT K) (tVar 0) (tC (.int 0))) (tOp (rIxT K) (tVar 1) (tC (.int 1)))) (tCons (tOp rMulW (tOp (rIxT K) (tVar 0) (tC (.int 1))) (tOp (rIxT K) (tVar 1) (tC (.int 0)))) tNil)))))
def t_negative (K : PySem.W.Frag) (E : XK) : TS := (tRet (tTup (tCons (tUn rNegI (tOp (rIxT K) (tVar 0) (tC (.int 0)))) (tCons (tOp (rIxT K) (tVar 0) (tC (.int 1))) tNil))))
def t_compare (K : PySem.W.Frag) (E : XK) : TS := (tSeq (tAsg (tOp rMulW (tOp (rIxT K) (tVar 0) (tC (.int 0))) (tOp (rIxT K) (tVar 1) (tC (.int 1)))) (gName 2))
 (tSeq (tAsg (tOp rMulW (tOp (rIxT K) (tVar 1) (tC (.int 0))) (tOp (rIxT K) (tVar 0) (tC (.int 1)))) (gName 3))
 (tSeq (tIfS (tTest (tOp rEq (tVar 2) (tVar 3))) (tRet (tC (.int 0))) tNext)
 (tRet (tIf (tTest (tOp rLtI (tVar 2) (tVar 3))) (tUn rNegI (tC (.int 1))) (tC (.int 1)))))))

section
variable {K : PySem.W.Frag} {O : Addr → Bool} {J : Hp → Prop}
theorem sem_plus (E : XK) (O : Addr → Bool) (H : Hp) (ss : List Sl) (hl : ss.length = 2) (hp : pre2 ss) : Ok K O (fun H' => Ex H H') (ss ++ List.replicate 0 .un) (t_plus K E) { rt := rel2 (fun p q => rt (addQ p q)) ss, nx := fun _ => rel2 (fun p q => rt (addQ p q)) ss (.da .none) } := by
  obtain ⟨p, q, rfl, h1, h2⟩ := hp
  refine ok_retS (e_call (a_cons (e_add (e_mulB (e_top (e_d rfl)) (e_bot (e_d rfl)) h1.t h2.b) (e_mulB (e_top (e_d rfl)) (e_bot (e_d rfl)) h2.t h1.b)) (a_cons (e_mulB (e_bot (e_d rfl)) (e_bot (e_d rfl)) h1.b h2.b) a_nil)) (u_make (gr_ex H) (h1.zz h2) (h1.b.mul h2.b))) ⟨p, q, rfl, rfl⟩
theorem sem_minus (E : XK) (O : Addr → Bool) (H : Hp) (ss : List Sl) (hl : ss.length = 2) (hp : pre2 ss) : Ok K O (fun H' => Ex H H') (ss ++ List.replicate 0 .un) (t_minus K E) { rt := rel2 (fun p q => rt (subQ p q)) ss, nx := fun _ => rel2 (fun p q => rt (subQ p q)) ss (.da .none) } := by
  obtain ⟨p, q, rfl, h1, h2⟩ := hp
  refine ok_retS (e_call (a_cons (e_sub (e_mulB (e_top (e_d rfl)) (e_bot (e_d rfl)) h1.t h2.b) (e_mulB (e_top (e_d rfl)) (e_bot (e_d rfl)) h2.t h1.b)) (a_cons (e_mulB (e_bot (e_d rfl)) (e_bot (e_d rfl)) h1.b h2.b) a_nil)) (u_make (gr_ex H) (h1.zz h2) (h1.b.mul h2.b))) ⟨p, q, rfl, rfl⟩
theorem sem_times (E : XK) (O : Addr → Bool) (H : Hp) (ss : List Sl) (hl : ss.length = 2) (hp : pre2 ss) : Ok K O (fun H' => Ex H H') (ss ++ List.replicate 0 .un) (t_times K E) { rt := rel2 (fun p q => rt (mulQ p q)) ss, nx := fun _ => rel2 (fun p q => rt (mulQ p q)) ss (.da .none) } := by
  obtain ⟨p, q, rfl, h1, h2⟩ := hp
  refine ok_retS (e_call (a_cons (e_mulB (e_top (e_d rfl)) (e_top (e_d rfl)) h1.t h2.t) (a_cons (e_mulB (e_bot (e_d rfl)) (e_bot (e_d rfl)) h1.b h2.b) a_nil)) (u_make (gr_ex H) (h1.zz h2) (h1.b.mul h2.b))) ⟨p, q, rfl, rfl⟩
theorem sem_over (O : Addr → Bool) (H : Hp) (ss : List Sl) (E : XK) (hl : ss.length = 2) (hp : pre2 ss)
    (hx : ∀ d, badOver ss d → ∀ H1 y dx, Ex H H1 → Dp K (hid O H1) y d → H1 dx = none → E (.ref (He.ga K "BadRatio")) (some dx) (upd H1 dx (.xd [(("what" : Str), y)]))) :
    Ok K O (fun H' => Ex H H') (ss ++ List.replicate 0 .un) (t_over K E) { rt := relOver ss, nx := fun _ => relOver ss (.da .none) } := by
  obtain ⟨p, q, rfl, h1, h2⟩ := hp
  by_cases z : q.1 = 0
  · refine q_when (a := true) (t_is (t_val (e_eqI (e_top (e_d rfl)) e_int)) (decide_eq_true z)) (fun _ => ?_) fun z => nomatch z
    exact ok_seq (M := fun _ => False) (ok_raise (a_cons e_str a_nil) fun H1 y dx e1 o nd => hx _ ⟨p, q, rfl, z, rfl⟩ H1 y dx e1 o nd) fun _ z => z.elim
  · refine q_not (t_is (t_val (e_eqI (e_top (e_d rfl)) e_int)) (decide_eq_false z)) ?_
    have nz : p.2 * q.1 ≠ 0 := fun e => by
      rcases Int.mul_eq_zero.mp e with e | e
      · exact h1.z e
      · exact z e
    exact ok_retS (e_call (a_cons (e_mulB (e_top (e_d rfl)) (e_bot (e_d rfl)) h1.t h2.b) (a_cons (e_mulB (e_bot (e_d rfl)) (e_top (e_d rfl)) h1.b h2.t) a_nil)) (u_make (gr_ex H) nz (h1.b.mul h2.t))) ⟨p, q, rfl, z, rfl⟩
theorem sem_negative (E : XK) (O : Addr → Bool) (H : Hp) (ss : List Sl) (hl : ss.length = 1) (hp : ∃ p, ss = [.da (rt p)]) : Ok K O (fun H' => Ex H H') (ss ++ List.replicate 0 .un) (t_negative K E) { rt := fun s => ∃ p, ss = [.da (rt p)] ∧ s = .da (rt (-p.1, p.2)), nx := fun _ => False } := by
  obtain ⟨p, rfl⟩ := hp
  exact ok_retS (e_tup (gr_ex H) (ds := [.int (-p.1), .int p.2]) (a_cons (e_neg (e_top (e_d rfl))) (a_cons (e_bot (e_d rfl)) a_nil))) ⟨p, rfl, rfl⟩
theorem sem_compare (E : XK) (O : Addr → Bool) (H : Hp) (ss : List Sl) (hl : ss.length = 2) (hp : pre2 ss) : Ok K O (fun H' => Ex H H') (ss ++ List.replicate 2 .un) (t_compare K E) { rt := rel2 (fun p q => .int (cmpQ p q)) ss, nx := fun _ => rel2 (fun p q => .int (cmpQ p q)) ss (.da .none) } := by
  obtain ⟨p, q, rfl, h1, h2⟩ := hp
  refine q_setS (e_mulB (e_top (e_d rfl)) (e_bot (e_d rfl)) h1.t h2.b) (q_setS (e_mulB (e_top (e_d rfl)) (e_bot (e_d rfl)) h2.t h1.b) ?_)
  by_cases e : p.1 * q.2 = q.1 * p.2
  · exact q_when (a := true) (t_is (t_val (e_eqI (e_d rfl) (e_d rfl))) (decide_eq_true e)) (fun _ => q_retS e_int ⟨p, q, rfl, by show Sl.da (.int 0) = .da (.int (cmpQ p q)); unfold cmpQ; rw [if_pos e]⟩) fun z => nomatch z
  · refine q_not (t_is (t_val (e_eqI (e_d rfl) (e_d rfl))) (decide_eq_false e)) ?_
    refine ok_retS (s := .da (.int (cmpQ p q))) ?_ ⟨p, q, rfl, rfl⟩
    unfold cmpQ
    rw [if_neg e]
    by_cases l : p.1 * q.2 < q.1 * p.2
    · rw [if_pos l]
      exact e_if (a := true) (t_is (t_val (e_lt (e_d rfl) (e_d rfl))) (decide_eq_true l)) (fun _ => e_neg e_int) fun z => nomatch z
    · rw [if_neg l]
      exact e_if (a := false) (t_is (t_val (e_lt (e_d rfl) (e_d rfl))) (decide_eq_false l)) (fun z => nomatch z) fun _ => e_int
theorem u_2 {f : Int × Int → Int × Int → PyData} {E : XK} {p q : Int × Int} (G : Gr J) (h1 : BR 4000 p) (h2 : BR 4000 q) : SpS K O J (spG K 2 pre2 (rel2 f)) E [.da (rt p), .da (rt q)] (fun x => x = .da (f p q)) :=
  spG_us G rfl ⟨p, q, rfl, h1, h2⟩ fun s ⟨p', q', e, h⟩ => by
    unfold rt at e
    simp only [List.cons.injEq, Sl.da.injEq, PyData.tuple.injEq, PyData.int.injEq, and_true] at e
    obtain ⟨⟨e1, e2⟩, e3, e4⟩ := e
    have ep : p = p' := Prod.ext e1 e2
    have eq : q = q' := Prod.ext e3 e4
    rw [h, ep, eq]
end
end LL


set_option Elab.async false
set_option linter.all false
set_option maxRecDepth 100000
set_option maxHeartbeats 4000000
namespace LL
open PySem PySem.Spec PyProof.Rows L2
open Evl (Ex)
/-! ### the hand of draws: a list that only draws change -/
def HandAt (a c : Addr) (H : Hp) : Prop := ∃ (cells : List Int) (i : Nat) (z t : Int), H a = some (.lst [.ref c, .int (i : Int), .int z, .int t]) ∧ H c = some (.lst (cells.map V.int)) ∧ i ≤ cells.length ∧ cells.length ≤ 63 ∧ (∀ x ∈ cells, 0 ≤ x) ∧ 0 ≤ z ∧ 0 ≤ t ∧ t < 2147483629
/-- all but a stands -/
def ExBut (a : Addr) (H H' : Hp) : Prop := ∀ b o, b ≠ a → H b = some o → H' b = some o
theorem ExBut.refl (a : Addr) (H : Hp) : ExBut a H H := fun _ _ _ h => h
theorem ExBut.trans {a : Addr} {H H1 H2 : Hp} (x : ExBut a H H1) (y : ExBut a H1 H2) : ExBut a H H2 := fun b o n h => y b o n (x b o n h)
theorem ExBut.of {a : Addr} {H H' : Hp} (e : Ex H H') : ExBut a H H' := fun b o _ h => e b o h
theorem ExBut.upd {a : Addr} {H : Hp} {o : HO} : ExBut a H (upd H a o) := fun b u n h => by rw [upd_ne n]; exact h
theorem HandAt.grow {a c : Addr} {H H' : Hp} (h : HandAt a c H) (e : Ex H H') : HandAt a c H' := by
  obtain ⟨cells, i, z, t, h1, h2, r⟩ := h
  exact ⟨cells, i, z, t, e _ _ h1, e _ _ h2, r⟩
theorem step_but {O : Addr → Bool} {a : Addr} {H H' : Hp} (ha : O a = true) (e : ExBut a H H') (t : H' a ≠ none) : Step O H H' :=
  ⟨fun b o h => by
    unfold hid at h ⊢
    by_cases q : O b = true
    · rw [if_pos q] at h; cases h
    · rw [if_neg q] at h ⊢
      exact e b o (fun z => q (z ▸ ha)) h, fun b o h => by
    by_cases q : b = a
    · rw [q]; exact t
    · cases e1 : H b with
      | none => exact absurd e1 h
      | some u => rw [e b u q e1]; exact fun z => nomatch z⟩
theorem HandAt.there {a c : Addr} {H : Hp} (h : HandAt a c H) : H a ≠ none := by
  obtain ⟨_, _, _, _, h1, _⟩ := h
  rw [h1]
  exact fun z => nomatch z
/-- a def that draws by the hand, its first argument -/
def spH (K : PySem.W.Frag) (n : Nat) (Pre : List Sl → Prop) (R : List Sl → Sl → Prop) : Sp := fun vs H Q _ =>
  ∃ (O : Addr → Bool) (ss : List Sl) (a c : Addr) (us : List V), vs = .ref a :: us ∧ O a = true ∧ O c = true ∧ (∀ b, O b = true → H b ≠ none) ∧ SlAll K (hid O H) us ss ∧ ss.length = n ∧ Pre ss ∧ HandAt a c H ∧
    ∀ s v H', R ss s → HandAt a c H' → ExBut a H H' → OkS K (hid O H') v s → Q v H'
/-- J says nothing of what was not yet there -/
def Fr (J : Hp → Prop) : Prop := ∀ (H1 : Hp) (D : Addr), J H1 → H1 D = none → ∀ (H' : Hp) (o : HO), J H' → J (upd H' D o)
theorem fr_ex (H : Hp) : Fr (fun H' => Ex H H') := fun H1 D e1 n H' o e' b u h => by
  have nb : b ≠ D := fun z => by
    have := e1 b u h
    rw [z, n] at this
    cases this
  rw [upd_ne nb]
  exact e' b u h
theorem HandAt.two {a c : Addr} {H : Hp} (h : HandAt a c H) : H a ≠ none ∧ H c ≠ none := by
  obtain ⟨_, _, _, _, h1, h2, _⟩ := h
  exact ⟨by (rw [h1]; exact (fun z => nomatch z)), by (rw [h2]; exact (fun z => nomatch z))⟩
theorem HandAt.upd {a c D : Addr} {H : Hp} {o : HO} (h : HandAt a c H) (h1 : D ≠ a) (h2 : D ≠ c) : HandAt a c (upd H D o) := by
  obtain ⟨cells, i, z, t, e1, e2, r⟩ := h
  exact ⟨cells, i, z, t, by rw [upd_ne (Ne.symm h1)]; exact e1, by rw [upd_ne (Ne.symm h2)]; exact e2, r⟩
theorem HandAt.fr (a c : Addr) : Fr (fun H' => HandAt a c H') := fun H1 D e1 n H' o e' => e'.upd (fun z => e1.two.1 (z ▸ n)) (fun z => e1.two.2 (z ▸ n))
theorem fr_but (a c : Addr) (H : Hp) : Fr (fun H' => ExBut a H H' ∧ HandAt a c H') := fun H1 D e1 n H' o e' => by
  have na : D ≠ a := fun z => e1.2.two.1 (z ▸ n)
  refine ⟨fun b u nb h => ?_, e'.2.upd na fun z => e1.2.two.2 (z ▸ n)⟩
  have nd : b ≠ D := fun z => by
    have := e1.1 b u nb h
    rw [z, n] at this
    cases this
  rw [upd_ne nd]
  exact e'.1 b u nb h
/-- what is kept while draws go on -/
structure HandJ (O : Addr → Bool) (J : Hp → Prop) (a c : Addr) : Prop where
  oa : O a = true
  oc : O c = true
  gr : Gr J
  fr : Fr J
  at_ : ∀ H, J H → HandAt a c H
  but : ∀ H H', J H → ExBut a H H' → HandAt a c H' → J H'
section
variable {K : PySem.W.Frag} {O : Addr → Bool} {J : Hp → Prop} {a c : Addr} {n : Nat} {Pre : List Sl → Prop} {R : List Sl → Sl → Prop}
theorem spH_len (vs : List V) (H : Hp) (Q : VK) (E : XK) (h : spH K n Pre R vs H Q E) : vs.length = n + 1 := by
  obtain ⟨O, ss, a, c, us, rfl, _, _, _, h1, h2, _⟩ := h
  rw [← h2, List.length_cons, h1.len]
theorem spH_us {ss : List Sl} {E : XK} {P : Sl → Prop} (hj : HandJ O J a c) (hl : ss.length = n) (hp : Pre ss) (hr : ∀ s, R ss s → P s) : SpS K O J (spH K n Pre R) E (.va (.ref a) :: ss) P := fun vs H1 hJ tr hS Q q => by
  cases hS with
  | cons o hS =>
    cases o
    exact ⟨O, ss, a, c, _, rfl, hj.oa, hj.oc, tr, hS, hl, hp, hj.at_ H1 hJ, fun s v H' r hh e o => q s v H' (hr s r) (hj.but H1 H' hJ e hh) (step_but hj.oa e hh.there) o⟩
theorem spH_body {m : Nat} {N : List Str} {t : TS} (hN : N.length = n + 1 + m)
    (h : ∀ (O : Addr → Bool) (J : Hp → Prop) (a c : Addr) (ss : List Sl), ss.length = n → Pre ss → HandJ O J a c → ∃ nx, (∀ Γ : List Sl, nx Γ → R ss (.da .none)) ∧ Ok K O J (.va (.ref a) :: ss ++ List.replicate m .un) t { rt := R ss, nx := nx })
    (vs : List V) (H : Hp) (Q : VK) (E : XK) (hs : spH K n Pre R vs H Q E) : t { nx := fun _ H' => Q .non H', rt := Q } (L2.start N vs) H := by
  obtain ⟨O, ss, a, c, us, rfl, ha, hc, tr, hS, hl, hp, hh, q⟩ := hs
  have hj : HandJ O (fun H' => ExBut a H H' ∧ HandAt a c H') a c := ⟨ha, hc, fun H1 H2 e j => ⟨j.1.trans (.of e), j.2.grow e⟩, fr_but a c H, fun _ j => j.2, fun H1 H2 j e h2 => ⟨j.1.trans e, h2⟩⟩
  have he : En K O (L2.start N (.ref a :: us)) (.va (.ref a) :: ss ++ List.replicate m .un) H := en_start (ss := .va (.ref a) :: ss) (.cons rfl hS) tr m (by rw [List.length_cons]; omega)
  obtain ⟨nx, hx, hk⟩ := h O _ a c ss hl hp hj
  exact hk _ _ H ⟨.refl a H, hh⟩ he ⟨fun s v H2 r j st o => q s v H2 r j.2 j.1 o, fun Γ σ H2 r j st _ => q _ _ H2 (hx Γ r) j.2 j.1 .non, fun _ _ _ z => z.elim, fun _ _ _ z => z.elim⟩
end
/-! ### _law_mixed -/
def sp__law_mixed (K : PySem.W.Frag) : Sp := spG K 2 (fun ss => ∃ n m, ss = [.da (.int n), .da (.int m)] ∧ 0 ≤ n ∧ n < 2 ^ 31 ∧ 0 ≤ m ∧ m ≤ 1000) (fun _ s => ∃ r, s = .da (.int r) ∧ 0 ≤ r)
def t__law_mixed (K : PySem.W.Frag) (E : XK) : TS := (tSeq (tAsg (tOp rModC (tCB rIntOf (tCons (tOp rAddI (tOp rAddI (tOp rMulI (tVar 0) (tC (.int 48271))) (tOp rMulI (tVar 1) (tC (.int 7919)))) (tC (.int 54321))) tNil)) (tC (.int 2147483647))) (gName 2))
 (tSeq (tAsg (tOp rModC (tCB rIntOf (tCons (tOp rAddI (tOp rAddI (tOp rMulW (tVar 2) (tVar 2)) (tOp rMulI (tVar 1) (tC (.int 104729)))) (tOp rDivC (tVar 2) (tC (.int 131)))) tNil)) (tC (.int 2147483629))) (gName 3))
 (tRet (tOp rDivC (tCB rIntOf (tCons (tOp rModC (tCB rIntOf (tCons (tOp rAddI (tOp rMulI (tVar 3) (tC (.int 69621))) (tOp rDivC (tVar 2) (tC (.int 5)))) tNil)) (tC (.int 2147483587))) tNil)) (tC (.int 16))))))

theorem cmulR {i j : Int} (h : -(2 ^ 64) < j ∧ j < 2 ^ 64) : CMul i j := .inr h
theorem e_intOf {K : PySem.W.Frag} {O : Addr → Bool} {J : Hp → Prop} {Γ : List Sl} {te : TE} {i : Int} (h : ED K O J Γ te (.int i)) : ED K O J Γ (tCB rIntOf (tCons te tNil)) (.int i) := e_cb (a_cons h a_nil) c_int
theorem sem__law_mixed {K : PySem.W.Frag} (E : XK) (O : Addr → Bool) (H : Hp) (ss : List Sl) (hl : ss.length = 2) (hp : ∃ n m, ss = [.da (.int n), .da (.int m)] ∧ 0 ≤ n ∧ n < 2 ^ 31 ∧ 0 ≤ m ∧ m ≤ 1000) :
    Ok K O (fun H' => Ex H H') (ss ++ List.replicate 2 .un) (t__law_mixed K E) { rt := fun s => ∃ r, s = .da (.int r) ∧ 0 ≤ r, nx := fun _ => False } := by
  obtain ⟨n, m, rfl, n0, n1, m0, m1⟩ := hp
  have lit : ∀ j : Int, 0 ≤ j → j ≤ 1000000 → (-(2 ^ 64) < j ∧ j < 2 ^ 64) := fun j _ _ => by omega
  refine q_setS (e_mod (e_intOf (e_add (e_add (e_mul (e_d rfl) e_int (cmulR (lit _ (by decide) (by decide)))) (e_mul (e_d rfl) e_int (cmulR (lit _ (by decide) (by decide))))) e_int)) e_int (by decide)) ?_
  generalize ho : (n * 48271 + m * 7919 + 54321) % 2147483647 = o
  have o0 : 0 ≤ o := by omega
  have o1 : o < 2147483647 := by omega
  have cm : CMulW o o := wide_mul (a := 31) (b := 31) (by omega) (by omega) (by decide) (by decide) (by decide)
  refine q_setS (e_mod (e_intOf (e_add (e_add (e_mulW (e_d rfl) (e_d rfl) cm) (e_mul (e_d rfl) e_int (cmulR (lit _ (by decide) (by decide))))) (e_div (e_d rfl) e_int ⟨by decide, by decide⟩))) e_int (by decide)) ?_
  generalize ht : (o * o + m * 104729 + o / 131) % 2147483629 = u
  refine ok_retS (e_div (e_intOf (e_mod (e_intOf (e_add (e_mul (e_d rfl) e_int (cmulR (lit _ (by decide) (by decide)))) (e_div (e_d rfl) e_int ⟨by decide, by decide⟩))) e_int (by decide))) e_int ⟨by decide, by decide⟩) ⟨_, rfl, ?_⟩
  omega
/-! ### _law_take(hand, many) -/
def sp__law_take (K : PySem.W.Frag) : Sp := spH K 1 (fun ss => ∃ m, ss = [.da (.int m)] ∧ 0 < m ∧ m ≤ 1000000000) (fun ss s => ∃ m r, ss = [.da (.int m)] ∧ s = .da (.int r) ∧ 0 ≤ r ∧ r < m)
def t__law_take (K : PySem.W.Frag) (E : XK) : TS := (tSeq (tIfS (tAnd (tTest (tOp rEq (tOp (rIxL K) (tVar 0) (tC (.int 2))) (tC (.int 0)))) (tTest (tOp rLtI (tOp (rIxL K) (tVar 0) (tC (.int 1))) (tCB (rLen K) (tCons (tOp (rIxL K) (tVar 0) (tC (.int 0))) tNil))))) (tSeq (tAsg (tOp (rIxL K) (tOp (rIxL K) (tVar 0) (tC (.int 0))) (tOp (rIxL K) (tVar 0) (tC (.int 1)))) (gName 2))
 (tSeq (tAsg (tOp rAddI (tOp (rIxL K) (tVar 0) (tC (.int 1))) (tC (.int 1))) (gSub (tVar 0) (tC (.int 1)) rSetL))
 (tSeq (tIfS (tTest (tOp rLtI (tVar 2) (tOp rPowI (tC (.int 10)) (tC (.int 18))))) (tRet (tOp rModN (tCB rIntOf (tCons (tCall (sp__law_mixed K) [] E0 (tCons (tOp rModC (tCB rIntOf (tCons (tVar 2) tNil)) (tC (.int 2147483647))) (tCons (tOp (rIxL K) (tVar 0) (tC (.int 1))) tNil))) tNil)) (tVar 1))) tNext)
 (tAsg (tVar 2) (gSub (tVar 0) (tC (.int 2)) rSetL))))) tNext)
 (tSeq (tIfS (tTest (tOp rGtI (tOp (rIxL K) (tVar 0) (tC (.int 2))) (tC (.int 0)))) (tSeq (tAsg (tOp (rIxL K) (tVar 0) (tC (.int 2))) (gName 3))
 (tSeq (tAsg (tOp rDivZ (tCB rIntOf (tCons (tVar 3) tNil)) (tVar 1)) (gSub (tVar 0) (tC (.int 2)) rSetL))
 (tRet (tOp rModN (tCB rIntOf (tCons (tVar 3) tNil)) (tVar 1))))) tNext)
 (tSeq (tAsg (tOp rModC (tCB rIntOf (tCons (tOp rAddI (tOp (rIxL K) (tVar 0) (tC (.int 3))) (tC (.int 1))) tNil)) (tC (.int 2147483629))) (gSub (tVar 0) (tC (.int 3)) rSetL))
 (tRet (tOp rModN (tCB rIntOf (tCons (tCall (sp__law_mixed K) [] E0 (tCons (tOp (rIxL K) (tVar 0) (tC (.int 3))) (tCons (tOp (rIxL K) (tVar 0) (tC (.int 1))) tNil))) tNil)) (tVar 1))))))

section
variable {K : PySem.W.Frag} {σ : L2.St} {H : Hp} {Q : VK} {a c : Addr} {xs : List V} {v : V} {m : Int}
theorem hand_ix (k : Nat) (h0 : σ[0]? = some (some (.ref a))) (hH : H a = some (.lst xs)) (hv : xs[k]? = some v) (q : Q v H) : tOp (rIxL K) (tVar 0) (tC (.int (k : Int))) σ H Q :=
  ⟨_, h0, a, xs, k, v, rfl, rfl, Evl.sq_of hH, atI_nat hv, q⟩
theorem mixed_call {ta tb : TE} {n k : Int} (n0 : 0 ≤ n) (n1 : n < 2 ^ 31) (k0 : 0 ≤ k) (k1 : k ≤ 1000) (h : ta σ H fun x H1 => tb σ H1 fun y H2 => x = .int n ∧ y = .int k ∧ ∀ r H', 0 ≤ r → Ex H2 H' → Q (.int r) H')
    (ma : ∀ σ H (P P' : VK), (∀ v H', P v H' → P' v H') → ta σ H P → ta σ H P') (mb : ∀ σ H (P P' : VK), (∀ v H', P v H' → P' v H') → tb σ H P → tb σ H P') : tCall (sp__law_mixed K) [] E0 (tCons ta (tCons tb tNil)) σ H Q := by
  refine ma _ _ _ _ (fun x H1 h1 => ?_) h
  refine mb _ _ _ _ (fun y H2 h2 => ?_) h1
  obtain ⟨rfl, rfl, q⟩ := h2
  exact ⟨fun _ => false, [.da (.int n), .da (.int k)], fun b z => (by cases z), .cons (.int n) (.cons (.int k) .nil), rfl, ⟨n, k, rfl, n0, n1, k0, k1⟩, fun s v H' ⟨r, e, h0⟩ ex o => by
    cases e
    cases o
    exact q r H' h0 ex⟩
end
theorem fmod_in {x m : Int} (h : 0 < m) : 0 ≤ x.fmod m ∧ x.fmod m < m := by
  rw [Int.fmod_eq_emod_of_nonneg x (Int.le_of_lt h)]
  exact ⟨Int.emod_nonneg x (by omega), Int.emod_lt_of_pos x h⟩
theorem bd_small {m : Int} (h : 0 < m) (l : m ≤ 1000000000) : CDivZ 0 m := ⟨by omega, Nat.lt_of_lt_of_le (PySem.Flt.log2_lt_of (k := 30) (by decide) (by omega)) (by decide)⟩
def t_take_tail (K : PySem.W.Frag) : TS := tSeq (tIfS (tTest (tOp rGtI (tOp (rIxL K) (tVar 0) (tC (.int 2))) (tC (.int 0)))) (tSeq (tAsg (tOp (rIxL K) (tVar 0) (tC (.int 2))) (gName 3))
 (tSeq (tAsg (tOp rDivZ (tCB rIntOf (tCons (tVar 3) tNil)) (tVar 1)) (gSub (tVar 0) (tC (.int 2)) rSetL))
 (tRet (tOp rModN (tCB rIntOf (tCons (tVar 3) tNil)) (tVar 1))))) tNext)
 (tSeq (tAsg (tOp rModC (tCB rIntOf (tCons (tOp rAddI (tOp (rIxL K) (tVar 0) (tC (.int 3))) (tC (.int 1))) tNil)) (tC (.int 2147483629))) (gSub (tVar 0) (tC (.int 3)) rSetL))
 (tRet (tOp rModN (tCB rIntOf (tCons (tCall (sp__law_mixed K) [] E0 (tCons (tOp (rIxL K) (tVar 0) (tC (.int 3))) (tCons (tOp (rIxL K) (tVar 0) (tC (.int 1))) tNil))) tNil)) (tVar 1))))
theorem sem__law_take {K : PySem.W.Frag} (E0' : XK) (vs : List V) (H : Hp) (Q : VK) (E : XK) (hs : sp__law_take K vs H Q E) : t__law_take K E0' { nx := fun _ H' => Q .non H', rt := Q } (L2.start ["_law_hand_here", "_law_many", "_law_cell", "_law_rest"] vs) H := by
  obtain ⟨O, ss, a, c, us, rfl, ha, hc, tr, hS, hl, ⟨m, rfl, m0, m1⟩, ⟨cells, i, z, t, hA, hC, il, cl, c0, z0, t0, t1⟩, q⟩ := hs
  obtain ⟨v, rfl, o⟩ := sl1 hS
  cases o
  have fin : ∀ r H', 0 ≤ r → r < m → HandAt a c H' → ExBut a H H' → Q (.int r) H' := fun r H' r0 r1 hh e => q (.da (.int r)) _ H' ⟨m, r, rfl, rfl, r0, r1⟩ hh e (.int r)
  have nac : c ≠ a := fun e => by
    rw [e, hA] at hC
    have := Option.some.inj hC
    injection this with this
    match cells, this with
    | [], h => cases h
    | x :: r, h => cases h
  have m63 : (i : Int) ≤ 63 := by omega
  -- the digits of a great cell
  have big : ∀ (H1 : Hp) (y : Int) (j : Nat) (w1 w2 : Option V), ExBut a H H1 → H1 a = some (.lst [.ref c, .int (j : Int), .int y, .int t]) → H1 c = some (.lst (cells.map V.int)) → j ≤ cells.length → 0 < y →
      t_take_tail K { nx := fun _ H' => Q .non H', rt := Q } [some (.ref a), some (.int m), w1, w2] H1 := by
    intro H1 y j w1 w2 e hA1 hC1 jl y0
    unfold t_take_tail
    refine hand_ix 2 rfl hA1 rfl ⟨_, _, rfl, rfl, _, rfl, ?_⟩
    rw [decide_eq_true y0]
    refine iteT (hand_ix 2 rfl hA1 rfl ?_)
    refine ⟨_, rfl, .inl ⟨y, rfl, _, rfl, y, m, rfl, rfl, (bd_small m0 m1), ?_⟩⟩
    refine ⟨_, rfl, a, _, 2, 2, rfl, rfl, hA1, rfl, ?_⟩
    refine ⟨_, rfl, .inl ⟨y, rfl, _, rfl, y, m, rfl, rfl, (by omega), ?_⟩⟩
    refine fin _ _ (fmod_in m0).1 (fmod_in m0).2 ⟨cells, j, y.fdiv m, t, upd_same, by rw [upd_ne nac]; exact hC1, jl, cl, c0, ?_, t0, t1⟩ (e.trans .upd)
    rw [Int.fdiv_eq_ediv_of_nonneg y (by omega)]
    exact Int.ediv_nonneg (by omega) (by omega)
  show tSeq _ _ _ [some (.ref a), some (.int m), none, none] H
  by_cases hz : z = 0
  · by_cases hi : i < cells.length
    · -- a cell
      have hcell : (cells.map V.int)[i]? = some (.int cells[i]) := by rw [List.getElem?_map, List.getElem?_eq_getElem hi]; rfl
      have cell0 : 0 ≤ cells[i] := c0 _ (List.getElem_mem hi)
      refine hand_ix 2 rfl hA rfl ⟨rfl, _, rfl, ?_⟩
      rw [hz, decide_eq_true rfl]
      refine iteT (hand_ix 1 rfl hA rfl (hand_ix 0 rfl hA rfl ⟨_, _, rfl, .inl ⟨_, Evl.sq_of hC, rfl⟩, ?_⟩))
      refine ⟨_, _, rfl, rfl, _, rfl, ?_⟩
      rw [List.length_map, decide_eq_true (show (i : Int) < ((cells.length : Nat) : Int) by omega)]
      refine iteT (hand_ix 0 rfl hA rfl (hand_ix 1 rfl hA rfl ⟨c, _, i, _, rfl, rfl, Evl.sq_of hC, atI_nat hcell, ?_⟩))
      -- hand[1] = hand[1] + 1
      refine hand_ix 1 rfl hA rfl ⟨_, _, rfl, rfl, _, rfl, a, _, 1, 1, rfl, rfl, hA, rfl, ?_⟩
      have hA1 : upd H a (.lst ([.ref c, .int (i : Int), .int z, .int t].set 1 (.int ((i : Int) + 1)))) a = some (.lst [.ref c, .int ((i + 1 : Nat) : Int), .int 0, .int t]) := by rw [upd_same, hz]; rfl
      have hC1 : upd H a (.lst ([.ref c, .int (i : Int), .int z, .int t].set 1 (.int ((i : Int) + 1)))) c = some (.lst (cells.map V.int)) := by rw [upd_ne nac]; exact hC
      refine ⟨_, rfl, 10, 18, rfl, rfl, ⟨by decide, by decide, by decide⟩, _, _, rfl, rfl, _, rfl, ?_⟩
      by_cases small : cells[i] < 10 ^ (18 : Int).toNat
      · rw [decide_eq_true small]
        refine iteT (mixed_call (n := cells[i] % 2147483647) (k := ((i + 1 : Nat) : Int)) (by omega) (by omega) (by omega) (by omega) ?_ ?_ ?_)
        · refine ⟨_, rfl, .inl ⟨_, rfl, _, _, rfl, rfl, (by show (0 : Int) < 2147483647; decide), hand_ix 1 rfl hA1 rfl ⟨rfl, rfl, fun r H' r0 e => ?_⟩⟩⟩
          refine .inl ⟨r, rfl, _, rfl, r, m, rfl, rfl, (by omega), ?_⟩
          refine fin _ _ (fmod_in m0).1 (fmod_in m0).2 ⟨cells, i + 1, 0, t, e _ _ hA1, e _ _ hC1, by omega, cl, c0, by omega, t0, t1⟩ (ExBut.trans .upd (.of e))
        · rintro σ' H' P P' k ⟨v, h1, h2⟩
          refine ⟨v, h1, ?_⟩
          rcases h2 with ⟨j, e1, i', j', e2, e3, e4, e5⟩ | ⟨k', e1, i', j', e2, e3, e4, e5⟩
          · exact .inl ⟨j, e1, i', j', e2, e3, e4, k _ _ e5⟩
          · exact .inr ⟨k', e1, i', j', e2, e3, e4, k _ _ e5⟩
        · rintro σ' H' P P' k ⟨v, h1, p, xs, i', v', e1, e2, e3, e4, e5⟩
          exact ⟨v, h1, p, xs, i', v', e1, e2, e3, e4, k _ _ e5⟩
      · rw [decide_eq_false small]
        refine iteF ⟨_, rfl, _, rfl, a, _, 2, 2, rfl, rfl, hA1, rfl, ?_⟩
        have p18 : (10 : Int) ^ (18 : Int).toNat = 1000000000000000000 := by decide
        refine big _ (cells[i]) (i + 1) _ _ (ExBut.trans .upd .upd) upd_same ?_ (by omega) (by omega)
        rw [upd_ne nac]
        exact hC1
    · -- behind the script
      refine hand_ix 2 rfl hA rfl ⟨rfl, _, rfl, ?_⟩
      rw [hz, decide_eq_true rfl]
      refine iteT (hand_ix 1 rfl hA rfl (hand_ix 0 rfl hA rfl ⟨_, _, rfl, .inl ⟨_, Evl.sq_of hC, rfl⟩, ?_⟩))
      refine ⟨_, _, rfl, rfl, _, rfl, ?_⟩
      rw [List.length_map, decide_eq_false (show ¬ (i : Int) < ((cells.length : Nat) : Int) by omega)]
      refine iteF ?_
      refine hand_ix 2 rfl hA rfl ⟨_, _, rfl, rfl, _, rfl, ?_⟩
      rw [hz, decide_eq_false (by decide)]
      refine iteF ?_
      refine hand_ix 3 rfl hA rfl ⟨_, _, rfl, rfl, .inl ⟨_, rfl, _, _, rfl, rfl, (by show (0 : Int) < 2147483629; decide), ?_⟩⟩
      refine ⟨_, rfl, a, _, 3, 3, rfl, rfl, hA, rfl, ?_⟩
      have hA1 : upd H a (.lst ([.ref c, .int (i : Int), .int z, .int t].set 3 (.int ((t + 1) % 2147483629)))) a = some (.lst [.ref c, .int (i : Int), .int 0, .int ((t + 1) % 2147483629)]) := by rw [upd_same, hz]; rfl
      have hC1 : upd H a (.lst ([.ref c, .int (i : Int), .int z, .int t].set 3 (.int ((t + 1) % 2147483629)))) c = some (.lst (cells.map V.int)) := by rw [upd_ne nac]; exact hC
      refine mixed_call (n := (t + 1) % 2147483629) (k := (i : Int)) (by omega) (by omega) (by omega) (by omega) (hand_ix 3 rfl hA1 rfl (hand_ix 1 rfl hA1 rfl ⟨rfl, rfl, fun r H' r0 e => ?_⟩)) ?_ ?_
      · refine .inl ⟨r, rfl, _, rfl, r, m, rfl, rfl, (by omega), ?_⟩
        refine fin _ _ (fmod_in m0).1 (fmod_in m0).2 ⟨cells, i, 0, (t + 1) % 2147483629, e _ _ hA1, e _ _ hC1, il, cl, c0, by omega, by omega, by omega⟩ (ExBut.trans .upd (.of e))
      all_goals
        rintro σ' H' P P' k ⟨v, h1, p, xs, i', v', e1, e2, e3, e4, e5⟩
        exact ⟨v, h1, p, xs, i', v', e1, e2, e3, e4, k _ _ e5⟩
  · refine hand_ix 2 rfl hA rfl ⟨rfl, _, rfl, ?_⟩
    rw [decide_eq_false (show ¬ V.int z = V.int 0 from fun e => hz (V.int.inj e))]
    refine iteF (big H z i none none (.refl a H) hA hC il (by omega))
section
variable {K : PySem.W.Frag} {O : Addr → Bool} {J : Hp → Prop} {a c : Addr} {E : XK}
theorem u_take (hj : HandJ O J a c) {m : Int} (h0 : 0 < m) (h1 : m ≤ 1000000000) : SpS K O J (sp__law_take K) E [.va (.ref a), .da (.int m)] (fun s => ∃ r, s = .da (.int r) ∧ 0 ≤ r ∧ r < m) :=
  spH_us hj rfl ⟨m, rfl, h0, h1⟩ fun s ⟨m', r, e, h⟩ => by
    cases e
    exact ⟨r, h⟩
end
end LL


set_option Elab.async false
set_option linter.all false
set_option maxRecDepth 100000
set_option maxHeartbeats 4000000
namespace LL
open PySem PySem.Spec PyProof.Rows L2
open Evl (Ex)
/-! ### the law's own sums -/
def sp__law_gcd (K : PySem.W.Frag) : Sp := spG K 2 (fun ss => ∃ a b, ss = [.da (.int a), .da (.int b)]) (fun ss s => ∃ a b, ss = [.da (.int a), .da (.int b)] ∧ s = .da (.int ((Nat.gcd a.natAbs b.natAbs : Nat) : Int)))
def t__law_gcd (K : PySem.W.Frag) (E : XK) : TS := (tSeq (tPar 0 1 (tCons (tCB rAbs (tCons (tVar 0) tNil)) (tCons (tCB rAbs (tCons (tVar 1) tNil)) tNil)))
 (tSeq (tWhile (tTru K (tVar 1)) (tPar 0 1 (tCons (tVar 1) (tCons (tOp rModN (tCB rIntOf (tCons (tVar 0) tNil)) (tVar 1)) tNil))))
 (tRet (tVar 0))))

theorem abs_if (i : Int) : (if i < 0 then -i else i) = ((i.natAbs : Nat) : Int) := by split <;> omega
theorem sem__law_gcd {K : PySem.W.Frag} (E : XK) (O : Addr → Bool) (H : Hp) (ss : List Sl) (hl : ss.length = 2) (hp : ∃ a b, ss = [.da (.int a), .da (.int b)]) :
    Ok K O (fun H' => Ex H H') (ss ++ List.replicate 0 .un) (t__law_gcd K E) { rt := fun s => ∃ a b, ss = [.da (.int a), .da (.int b)] ∧ s = .da (.int ((Nat.gcd a.natAbs b.natAbs : Nat) : Int)), nx := fun _ => False } := by
  obtain ⟨a, b, rfl⟩ := hp
  refine q_par (a_cons (e_cb (a_cons (e_d rfl) a_nil) c_abs) (a_cons (e_cb (a_cons (e_d rfl) a_nil) c_abs) a_nil)) fun ss e => ⟨_, _, e, ?_⟩
  rw [abs_if, abs_if]
  refine ok_seq (M := fun Γ' => ∃ y, Γ' = [.da (.int ((Nat.gcd a.natAbs b.natAbs : Nat) : Int)), y]) (ok_while (fun m Γ' => ∃ x : Nat, Γ' = [.da (.int (x : Int)), .da (.int (m : Int))] ∧ Nat.gcd x m = Nat.gcd a.natAbs b.natAbs) b.natAbs ⟨a.natAbs, rfl, rfl⟩ fun m Γ' ⟨x, e, hg⟩ => ?_) fun Γ' ⟨y, e⟩ => ?_
  · subst e
    refine ⟨_, t_truth (e_d rfl) True.intro, fun h => ?_, fun h => ?_⟩
    · have hm : m ≠ 0 := fun z => by rw [z] at h; cases h
      refine ok_par (a_cons (e_d rfl) (a_cons (e_modN (e_intOf (e_d rfl)) (e_d rfl) (by omega)) a_nil)) fun ss e => ⟨_, _, e, x % m, Nat.mod_lt _ (by omega), m, ?_, ?_⟩
      · have e1 : ((x : Nat) : Int).fmod ((m : Nat) : Int) = ((x % m : Nat) : Int) := by
          rw [Int.fmod_eq_emod_of_nonneg _ (by omega)]
          rfl
        rw [e1]
        rfl
      · rw [← hg, Nat.gcd_comm m, ← Nat.gcd_rec, Nat.gcd_comm]
    · have hm : m = 0 := by
        have h' : (((m : Nat) : Int) != 0) = false := h
        have := bne_eq_false_iff_eq.mp h'
        omega
      refine ⟨.da (.int 0), ?_⟩
      subst hm
      rw [Nat.gcd_zero_right] at hg
      rw [hg]
      rfl
  · subst e
    exact ok_retS (e_d rfl) ⟨a, b, rfl, rfl⟩
section
variable {K : PySem.W.Frag} {O : Addr → Bool} {J : Hp → Prop} {E : XK}
theorem u_lgcd (G : Gr J) (a b : Int) : SpS K O J (sp__law_gcd K) E [.da (.int a), .da (.int b)] (fun x => x = .da (.int ((Nat.gcd a.natAbs b.natAbs : Nat) : Int))) :=
  spG_us G rfl ⟨a, b, rfl⟩ fun s ⟨_, _, e, h⟩ => by cases e; exact h
end
def sp__law_ratio (K : PySem.W.Frag) : Sp := spG K 2 (fun ss => ∃ a c, ss = [.da (.int a), .da (.int c)] ∧ c ≠ 0 ∧ Bd 8000 c) (fun ss s => ∃ a c, ss = [.da (.int a), .da (.int c)] ∧ s = .da (rt (mkR a c)))
def t__law_ratio (K : PySem.W.Frag) (E : XK) : TS := (tSeq (tAsg (tCall (sp__law_gcd K) [] E0 (tCons (tVar 0) (tCons (tVar 1) tNil))) (gName 2))
 (tSeq (tIfS (tTest (tOp rLtI (tVar 1) (tC (.int 0)))) (tAsg (tUn rNegI (tVar 2)) (gName 2)) tNext)
 (tRet (tTup (tCons (tOp rDivZ (tVar 0) (tVar 2)) (tCons (tOp rDivZ (tVar 1) (tVar 2)) tNil))))))

theorem sem__law_ratio {K : PySem.W.Frag} (E : XK) (O : Addr → Bool) (H : Hp) (ss : List Sl) (hl : ss.length = 2) (hp : ∃ a c, ss = [.da (.int a), .da (.int c)] ∧ c ≠ 0 ∧ Bd 8000 c) :
    Ok K O (fun H' => Ex H H') (ss ++ List.replicate 1 .un) (t__law_ratio K E) { rt := fun s => ∃ a c, ss = [.da (.int a), .da (.int c)] ∧ s = .da (rt (mkR a c)), nx := fun _ => False } := by
  obtain ⟨a, c, rfl, hc, hcb⟩ := hp
  have G := gr_ex H
  refine q_setS (e_call (a_cons (e_d rfl) (a_cons (e_d rfl) a_nil)) (u_lgcd G a c)) ?_
  have fin : ∀ g, g = sg a c → Ok K O (fun H' => Ex H H') [.da (.int a), .da (.int c), .da (.int g)] (tRet (tTup (tCons (tOp rDivZ (tVar 0) (tVar 2)) (tCons (tOp rDivZ (tVar 1) (tVar 2)) tNil)))) { rt := fun s => ∃ a' c', [Sl.da (.int a), .da (.int c)] = [.da (.int a'), .da (.int c')] ∧ s = .da (rt (mkR a' c')), nx := fun _ => False } := fun g eg => by
    have hz : CDivZ a g := by rw [eg]; exact (sg_bd hc hcb).cdiv (sg_ne hc) (by omega)
    have hz' : CDivZ c g := hz
    refine ok_retS (e_tup G (ds := [.int (a.fdiv g), .int (c.fdiv g)]) (a_cons (e_divZ (e_d rfl) (e_d rfl) hz) (a_cons (e_divZ (e_d rfl) (e_d rfl) hz') a_nil))) ⟨a, c, rfl, ?_⟩
    rw [eg]
    rfl
  by_cases hn : c < 0
  · refine q_when (a := true) (t_is (t_val (e_lt (e_d rfl) e_int)) (decide_eq_true hn)) (fun _ => ?_) fun z => nomatch z
    exact q_setS (e_neg (e_d rfl)) (fin _ (by unfold sg; rw [if_pos hn]))
  · refine q_not (t_is (t_val (e_lt (e_d rfl) e_int)) (decide_eq_false hn)) ?_
    exact fin _ (by unfold sg; rw [if_neg hn])
section
variable {K : PySem.W.Frag} {O : Addr → Bool} {J : Hp → Prop} {E : XK}
theorem u_lratio (G : Gr J) {a c : Int} (hc : c ≠ 0) (hb : Bd 8000 c) : SpS K O J (sp__law_ratio K) E [.da (.int a), .da (.int c)] (fun x => x = .da (rt (mkR a c))) :=
  spG_us G rfl ⟨a, c, rfl, hc, hb⟩ fun s ⟨_, _, e, h⟩ => by cases e; exact h
end
def sp__law_plus (K : PySem.W.Frag) : Sp := spG K 2 pre2 (rel2 fun p q => rt (addQ p q))
def sp__law_less (K : PySem.W.Frag) : Sp := spG K 2 pre2 (rel2 fun p q => rt (subQ p q))
def sp__law_times (K : PySem.W.Frag) : Sp := spG K 2 pre2 (rel2 fun p q => rt (mulQ p q))
def belowQ (p q : Int × Int) : Bool := decide (p.1 * q.2 < q.1 * p.2)
def sp__law_below (K : PySem.W.Frag) : Sp := spG K 2 pre2 (rel2 fun p q => .bool (belowQ p q))
def t__law_plus (K : PySem.W.Frag) (E : XK) : TS := (tRet (tCall (sp__law_ratio K) [] E0 (tCons (tOp rAddI (tOp rMulW (tOp (rIxT K) (tVar 0) (tC (.int 0))) (tOp (rIxT K) (tVar 1) (tC (.int 1)))) (tOp rMulW (tOp (rIxT K) (tVar 1) (tC (.int 0))) (tOp (rIxT K) (tVar 0) (tC (.int 1))))) (tCons (tOp rMulW (tOp (rIxT K) (tVar 0) (tC (.int 1))) (tOp (rIxT K) (tVar 1) (tC (.int 1)))) tNil))))
def t__law_times (K : PySem.W.Frag) (E : XK) : TS := (tRet (tCall (sp__law_ratio K) [] E0 (tCons (tOp rMulW (tOp (rIxT K) (tVar 0) (tC (.int 0))) (tOp (rIxT K) (tVar 1) (tC (.int 0)))) (tCons (tOp rMulW (tOp (rIxT K) (tVar 0) (tC (.int 1))) (tOp (rIxT K) (tVar 1) (tC (.int 1)))) tNil))))
def t__law_less (K : PySem.W.Frag) (E : XK) : TS := (tRet (tCall (sp__law_ratio K) [] E0 (tCons (tOp rSubI (tOp rMulW (tOp (rIxT K) (tVar 0) (tC (.int 0))) (tOp (rIxT K) (tVar 1) (tC (.int 1)))) (tOp rMulW (tOp (rIxT K) (tVar 1) (tC (.int 0))) (tOp (rIxT K) (tVar 0) (tC (.int 1))))) (tCons (tOp rMulW (tOp (rIxT K) (tVar 0) (tC (.int 1))) (tOp (rIxT K) (tVar 1) (tC (.int 1)))) tNil))))
def t__law_below (K : PySem.W.Frag) (E : XK) : TS := (tRet (tOp rLtI (tOp rMulW (tOp (rIxT K) (tVar 0) (tC (.int 0))) (tOp (rIxT K) (tVar 1) (tC (.int 1)))) (tOp rMulW (tOp (rIxT K) (tVar 1) (tC (.int 0))) (tOp (rIxT K) (tVar 0) (tC (.int 1))))))

section
variable {K : PySem.W.Frag} {O : Addr → Bool} {J : Hp → Prop}
theorem sem__law_plus (E : XK) (O : Addr → Bool) (H : Hp) (ss : List Sl) (hl : ss.length = 2) (hp : pre2 ss) : Ok K O (fun H' => Ex H H') (ss ++ List.replicate 0 .un) (t__law_plus K E) { rt := rel2 (fun p q => rt (addQ p q)) ss, nx := fun _ => rel2 (fun p q => rt (addQ p q)) ss (.da .none) } := by
  obtain ⟨p, q, rfl, h1, h2⟩ := hp
  refine ok_retS (e_call (a_cons (e_add (e_mulB (e_top (e_d rfl)) (e_bot (e_d rfl)) h1.t h2.b) (e_mulB (e_top (e_d rfl)) (e_bot (e_d rfl)) h2.t h1.b)) (a_cons (e_mulB (e_bot (e_d rfl)) (e_bot (e_d rfl)) h1.b h2.b) a_nil)) (u_lratio (gr_ex H) (h1.zz h2) (h1.b.mul h2.b))) ⟨p, q, rfl, rfl⟩
theorem sem__law_less (E : XK) (O : Addr → Bool) (H : Hp) (ss : List Sl) (hl : ss.length = 2) (hp : pre2 ss) : Ok K O (fun H' => Ex H H') (ss ++ List.replicate 0 .un) (t__law_less K E) { rt := rel2 (fun p q => rt (subQ p q)) ss, nx := fun _ => rel2 (fun p q => rt (subQ p q)) ss (.da .none) } := by
  obtain ⟨p, q, rfl, h1, h2⟩ := hp
  refine ok_retS (e_call (a_cons (e_sub (e_mulB (e_top (e_d rfl)) (e_bot (e_d rfl)) h1.t h2.b) (e_mulB (e_top (e_d rfl)) (e_bot (e_d rfl)) h2.t h1.b)) (a_cons (e_mulB (e_bot (e_d rfl)) (e_bot (e_d rfl)) h1.b h2.b) a_nil)) (u_lratio (gr_ex H) (h1.zz h2) (h1.b.mul h2.b))) ⟨p, q, rfl, rfl⟩
theorem sem__law_times (E : XK) (O : Addr → Bool) (H : Hp) (ss : List Sl) (hl : ss.length = 2) (hp : pre2 ss) : Ok K O (fun H' => Ex H H') (ss ++ List.replicate 0 .un) (t__law_times K E) { rt := rel2 (fun p q => rt (mulQ p q)) ss, nx := fun _ => rel2 (fun p q => rt (mulQ p q)) ss (.da .none) } := by
  obtain ⟨p, q, rfl, h1, h2⟩ := hp
  refine ok_retS (e_call (a_cons (e_mulB (e_top (e_d rfl)) (e_top (e_d rfl)) h1.t h2.t) (a_cons (e_mulB (e_bot (e_d rfl)) (e_bot (e_d rfl)) h1.b h2.b) a_nil)) (u_lratio (gr_ex H) (h1.zz h2) (h1.b.mul h2.b))) ⟨p, q, rfl, rfl⟩
theorem sem__law_below (E : XK) (O : Addr → Bool) (H : Hp) (ss : List Sl) (hl : ss.length = 2) (hp : pre2 ss) : Ok K O (fun H' => Ex H H') (ss ++ List.replicate 0 .un) (t__law_below K E) { rt := rel2 (fun p q => .bool (belowQ p q)) ss, nx := fun _ => rel2 (fun p q => .bool (belowQ p q)) ss (.da .none) } := by
  obtain ⟨p, q, rfl, h1, h2⟩ := hp
  exact ok_retS (e_lt (e_mulB (e_top (e_d rfl)) (e_bot (e_d rfl)) h1.t h2.b) (e_mulB (e_top (e_d rfl)) (e_bot (e_d rfl)) h2.t h1.b)) ⟨p, q, rfl, rfl⟩
end
/-! ### _law_same of two couples of ints -/
def sameQ (p q : Int × Int) : Bool := decide (p.1 = q.1) && decide (p.2 = q.2)
def pairs2 (ss : List Sl) : Prop := ∃ p q, ss = [.da (rt p), .da (rt q)]
def sp__law_same (K : PySem.W.Frag) : Sp := spG K 2 pairs2 (rel2 fun p q => .bool (sameQ p q))
def t__law_same (K : PySem.W.Frag) (E : XK) : TS := (tSeq (tIfS (tOr (tNot (tTru K (tCB (rIsi K) (tCons (tVar 0) (tCons (tC (.ty "tuple")) tNil))))) (tTest (tOp rNe (tCB (rLen K) (tCons (tVar 0) tNil)) (tC (.int 2))))) (tRet (tC (.bl false))) tNext)
 (tSeq (tFor (iTup K (tVar 0)) (gName 2) (tIfS (tOr (tNot (tTru K (tCB (rIsi K) (tCons (tVar 2) (tCons (tC (.ty "int")) tNil))))) (tTru K (tCB (rIsi K) (tCons (tVar 2) (tCons (tC (.ty "bool")) tNil))))) (tRet (tC (.bl false))) tNext))
 (tRet (tAndV (tOp rEq (tOp (rIxT K) (tVar 0) (tC (.int 0))) (tOp (rIxT K) (tVar 1) (tC (.int 0)))) (tOp rEq (tOp (rIxT K) (tVar 0) (tC (.int 1))) (tOp (rIxT K) (tVar 1) (tC (.int 1))))))))

theorem rt_inj {p q : Int × Int} (h : rt p = rt q) : p = q := by
  unfold rt at h
  simp only [PyData.tuple.injEq, List.cons.injEq, PyData.int.injEq, and_true] at h
  exact Prod.ext h.1 h.2
theorem rt2 {p q p' q' : Int × Int} (e : [Sl.da (rt p), .da (rt q)] = [.da (rt p'), .da (rt q')]) : p = p' ∧ q = q' := by
  simp only [List.cons.injEq, Sl.da.injEq, and_true] at e
  exact ⟨rt_inj e.1, rt_inj e.2⟩
theorem sem__law_same {K : PySem.W.Frag} (E : XK) (O : Addr → Bool) (H : Hp) (ss : List Sl) (hl : ss.length = 2) (hp : pairs2 ss) :
    Ok K O (fun H' => Ex H H') (ss ++ List.replicate 1 .un) (t__law_same K E) { rt := rel2 (fun p q => .bool (sameQ p q)) ss, nx := fun _ => rel2 (fun p q => .bool (sameQ p q)) ss (.da .none) } := by
  obtain ⟨p, q, rfl⟩ := hp
  refine q_not (t_or (t_is (t_not (t_truth (e_cb (a_cons (e_d rfl) (a_cons e_va a_nil)) (c_isi (by decide))) True.intro)) (b := false) (by show (!isiD (rt p) "tuple") = false; rw [show rt p = .tuple _ from rfl, isi_tup_tuple]; rfl)) (fun _ => t_is (t_val (e_neI (e_cb (a_cons (e_d rfl) a_nil) c_lenT) e_int)) (by rfl)) fun z => nomatch z) ?_
  refine ok_seq (M := fun Γ' => ∃ s, Γ' = [.da (rt p), .da (rt q), s]) (ok_forT (ds := [.int p.1, .int p.2]) (e_d rfl) (fun _ Γ' => ∃ s, Γ' = [.da (rt p), .da (rt q), s]) ⟨_, rfl⟩ (fun i d Γ' hi ⟨s, e⟩ => ?_) fun Γ' h => h) fun Γ' ⟨s, e⟩ => ?_
  · subst e
    obtain ⟨n, rfl⟩ : ∃ n, d = .int n := by
      match i, hi with
      | 0, h => exact ⟨p.1, (Option.some.inj h).symm⟩
      | 1, h => exact ⟨p.2, (Option.some.inj h).symm⟩
    refine ok_if (a := false) (t_or (t_is (t_not (t_truth (e_cb (a_cons (e_d rfl) (a_cons e_va a_nil)) (c_isi (by decide))) True.intro)) (b := false) (by show (!isiD (.int n) "int") = false; rw [isi_int_int]; rfl)) (fun _ => t_is (t_truth (e_cb (a_cons (e_d rfl) (a_cons e_va a_nil)) (c_isi (by decide))) True.intro) (isi_int_bool n)) fun z => nomatch z) (fun z => nomatch z) fun _ => ok_next ⟨_, rfl⟩
  · subst e
    refine ok_retS (s := .da (.bool (sameQ p q))) ?_ ⟨p, q, rfl, rfl⟩
    refine e_andV (e_eqI (e_top (e_d rfl)) (e_top (e_d rfl))) (fun h => e_is (e_eqI (e_bot (e_d rfl)) (e_bot (e_d rfl))) ?_) fun h => ?_
    · unfold sameQ
      rw [h, Bool.true_and]
    · unfold sameQ
      rw [h, Bool.false_and]
theorem sameQ_refl (p : Int × Int) : sameQ p p = true := by unfold sameQ; simp
section
variable {K : PySem.W.Frag} {O : Addr → Bool} {J : Hp → Prop} {E : XK}
theorem u_same (G : Gr J) (p q : Int × Int) : SpS K O J (sp__law_same K) E [.da (rt p), .da (rt q)] (fun x => x = .da (.bool (sameQ p q))) :=
  spG_us G rfl ⟨p, q, rfl⟩ fun s ⟨p', q', e, h⟩ => by
    obtain ⟨rfl, rfl⟩ := rt2 e
    exact h
end
/-! ### numbers and ratios drawn -/
def sp__law_number (K : PySem.W.Frag) : Sp := spH K 0 (fun ss => ss = []) (fun _ s => ∃ n, s = .da (.int n) ∧ Bd 110 n)
def t__law_number (K : PySem.W.Frag) (E : XK) : TS := (tSeq (tIfS (tTru K (tCall (sp__law_take K) [] E0 (tCons (tVar 0) (tCons (tC (.int 3)) tNil)))) (tRet (tOp rSubI (tCall (sp__law_take K) [] E0 (tCons (tVar 0) (tCons (tC (.int 40)) tNil))) (tC (.int 20)))) tNext)
 (tSeq (tAsg (tC (.int 0)) (gName 1))
 (tSeq (tFor (iRng1 (tCons (tOp rAddI (tC (.int 1)) (tCall (sp__law_take K) [] E0 (tCons (tVar 0) (tCons (tC (.int 4)) tNil)))) tNil)) (gName 2) (tAsg (tOp rAddI (tOp rMulW (tVar 1) (tOp rPowI (tC (.int 10)) (tC (.int 8)))) (tCall (sp__law_take K) [] E0 (tCons (tVar 0) (tCons (tOp rPowI (tC (.int 10)) (tC (.int 8))) tNil)))) (gName 1)))
 (tRet (tIf (tTru K (tCall (sp__law_take K) [] E0 (tCons (tVar 0) (tCons (tC (.int 2)) tNil)))) (tVar 1) (tUn rNegI (tVar 1)))))))

theorem pow4 : ∀ i : Nat, i ≤ 4 → (100000000 : Int) ^ i ≤ 100000000 ^ 4 := by
  intro i h
  have : i = 0 ∨ i = 1 ∨ i = 2 ∨ i = 3 ∨ i = 4 := by omega
  rcases this with rfl | rfl | rfl | rfl | rfl <;> decide
theorem pw8 : (10 : Int) ^ (8 : Int).toNat = 100000000 := by decide
theorem cpow {i j : Int} (h : 0 ≤ j ∧ j ≤ 1000) (k : i.natAbs < 2 ^ 64) : CPow i j := ⟨h.1, by omega, k⟩
theorem t_tru_int {K : PySem.W.Frag} {O : Addr → Bool} {J : Hp → Prop} {Γ : List Sl} {te : TE} {P : Int → Prop} (h : EP K O J Γ te (fun s => ∃ r, s = .da (.int r) ∧ P r)) :
    ∀ (σ : L2.St) (H1 : Hp), J H1 → En K O σ Γ H1 → ∀ Q : Bool → Hp → Prop, (∀ r H2, P r → J H2 → Step O H1 H2 → Q (r != 0) H2) → tTru K te σ H1 Q := fun σ H1 hJ hE Q q =>
  h σ H1 hJ hE _ fun s v H2 ⟨r, e, p⟩ hJ2 st o => by
    cases e
    cases o
    exact ⟨r != 0, rfl, q r H2 p hJ2 st⟩
/-- an if by a drawn number: both ways -/
theorem q_ifD {K : PySem.W.Frag} {O : Addr → Bool} {J : Hp → Prop} {Γ : List Sl} {te : TE} {t u w : TS} {p : Po} {P : Int → Prop} (h : EP K O J Γ te (fun s => ∃ r, s = .da (.int r) ∧ P r)) (h1 : Ok K O J Γ (tSeq t w) p) (h2 : Ok K O J Γ (tSeq u w) p) : Ok K O J Γ (tSeq (tIfS (tTru K te) t u) w) p := fun D σ H1 hJ hE g =>
  t_tru_int h σ H1 hJ hE _ fun r H2 pr hJ2 st => by
    by_cases z : (r != 0) = true
    · rw [z]
      exact iteT (h1 D σ H2 hJ2 (hE.step st) (g.step st))
    · rw [Bool.not_eq_true] at z
      rw [z]
      exact iteF (h2 D σ H2 hJ2 (hE.step st) (g.step st))
theorem e_ifD {K : PySem.W.Frag} {O : Addr → Bool} {J : Hp → Prop} {Γ : List Sl} {te ta tb : TE} {P : Int → Prop} {R : Sl → Prop} (h : EP K O J Γ te (fun s => ∃ r, s = .da (.int r) ∧ P r)) (h1 : EP K O J Γ ta R) (h2 : EP K O J Γ tb R) : EP K O J Γ (tIf (tTru K te) ta tb) R := fun σ H1 hJ hE Q q =>
  t_tru_int h σ H1 hJ hE _ fun r H2 pr hJ2 st => by
    by_cases z : (r != 0) = true
    · rw [z]
      exact iteT (h1 σ H2 hJ2 (hE.step st) Q fun s v H3 p j st2 o => q s v H3 p j (st.trans st2) o)
    · rw [Bool.not_eq_true] at z
      rw [z]
      exact iteF (h2 σ H2 hJ2 (hE.step st) Q fun s v H3 p j st2 o => q s v H3 p j (st.trans st2) o)
section
variable {K : PySem.W.Frag} {O : Addr → Bool} {J : Hp → Prop} {Γ : List Sl} {ta tb : TE} {a c : Addr}
/-- sums of what is drawn -/
theorem e_opP {g : Int → Int → Int} {P1 P2 P : Int → Prop} (h1 : EP K O J Γ ta (fun s => ∃ r, s = .da (.int r) ∧ P1 r)) (h2 : EP K O J Γ tb (fun s => ∃ r, s = .da (.int r) ∧ P2 r)) (k : ∀ x y, P1 x → P2 y → P (g x y)) : EP K O J Γ (tOp (rI0 fun i j => .int (g i j)) ta tb) (fun s => ∃ r, s = .da (.int r) ∧ P r) :=
  e_op h1 h2 fun s1 s2 x y H1 ⟨r1, e1, p1⟩ ⟨r2, e2, p2⟩ hJ tr o1 o2 Q q => by
    cases e1; cases e2; cases o1; cases o2
    exact ⟨r1, r2, rfl, rfl, q _ _ H1 ⟨_, rfl, k _ _ p1 p2⟩ hJ .refl (.int _)⟩
theorem toP {te : TE} {i : Int} (h : ED K O J Γ te (.int i)) : EP K O J Γ te (fun s => ∃ r, s = .da (.int r) ∧ r = i) := h.to ⟨i, rfl, rfl⟩
theorem d_take (hj : HandJ O J a c) (h0 : Γ[0]? = some (.va (.ref a))) (m : Int) (m0 : 0 < m) (m1 : m ≤ 1000000000) {te : TE} (hm : ED K O J Γ te (.int m)) : EP K O J Γ (tCall (sp__law_take K) [] E0 (tCons (tVar 0) (tCons te tNil))) (fun s => ∃ r, s = .da (.int r) ∧ (0 ≤ r ∧ r < m)) :=
  e_call (a_cons (e_v h0) (a_cons hm a_nil)) (u_take hj m0 m1)
end
theorem sem__law_number {K : PySem.W.Frag} (E : XK) (O : Addr → Bool) (J : Hp → Prop) (a c : Addr) (ss : List Sl) (hl : ss.length = 0) (hp : ss = []) (hj : HandJ O J a c) :
    Ok K O J (.va (.ref a) :: ss ++ List.replicate 2 .un) (t__law_number K E) { rt := fun s => ∃ n, s = .da (.int n) ∧ Bd 110 n, nx := fun _ => False } := by
  subst hp
  refine q_ifD (d_take hj rfl 3 (by decide) (by decide) e_int) ?_ (q_next ?_)
  · refine q_ret ((e_opP (P := fun r => Bd 110 r) (d_take hj rfl 40 (by decide) (by decide) e_int) (toP e_int) fun x y h e => ?_))
    subst e
    show (x - 20).natAbs < 2 ^ 110
    omega
  refine q_setS e_int ?_
  refine ok_seq (M := fun Γ' => ∃ n s, Γ' = [.va (.ref a), .da (.int n), s] ∧ 0 ≤ n ∧ n < 100000000 ^ 4) ?_ fun Γ' ⟨n, s, e, n0, n1⟩ => ?_
  · -- the loop: its number of turns is drawn
    intro D σ H1 hJ hE g
    refine e_opP (P := fun r => 1 ≤ r ∧ r ≤ 4) (toP e_int) (d_take hj rfl 4 (by decide) (by decide) e_int) (fun x y e h => (by subst e; omega)) σ H1 hJ hE _ fun s v H2 ⟨n, e, n1, n4⟩ hJ2 st o => ?_
    subst e
    cases o
    have key := ok_forR (K := K) (O := O) (J := J) (Γ := [.va (.ref a), .da (.int 0), .un]) (j := 2) (ta := fun _ H Q => Q [.int n] H) (n := n) (p := { rt := fun s => ∃ n, s = .da (.int n) ∧ Bd 110 n, nx := fun Γ' => ∃ n s, Γ' = [.va (.ref a), .da (.int n), s] ∧ 0 ≤ n ∧ n < 100000000 ^ 4 })
      (t := tAsg (tOp rAddI (tOp rMulW (tVar 1) (tOp rPowI (tC (.int 10)) (tC (.int 8)))) (tCall (sp__law_take K) [] E0 (tCons (tVar 0) (tCons (tOp rPowI (tC (.int 10)) (tC (.int 8))) tNil)))) (gName 1))
      (fun σ' H' j' e' Q' q' => q' _ _ H' rfl j' .refl (.cons (.int n) .nil)) (by omega) (by omega) (fun i Γ' => ∃ z s, Γ' = [.va (.ref a), .da (.int z), s] ∧ 0 ≤ z ∧ z < 100000000 ^ i) ⟨0, .un, rfl, by decide, by decide⟩ ?_ ?_
    · exact key D σ H2 hJ2 (hE.step st) (g.step st)
    · rintro i Γ' hi ⟨z, s, rfl, z0, z1⟩
      have hz : z < 100000000 ^ 4 := Int.lt_of_lt_of_le z1 (pow4 _ (by omega))
      have p1 : (ED K O J ([Sl.va (.ref a), .da (.int z), s].set 2 (.da (.int (i : Int)))) (tOp rPowI (tC (.int 10)) (tC (.int 8))) (.int 100000000)) := e_is (e_pow e_int e_int (cpow ⟨by decide, by decide⟩ (by decide))) (by rw [pw8])
      have p2 := e_mulW (K := K) (O := O) (J := J) (ta := tVar 1) (i := z) (e_d (Γ := [Sl.va (.ref a), .da (.int z), s].set 2 (.da (.int (i : Int)))) rfl) p1 (wide_mul (a := 110) (b := 30) (by omega) (by decide) (by decide) (by decide) (by decide))
      refine ok_set (e_opP (P := fun r => 0 ≤ r ∧ r < 100000000 ^ (i + 1)) (toP p2) (d_take hj rfl 100000000 (by decide) (by decide) p1) fun x y e h => ?_) fun s' ⟨r, e, r0, r1⟩ => ?_
      · subst e
        have : (100000000 : Int) ^ (i + 1) = 100000000 ^ i * 100000000 := Int.pow_succ ..
        omega
      · subst e
        exact ⟨r, _, rfl, r0, r1⟩
    · rintro Γ' ⟨z, s, rfl, z0, z1⟩
      exact ⟨z, s, rfl, z0, Int.lt_of_lt_of_le z1 (pow4 _ (by omega))⟩
  · subst e
    have b : Bd 110 n := by
      show n.natAbs < 2 ^ 110
      omega
    exact ok_ret (e_ifD (d_take hj rfl 2 (by decide) (by decide) e_int) ((e_d rfl).to ⟨n, rfl, b⟩) ((e_neg (e_d rfl)).to ⟨-n, rfl, b.neg⟩))
section
variable {K : PySem.W.Frag} {O : Addr → Bool} {J : Hp → Prop} {a c : Addr} {Γ : List Sl}
theorem d_number (hj : HandJ O J a c) (h0 : Γ[0]? = some (.va (.ref a))) : EP K O J Γ (tCall (sp__law_number K) [] E0 (tCons (tVar 0) tNil)) (fun s => ∃ n, s = .da (.int n) ∧ Bd 110 n) :=
  e_call (a_cons (e_v h0) a_nil) (spH_us hj rfl rfl fun _ h => h)
end
def anyQ (s : Sl) : Prop := ∃ q, s = .da (rt q) ∧ Low q ∧ BR 110 q
def sp__law_any_ratio (K : PySem.W.Frag) : Sp := spH K 0 (fun ss => ss = []) (fun _ s => anyQ s)
def t__law_any_ratio (K : PySem.W.Frag) (E : XK) : TS := (tSeq (tAsg (tCall (sp__law_take K) [] E0 (tCons (tVar 0) (tCons (tC (.int 5)) tNil))) (gName 1))
 (tSeq (tIfS (tTest (tOp rEq (tVar 1) (tC (.int 0)))) (tRet (tTup (tCons (tC (.int 0)) (tCons (tC (.int 1)) tNil)))) tNext)
 (tSeq (tIfS (tTest (tOp rEq (tVar 1) (tC (.int 1)))) (tRet (tTup (tCons (tOp rSubI (tCall (sp__law_take K) [] E0 (tCons (tVar 0) (tCons (tC (.int 7)) tNil))) (tC (.int 3))) (tCons (tC (.int 1)) tNil)))) tNext)
 (tSeq (tAsg (tCB rAbs (tCons (tCall (sp__law_number K) [] E0 (tCons (tVar 0) tNil)) tNil)) (gName 2))
 (tRet (tCall (sp__law_ratio K) [] E0 (tCons (tCall (sp__law_number K) [] E0 (tCons (tVar 0) tNil)) (tCons (tIf (tTru K (tVar 2)) (tVar 2) (tC (.int 1))) tNil))))))))

theorem low_one (n : Int) : Low (n, 1) := ⟨(by decide : (0 : Int) < 1), by show Nat.gcd n.natAbs 1 = 1; rw [Nat.gcd_one_right]⟩
theorem br_one {n : Int} (h : Bd 110 n) : BR 110 (n, 1) := ⟨h, (by show (1 : Int).natAbs < 2 ^ 110; decide), (by decide : (1 : Int) ≠ 0)⟩
theorem e_cbP {K : PySem.W.Frag} {O : Addr → Bool} {J : Hp → Prop} {Γ : List Sl} {P : Sl → Prop} {r : List V → Hp → VK → Prop} {ta : TA} {Ps : List Sl → Prop} (h : EA K O J Γ ta Ps) (hs : ∀ ss, Ps ss → RcS K O J r ss P) : EP K O J Γ (tCB r ta) P := fun σ H1 hJ hE Q q =>
  h σ H1 hJ hE _ fun ss2 vs H2 p1 hJ2 st1 o1 => hs ss2 p1 vs H2 hJ2 (hE.step st1).tr o1 Q fun s v H3 p hJ3 st o => q s v H3 p hJ3 (st1.trans st) o
theorem rc_imp {K : PySem.W.Frag} {O : Addr → Bool} {J : Hp → Prop} {P P' : Sl → Prop} {r : List V → Hp → VK → Prop} {ss : List Sl} (h : RcS K O J r ss P) (k : ∀ s, P s → P' s) : RcS K O J r ss P' := fun vs H1 hJ tr hS Q q => h vs H1 hJ tr hS Q fun s v H2 p => q s v H2 (k s p)
theorem sem__law_any_ratio {K : PySem.W.Frag} (E : XK) (O : Addr → Bool) (J : Hp → Prop) (a c : Addr) (ss : List Sl) (hl : ss.length = 0) (hp : ss = []) (hj : HandJ O J a c) :
    Ok K O J (.va (.ref a) :: ss ++ List.replicate 2 .un) (t__law_any_ratio K E) { rt := anyQ, nx := fun _ => False } := by
  subst hp
  have G := hj.gr
  refine q_set (d_take hj rfl 5 (by decide) (by decide) e_int) fun s ⟨r, e, r0, r1⟩ => ?_
  subst e
  refine q_if (t_val (e_eqI (e_d rfl) e_int)) (fun _ => q_retS (e_tup G (ds := [.int 0, .int 1]) (a_cons e_int (a_cons e_int a_nil))) ⟨(0, 1), rfl, low_one 0, br_one (by show (0 : Int).natAbs < 2 ^ 110; decide)⟩) fun _ => q_next ?_
  refine q_if (t_val (e_eqI (e_d rfl) e_int)) (fun _ => ?_) fun _ => q_next ?_
  · refine q_ret (e_tupP G (Ps := fun ss => ∃ n : Int, (-3 ≤ n ∧ n ≤ 4) ∧ ss = [.da (.int n), .da (.int 1)]) (a_consP (e_opP (P := fun r => -3 ≤ r ∧ r ≤ 4) (d_take hj rfl 7 (by decide) (by decide) e_int) (toP e_int) fun x y h e => (by subst e; omega)) (a_cons e_int a_nil) fun s ss ⟨n, e, h⟩ e2 => ⟨n, h, by rw [e, e2]⟩) ?_)
    rintro ss ⟨n, h, rfl⟩
    exact ⟨[.int n, .int 1], rfl, by simp, (n, 1), rfl, low_one n, br_one (by show n.natAbs < 2 ^ 110; omega)⟩
  · refine q_set (e_cbP (P := fun s => ∃ b, s = .da (.int b) ∧ Bd 110 b) (Ps := fun ss => ∃ n, ss = [.da (.int n)] ∧ Bd 110 n) (a_consP (d_number hj rfl) a_nil fun s ss ⟨n, e, h⟩ e2 => ⟨n, by rw [e, e2], h⟩) fun ss ⟨n, e, h⟩ => ?_) fun s ⟨b, e, hb⟩ => ?_
    · subst e
      refine rc_imp c_abs fun s e => ⟨_, e, ?_⟩
      rw [abs_if]
      show ((n.natAbs : Nat) : Int).natAbs < 2 ^ 110
      exact h
    subst e
    -- the bottom, or 1
    have hbot : ∃ b', b' ≠ 0 ∧ Bd 110 b' ∧ ED K O J (([Sl.va (V.ref a)] ++ List.replicate 2 Sl.un).set 1 (.da (.int r)) |>.set 2 (.da (.int b))) (tIf (tTru K (tVar 2)) (tVar 2) (tC (.int 1))) (.int b') := by
      by_cases z : b = 0
      · exact ⟨1, by decide, by show (1 : Int).natAbs < 2 ^ 110; decide, e_if (a := false) (t_is (t_truth (e_d rfl) True.intro) (by subst z; rfl)) (fun z => nomatch z) fun _ => e_int⟩
      · exact ⟨b, z, hb, e_if (a := true) (t_is (t_truth (e_d rfl) True.intro) (by show (b != 0) = true; simpa using z)) (fun _ => e_d rfl) fun z => nomatch z⟩
    obtain ⟨b', nz, hb', hE⟩ := hbot
    refine ok_ret (e_callP (Ps := fun ss => ∃ n, Bd 110 n ∧ ss = [.da (.int n), .da (.int b')]) (a_consP (d_number hj rfl) (a_cons hE a_nil) fun s ss ⟨n, e, h⟩ e2 => ⟨n, h, by rw [e, e2]⟩) fun ss ⟨n, h, e⟩ => ?_)
    subst e
    exact spG_us G rfl ⟨n, b', rfl, nz, hb'.mono (by decide)⟩ fun s ⟨_, _, e, h2⟩ => by
      cases e
      have z := mkR_bd (a := n) nz h hb'
      exact ⟨_, h2, mkR_low nz, z.1, z.2, by have := (mkR_low (a := n) nz).1; omega⟩
section
variable {K : PySem.W.Frag} {O : Addr → Bool} {J : Hp → Prop} {a c : Addr} {Γ : List Sl}
theorem d_any (hj : HandJ O J a c) (h0 : Γ[0]? = some (.va (.ref a))) : EP K O J Γ (tCall (sp__law_any_ratio K) [] E0 (tCons (tVar 0) tNil)) anyQ :=
  e_call (a_cons (e_v h0) a_nil) (spH_us hj rfl rfl fun _ h => h)
theorem d_anyAt {n : Nat} (hj : HandJ O J a c) (h0 : Γ[n]? = some (.va (.ref a))) : EP K O J Γ (tCall (sp__law_any_ratio K) [] E0 (tCons (tVar n) tNil)) anyQ :=
  e_call (a_cons (e_v h0) a_nil) (spH_us hj rfl rfl fun _ h => h)
end
/-! ### an odd thing -/
def oddL : List PyData := [.none, .bool true, .bool false, .str "1", .tuple [], .list [.int 1, .int 2], .tuple [.int 2, .int 4], .tuple [.int 1, .int 0], .tuple [.int 1, .int (-1)], .tuple [.bool true, .int 1], .tuple [.int 1, .bool true], .tuple [.int 1, .int 2, .int 3], .list [.int 3, .int 1]]
def sp__law_odd (K : PySem.W.Frag) : Sp := spH K 0 (fun ss => ss = []) (fun _ s => ∃ d, d ∈ oddL ∧ s = .da d)
def t__law_odd (K : PySem.W.Frag) (E : XK) : TS := (tRet (tOp (rIxL K) (tLst (tCons (tC .non) (tCons (tC (.bl true)) (tCons (tC (.bl false)) (tCons (tC (.str "1")) (tCons (tTup tNil) (tCons (tLst (tCons (tC (.int 1)) (tCons (tC (.int 2)) tNil))) (tCons (tTup (tCons (tC (.int 2)) (tCons (tC (.int 4)) tNil))) (tCons (tTup (tCons (tC (.int 1)) (tCons (tC (.int 0)) tNil))) (tCons (tTup (tCons (tC (.int 1)) (tCons (tUn rNegI (tC (.int 1))) tNil))) (tCons (tTup (tCons (tC (.bl true)) (tCons (tC (.int 1)) tNil))) (tCons (tTup (tCons (tC (.int 1)) (tCons (tC (.bl true)) tNil))) (tCons (tTup (tCons (tC (.int 1)) (tCons (tC (.int 2)) (tCons (tC (.int 3)) tNil)))) (tCons (tLst (tCons (tC (.int 3)) (tCons (tC (.int 1)) tNil))) tNil)))))))))))))) (tCall (sp__law_take K) [] E0 (tCons (tVar 0) (tCons (tC (.int 13)) tNil)))))

theorem sem__law_odd {K : PySem.W.Frag} (E : XK) (O : Addr → Bool) (J : Hp → Prop) (a c : Addr) (ss : List Sl) (hl : ss.length = 0) (hp : ss = []) (hj : HandJ O J a c) :
    Ok K O J (.va (.ref a) :: ss ++ List.replicate 0 .un) (t__law_odd K E) { rt := fun s => ∃ d, d ∈ oddL ∧ s = .da d, nx := fun _ => False } := by
  subst hp
  have G := hj.gr
  have i2 : ∀ {x y : TE} {d e : PyData}, ED K O J [.va (.ref a)] x d → ED K O J [.va (.ref a)] y e → ED K O J [.va (.ref a)] (tTup (tCons x (tCons y tNil))) (.tuple [d, e]) := fun h1 h2 => e_tup G (ds := [_, _]) (a_cons h1 (a_cons h2 a_nil))
  have l2 : ∀ {x y : TE} {d e : PyData}, ED K O J [.va (.ref a)] x d → ED K O J [.va (.ref a)] y e → ED K O J [.va (.ref a)] (tLst (tCons x (tCons y tNil))) (.list [d, e]) := fun h1 h2 => e_lst G (ds := [_, _]) (a_cons h1 (a_cons h2 a_nil))
  have hL : ED K O J [.va (.ref a)] _ (.list oddL) := e_lst G (ds := oddL) (a_cons e_non (a_cons e_bl (a_cons e_bl (a_cons e_str (a_cons (e_tup G (ds := []) a_nil) (a_cons (l2 e_int e_int) (a_cons (i2 e_int e_int) (a_cons (i2 e_int e_int) (a_cons (i2 e_int (e_neg e_int)) (a_cons (i2 e_bl e_int) (a_cons (i2 e_int e_bl)
    (a_cons (e_tup G (ds := [_, _, _]) (a_cons e_int (a_cons e_int (a_cons e_int a_nil)))) (a_cons (l2 e_int e_int) a_nil))))))))))))) (by decide)
  refine ok_ret (e_op hL (d_take hj rfl 13 (by decide) (by decide) e_int) fun s1 s2 x y H1 p1 ⟨r, e, r0, r1⟩ hJ tr o1 o2 Q q => ?_)
  subst p1 e
  cases o2
  cases o1 with
  | lst hs ha =>
    obtain ⟨k, rfl⟩ := Int.eq_ofNat_of_zero_le r0
    have hk : k < oddL.length := by show k < 13; omega
    obtain ⟨v, e1, e2⟩ := dpAt ha (List.getElem?_eq_getElem hk)
    exact ⟨_, _, _, v, rfl, rfl, Evl.ex_l hid_ex hs, atI_nat e1, q _ _ H1 ⟨oddL[k], List.getElem_mem hk, rfl⟩ hJ .refl e2⟩
section
variable {K : PySem.W.Frag} {O : Addr → Bool} {J : Hp → Prop} {a c : Addr} {Γ : List Sl}
theorem d_odd (hj : HandJ O J a c) (h0 : Γ[0]? = some (.va (.ref a))) : EP K O J Γ (tCall (sp__law_odd K) [] E0 (tCons (tVar 0) tNil)) (fun s => ∃ d, d ∈ oddL ∧ s = .da d) :=
  e_call (a_cons (e_v h0) a_nil) (spH_us hj rfl rfl fun _ h => h)
end
/-! ### _law_truth -/
def sp__law_truth (K : PySem.W.Frag) : Sp := spG K 2 (fun ss => ∃ a b, ss = [.da (.bool a), .da (.bool b)]) (fun ss s => ∃ a b, ss = [.da (.bool a), .da (.bool b)] ∧ s = .da (.bool (decide (a = b))))
def t__law_truth (K : PySem.W.Frag) (E : XK) : TS := (tRet (tIf (tTru K (tVar 1)) (tOp rIsBl (tVar 0) (tC (.bl true))) (tOp rIsBl (tVar 0) (tC (.bl false)))))

theorem sem__law_truth {K : PySem.W.Frag} (E : XK) (O : Addr → Bool) (H : Hp) (ss : List Sl) (hl : ss.length = 2) (hp : ∃ a b, ss = [.da (.bool a), .da (.bool b)]) :
    Ok K O (fun H' => Ex H H') (ss ++ List.replicate 0 .un) (t__law_truth K E) { rt := fun s => ∃ a b, ss = [.da (.bool a), .da (.bool b)] ∧ s = .da (.bool (decide (a = b))), nx := fun _ => False } := by
  obtain ⟨a, b, rfl⟩ := hp
  refine ok_retS (s := .da (.bool (decide (a = b)))) ?_ ⟨a, b, rfl, rfl⟩
  refine e_if (t_truth (e_d rfl) True.intro) (fun h => ?_) fun h => ?_
  · cases (show b = true from h)
    exact e_isB (e_d rfl) e_bl
  · cases (show b = false from h)
    exact e_isB (e_d rfl) e_bl
theorem u_truth {K : PySem.W.Frag} {O : Addr → Bool} {J : Hp → Prop} {E : XK} (G : Gr J) (a b : Bool) : SpS K O J (sp__law_truth K) E [.da (.bool a), .da (.bool b)] (fun x => x = .da (.bool (decide (a = b)))) :=
  spG_us G rfl ⟨a, b, rfl⟩ fun s ⟨_, _, e, h⟩ => by cases e; exact h
/-! ### _law_hand(script) -/
def sp__law_hand (K : PySem.W.Frag) : Sp := fun vs H Q _ => ∃ (s : Addr) (ns : List Int), vs = [.ref s] ∧ SqL K H s (ns.map V.int) ∧ ns.length ≤ 63 ∧ ∀ a c H', H a = none → H c = none → Ex H H' → HandAt a c H' → Q (.ref a) H'
def t__law_hand (K : PySem.W.Frag) (E : XK) : TS := (tSeq (tAsg (tOp rAddI (tCB (rLen K) (tCons (tVar 0) tNil)) (tC (.int 29))) (gName 1))
 (tSeq (tAsg (tLst tNil) (gName 2))
 (tSeq (tFor (iList K (tVar 0)) (gName 3) (tSeq (tAsg (tOp rModC (tCB rIntOf (tCons (tOp rAddI (tOp rMulI (tVar 1) (tC (.int 1013))) (tCB rIntOf (tCons (tVar 3) tNil))) tNil)) (tC (.int 2147483629))) (gName 1))
 (tDrop (tBM K "list" rAppend (tVar 2) (tCons (tIf (tTest (tOp rGeI (tVar 3) (tC (.int 0)))) (tCB rIntOf (tCons (tVar 3) tNil)) (tUn rNegI (tCB rIntOf (tCons (tVar 3) tNil)))) tNil)))))
 (tRet (tLst (tCons (tVar 2) (tCons (tC (.int 0)) (tCons (tC (.int 0)) (tCons (tVar 1) tNil)))))))))

theorem sem__law_hand {K : PySem.W.Frag} (E0' : XK) (vs : List V) (H : Hp) (Q : VK) (E : XK) (hs : sp__law_hand K vs H Q E) : t__law_hand K E0' { nx := fun _ H' => Q .non H', rt := Q } (L2.start ["_law_script", "_law_total", "_law_cells", "_law_cell"] vs) H := by
  obtain ⟨s, ns, rfl, hS, hl, q⟩ := hs
  refine ⟨_, rfl, _, _, rfl, .inl ⟨_, hS, rfl⟩, _, _, rfl, rfl, Nat.zero_le _, fun l hn => ?_⟩
  have e1 : Ex H (upd H l (.lst [])) := Evl.Ex.new hn
  refine ⟨_, rfl, s, rfl, ⟨_, Evl.ex_l e1 hS⟩, for_list (K := K) (a := s) (xs := ns.map V.int) (fun i σ H' => ∃ (tot : Int) (cs : List Int) (v3 : Option V), σ = [some (.ref s), some (.int tot), some (.ref l), v3] ∧ Ex H H' ∧ H' l = some (.lst (cs.map V.int)) ∧ cs.length = i ∧ (∀ x ∈ cs, 0 ≤ x) ∧ 0 ≤ tot ∧ tot < 2147483629)
    ⟨_, [], none, rfl, e1, upd_same, rfl, fun x hx => (by cases hx), by omega, ?_⟩ (fun i σ H' _ ⟨_, _, _, _, e, _⟩ => Evl.ex_l e hS) ?_ ?_⟩
  · rw [List.length_map]
    omega
  · rintro i x σ H' hi ⟨tot, cs, v3, rfl, e, hL, hc, h0, t0, t1⟩
    have hi63 : i < ns.length := by
      have := (List.getElem?_eq_some_iff.mp hi).1
      rw [List.length_map] at this
      exact this
    obtain ⟨n, rfl⟩ : ∃ n, x = V.int n := by
      rw [List.getElem?_map] at hi
      cases e : ns[i]? with
      | none => rw [e] at hi; cases hi
      | some n => rw [e] at hi; exact ⟨n, (Option.some.inj hi).symm⟩
    refine ⟨_, rfl, _, _, rfl, rfl, .inr (by omega), _, rfl, .inl ⟨n, rfl, _, _, rfl, rfl, .inl ⟨_, rfl, _, _, rfl, rfl, (by show (0 : Int) < 2147483629; decide), ?_⟩⟩⟩
    refine ⟨_, rfl, .inl ⟨rfl, _, Evl.sq_of hL⟩, _, rfl, _, _, rfl, rfl, _, rfl, ?_⟩
    have nl : H l = none := hn
    have app : ∀ y : Int, 0 ≤ y → ∃ l' xs z, V.ref l = V.ref l' ∧ [V.int y] = [z] ∧ H' l' = some (.lst xs) ∧ xs.length < sizeLine ∧ ∃ (tot' : Int) (cs' : List Int) (v3' : Option V), [some (V.ref s), some (.int ((tot * 1013 + n) % 2147483629)), some (.ref l), some (.int n)] = [some (.ref s), some (.int tot'), some (.ref l), v3'] ∧ Ex H (upd H' l' (.lst (xs ++ [z]))) ∧ upd H' l' (.lst (xs ++ [z])) l = some (.lst (cs'.map V.int)) ∧ cs'.length = i + 1 ∧ (∀ x ∈ cs', 0 ≤ x) ∧ 0 ≤ tot' ∧ tot' < 2147483629 := fun y y0 =>
      ⟨l, _, _, rfl, rfl, hL, Evl.sz_lt (by rw [List.length_map]; omega), _, cs ++ [y], _, rfl, Evl.Ex.mut e nl, by rw [upd_same, List.map_append]; rfl, by rw [List.length_append, hc]; rfl, fun x hx => by
        rcases List.mem_append.mp hx with h | h
        · exact h0 x h
        · cases (List.mem_singleton.mp h)
          exact y0, by omega, by omega⟩
    by_cases hg : (0 : Int) ≤ n
    · rw [decide_eq_true hg]
      exact iteT ⟨_, rfl, .inl ⟨n, rfl, app n hg⟩⟩
    · rw [decide_eq_false hg]
      exact iteF ⟨_, rfl, .inl ⟨n, rfl, n, rfl, app (-n) (by omega)⟩⟩
  · rintro σ H' ⟨tot, cs, v3, rfl, e, hL, hc, h0, t0, t1⟩
    rw [List.length_map] at hc
    refine ⟨_, rfl, _, rfl, (by show 4 ≤ sizeLine; decide), fun p hp => ?_⟩
    have np : l ≠ p := ne_of_none hL hp
    exact q p l _ (Evl.fresh_back e hp) hn (e.trans (Evl.Ex.new hp)) ⟨cs, 0, 0, tot, upd_same, by rw [upd_ne np]; exact hL, Nat.zero_le _, by omega, h0, by decide, t0, t1⟩
end LL


set_option Elab.async false
set_option linter.all false
set_option maxRecDepth 100000
set_option maxHeartbeats 4000000
/-! ### what class an own error with its own dict says that it is -/
namespace PySem.W
open PySem PySem.Spec PySem.Calls PyProof.Rows
section
variable {K : Frag} {x D : Addr} {ox : Obj} {od : Obj}
/-- the own attributes of an error: its class is read off the class -/
theorem ownErr_class {prog : Program} {w : World} {A : Around} {E : Value → Shared → Prop} {s : Shared} {Q : Option Value → Shared → Prop} (r1 : findIn K (.ref D) "__getattribute__" = some (some (.builtin "BaseException.__getattribute__"))) (r2 : findIn K (.ref D) "__getattr__" = some none)
    (r3 : subIn K (.ref D) (.type "BaseException") = some true) (r4 : hasDictIn K D = true) (r5 : findIn K (.ref D) "__class__" = some (some (.builtin "object.__class__"))) (r6 : specialIn K (.builtin "object.__class__") "__get__" = some (some (.builtin "getset_descriptor.__get__")))
    (r7 : takesIn K (.builtin "object.__class__") = some true) (r8 : mroIn K D (.type "object") = some true) (X : K.In s.heap) (I : InstAt s.heap x ox D (some od)) (q : Q (some (.ref D)) { s with toks := s.toks + 1 }) : wpAny (model prog w) A (getAttr? (.ref x) "__class__") Q E s := by
  have hD : (clsIn K D).isSome = true := by (obtain ⟨cd, hc, _⟩ := any_some r4; rw [hc]; rfl)
  have found : findObj K D (some od) "__class__" = some (.bind (.builtin "getset_descriptor.__get__") (.builtin "object.__class__")) := findObj_data hD r5 r6 r7
  obtain ⟨hp, gg, dd, tt, oo⟩ := s
  have ty0 := I.type (M := model prog w); have lk1 := looks_findIn (M := model prog w) X r1; have lk2 := looks_findIn (M := model prog w) X r2; have lk3 := looks_find (M := model prog w) X I found
  have isB : Looks (model prog w) hp (isInstance (.ref x) (.type "BaseException")) true := ty0.andThen (looks_subIn X r3)
  have n1 : (Value.builtin "BaseException.__getattribute__" == Value.builtin "object.__getattribute__") = false := by decide +kernel
  have n2 : (onTheHeap (Value.ref D) && Value.builtin "BaseException.__getattribute__" == Value.builtin "object.__getattribute__") = false := by (rw [n1]; rfl)
  unfold getAttr? getAttrBy? getAttrBy; refine wpAny_bind (wpAny_mkText (wpAny_bind (wpAny_attempt (wpAny_holding (wpAny_bind (ty0.at (wpAny_bind (lk1.at ?_))))))))
  show wpAny _ _ (if (onTheHeap (Value.ref D) && Value.builtin "BaseException.__getattribute__" == Value.builtin "object.__getattribute__") = true then _ else _) _ _ _; rw [n2, if_neg Bool.false_ne_true]
  unfold getAttrByItsOwn hookBefore; refine wpAny_bind ?_; rw [if_pos (show onTheHeap (Value.ref D) = true from rfl)]
  refine lk2.at ?_; refine wpAny_bind (wpAny_attempt (wpAny_holding ?_)); unfold callGetattribute
  rw [show (false && onTheHeap (Value.builtin "BaseException.__getattribute__")) = false from rfl, if_neg Bool.false_ne_true]; unfold boundAndCalled
  rw [PySem.F.excAttr_ValueError.ga.bind (.ref x)]; refine wpAny_bind (wpAny_pure ?_)
  show wpAny _ _ (call (.builtin "BaseException.__getattribute__") [.ref x, .str "__class__" tt]) _ _ _; refine wpAny_call (codeAny_call_builtin PySem.F.excAttr_ValueError.ga.plain PySem.F.entry_bexc_ga ?_)
  refine @check_slot (model prog w) _ _ ⟨hp, gg, dd, tt + 1, oo⟩ "BaseException.__getattribute__" "BaseException" "__getattribute__" (.ref x) [.str "__class__" tt] [] _ (by decide +kernel) (by decide +kernel) isB (PySem.F.args_bexc_ga (.ref x) (.str "__class__" tt)) ?_
  unfold Builtin.«object.__getattribute__»; refine wpAny_bind (wpAny_of_eq (a := ((Value.ref x : Value), [Value.str "__class__" tt])) (by first | rfl | (simp only [slotArgs]; rfl)) ?_)
  refine wpAny_bind (wpAny_pure (wpAny_bind (ty0.at (wpAny_bind (lk3.at ?_))))); show wpAny _ _ (holding [Value.builtin "object.__class__"] (call (.builtin "getset_descriptor.__get__") [.builtin "object.__class__", .ref x, .ref D]) >>= ret) _ _ _
  refine wpAny_bind (wpAny_holding (wpAny_call (class_get (s := ⟨hp, gg, dd, tt + 1, oo⟩) (ox := ox) (od := some od) X I r8 ?_))); refine wpAny_pure ?_
  show wpAny _ _ (handedOut (.ref D)) _ _ _; rw [handedOut_of (v := .ref D) rfl]
  first | exact wpAny_pure (wpAny_pure q) | exact wpAny_pure q | exact wpAny_pure (wpAny_bind (wpAny_pure (wpAny_pure q)))
theorem clsIn_at {K : Frag} {D : Addr} (h : hasDictIn K D = true) : ∃ c d cd sl, K.lookup D = some ⟨c, d, .cls cd, sl⟩ := by
  obtain ⟨z, hz, _⟩ := any_some h
  unfold clsIn at hz
  split at hz
  · exact ⟨_, _, _, _, by assumption⟩
  · cases hz
theorem ownErr_kit (r1 : findIn K (.ref D) "__getattribute__" = some (some (.builtin "BaseException.__getattribute__"))) (r2 : findIn K (.ref D) "__getattr__" = some none) (r3 : subIn K (.ref D) (.type "BaseException") = some true) (r4 : hasDictIn K D = true) (r5 : findIn K (.ref D) "__class__" = some (some (.builtin "object.__class__")))
    (r6 : specialIn K (.builtin "object.__class__") "__get__" = some (some (.builtin "getset_descriptor.__get__"))) (r7 : takesIn K (.builtin "object.__class__") = some true) (r8 : mroIn K D (.type "object") = some true) : KitX K (.ref x) (.ref D) (fun h => ∃ od, InstAt h x ox D (some od)) where
  ty := fun _ _ _ ⟨_, I⟩ => I.type
  it := fun _ _ X _ => by
    obtain ⟨c, d, cd, sl, ho⟩ := clsIn_at r4
    exact fun A' Q' E' s' k q => (by unfold isType loadHead; exact wpAny_bind (wpAny_loadPart (k _ _ (X _ _ ho)) (wpAny_pure q)))
  ne := fun h tp dd its n sl X htp => by
    obtain ⟨c, d, cd, sl', ho⟩ := clsIn_at r4
    refine Bool.eq_false_iff.mpr fun q => ?_
    have e : D = tp := Value.ref.inj (beq_iff_eq.mp q)
    rw [e] at ho
    cases (X _ _ ho).symm.trans htp
  ca := fun X ⟨_, I⟩ k => ownErr_class r1 r2 r3 r4 r5 r6 r7 r8 X I k
end
end PySem.W
namespace LL
open PySem PySem.Spec PyProof.Rows L2
open Evl (Ex)
/-- isinstance(e, c), e the caught error at a, of the class at D, with its own dict -/
def rIsO (K : PySem.W.Frag) (D a : Addr) (cls : Value) (dO : Option Addr) : List V → Hp → VK → Prop := fun xs H Q => ∃ (d : Addr) (c : V) (cv : Value) (b : Bool) (fs : List (Str × V)), cls = .ref D ∧ dO = some d ∧ xs = [.ref a, c] ∧ (∀ u, RelV c u → u = cv) ∧ H d = some (.xd fs) ∧ PySem.W.kitOne K (.ref D) cv = some b ∧ Q (.bl b) H
theorem call_isO {X : Cx} {a D : Addr} {cls : Value} {dO : Option Addr} {oe : Obj} {pn : List (Addr × Obj)} (C : ExcC X.K D) (hz : Zc cls dO oe) (hf : ∃ vs, oe.data = .fields vs) : CallR (X.suite a ((a, oe) :: pn)) (.builtin "isinstance") (rIsO X.K D a cls dO) := by
  intro pins s σ H xs us Q I r h
  obtain ⟨d, c, cv, b, fs, rfl, rfl, rfl, hcv, hx, e, q⟩ := h
  match r with
  | .cons rx (.cons rt .nil) =>
    cases rx
    cases (hcv _ rt)
    obtain ⟨hget, _⟩ := I.pin (a, oe) (List.mem_append.mpr (.inl List.mem_cons_self))
    obtain ⟨vs, hv⟩ := hf
    have hd : ObjOk X.prog X.w H s.heap d (.xd fs) := I.hok d _ hx
    obtain ⟨mA, hns, _⟩ := hd
    obtain ⟨od, ho, _⟩ := lookIn_ns hns
    have J : ∃ od, PySem.W.InstAt s.heap a oe D (some od) := ⟨od, hget, hz.1, by unfold PySem.W.notCls; rw [hv] <;> rfl, by rw [hz.2]; exact ho⟩
    exact PySem.W.kia_one (PySem.W.ownErr_kit C.hg C.hk C.hs C.hd C.ha C.hn C.ht C.hm) I.kIn J e (fun z => nomatch z) fun tk => ⟨.bl b, H, I.kept (t' := tk) fun _ _ z => z, rfl, q⟩
section
variable {X : Cx} {k j : Nat} {x : Str} {sp : Sp} {E : L2.St → XK} {p pos : Pos} {e : Expr} {es : List Expr} {t : TA}
/-- f(e, ..) in a try's body -/
theorem pcallS (D : Dn X.prog X.w X.K X.mg X.base k x sp) (hr : Room j X.A) (hkj : k ≤ j) (hg : Gl X x) (hx : ∀ σ, PassesAt (L2.CX X.prog X.w) X σ (E σ)) (ha : PA X (e :: es) t)
    (hdb : (x == ("__debug__" : Str)) = false := by decide) (he : starEach (e :: es) X.env = (false, eval e X.env) :: starEach es X.env := by rfl) (hpl : (backTo pos (starEach es X.env)).any (·.1) = false := by rfl) :
    PE X (.Call (.Name x p) (e :: es) [] pos) (tCallS sp E t) := by
  obtain ⟨f, fd, ps, ds, dvs, sp', F, hm, hk, hb, hd, hs⟩ := D.ex
  have h := pe_callSD (p := p) (pos := pos) F (hr.mono hkj) hg hm hk hb hd hx ha hdb he hpl
  have q : tCallS sp E t = tCallSD sp' dvs E t := by
    funext σ H Q
    show t σ H (fun vs H1 => sp vs H1 Q (E σ)) = t σ H (fun vs H1 => sp' (vs ++ dvs) H1 Q (E σ))
    congr 1
    funext vs H1
    rw [hs]
  rw [q]
  exact h
end
/-- try: x = f(..) except C as n: suite -/
def tTry1 (K : PySem.W.Frag) (cV : Value) (i j : Nat) (sp : Sp) (ta : TA) (ts : Addr → Value → Option Addr → TS) : TS := fun D σ H => tAsg (tCallS sp (WE (wAs K cV i ts (fun _ _ _ _ => False) D)) ta) (gName j) D σ H
section
variable {K : PySem.W.Frag} {O : Addr → Bool} {J : Hp → Prop} {Γ : List Sl} {ta : TA} {p : Po} {C : Addr} {f : Str} {cV : Value} {i j n : Nat} {ts : Addr → Value → Option Addr → TS} {Pre : List Sl → Prop} {R : List Sl → Sl → Prop} {RX : List Sl → PyData → Prop}
theorem ok_try1 {ss : List Sl} (G : Gr J) (h : EAs K O J Γ ta ss) (hl : ss.length = n) (hp : Pre ss) (h1 : ∀ s, R ss s → p.nx (Γ.set j s)) (hm : PySem.W.exmOne K (.ref C) cV = some true)
    (h2 : ∀ d, RX ss d → ∀ (a dx : Addr) (y : V) (D D' : Ends) (σ : L2.St) (H1 : Hp), J H1 → (∀ b, O b = true → H1 b ≠ none) → H1 dx = some (.xd [(f, y)]) → Dp K (hid O H1) y d → D'.rt = D.rt → i < σ.length → Good K O J D H1 p → ts a (.ref C) (some dx) D' (σ.set i (some (.ref a))) H1) (hi : i < Γ.length) :
    Ok K O J Γ (tTry1 K cV i j (spR K C f n Pre R RX) ta ts) p := fun D σ H1 hJ hE g =>
  h σ H1 hJ hE _ fun ss' vs H2 e hJ2 st o => by
    cases e
    refine ⟨O, ss, (hE.step st).tr, o, hl, hp, fun s v H' r e o' => ?_, fun d y dx H' r e o' nd hx => ?_⟩
    · have s2 : Step O H2 H' := .of e
      exact g.nx _ _ H' (h1 s r) (G _ _ e hJ2) (st.trans s2) ((hE.step (st.trans s2)).set o')
    · have s2 : Step O H2 H' := .of e
      refine ⟨true, hm, fun _ a na => ?_, fun z => Bool.noConfusion z⟩
      exact h2 d r a dx y D _ σ H' (G _ _ e hJ2) (hE.step (st.trans s2)).tr hx o' rfl (by rw [hE.len]; exact hi) (g.step (st.trans s2))
end
/-- raised.f in a suite -/
theorem x_fld {a C dx : Addr} {f : Str} {y : V} {i : Nat} {σ : L2.St} {H : Hp} {Q : VK} (hi : i < σ.length) (hx : H dx = some (.xd [(f, y)])) (q : Q y H) : tXf a (.ref C) (some dx) C f (tVar i) (σ.set i (some (.ref a))) H Q := by
  refine ⟨_, List.getElem?_set_self hi, rfl, rfl, dx, _, y, rfl, hx, ?_, q⟩
  simp [List.lookup]
/-! ### calls with keywords -/
section
variable {K : PySem.W.Frag} {x qual : Str} {params : Arguments} {body : List Stmt} {scope : Scope} {dvs : List V} {f : Addr} {fd : FuncData} {ps : List Str}
theorem kb_of (F : FunD K x qual params body scope dvs [] f fd) (n : Nat) (ks : List Str) (g : {α : Type} → List α → List α → List α → List α) (hd : dvs ≠ [])
    (hrel : ∀ {vs es zs : List V} {us its ws : List Value}, Vals vs us → Vals es its → Vals zs ws → Vals (g vs es zs) (g us its ws))
    (h : ∀ (T : Addr) (kV doc pm : Value) (an : Option Addr) (cdv ct : Value) (us its ws : List Value), us.length = n → its.length = dvs.length → ws.length = ks.length →
      ∃ k, bindArgs (PySem.W.fnOf x qual params body scope (.ref T) kV doc pm an cdv ct) ⟨us, ks.zip ws⟩ = seqItems? (.ref T) >>= k ∧ k (some its.toArray) = pure (ps.zip (g us its ws))) :
    ∃ its : List Value, KBn K fd ps n ks (fun us ws => g us its ws) (fun vs zs => g vs dvs zs) := by
  obtain ⟨oc, od, dV, kV, doc, pm, an, cdv, ct, osl, rfl, lk, hcd, hD, hK⟩ := F.ex
  rcases hD with ⟨e, _⟩ | ⟨_, T, o, its, m, rfl, lT, oT, rT⟩
  · exact absurd e hd
  · refine ⟨its, fun s us ws X l1 l2 => ?_, fun r1 r2 => hrel r1 rT r2⟩
    obtain ⟨k, e1, e2⟩ := h T kV doc pm an cdv ct us its ws l1 rT.length.symm l2
    refine BindsTo.of_looks fun M => ?_
    rw [e1]
    exact looks_items X lT oT (.of_pure e2)
end
structure Dk (P : Program) (w : World) (K : PySem.W.Frag) (mg : Str → Option Value) (base : Heap) (k : Nat) (x : Str) (n : Nat) (ks : List Str) (sp : Sp) : Prop where
  ex : ∃ (f : Addr) (fd : FuncData) (ps : List Str) (g : List Value → List Value → List Value) (gV : List V → List V → List V) (sp' : Sp), FnOk P w K mg base (L2.CX P w) k f fd ps sp' ∧ mg x = some (.ref f) ∧ PySem.W.keepIn K (.ref f) = true ∧ KBn K fd ps n ks g gV ∧
    ∀ vs zs, vs.length = n → zs.length = ks.length → sp (vs ++ zs) = sp' (gV vs zs)
def tCallKw (sp : Sp) (n m : Nat) (t tk : TA) : TE := fun σ H Q => t σ H fun vs H1 => tk σ H1 fun zs H2 => vs.length = n ∧ zs.length = m ∧ sp (vs ++ zs) H2 Q E0
section
variable {X : Cx} {k j n m : Nat} {x : Str} {ks : List Str} {sp : Sp} {p pos : Pos} {e : Expr} {es : List Expr} {kws : List Keyword} {t tk : TA}
theorem pcallN (D : Dk X.prog X.w X.K X.mg X.base k x n ks sp) (hr : Room j X.A) (hkj : k ≤ j) (hg : Gl X x) (ha : PA X (e :: es) t) (hkw : PK X kws tk) (hm : ks.length = m := by rfl) (hall : (backToKw pos (keywordEach kws X.env)).all (·.1.isSome) = true := by rfl)
    (hks : (backToKw pos (keywordEach kws X.env)).filterMap (·.1) = ks := by rfl) (hdb : (x == ("__debug__" : Str)) = false := by decide) (he : starEach (e :: es) X.env = (false, eval e X.env) :: starEach es X.env := by rfl)
    (hpl : ((backTo pos (starEach (e :: es) X.env)).any (·.1) || (backToKw pos (keywordEach kws X.env)).any (·.1.isNone)) = false := by rfl) : PE X (.Call (.Name x p) (e :: es) kws pos) (tCallKw sp n m t tk) := by
  obtain ⟨f, fd, ps, g, gV, sp', F, hmg, hk, hb, hs⟩ := D.ex
  have h := pe_callN (p := p) (pos := pos) F (hr.mono hkj) hg hmg hk hb passL ha hkw hall hks hdb he hpl
  have q : tCallKw sp n m t tk = tCallN n ks.length sp' gV E0 t tk := by
    subst hm
    funext σ H Q
    show t σ H (fun vs H1 => tk σ H1 fun zs H2 => vs.length = n ∧ zs.length = ks.length ∧ sp (vs ++ zs) H2 Q E0) = t σ H (fun vs H1 => tk σ H1 fun zs H2 => vs.length = n ∧ zs.length = ks.length ∧ sp' (gV vs zs) H2 Q E0)
    congr 1
    funext vs H1
    congr 1
    funext zs H2
    by_cases l1 : vs.length = n
    · by_cases l2 : zs.length = ks.length
      · rw [hs vs zs l1 l2]
      · simp [l2]
    · simp [l1]
  rw [q]
  exact h
end
section
variable {K : PySem.W.Frag} {O : Addr → Bool} {J : Hp → Prop} {Γ : List Sl} {P : Sl → Prop}
theorem e_callKw {sp : Sp} {ta tk : TA} {ss ts : List Sl} {n m : Nat} (h : EAs K O J Γ ta ss) (hk : EAs K O J Γ tk ts) (l1 : ss.length = n) (l2 : ts.length = m) (hs : SpS K O J sp E0 (ss ++ ts) P) : EP K O J Γ (tCallKw sp n m ta tk) P := fun σ H1 hJ hE Q q =>
  h σ H1 hJ hE _ fun s1 vs H2 p1 hJ2 st1 o1 => hk σ H2 hJ2 (hE.step st1) _ fun s2 zs H3 p2 hJ3 st2 o2 => by
    cases p1
    cases p2
    refine ⟨by rw [o1.len, l1], by rw [o2.len, l2], ?_⟩
    exact hs _ H3 hJ3 (hE.step (st1.trans st2)).tr (slApp (o1.grow st2.ex) o2) Q fun s v H4 p hJ4 st o => q s v H4 p hJ4 ((st1.trans st2).trans st) o
end
/-! ### is_whole(thing, high=..) -/
def sp_is_whole1_high (K : PySem.W.Frag) : Sp := fun vs H Q E => match vs with
  | [d, h] => sp_is_whole K [d, .non, h] H Q E
  | _ => False
theorem u_whole1_high {K : PySem.W.Frag} {O : Addr → Bool} {J : Hp → Prop} {E : XK} (G : Gr J) (d : PyData) {hi : PyData} (h2 : optI hi) : SpS K O J (sp_is_whole1_high K) E [.da d, .da hi] (fun x => x = .da (.bool (isW d .none hi))) := fun vs H1 hJ tr hS Q q => by
  obtain ⟨v, w, rfl, o1, o2⟩ := sl2 hS
  exact u_whole3 G d (.inl rfl) h2 [v, .non, w] H1 hJ tr (.cons o1 (.cons .non (.cons o2 .nil))) Q q
end LL


set_option Elab.async false
set_option linter.all false
set_option maxRecDepth 100000
set_option maxHeartbeats 4000000
namespace LL
open PySem PySem.Spec PyProof.Rows L2
open Evl (Ex)
section
variable {P : Program} {w : World} {K : PySem.W.Frag} {mg : Str → Option Value} {base : Heap}
/-- the __init__ of an own error that keeps its one argument -/
theorem ok_init {q x : Str} {args : Arguments} {body : List Stmt} {scope : Scope} {f : Addr} {fd : FuncData} (F : FunD K "__init__" q args body scope [] [] f fd) (S : FnScope ["self", "what"] ["self", "what"] scope) (X : Xc K x "what")
    (der : ∀ (cdv : Value) (A : Around) (outer : List Env) (s : Shared) (H : Hp) (E : XK), Room 0 (A.deeper (envOfC q scope s.heap.objs.size f cdv)) → PSs (cxOf (L2.CX P w) P w K mg base ["self", "what"] q scope f cdv A outer s H E) body (tOst K "what" (tVar 0) (tVar 1))) :
    FnOk P w K mg base (L2.CX P w) 1 f fd ["self", "what"] (spOne (He.ga K x) "what") :=
  F.ok S (fun vs H Q E ⟨a, y, e, _⟩ => by rw [e]; rfl) fun cdv A outer s H vs Q E hr h => ⟨_, der cdv A outer s H E hr, by
    obtain ⟨a, y, rfl, ha, k⟩ := h
    exact ⟨y, rfl, .ref a, rfl, a, _, rfl, X.oex, X.nof, .inl ⟨ha, fun dx n ne => k dx n ne⟩⟩⟩
theorem dn_full {k j : Nat} {x : Str} {sp : Sp} {dvs : List V} (h : Dn P w K mg base k x (fun vs => sp (vs ++ dvs.drop j))) (e : dvs.drop j = [] := by rfl) : Dn P w K mg base k x sp := by
  have q : (fun vs => sp (vs ++ dvs.drop j)) = sp := by
    funext vs
    rw [e, List.append_nil]
  rw [q] at h
  exact h
theorem fun_same {x q : Str} {args : Arguments} {body : List Stmt} {scope : Scope} {dvs : List V} {f : Addr} {fd fd' : FuncData} (a : FunD K x q args body scope dvs [] f fd) (b : FunD K x q args body scope dvs [] f fd') : fd = fd' := by
  obtain ⟨_, _, _, _, _, _, _, _, _, _, _, e, _⟩ := a.ex
  obtain ⟨_, _, _, _, _, _, _, _, _, _, _, e', _⟩ := b.ex
  rw [e] at e'
  injection e' with e'
  injection e' with _ _ e' _
  injection e'
end
/-- a law's end where the defs' errors are told by CX of the law's own world -/
theorem walk_ofW {l : PySem.W.OpenLaw} {n k : Nat} {q : Program} {loose : List Str} {XP : (Str → Option Value) → Heap → Prop} {YP : World → Heap → Prop} {d : DefRec} {x : Str} (hn : l.most = some n) (hn2 : n ≤ sizeLine) (hdf : d.params.defaults = []) (hr : Room k callerA)
    (F : ∀ (w : World) (mg : Str → Option Value) (fa : Addr) (h : Heap), YP w h → h.Ns mainGlobals mg → mg d.name = some (.ref fa) → ∃ (K : PySem.W.Frag) (fd : FuncData) (sp : Sp), K.In h ∧ (∀ (s : Shared) (u : Value), BindsTo s fd ⟨[u], []⟩ [(x, u)]) ∧
      (∀ (H : Hp) (a : Addr) (ns : List Int), ns.length ≤ n → Only H → SqL K H a (ns.map V.int) → sp [.ref a] H (fun v _ => v = .bl true) fun _ _ _ => False) ∧ ∀ base : Heap, K.In base → base.Ns mainGlobals mg → FnOk l.prog w K mg base (L2.CX l.prog w) k fa fd [x] sp) :
    PySem.W.WalkO q loose XP YP l.row.toRowW d [] (fun f vs => PySem.call f vs) :=
  Att.attach_call hn hdf fun w s₀ s₁ mg mb fa o pm cd doc a vs ns G Y ho hd hcd hmg hobj hints hlen hg => by
    obtain ⟨K, fd, sp, KX, hb, hsp, hF⟩ := F w mg fa _ Y G.T.g hmg
    refine law_call KX G.T.g G.T.b G.T.builtins G.T.nolimit hg hobj hints (Nat.le_trans hlen hn2) hr hF hb (fun H hO hS => hsp H a ns hlen hO hS) fun H e s' z => ?_
    obtain ⟨_, _, _, _, _, _, _, _, _, _, _, _, z⟩ := z
    exact z
/-- the law's own promise: from a script it gives True -/
def spLaw (K : PySem.W.Frag) : Sp := fun vs H Q _ => ∃ (a : Addr) (ns : List Int), vs = [.ref a] ∧ SqL K H a (ns.map V.int) ∧ ns.length ≤ 63 ∧ ∀ H', Q (.bl true) H'
end LL


set_option Elab.async false
set_option linter.all false
set_option maxRecDepth 100000
set_option maxHeartbeats 4000000
/-! LLTxt: texts of whole numbers and of ratios, as lists of signs -/
namespace LL
open PySem PySem.Spec PyProof.Rows L2
open Evl (Ex)
open SX (S)
/-- the signs of a whole number -/
def intL (i : Int) : List Nat := if i < 0 then 45 :: TL.numL i.natAbs else TL.numL i.natAbs
theorem ofString_app (a b : String) : Str.ofString (a ++ b) = Str.ofString a ++ Str.ofString b := by
  rw [Str.ofString_eq_toList, Str.ofString_eq_toList, Str.ofString_eq_toList, String.toList_append, List.map_append]
  exact (SX.S_cat _ _).symm
theorem int_txt (i : Int) : Str.ofString (toString i) = S (intL i) := by
  cases i with
  | ofNat n =>
    have e : intL (Int.ofNat n) = TL.numL n := by
      unfold intL
      rw [if_neg (by simp)]
      rfl
    rw [e]
    exact SX.num_S n
  | negSucc n =>
    have e : intL (Int.negSucc n) = 45 :: TL.numL (n + 1) := by
      unfold intL
      rw [if_pos (by omega)]
      rfl
    have e2 : toString (Int.negSucc n) = "-" ++ toString ((n + 1 : Nat) : Int) := rfl
    rw [e, e2, ofString_app, SX.num_S]
    exact SX.S_cat [45] (TL.numL (n + 1))
theorem intL_nat {i : Int} (h : 0 ≤ i) : intL i = TL.numL i.natAbs := if_neg (by omega)
theorem intL_neg {i : Int} (h : i < 0) : intL i = 45 :: TL.numL i.natAbs := if_pos h
theorem intL_free (i : Int) : 47 ∉ intL i := by
  unfold intL
  split
  · intro h
    rcases List.mem_cons.mp h with h | h
    · cases h
    · exact TL.numL_free (.inl (by decide)) h
  · exact TL.numL_free (.inl (by decide))
/-- the signs of a ratio -/
def txL (q : Int × Int) : List Nat := if q.2 = 1 then intL q.1 else intL q.1 ++ 47 :: intL q.2
def isD (c : Nat) : Bool := decide (48 ≤ c) && decide (c ≤ 57)
theorem isD_iff {c : Nat} : isD c = true ↔ 48 ≤ c ∧ c ≤ 57 := by simp [isD]
def figs (l : List Nat) : Bool := (decide (0 < l.length) && decide (l.length ≤ 300)) && l.all isD
def valN (l : List Nat) : Nat := NumText.digitsVal l
def vl (l : List Nat) : Int := ((valN l : Nat) : Int)
/-- no needless 0 ahead -/
def can (l : List Nat) : Bool := decide (l = [48]) || decide (l.head? ≠ some 48)
def figL (l : List Nat) : Bool := figs l && can l
def neg (l : List Nat) : Bool := decide (l.head? = some 45)
def bod (l : List Nat) : List Nat := if neg l then l.drop 1 else l
def fin (n : Bool) (t u : Int) (l : List Nat) : Option (Int × Int) := if u = 0 then none else if txL (mkR (if n then -t else t) u) = l then some (mkR (if n then -t else t) u) else none
/-- what is read -/
def rdP (p q l : List Nat) : Option (Int × Int) := if figs p && figs q then fin (neg l) (vl p) (vl q) l else none
def rd (l : List Nat) : Option (Int × Int) := match TL.par [47] [] (bod l) with
  | some (p, q) => rdP p q l
  | none => rdP (bod l) [49] l
/-- what is due -/
def due (l : List Nat) : Option (Int × Int) := match TL.spl [47] 0 [] (bod l) with
  | [p] => if figL p then fin (neg l) (vl p) 1 l else none
  | [p, q] => if figL p && figL q then fin (neg l) (vl p) (vl q) l else none
  | _ => none
theorem neg_split {l : List Nat} : l = (if neg l then [45] else []) ++ bod l := by
  unfold bod
  cases h : neg l
  · simp
  · have h := of_decide_eq_true h
    match l, h with
    | c :: r, h => cases (Option.some.inj h); rfl
theorem head_app {a b : List Nat} (h : a ≠ []) : (a ++ b).head? = a.head? := by
  cases a with
  | nil => exact absurd rfl h
  | cons x r => rfl
theorem numL_can (v : Nat) : can (TL.numL v) = true := by
  induction v using Nat.strongRecOn with
  | _ n ih =>
    by_cases h : n < 10
    · rw [TL.numL_lt h]
      unfold can
      by_cases z : n = 0
      · subst z; rfl
      · rw [Bool.or_eq_true]
        right
        exact decide_eq_true fun z => by simp at z; omega
    · rw [TL.numL_step (by omega)]
      have q := ih (n / 10) (by omega)
      unfold can at q ⊢
      rw [Bool.or_eq_true] at q ⊢
      right
      refine decide_eq_true fun z => ?_
      rw [head_app (TL.numL_ne _)] at z
      rcases q with q | q
      · have q := of_decide_eq_true q
        have q1 : n / 10 = 0 := TL.numL_inj (q.trans (TL.numL_lt (n := 0) (by decide)).symm)
        omega
      · exact of_decide_eq_true q z
theorem numL_all (v : Nat) : (TL.numL v).all isD = true := List.all_eq_true.mpr fun c hc => isD_iff.mpr (TL.numL_digits v c hc)
theorem numL_figs {v : Nat} (h : v < 10 ^ 300) : figs (TL.numL v) = true := by
  unfold figs
  rw [numL_all, decide_eq_true (List.length_pos_iff.mpr (TL.numL_ne v)), decide_eq_true (TL.numL_len (by decide) h)]
  rfl
theorem digits_snoc (r : List Nat) (c : Nat) : valN (r ++ [c]) = valN r * 10 + (c - 48) := by
  unfold valN NumText.digitsVal
  rw [List.foldl_append]
  rfl
theorem can_val (l : List Nat) : l.all isD = true → l ≠ [] → can l = true → TL.numL (valN l) = l := by
  induction hn : l.length generalizing l with
  | zero => intro _ h; exact absurd (List.eq_nil_of_length_eq_zero hn) h
  | succ n ih =>
    intro ha hne hc
    have el := (List.dropLast_concat_getLast hne).symm
    generalize l.getLast hne = c at el
    have hl : l.dropLast.length = n := by rw [List.length_dropLast]; omega
    generalize l.dropLast = r at el hl
    subst el
    rw [List.all_append, Bool.and_eq_true] at ha
    have hcd : 48 ≤ c ∧ c ≤ 57 := isD_iff.mp (by simpa using ha.2)
    rw [digits_snoc]
    by_cases hr : r = []
    · subst hr
      show TL.numL (0 * 10 + (c - 48)) = [c]
      rw [TL.numL_lt (by omega)]
      congr 1
      omega
    · have hr1 : can r = true := by
        unfold can at hc ⊢
        rw [Bool.or_eq_true] at hc ⊢
        rcases hc with z | z
        · have z := of_decide_eq_true z
          have l := congrArg List.length z
          simp at l
          exact absurd l hr
        · right
          have z := of_decide_eq_true z
          rw [head_app hr] at z
          exact decide_eq_true z
      have e := ih r hl ha.1 hr hr1
      have vp : 1 ≤ valN r := by
        rcases Nat.eq_zero_or_pos (valN r) with z | z
        · rw [z, TL.numL_lt (by decide)] at e
          subst e
          unfold can at hc
          rw [Bool.or_eq_true] at hc
          rcases hc with z | z
          · have z := of_decide_eq_true z
            simp at z
          · exact absurd rfl (of_decide_eq_true z)
        · exact z
      rw [TL.numL_step (by omega)]
      rw [show (valN r * 10 + (c - 48)) / 10 = valN r by omega, show (valN r * 10 + (c - 48)) % 10 = c - 48 by omega, e]
      congr 2
      omega
theorem mkR_one (n : Int) : mkR n 1 = (n, 1) := by
  have g : sg n 1 = 1 := by
    unfold sg
    rw [if_neg (by decide)]
    show ((Nat.gcd n.natAbs 1 : Nat) : Int) = 1
    rw [Nat.gcd_one_right]
    rfl
  unfold mkR
  rw [g, Int.fdiv_one]
  rfl
theorem digit_head {p r : List Nat} (h : p.all isD = true) : p ≠ 45 :: r := fun e => by
  subst e
  have := isD_iff.mp (List.all_eq_true.mp h 45 (List.mem_cons_self ..))
  omega
/-- a digit text that is the text of a whole number is without a needless 0 -/
theorem can_of {n : Bool} {p : List Nat} {i : Int} (hp : p.all isD = true) (h : intL i = (if n then [45] else []) ++ p) : can p = true := by
  cases n with
  | true =>
    have h : intL i = 45 :: p := h
    unfold intL at h
    split at h
    · injection h with _ h
      rw [← h]
      exact numL_can _
    · exact absurd h (digit_head (numL_all _))
  | false =>
    have h : intL i = p := h
    unfold intL at h
    split at h
    · exact absurd h.symm (digit_head hp)
    · rw [← h]
      exact numL_can _
theorem split_at : ∀ {a c b d : List Nat}, 47 ∉ a → 47 ∉ c → a ++ 47 :: b = c ++ 47 :: d → a = c ∧ b = d
  | [], [], b, d, _, _, h => ⟨rfl, by injection h⟩
  | [], x :: c, b, d, _, hc, h => by
    injection h with h1 h2
    exact absurd (h1 ▸ List.mem_cons_self ..) hc
  | x :: a, [], b, d, ha, _, h => by
    injection h with h1 h2
    exact absurd (h1 ▸ List.mem_cons_self ..) ha
  | x :: a, y :: c, b, d, ha, hc, h => by
    injection h with h1 h2
    obtain ⟨e1, e2⟩ := split_at (fun z => ha (List.mem_cons_of_mem _ z)) (fun z => hc (List.mem_cons_of_mem _ z)) h2
    exact ⟨by rw [h1, e1], e2⟩
theorem has47 : ∀ (l : List Nat), 47 ∈ l → ∃ p q, l = p ++ ([47] ++ q) ∧ 47 ∉ p
  | c :: r, h => by
    by_cases e : c = 47
    · subst e
      exact ⟨[], r, rfl, by simp⟩
    · rcases List.mem_cons.mp h with z | z
      · exact absurd z.symm e
      · obtain ⟨p, q, e1, e2⟩ := has47 r z
        refine ⟨c :: p, q, by rw [e1]; rfl, fun m => ?_⟩
        rcases List.mem_cons.mp m with m | m
        · exact e m.symm
        · exact e2 m
theorem spl_ne (q : List Nat) : TL.spl [47] 0 [] q ≠ [] := by
  by_cases h : 47 ∈ q
  · obtain ⟨p, r, e, hp⟩ := has47 q h
    subst e
    rw [TL.spl_part1 (S := []) hp]
    exact List.cons_ne_nil _ _
  · rw [TL.spl_last1 (S := []) h]
    exact List.cons_ne_nil _ _
theorem figs_free {q : List Nat} (h : figs q = true) : 47 ∉ q := fun m => by
  unfold figs at h
  rw [Bool.and_eq_true] at h
  have := isD_iff.mp (List.all_eq_true.mp h.2 47 m)
  omega
theorem figs_all {q : List Nat} (h : figs q = true) : q.all isD = true := by
  unfold figs at h
  rw [Bool.and_eq_true] at h
  exact h.2
theorem fin_none {n : Bool} {t u : Int} {l : List Nat} (h : u ≠ 0 → txL (mkR (if n then -t else t) u) ≠ l) : fin n t u l = none := by
  unfold fin
  by_cases z : u = 0
  · rw [if_pos z]
  · rw [if_neg z, if_neg (h z)]
theorem due_rd (l : List Nat) : due l = rd l := by
  have hs := neg_split (l := l)
  unfold due rd
  by_cases h : 47 ∈ bod l
  · obtain ⟨p, q, e, hp⟩ := has47 _ h
    have sgf : 47 ∉ (if neg l then [45] else []) ++ p := by
      intro m
      rcases List.mem_append.mp m with m | m
      · split at m
        · simp at m
        · simp at m
      · exact hp m
    rw [e, TL.par_part1 (S := []) hp, TL.spl_part1 (S := []) hp, List.nil_append]
    by_cases hq : 47 ∈ q
    · obtain ⟨q1, q2, e2, hq1⟩ := has47 _ hq
      have f : figs q = false := by
        cases z : figs q
        · rfl
        · exact absurd hq (figs_free z)
      show _ = rdP p q l
      unfold rdP
      rw [f, Bool.and_false, if_neg Bool.false_ne_true]
      rw [e2, TL.spl_part1 (S := []) hq1, List.nil_append]
      cases z : TL.spl [47] 0 [] q2 with
      | nil => exact absurd z (spl_ne q2)
      | cons a b => rfl
    · rw [TL.spl_last1 (S := []) hq, List.nil_append]
      show (if figL p && figL q then fin (neg l) (vl p) (vl q) l else none) = rdP p q l
      unfold rdP
      by_cases fp : figs p = true
      · by_cases fq : figs q = true
        · rw [fp, fq]
          unfold figL
          rw [fp, fq]
          by_cases c : can p = true ∧ can q = true
          · rw [c.1, c.2]
            rfl
          · have n : (true && can p && (true && can q)) = false := by
              cases z1 : can p <;> cases z2 : can q <;> first | rfl | exact absurd ⟨z1, z2⟩ c
            rw [n, if_neg Bool.false_ne_true, if_pos (show (true && true) = true from rfl)]
            refine (fin_none fun hz ht => c ?_).symm
            generalize hx : (if neg l = true then -vl p else vl p) = x at ht
            have low := mkR_low (a := x) hz
            rw [hs, e] at ht
            have ht2 : txL (mkR x (vl q)) = ((if neg l then [45] else []) ++ p) ++ 47 :: q := by
              rw [ht, List.append_assoc]
              rfl
            unfold txL at ht2
            split at ht2
            · exfalso
              have m : 47 ∈ ((if neg l then [45] else []) ++ p) ++ 47 :: q := List.mem_append_right _ (List.mem_cons_self ..)
              rw [← ht2] at m
              exact intL_free _ m
            · obtain ⟨e1, e2⟩ := split_at (intL_free _) sgf ht2
              refine ⟨can_of (figs_all fp) e1, ?_⟩
              exact can_of (n := false) (figs_all fq) e2
        · have fq' : figs q = false := by simpa using fq
          unfold figL
          rw [fq', Bool.and_false, Bool.false_and, Bool.and_false]
      · have fp' : figs p = false := by simpa using fp
        unfold figL
        rw [fp']
        rfl
  · rw [TL.par_none1 (S := []) h, TL.spl_last1 (S := []) h, List.nil_append]
    show (if figL (bod l) then fin (neg l) (vl (bod l)) 1 l else none) = rdP (bod l) [49] l
    unfold rdP
    rw [show figs [49] = true from by decide +kernel, Bool.and_true, show vl [49] = 1 from by decide +kernel]
    unfold figL
    by_cases fp : figs (bod l) = true
    · rw [fp, Bool.true_and, if_pos (rfl : true = true)]
      by_cases c : can (bod l) = true
      · rw [if_pos c]
      · rw [if_neg c]
        refine (fin_none fun hz ht => c ?_).symm
        rw [mkR_one] at ht
        unfold txL at ht
        rw [if_pos rfl] at ht
        exact can_of (figs_all fp) (ht.trans hs)
    · have fp' : figs (bod l) = false := by simpa using fp
      rw [fp']
      rfl
end LL


set_option Elab.async false
set_option linter.all false
set_option maxRecDepth 100000
set_option maxHeartbeats 4000000
/-! LLComp: list comprehensions: the list is owned while it is made -/
namespace LL
open PySem PySem.Spec PyProof.Rows L2
open Evl (Ex)
/-- what an iterable gives, whatever is owned besides -/
def Src (K : PySem.W.Frag) (O : Addr → Bool) (J : Hp → Prop) (Γ : List Sl) (wi : TI) (n : Nat) (it : Nat → PyData) : Prop :=
  ∀ (σ : L2.St) (H1 : Hp), J H1 → En K O σ Γ H1 → ∀ R : It → Hp → Prop, (∀ (I : It) (H2 : Hp), J H2 → Step O H1 H2 →
    (∀ (O' : Addr → Bool) (H3 : Hp), Ex (hid O H2) (hid O' H3) → (∀ i, i < n → I.go i H3 ∧ ∀ x H4, I.yld i H3 x H4 → H4 = H3 ∧ Dp K (hid O' H3) x (it i)) ∧ ∀ i, n ≤ i → I.stop i H3) → R I H2) → wi σ H1 R
section
variable {K : PySem.W.Frag} {O : Addr → Bool} {J : Hp → Prop} {Γ : List Sl} {te tl : TE} {ta : TA}
theorem src_list {ds : List PyData} (h : ED K O J Γ tl (.list ds)) : Src K O J Γ (iList K tl) ds.length (fun i => ds.getD i .none) := fun σ H1 hJ hE R q =>
  h σ H1 hJ hE _ fun s v H2 ps hJ2 st o => by
    cases ps
    have o : Dp K (hid O H2) v (.list ds) := o
    cases o with
    | @lst a xs _ hq ha =>
      refine ⟨a, rfl, ⟨xs, Evl.ex_l hid_ex hq⟩, q _ H2 hJ2 st fun O' H3 e => ?_⟩
      have hq3 : SqL K H3 a xs := Evl.ex_l hid_ex (Evl.ex_l e hq)
      have hl := dpLen ha
      refine ⟨fun i hi => ?_, fun i hi => ⟨xs, hq3, by omega⟩⟩
      have ed : ds[i]? = some (ds.getD i .none) := by rw [List.getD_eq_getElem?_getD, List.getElem?_eq_getElem hi]; rfl
      obtain ⟨y, e1, e2⟩ := dpAt ha ed
      refine ⟨⟨xs, y, hq3, e1⟩, fun x H4 ⟨e4, hx⟩ => ⟨e4, ?_⟩⟩
      have := hx xs hq3
      rw [e1] at this
      cases (Option.some.inj this)
      exact dpGrow e e2
theorem src_tup {ds : List PyData} (h : ED K O J Γ tl (.tuple ds)) : Src K O J Γ (iTup K tl) ds.length (fun i => ds.getD i .none) := fun σ H1 hJ hE R q =>
  h σ H1 hJ hE _ fun s v H2 ps hJ2 st o => by
    cases ps
    have o : Dp K (hid O H2) v (.tuple ds) := o
    cases o with
    | @tup a xs _ hq ha =>
      refine ⟨a, rfl, ⟨xs, Evl.ex_t hid_ex hq⟩, q _ H2 hJ2 st fun O' H3 e => ?_⟩
      have hq3 : SqT K H3 a xs := Evl.ex_t hid_ex (Evl.ex_t e hq)
      have hl := dpLen ha
      refine ⟨fun i hi => ?_, fun i hi => ⟨xs, hq3, by omega⟩⟩
      have ed : ds[i]? = some (ds.getD i .none) := by rw [List.getD_eq_getElem?_getD, List.getElem?_eq_getElem hi]; rfl
      obtain ⟨y, e1, e2⟩ := dpAt ha ed
      refine ⟨⟨xs, y, hq3, e1⟩, fun x H4 ⟨e4, hx⟩ => ⟨e4, ?_⟩⟩
      have := hx xs hq3
      rw [e1] at this
      cases (Option.some.inj this)
      exact dpGrow e e2
theorem src_range {n : Int} (h : EAs K O J Γ ta [.da (.int n)]) (hn : n < 2 ^ 62) (hn' : -(2 ^ 62) ≤ n) : Src K O J Γ (iRng1 ta) n.toNat (fun i => .int (i : Int)) := fun σ H1 hJ hE R q =>
  h σ H1 hJ hE _ fun ss vs H2 ps hJ2 st o => by
    cases ps
    obtain ⟨v, rfl, o1⟩ := sl1 o
    cases o1
    refine ⟨n, rfl, hn', hn, q _ H2 hJ2 st fun O' H3 e => ⟨fun i hi => ⟨hi, fun x H4 ⟨e4, hx⟩ => ⟨e4, ?_⟩⟩, fun i hi => hi⟩⟩
    rw [hx, Int.zero_add]
    exact .int _
theorem src_str {x : Str} (h : ED K O J Γ tl (.str x)) : Src K O J Γ (iStr tl) x.cps.size (fun i => .str ⟨#[x.cps.getD i 0]⟩) := fun σ H1 hJ hE R q =>
  h σ H1 hJ hE _ fun s v H2 ps hJ2 st o => by
    cases ps
    cases o
    refine ⟨x, rfl, q _ H2 hJ2 st fun O' H3 e => ⟨fun i hi => ⟨hi, fun y H4 ⟨e4, c, hc, hy⟩ => ⟨e4, ?_⟩⟩, fun i hi => hi⟩⟩
    rw [hy]
    have e : x.cps.getD i 0 = c := by
      rw [Array.getD_eq_getD_getElem?, hc]
      rfl
    show Dp K _ _ (.str ⟨#[x.cps.getD i 0]⟩)
    rw [e]
    exact .str _
/-- the same with a list owned besides -/
structure Ext (O : Addr → Bool) (J : Hp → Prop) (O' : Addr → Bool) (J' : Hp → Prop) : Prop where
  sub : ∀ b, O b = true → O' b = true
  to : ∀ H, J' H → J H
  gr : Gr J'
  fr : Fr J'
  hand : ∀ a c, HandJ O J a c → HandJ O' J' a c
def own1 (O : Addr → Bool) (D : Addr) : Addr → Bool := fun b => O b || decide (b = D)
theorem own1_D {D : Addr} : own1 O D D = true := by simp [own1]
theorem own1_sub {D b : Addr} (h : O b = true) : own1 O D b = true := by simp [own1, h]
theorem own1_ne {D b : Addr} (h : ¬ O b = true) (n : b ≠ D) : ¬ own1 O D b = true := by simp [own1, n]; simpa using h
theorem ext_of (G : Gr J) (F : Fr J) {H1 : Hp} {D : Addr} (hJ : J H1) (hD : H1 D = none) (tr : ∀ b, O b = true → H1 b ≠ none) (vs : List V) : Ext O J (own1 O D) (fun H => J H ∧ H D = some (.lst vs)) where
  sub := fun b h => own1_sub h
  to := fun H h => h.1
  gr := fun H H' e h => ⟨G H H' e h.1, e D _ h.2⟩
  fr := fun Ha D2 ha hn H' o h => by
    have ne : D ≠ D2 := fun z => by rw [← z, ha.2] at hn; cases hn
    exact ⟨F Ha D2 ha.1 hn H' o h.1, by rw [upd_ne ne]; exact h.2⟩
  hand := fun a c hj => by
    have na : D ≠ a := fun z => tr a hj.oa (z ▸ hD)
    refine ⟨own1_sub hj.oa, own1_sub hj.oc, fun H H' e h => ⟨G H H' e h.1, e D _ h.2⟩, fun Ha D2 ha hn H' o h => ?_, fun H h => hj.at_ H h.1, fun H H' h e hh => ⟨hj.but H H' h.1 e hh, e D _ na h.2⟩⟩
    have ne : D ≠ D2 := fun z => by rw [← z, ha.2] at hn; cases hn
    exact ⟨F Ha D2 ha.1 hn H' o h.1, by rw [upd_ne ne]; exact h.2⟩
theorem ex_hid_sub {O O' : Addr → Bool} {H : Hp} (h : ∀ b, O b = true → O' b = true) : Ex (hid O' H) (hid O H) := fun b o e => by
  unfold hid at e ⊢
  by_cases q : O' b = true
  · rw [if_pos q] at e; cases e
  · rw [if_neg q] at e
    rw [if_neg fun z => q (h b z)]
    exact e
/-- [te for j in wi if tt] -/
theorem e_lc {wi : TI} {tt : TT} {j n : Nat} {it : Nat → PyData} {b : Nat → Bool} {P : Sl → Prop} (G : Gr J) (F : Fr J) (hs : Src K O J Γ wi n it) (hn : n ≤ sizeLine) (I : Nat → List PyData → Prop) (h0 : I 0 [])
    (ht : ∀ O' J' i, Ext O J O' J' → i < n → ET K O' J' (Γ.set j (.da (it i))) tt (b i))
    (hb : ∀ O' J' i ds, Ext O J O' J' → i < n → I i ds → b i = true → EP K O' J' (Γ.set j (.da (it i))) te (fun s => ∃ d, s = .da d ∧ I (i + 1) (ds ++ [d])))
    (hc : ∀ i ds, i < n → I i ds → b i = false → I (i + 1) ds) (hd : ∀ ds, I n ds → P (.da (.list ds))) (hj : j < Γ.length) : EP K O J Γ (tLc wi (gName j) tt te [j]) P := fun σ H1 hJ hE Q q =>
  hs σ H1 hJ hE _ fun It H2 hJ2 st2 hit D hD => by
    have hE2 := hE.step st2
    have tr2 := hE2.tr
    have nO : ¬ O D = true := fun z => tr2 D z hD
    let O' := own1 O D
    let Hs := upd H2 D (.lst [])
    have e0 : Ex H2 Hs := Evl.Ex.new hD
    have eb : ∀ H3, Step O' Hs H3 → Ex (hid O H2) (hid O' H3) := fun H3 st => by
      refine Evl.Ex.trans (fun x o e => ?_) st.ex
      have nx : ¬ O x = true := fun z => by unfold hid at e; rw [if_pos z] at e; cases e
      have hx : H2 x = some o := by rw [hid_at nx] at e; exact e
      have nd : x ≠ D := fun z => by rw [z, hD] at hx; cases hx
      rw [hid_at (own1_ne nx nd)]
      show upd H2 D (.lst []) x = some o
      rw [upd_ne nd]
      exact hx
    have grow : ∀ H3, Step O' Hs H3 → Step O H2 H3 := fun H3 st => ⟨(eb H3 st).trans (ex_hid_sub fun b h => own1_sub h), fun x ox hx => st.tr x (own1_sub ox) (by
      have nd : x ≠ D := fun z => nO (by rw [← z]; exact ox)
      show upd H2 D (.lst []) x ≠ none
      rw [upd_ne nd]
      exact hx)⟩
    refine ⟨fun i m H3 => ∃ ds vs, i + m = n ∧ J H3 ∧ Step O' Hs H3 ∧ H3 D = some (.lst vs) ∧ DpAll K (hid O' H3) vs ds ∧ ds.length ≤ i ∧ I i ds, ⟨n, [], [], Nat.zero_add n, G _ _ e0 hJ2, .refl, upd_same .., .nil, Nat.le_refl _, h0⟩, ?_⟩
    rintro i m H3 ⟨ds, vs, him, hJ3, st3, hD3, hv, hl, hI⟩
    obtain ⟨go, stop⟩ := hit O' H3 (eb H3 st3)
    have hE3 : En K O' σ Γ H3 := by
      refine ⟨hE2.len, fun k s hk ns => ?_, fun x ox => ?_⟩
      · obtain ⟨v, a1, a2⟩ := hE2.at_ k s hk ns
        exact ⟨v, a1, a2.grow (eb H3 st3)⟩
      · by_cases z : x = D
        · rw [z, hD3]; exact fun z => nomatch z
        · have ox' : O x = true := by
            have : (O x || decide (x = D)) = true := ox
            simpa [z] using this
          exact st3.tr x ox (by show upd H2 D (.lst []) x ≠ none; rw [upd_ne z]; exact tr2 x ox')
    by_cases hi : i < n
    · right
      refine ⟨(go i hi).1, fun H => ∃ ds vs, J H ∧ Step O' Hs H ∧ H D = some (.lst vs) ∧ DpAll K (hid O' H) vs ds ∧ ds.length ≤ i + 1 ∧ I (i + 1) ds, fun H ⟨ds, vs, h1, h2, h3, h4, h5, h6⟩ => ⟨m - 1, by omega, ds, vs, by omega, h1, h2, h3, h4, h5, h6⟩, fun x H4 hy => ?_⟩
      obtain ⟨rfl, hx⟩ := (go i hi).2 x H4 hy
      have wp : wipe (((wipe σ [j]).set j (some x))) [j] = wipe σ [j] := by
        show ((σ.set j none).set j (some x)).set j none = σ.set j none
        rw [List.set_set, List.set_set]
      refine ⟨wp, ?_⟩
      have es : (wipe σ [j]).set j (some x) = σ.set j (some x) := by
        show (σ.set j none).set j (some x) = _
        rw [List.set_set]
      rw [es]
      have X := ext_of (O := O) G F hJ2 hD tr2 vs
      have hE4 : En K O' (σ.set j (some x)) (Γ.set j (.da (it i))) H4 := hE3.set hx
      refine ht O' _ i X hi (σ.set j (some x)) H4 ⟨hJ3, hD3⟩ hE4 _ fun H5 hJ5 st5 => ?_
      have st5' : Step O' Hs H5 := st3.trans st5
      cases hbi : b i with
      | true =>
        rw [if_pos rfl]
        refine hb O' _ i ds X hi hI hbi (σ.set j (some x)) H5 hJ5 (hE4.step st5) _ fun s y H6 ⟨d, es, hI'⟩ hJ6 st6 o => ?_
        subst es
        have st6' : Step O' Hs H6 := st5'.trans st6
        have gv := dpGrowAll (st5.trans st6).ex hv
        refine ⟨vs, hJ6.2, ?_, ds ++ [d], vs ++ [y], F _ _ hJ2 hD _ _ hJ6.1, ?_, upd_same .., ?_, ?_, hI'⟩
        · rw [dpLen hv]
          omega
        · refine st6'.trans ⟨fun x o e => ?_, fun x ox hx => ?_⟩
          · have nx : ¬ O' x = true := fun z => by unfold hid at e; rw [if_pos z] at e; cases e
            rw [hid_at nx] at e ⊢
            have nd : x ≠ D := fun z => nx (by rw [z]; exact own1_D)
            rw [upd_ne nd]
            exact e
          · by_cases z : x = D
            · rw [z, upd_same]; exact fun z => nomatch z
            · rw [upd_ne z]; exact hx
        · have ee : Ex (hid O' H6) (hid O' (upd H6 D (.lst (vs ++ [y])))) := fun x o e => by
            have nx : ¬ O' x = true := fun z => by unfold hid at e; rw [if_pos z] at e; cases e
            rw [hid_at nx] at e ⊢
            have nd : x ≠ D := fun z => nx (by rw [z]; exact own1_D)
            rw [upd_ne nd]
            exact e
          exact dpGrowAll ee (dpSnoc gv o)
        · rw [List.length_append]
          simp
          omega
      | false =>
        rw [if_neg Bool.false_ne_true]
        exact ⟨ds, vs, hJ5.1, st5', hJ5.2, dpGrowAll st5.ex hv, Nat.le_succ_of_le hl, hc i ds hi hI hbi⟩
    · left
      have ei : i = n := by omega
      subst ei
      refine ⟨stop i (Nat.le_refl _), q _ _ H3 (hd ds hI) hJ3 (st2.trans (grow H3 st3)) ?_⟩
      refine .lst (Evl.sq_of ?_) (dpGrowAll (ex_hid_sub fun b h => own1_sub h) hv)
      rw [hid_at nO]
      exact hD3
end
end LL


set_option Elab.async false
set_option linter.all false
set_option maxRecDepth 100000
set_option maxHeartbeats 4000000
/-! LLTop: the head of a law: the hand is made and owned from there on -/
namespace LL
open PySem PySem.Spec PyProof.Rows L2
open Evl (Ex)
theorem law_top {K : PySem.W.Frag} {tail : TS} {N : List Str} {m : Nat} (hN : N.length = m + 2)
    (h : ∀ (O : Addr → Bool) (J : Hp → Prop) (a c : Addr), HandJ O J a c → Ok K O J (.un :: .va (.ref a) :: List.replicate m .un) tail { rt := fun s => s = .da (.bool true) })
    (vs : List V) (H : Hp) (Q : VK) (E : XK) (hs : spLaw K vs H Q E) :
    tSeq (tAsg (tCall (sp__law_hand K) [] E0 (tCons (tVar 0) tNil)) (gName 1)) tail { nx := fun _ H' => Q .non H', rt := Q } (L2.start N vs) H := by
  obtain ⟨s, ns, rfl, hS, hl, q⟩ := hs
  have es : L2.start N [.ref s] = some (.ref s) :: none :: List.replicate m none := by
    unfold L2.start
    rw [show N.length - ([V.ref s] : List V).length = m + 1 by rw [List.length_singleton]; omega]
    rfl
  rw [es]
  refine ⟨_, rfl, s, ns, rfl, hS, hl, fun a c H1 na nc e1 hh => ?_⟩
  have hac : a ≠ c := fun z => by
    obtain ⟨cells, i, z1, t, h1, h2, _⟩ := hh
    rw [z] at h1
    rw [h1] at h2
    have := Option.some.inj h2
    injection this with this
    match cells, this with
    | [], h => cases h
    | x :: r, h => cases h
  have hj : HandJ (fun b => decide (b = a ∨ b = c)) (fun H' => HandAt a c H') a c := ⟨by simp, by simp, fun H1 H2 e j => j.grow e, HandAt.fr a c, fun _ j => j, fun _ _ _ _ h => h⟩
  have en : En K (fun b => decide (b = a ∨ b = c)) (some (.ref s) :: some (.ref a) :: List.replicate m none) (.un :: .va (.ref a) :: List.replicate m .un) H1 := by
    refine ⟨by simp, fun i x h n => ?_, fun b h => ?_⟩
    · match i, h with
      | 0, h => exact absurd (Option.some.inj h).symm n
      | 1, h =>
        cases (Option.some.inj h)
        exact ⟨_, rfl, rfl⟩
      | i + 2, h =>
        have := List.eq_of_mem_replicate (List.mem_of_getElem? h)
        exact absurd this n
    · have h' := of_decide_eq_true h
      rcases h' with rfl | rfl
      · exact hh.two.1
      · exact hh.two.2
  refine h _ _ a c hj { nx := fun _ H' => Q .non H', rt := Q } _ H1 hh en ⟨fun s v H2 r j st o => ?_, fun _ _ _ z => z.elim, fun _ _ _ z => z.elim, fun _ _ _ z => z.elim⟩
  have r' : s = .da (.bool true) := r
  subst r'
  cases o
  exact q H2
theorem len_law {K : PySem.W.Frag} (vs : List V) (H : Hp) (Q : VK) (E : XK) (h : spLaw K vs H Q E) : vs.length = (["_law_script"] : List Str).length := by
  obtain ⟨a, ns, rfl, _⟩ := h
  rfl
theorem len__law_hand {K : PySem.W.Frag} (vs : List V) (H : Hp) (Q : VK) (E : XK) (h : sp__law_hand K vs H Q E) : vs.length = (["_law_script"] : List Str).length := by
  obtain ⟨a, ns, rfl, _⟩ := h
  rfl
theorem len__law_take {K : PySem.W.Frag} (vs : List V) (H : Hp) (Q : VK) (E : XK) (h : sp__law_take K vs H Q E) : vs.length = (["_law_hand_here", "_law_many"] : List Str).length := spH_len vs H Q E h
section
variable {K : PySem.W.Frag} {O : Addr → Bool} {J : Hp → Prop} {Γ : List Sl} {ta tb te : TE} {p q : Int × Int} {a c : Addr}
theorem same_t (G : Gr J) (h1 : ED K O J Γ ta (rt p)) (h2 : ED K O J Γ tb (rt p)) : ET K O J Γ (tNot (tTru K (tCall (sp__law_same K) [] E0 (tCons ta (tCons tb tNil))))) false :=
  t_is (t_not (t_truth (e_call (a_cons h1 (a_cons h2 a_nil)) (u_same G p p)) True.intro)) (by show (!sameQ p p) = false; rw [sameQ_refl]; rfl)
theorem truth_t (G : Gr J) {b : Bool} (h1 : ED K O J Γ ta (.bool b)) (h2 : ED K O J Γ tb (.bool b)) : ET K O J Γ (tNot (tTru K (tCall (sp__law_truth K) [] E0 (tCons ta (tCons tb tNil))))) false :=
  t_is (t_not (t_truth (e_call (a_cons h1 (a_cons h2 a_nil)) (u_truth G b b)) True.intro)) (by show (!decide (b = b)) = false; rw [decide_eq_true rfl]; rfl)
/-- _law_take(hand, many) with the hand in any slot -/
theorem d_takeAt {n : Nat} (hj : HandJ O J a c) (h0 : Γ[n]? = some (.va (.ref a))) (m : Int) (m0 : 0 < m) (m1 : m ≤ 1000000000) (hm : ED K O J Γ te (.int m)) : EP K O J Γ (tCall (sp__law_take K) [] E0 (tCons (tVar n) (tCons te tNil))) (fun s => ∃ r, s = .da (.int r) ∧ (0 ≤ r ∧ r < m)) :=
  e_call (a_cons (e_v h0) (a_cons hm a_nil)) (u_take hj m0 m1)
theorem d_oddAt {n : Nat} (hj : HandJ O J a c) (h0 : Γ[n]? = some (.va (.ref a))) : EP K O J Γ (tCall (sp__law_odd K) [] E0 (tCons (tVar n) tNil)) (fun s => ∃ d, d ∈ oddL ∧ s = .da d) :=
  e_call (a_cons (e_v h0) a_nil) (spH_us hj rfl rfl fun _ h => h)
/-- one of a written list, drawn -/
theorem e_pick {ds : List PyData} (h1 : ED K O J Γ ta (.list ds)) (h2 : EP K O J Γ tb (fun s => ∃ r, s = .da (.int r) ∧ (0 ≤ r ∧ r < (ds.length : Int)))) : EP K O J Γ (tOp (rIxL K) ta tb) (fun s => ∃ d, d ∈ ds ∧ s = .da d) :=
  e_op h1 h2 fun s1 s2 x y H1 p1 ⟨r, e, r0, r1⟩ hJ tr o1 o2 Q q => by
    subst p1 e
    cases o2
    have o1 : Dp K (hid O H1) x (.list ds) := o1
    cases o1 with
    | lst hs ha =>
      obtain ⟨k, rfl⟩ := Int.eq_ofNat_of_zero_le r0
      have hk : k < ds.length := by omega
      obtain ⟨v, e1, e2⟩ := dpAt ha (List.getElem?_eq_getElem hk)
      exact ⟨_, _, _, v, rfl, rfl, Evl.ex_l hid_ex hs, atI_nat e1, q _ _ H1 ⟨ds[k], List.getElem_mem hk, rfl⟩ hJ .refl e2⟩
theorem a_oneP {P : Sl → Prop} (h : EP K O J Γ te P) : EA K O J Γ (tCons te tNil) (fun ss => ∃ s, ss = [s] ∧ P s) :=
  a_consP (Ps := fun x => x = []) h a_nil fun s ss p e => ⟨s, by rw [e], p⟩
end
end LL


set_option Elab.async false
set_option linter.all false
set_option maxRecDepth 100000
set_option maxHeartbeats 4000000
/-! LLZip: zip of two sequences, each a list or a tuple -/
namespace LLZ
open PySem PySem.Spec PyProof.Rows L2
/-- an iterator's state, the sequence's items; k: a list -/
def Cur (k : Bool) (h : Heap) (it l : Addr) (i : Nat) : Prop := match k with
  | true => h.IsListIter it l i
  | false => h.IsTupleIter it l i
def Sqn (k : Bool) (h : Heap) (l : Addr) (xs : Array Value) : Prop := match k with
  | true => h.IsList l xs
  | false => h.IsTuple l xs
theorem Cur.kept {k : Bool} {h h' : Heap} {it l : Addr} {i : Nat} (c : Cur k h it l i) (e : ∀ o, h.get? it = some o → h'.get? it = some o) : Cur k h' it l i := by
  cases k
  · exact Heap.IsTupleIter.at c e
  · exact Heap.IsListIter.at c e
theorem Cur.is {k : Bool} {h : Heap} {it l : Addr} {i : Nat} (c : Cur k h it l i) : ∃ o, h.get? it = some o ∧ ∀ v, o.data ≠ .cell v := by
  cases k <;> obtain ⟨o, e, _, d⟩ := c <;> exact ⟨o, e, fun v q => by rw [d] at q; cases q⟩
theorem Sqn.kept {k : Bool} {h h' : Heap} {l : Addr} {xs : Array Value} (c : Sqn k h l xs) (e : ∀ o, h.get? l = some o → h'.get? l = some o) : Sqn k h' l xs := by
  cases k <;> obtain ⟨o, a, r⟩ := c <;> exact ⟨o, e o a, r⟩
section
variable {prog : Program} {w : World} {A : Around} {E : Value → Shared → Prop} {s : Shared}
theorem nx_item {k : Bool} {it l : Addr} {i : Nat} {xs : Array Value} {x : Value} {Q : Value → Shared → Prop} (c : Cur k s.heap it l i) (q : Sqn k s.heap l xs) (e : xs[i]? = some x)
    (hQ : ∀ h', Cur k h' it l (i + 1) → Heap.SameBut it s.heap h' → Q x { s with heap := h' }) : wpAny (model prog w) A (Builtin.SmallTypes.nextOf (.ref it)) Q E s := by
  cases k
  · exact RZ.nextOf_tuple_item c q e hQ
  · exact wpAny_nextOf_list_item c q e hQ
theorem nx_end {k : Bool} {it l : Addr} {i : Nat} {xs : Array Value} {Q : Value → Shared → Prop} (hh : A.handled = none) (c : Cur k s.heap it l i) (q : Sqn k s.heap l xs) (e : xs[i]? = none)
    (hE : ∀ h' x, Heap.ExtBut it s.heap h' → (∃ o, h'.get? x = some o ∧ o.cls = .type "StopIteration") → E (.ref x) { s with heap := h' }) : wpAny (model prog w) A (Builtin.SmallTypes.nextOf (.ref it)) Q E s := by
  cases k
  · exact RZ.nextOf_tuple_end hh c q e hE
  · exact wpAny_nextOf_list_end hh c q e hE
/-- what the two heaps share besides the zip's own -/
def Rest (h h' : Heap) (zc pO ia ib : Addr) : Prop := ∀ b o, b ≠ zc → b ≠ pO → b ≠ ia → b ≠ ib → h.get? b = some o → h'.get? b = some o
/-- a turn of zip -/
theorem zp_item {k1 k2 : Bool} {zc pI pO ia ib la lb : Addr} {m n : Nat} {xs ys : Array Value} {x y u v : Value} {Q : Value → Shared → Prop} (D : ZipApart zc pI pO ia ib la lb)
    (fz : IsZip s.heap zc pI pO .none) (fI : IsPair s.heap pI (.ref ia) (.ref ib)) (fO : IsPair s.heap pO u v) (c1 : Cur k1 s.heap ia la m) (c2 : Cur k2 s.heap ib lb n) (q1 : Sqn k1 s.heap la xs) (q2 : Sqn k2 s.heap lb ys)
    (e1 : xs[m]? = some x) (e2 : ys[n]? = some y)
    (done : ∀ h', IsZip h' zc pI pO (rawInt s.heap.objs.size) → IsPair h' pO x y → Cur k1 h' ia la (m + 1) → Cur k2 h' ib lb (n + 1) → IsPair h' s.heap.objs.size x y → Rest s.heap h' zc pO ia ib → Q (.ref s.heap.objs.size) { s with heap := h' }) :
    wpAny (model prog w) A (Builtin.«zip.__next__» ⟨[.ref zc], []⟩) (fun r s' => ∃ t, r = .done (.ret t) ∧ Q t s') E s := by
  show wpAny _ _ (field (.ref zc) 2 >>= _) _ _ _
  refine wpAny_bind (wpAny_field fz rfl (x := .bool false) rfl ?_); show wpAny _ _ (field (.ref zc) 3 >>= _) _ _ _
  refine wpAny_bind (wpAny_field fz rfl (x := .ref pI) rfl (wpAny_bind (wpAny_seqItems fI rfl ?_)))
  show wpAny _ _ (Builtin.SmallTypes.ownedTupleIsFree (.ref zc) >>= _) _ _ _
  refine wpAny_bind ?_; unfold Builtin.SmallTypes.ownedTupleIsFree
  refine wpAny_bind (wpAny_field fz rfl (x := .none) rfl (wpAny_pure ?_)); simp only [if_true]
  refine wpAny_bind (wpAny_rule (wpAny_bind (wpAny_field fz rfl (x := .ref pO) rfl (wpAny_bind (wpAny_setField_rec fz (by simp) fun a1 z1 s1 => ?_)))))
  have z1 : IsZip a1 zc pI pO .ellipsis := z1
  refine wpAny_bind ?_; simp only [List.zipIdx_cons, List.zipIdx_nil, List.forIn_cons, List.forIn_nil]
  refine wpAny_bind (wpAny_bind (wpAny_onRaise ?_)); show wpAny _ _ (Builtin.SmallTypes.nextOf (.ref ia) >>= _) _ _ _
  refine wpAny_bind (nx_item (c1.kept fun o e => s1.extBut _ _ D.i1z e) (q1.kept fun o e => s1.extBut _ _ D.l1z e) e1 fun a2 d1 s2 => wpAny_pure ?_)
  have o2 : IsPair a2 pO u v := s2.extBut _ _ D.TOi1 (s1.extBut _ _ D.TOz fO)
  refine wpAny_bind (wpAny_seqItems o2 rfl (wpAny_bind (wpAny_updateSeq_pair o2 fun a3 o3 s3 => wpAny_bind (wpAny_letGo (wpAny_pure ?_)))))
  have o3 : IsPair a3 pO x v := o3
  refine wpAny_bind (wpAny_bind (wpAny_onRaise ?_)); show wpAny _ _ (Builtin.SmallTypes.nextOf (.ref ib) >>= _) _ _ _
  have to3 : ∀ b o, b ≠ zc → b ≠ pO → b ≠ ia → s.heap.get? b = some o → a3.get? b = some o := fun b o n1 n2 n3 e => s3.extBut _ _ n2 (s2.extBut _ _ n3 (s1.extBut _ _ n1 e))
  refine wpAny_bind (nx_item (c2.kept fun o e => to3 _ o D.i2z D.TOi2.symm D.i12.symm e) (q2.kept fun o e => to3 _ o D.l2z D.l2TO D.l2i1 e) e2 fun a4 d2 s4 => wpAny_pure ?_)
  have o4 : IsPair a4 pO x v := s4.extBut _ _ D.TOi2 o3
  refine wpAny_bind (wpAny_seqItems o4 rfl (wpAny_bind (wpAny_updateSeq_pair o4 fun a5 o5 s5 => wpAny_bind (wpAny_letGo (wpAny_pure (wpAny_pure ?_))))))
  have o5 : IsPair a5 pO x y := o5
  refine wpAny_bind (wpAny_seqItems o5 rfl (wpAny_bind (wpAny_newTuple ?_)))
  have to5 : Rest s.heap a5 zc pO ia ib := fun b o n1 n2 n3 n4 e => s5.extBut _ _ n2 (s4.extBut _ _ n4 (to3 b o n1 n2 n3 e))
  have w5 : IsZip a5 zc pI pO .ellipsis := s5.extBut _ _ D.TOz.symm (s4.extBut _ _ D.i2z.symm (s3.extBut _ _ D.TOz.symm (s2.extBut _ _ D.i1z.symm z1)))
  have d15 : Cur k1 a5 ia la (m + 1) := d1.kept fun o e => s5.extBut _ _ D.TOi1.symm (s4.extBut _ _ D.i12 (s3.extBut _ _ D.TOi1.symm e))
  have d25 : Cur k2 a5 ib lb (n + 1) := d2.kept fun o e => s5.extBut _ _ D.TOi2.symm e
  have big : a5.objs.size = s.heap.objs.size := by rw [s5.1, s4.1, s3.1, s2.1, s1.1]
  have lt : zc < a5.objs.size := Heap.lt_size w5
  show wpAny _ _ (Builtin.SmallTypes.ownedTupleHandOut (.ref zc) (.ref a5.objs.size) >>= _) _ _ _
  refine wpAny_bind ?_; unfold Builtin.SmallTypes.ownedTupleHandOut
  have w6 : IsZip (a5.push { cls := .type "tuple", data := .seq #[x, y] }) zc pI pO .ellipsis := Heap.get?_push_of_some _ w5
  refine wpAny_bind (wpAny_setField_rec w6 (by simp) fun a7 w7 s7 => ?_)
  have w7 : IsZip a7 zc pI pO (rawInt a5.objs.size) := w7
  refine wpAny_setField_rec w7 (by simp) fun a8 w8 s8 => ?_
  have w8 : IsZip a8 zc pI pO (rawInt a5.objs.size) := w8
  have to8 : ∀ b o, b ≠ zc → a5.get? b = some o → a8.get? b = some o := fun b o n1 e => s8.extBut _ _ n1 (s7.extBut _ _ n1 (Heap.get?_push_of_some _ e))
  have p8 : IsPair a8 a5.objs.size x y := s8.extBut _ _ (Nat.ne_of_gt lt) (s7.extBut _ _ (Nat.ne_of_gt lt) (Heap.get?_push_size _ rfl))
  rw [big] at w8 p8
  refine wpAny_pure ⟨_, rfl, ?_⟩
  show Q (.ref a5.objs.size) _
  rw [big]
  exact done a8 w8 (to8 _ _ D.TOz o5) (d15.kept fun o e => to8 _ o D.i1z e) (d25.kept fun o e => to8 _ o D.i2z e) p8 fun b o n1 n2 n3 n4 e => to8 b o n1 (to5 b o n1 n2 n3 n4 e)
/-- the end of zip -/
theorem zp_end {k1 k2 : Bool} {zc pI pO ia ib la lb : Addr} {m n : Nat} {xs ys : Array Value} {u v : Value} {Q : Fin → Shared → Prop} (hh : A.handled = none) (D : ZipApart zc pI pO ia ib la lb)
    (fz : IsZip s.heap zc pI pO .none) (fI : IsPair s.heap pI (.ref ia) (.ref ib)) (fO : IsPair s.heap pO u v) (c1 : Cur k1 s.heap ia la m) (c2 : Cur k2 s.heap ib lb n) (q1 : Sqn k1 s.heap la xs) (q2 : Sqn k2 s.heap lb ys)
    (over : xs[m]? = none ∨ ys[n]? = none) (done : ∀ h' x, Rest s.heap h' zc pO ia ib → (∃ o, h'.get? x = some o ∧ o.cls = .type "StopIteration") → E (.ref x) { s with heap := h' }) :
    wpAny (model prog w) A (Builtin.«zip.__next__» ⟨[.ref zc], []⟩) Q E s := by
  show wpAny _ _ (field (.ref zc) 2 >>= _) _ _ _
  refine wpAny_bind (wpAny_field fz rfl (x := .bool false) rfl ?_); show wpAny _ _ (field (.ref zc) 3 >>= _) _ _ _
  refine wpAny_bind (wpAny_field fz rfl (x := .ref pI) rfl (wpAny_bind (wpAny_seqItems fI rfl ?_)))
  show wpAny _ _ (Builtin.SmallTypes.ownedTupleIsFree (.ref zc) >>= _) _ _ _
  refine wpAny_bind ?_; unfold Builtin.SmallTypes.ownedTupleIsFree
  refine wpAny_bind (wpAny_field fz rfl (x := .none) rfl (wpAny_pure ?_)); simp only [if_true]
  refine wpAny_bind (wpAny_rule (wpAny_bind (wpAny_field fz rfl (x := .ref pO) rfl (wpAny_bind (wpAny_setField_rec fz (by simp) fun a1 z1 s1 => ?_)))))
  have z1 : IsZip a1 zc pI pO .ellipsis := z1
  refine wpAny_bind ?_; simp only [List.zipIdx_cons, List.zipIdx_nil, List.forIn_cons, List.forIn_nil]
  refine wpAny_bind (wpAny_bind (wpAny_onRaise ?_)); show wpAny _ _ (Builtin.SmallTypes.nextOf (.ref ia) >>= _) _ _ _
  have leave : ∀ (b : Heap) (x : Addr), Rest s.heap b zc pO ia ib → IsZip b zc pI pO .ellipsis → (∃ o, b.get? x = some o ∧ o.cls = .type "StopIteration") → wpAny (model prog w) A (setField (.ref zc) 0 .none) (fun _ s' => E (.ref x) s') E { s with heap := b } := fun b x r wz ⟨o, ho, hc⟩ => by
    have nz : x ≠ zc := fun q => by subst q; rw [wz] at ho; cases ho; simp at hc
    exact wpAny_setField_rec wz (by simp) fun b2 _ sb => done b2 x (fun d p n1 n2 n3 n4 e => sb.extBut _ _ n1 (r d p n1 n2 n3 n4 e)) ⟨o, sb.extBut _ _ nz ho, hc⟩
  cases g : xs[m]? with
  | none => exact wpAny_bind (nx_end hh (c1.kept fun o e => s1.extBut _ _ D.i1z e) (q1.kept fun o e => s1.extBut _ _ D.l1z e) g fun a2 x s2 f => leave a2 x (fun d p n1 n2 n3 n4 e => s2 _ _ n3 (s1.extBut _ _ n1 e)) (s2 _ _ D.i1z.symm z1) f)
  | some x =>
    have e2 : ys[n]? = none := over.elim (fun q => by rw [g] at q; cases q) _root_.id
    refine wpAny_bind (nx_item (c1.kept fun o e => s1.extBut _ _ D.i1z e) (q1.kept fun o e => s1.extBut _ _ D.l1z e) g fun a2 d1 s2 => wpAny_pure ?_)
    have o2 : IsPair a2 pO u v := s2.extBut _ _ D.TOi1 (s1.extBut _ _ D.TOz fO)
    refine wpAny_bind (wpAny_seqItems o2 rfl (wpAny_bind (wpAny_updateSeq_pair o2 fun a3 o3 s3 => wpAny_bind (wpAny_letGo (wpAny_pure ?_)))))
    refine wpAny_bind (wpAny_bind (wpAny_onRaise ?_)); show wpAny _ _ (Builtin.SmallTypes.nextOf (.ref ib) >>= _) _ _ _
    have to3 : ∀ b o, b ≠ zc → b ≠ pO → b ≠ ia → s.heap.get? b = some o → a3.get? b = some o := fun b o n1 n2 n3 e => s3.extBut _ _ n2 (s2.extBut _ _ n3 (s1.extBut _ _ n1 e))
    exact wpAny_bind (nx_end hh (c2.kept fun o e => to3 _ o D.i2z D.TOi2.symm D.i12.symm e) (q2.kept fun o e => to3 _ o D.l2z D.l2TO D.l2i1 e) e2 fun a4 x s4 f =>
      leave a4 x (fun d p n1 n2 n3 n4 e => s4 _ _ n4 (to3 d p n1 n2 n3 e)) (s4 _ _ D.i2z.symm (s3.extBut _ _ D.TOz.symm (s2.extBut _ _ D.i1z.symm z1))) f)
theorem nx_zip {k1 k2 : Bool} {zc pI pO ia ib la lb : Addr} {m n : Nat} {xs ys : Array Value} {x y u v : Value} {Q : Option Value → Shared → Prop} (D : ZipApart zc pI pO ia ib la lb)
    (fz : IsZip s.heap zc pI pO .none) (fI : IsPair s.heap pI (.ref ia) (.ref ib)) (fO : IsPair s.heap pO u v) (c1 : Cur k1 s.heap ia la m) (c2 : Cur k2 s.heap ib lb n) (q1 : Sqn k1 s.heap la xs) (q2 : Sqn k2 s.heap lb ys)
    (e1 : xs[m]? = some x) (e2 : ys[n]? = some y)
    (done : ∀ h', IsZip h' zc pI pO (rawInt s.heap.objs.size) → IsPair h' pO x y → Cur k1 h' ia la (m + 1) → Cur k2 h' ib lb (n + 1) → IsPair h' s.heap.objs.size x y → Rest s.heap h' zc pO ia ib → Q (some (.ref s.heap.objs.size)) { s with heap := h' }) :
    wpAny (model prog w) A (pyNext (.ref zc)) Q E s := by
  have ty : s.TypeIs (.ref zc) "zip" := ⟨_, fz, rfl⟩
  unfold pyNext
  refine wpAny_bind (wpAny_attempt (wpAny_callSpecial?_slot (name := Str.ofString "__next__") ty PySem.F.slot_zip_next (wpAny_call_entry PySem.F.slot_zip_next ty PySem.F.entry_zip_next ?_ (PySem.F.args_zip_next_1 _))))
  exact zp_item D fz fI fO c1 c2 q1 q2 e1 e2 fun h' b1 b2 b3 b4 b5 b6 => wpAny_pure (done h' b1 b2 b3 b4 b5 b6)
theorem nx_zip_end {k1 k2 : Bool} {zc pI pO ia ib la lb : Addr} {m n : Nat} {xs ys : Array Value} {u v : Value} {Q : Option Value → Shared → Prop} (hh : A.handled = none) (D : ZipApart zc pI pO ia ib la lb)
    (fz : IsZip s.heap zc pI pO .none) (fI : IsPair s.heap pI (.ref ia) (.ref ib)) (fO : IsPair s.heap pO u v) (c1 : Cur k1 s.heap ia la m) (c2 : Cur k2 s.heap ib lb n) (q1 : Sqn k1 s.heap la xs) (q2 : Sqn k2 s.heap lb ys)
    (over : xs[m]? = none ∨ ys[n]? = none) (done : ∀ h', Rest s.heap h' zc pO ia ib → Q none { s with heap := h' }) : wpAny (model prog w) A (pyNext (.ref zc)) Q E s := by
  have ty : s.TypeIs (.ref zc) "zip" := ⟨_, fz, rfl⟩
  unfold pyNext
  refine wpAny_bind (wpAny_attempt (wpAny_callSpecial?_slot (name := Str.ofString "__next__") ty PySem.F.slot_zip_next (wpAny_call_entry PySem.F.slot_zip_next ty PySem.F.entry_zip_next (zp_end hh D fz fI fO c1 c2 q1 q2 over fun h' x r f => ?_) (PySem.F.args_zip_next_1 _))))
  obtain ⟨o, ho, hc⟩ := f
  exact wpAny_bind (wpAny_isInstance (T := "StopIteration") (b := true) ⟨o, ho, hc⟩ isSubtype_stop (wpAny_pure (done _ r)))
end
/-! ### zip is made -/
def itO (k : Bool) (l : Addr) : Obj := match k with
  | true => { cls := .type "list_iterator", data := .fields #[.ref l, .int 0 0] }
  | false => { cls := .type "tuple_iterator", data := .fields #[.ref l, .int 0 0] }
abbrev m1 (h : Heap) (k : Bool) (l : Addr) : Heap := h.push (itO k l)
abbrev m2 (h : Heap) (k1 k2 : Bool) (la lb : Addr) : Heap := (m1 h k1 la).push (itO k2 lb)
abbrev m3 (h : Heap) (k1 k2 : Bool) (la lb : Addr) : Heap := (m2 h k1 k2 la lb).push { cls := .type "tuple", data := .seq #[.ref h.objs.size, .ref (m1 h k1 la).objs.size] }
abbrev m4 (h : Heap) (k1 k2 : Bool) (la lb : Addr) : Heap := (m3 h k1 k2 la lb).push { cls := .type "tuple", data := .seq #[.none, .none] }
abbrev m5 (h : Heap) (k1 k2 : Bool) (la lb : Addr) : Heap := (m4 h k1 k2 la lb).push { cls := .type "zip", data := .fields #[.none, .bool false, .bool false, .ref (m2 h k1 k2 la lb).objs.size, .ref (m3 h k1 k2 la lb).objs.size] }
theorem made_zip (k1 k2 : Bool) (la lb : Addr) (xs ys : Array Value) : Meets (Builtin.«zip.__new__» ⟨[.type "zip", .ref la, .ref lb], []⟩) (fun _ R s => Sqn k1 s.heap la xs ∧ Sqn k2 s.heap lb ys ∧ R (.ok (.ret (.ref (m4 s.heap k1 k2 la lb).objs.size))) { s with heap := m5 s.heap k1 k2 la lb }) :=
  .of_wp fun prog w A R s ⟨g1, g2, h⟩ => by
    obtain ⟨hp, g, d, tk, os⟩ := s
    have hsub := sub_zip
    have u2 : Sqn k2 (m1 hp k1 la) lb ys := g2.kept fun o e => Heap.get?_push_of_some _ e
    cases k1 <;> cases k2
    · have w1 : Heap.IsTuple (Shared.heap ⟨hp, g, d, tk, os⟩) la xs := g1
      have w2 : Heap.IsTuple (Shared.heap ⟨hp.push { cls := .type "tuple_iterator", data := .fields #[.ref la, .int 0 0] }, g, d, tk, os⟩) lb ys := u2
      wp_walk using wpAny_pyIter_tuple w1, wpAny_pyIter_tuple w2
      exact ⟨_, rfl, h⟩
    · have w1 : Heap.IsTuple (Shared.heap ⟨hp, g, d, tk, os⟩) la xs := g1
      have w2 : Heap.IsList (Shared.heap ⟨hp.push { cls := .type "tuple_iterator", data := .fields #[.ref la, .int 0 0] }, g, d, tk, os⟩) lb ys := u2
      wp_walk using wpAny_pyIter_tuple w1, wpAny_pyIter_list w2
      exact ⟨_, rfl, h⟩
    · have w1 : Heap.IsList (Shared.heap ⟨hp, g, d, tk, os⟩) la xs := g1
      have w2 : Heap.IsTuple (Shared.heap ⟨hp.push { cls := .type "list_iterator", data := .fields #[.ref la, .int 0 0] }, g, d, tk, os⟩) lb ys := u2
      wp_walk using wpAny_pyIter_list w1, wpAny_pyIter_tuple w2
      exact ⟨_, rfl, h⟩
    · have w1 : Heap.IsList (Shared.heap ⟨hp, g, d, tk, os⟩) la xs := g1
      have w2 : Heap.IsList (Shared.heap ⟨hp.push { cls := .type "list_iterator", data := .fields #[.ref la, .int 0 0] }, g, d, tk, os⟩) lb ys := u2
      wp_walk using wpAny_pyIter_list w1, wpAny_pyIter_list w2
      exact ⟨_, rfl, h⟩
section
variable {prog : Program} {w : World} {A : Around} {E : Value → Shared → Prop} {s : Shared}
theorem call_zip {k1 k2 : Bool} {la lb : Addr} {xs ys : Array Value} {Q : Value → Shared → Prop} (g1 : Sqn k1 s.heap la xs) (g2 : Sqn k2 s.heap lb ys)
    (done : ∀ h', IsZip h' (s.heap.objs.size + 4) (s.heap.objs.size + 2) (s.heap.objs.size + 3) .none → IsPair h' (s.heap.objs.size + 2) (.ref s.heap.objs.size) (.ref (s.heap.objs.size + 1)) → IsPair h' (s.heap.objs.size + 3) .none .none →
      Cur k1 h' s.heap.objs.size la 0 → Cur k2 h' (s.heap.objs.size + 1) lb 0 → (∀ c o, s.heap.get? c = some o → h'.get? c = some o) → Q (.ref (s.heap.objs.size + 4)) { s with heap := h' }) : wpAny (model prog w) A (call (.type "zip") [.ref la, .ref lb]) Q E s := by
  refine callType_new PySem.F.called_zip (by decide) (PySem.F.typeCall_zip_2 _ _) (PySem.F.newCall_zip_2 _ _) (fun obj => PySem.F.args_object_init_3 obj _ _) PySem.F.entry_zip_new (made_zip k1 k2 la lb xs ys) ⟨g1, g2, ?_⟩
  have y1 : (m1 s.heap k1 la).objs.size = s.heap.objs.size + 1 := Heap.size_push ..
  have y2 : (m2 s.heap k1 k2 la lb).objs.size = s.heap.objs.size + 2 := by rw [Heap.size_push, y1]
  have y3 : (m3 s.heap k1 k2 la lb).objs.size = s.heap.objs.size + 3 := by rw [Heap.size_push, y2]
  have y4 : (m4 s.heap k1 k2 la lb).objs.size = s.heap.objs.size + 4 := by rw [Heap.size_push, y3]
  have o5 : (m5 s.heap k1 k2 la lb).get? (m4 s.heap k1 k2 la lb).objs.size = some _ := Heap.get?_push_size _ rfl
  have o4 : (m5 s.heap k1 k2 la lb).get? (m3 s.heap k1 k2 la lb).objs.size = some _ := Heap.get?_push_of_some _ (Heap.get?_push_size _ rfl)
  have o3 : (m5 s.heap k1 k2 la lb).get? (m2 s.heap k1 k2 la lb).objs.size = some _ := Heap.get?_push_of_some _ (Heap.get?_push_of_some _ (Heap.get?_push_size _ rfl))
  have f2 : (itO k2 lb).isFreed = false := by cases k2 <;> rfl
  have f1 : (itO k1 la).isFreed = false := by cases k1 <;> rfl
  have o2 : (m5 s.heap k1 k2 la lb).get? (m1 s.heap k1 la).objs.size = some (itO k2 lb) := Heap.get?_push_of_some _ (Heap.get?_push_of_some _ (Heap.get?_push_of_some _ (Heap.get?_push_size _ f2)))
  have o1 : (m5 s.heap k1 k2 la lb).get? s.heap.objs.size = some (itO k1 la) := Heap.get?_push_of_some _ (Heap.get?_push_of_some _ (Heap.get?_push_of_some _ (Heap.get?_push_of_some _ (Heap.get?_push_size _ f1))))
  show _ ∧ _
  rw [y2, y3, y4] at o5
  rw [y1, y2] at o3
  rw [y3] at o4
  rw [y1] at o2
  rw [y4]
  refine ⟨⟨_, o5, rfl⟩, done _ o5 o3 o4 ?_ ?_ fun c o x => Heap.get?_push_of_some _ (Heap.get?_push_of_some _ (Heap.get?_push_of_some _ (Heap.get?_push_of_some _ (Heap.get?_push_of_some _ x))))⟩
  · cases k1 <;> exact ⟨_, o1, rfl, rfl⟩
  · cases k2 <;> exact ⟨_, o2, rfl, rfl⟩
end
/-! ### in the calculus -/
def SqK (k : Bool) (K : PySem.W.Frag) (H : Hp) (a : Addr) (xs : List V) : Prop := match k with
  | true => SqL K H a xs
  | false => SqT K H a xs
theorem sqK_at {X : Cx} {pins : List (Addr × Obj)} {σ : L2.St} {H : Hp} {s : Shared} {k : Bool} {a : Addr} {xs : List V} (I : Inv X pins σ H s) (q : SqK k X.K H a xs) : ∃ its : List Value, Vals xs its ∧ Sqn k s.heap a its.toArray ∧ a < s.heap.objs.size := by
  cases k
  · obtain ⟨its, r, p, _⟩ := I.tuple q
    obtain ⟨o, ho, _⟩ := _root_.id p
    exact ⟨its, r, p, Heap.lt_size ho⟩
  · obtain ⟨its, r, p, _⟩ := I.list q
    exact ⟨its, r, p.isList, p.lt⟩
theorem sqK_inj {X : Cx} {pins : List (Addr × Obj)} {σ : L2.St} {H : Hp} {s : Shared} {k : Bool} {a : Addr} {xs ys : List V} (I : Inv X pins σ H s) (q : SqK k X.K H a xs) (r : SqK k X.K H a ys) : xs = ys := by
  cases k
  · exact I.tuple_inj q r
  · exact I.list_inj q r
/-- two sequences in step, the items in new pairs -/
def ItM (k1 k2 : Bool) (K : PySem.W.Frag) (a b : Addr) : It :=
  ⟨fun i H => ∃ (xs ys : List V) (x y : V), SqK k1 K H a xs ∧ SqK k2 K H b ys ∧ xs[i]? = some x ∧ ys[i]? = some y,
    fun i H v H' => ∃ T x y, v = .ref T ∧ H T = none ∧ H' = upd H T (.tup [x, y]) ∧ (∀ xs, SqK k1 K H a xs → xs[i]? = some x) ∧ ∀ ys, SqK k2 K H b ys → ys[i]? = some y,
    fun i H => ∃ xs ys : List V, SqK k1 K H a xs ∧ SqK k2 K H b ys ∧ (xs.length ≤ i ∨ ys.length ≤ i)⟩
theorem five {c z p o a b : Addr} (h : c ∈ [z, p, o, a, b]) : c = z ∨ c = p ∨ c = o ∨ c = a ∨ c = b := by simpa using h
theorem turnM {P : Program} {w : World} {K : PySem.W.Frag} {elts : List Expr} {kk : Nat} {tpos : Pos} {k1 k2 : Bool} {a b zc pI pO ia ib : Addr} (D : ZipApart zc pI pO ia ib a b) :
    Turn P w K (.Tuple elts kk tpos) (ItM k1 k2 K a b) [zc, pI, pO, ia, ib] zc (fun i h => IsZip h zc pI pO .none ∧ IsPair h pI (.ref ia) (.ref ib) ∧ (∃ x y, IsPair h pO x y) ∧ Cur k1 h ia a i ∧ Cur k2 h ib b i) where
  mem := List.mem_cons_self ..
  obj := fun i h ⟨fz, fI, ⟨x, y, fO⟩, c1, c2⟩ c hc => by
    rcases five hc with rfl | rfl | rfl | rfl | rfl
    · exact ⟨_, fz, fun v q => nomatch q⟩
    · exact ⟨_, fI, fun v q => nomatch q⟩
    · exact ⟨_, fO, fun v q => nomatch q⟩
    · exact c1.is
    · exact c2.is
  keep := fun i h h' ⟨fz, fI, ⟨x, y, fO⟩, c1, c2⟩ k => ⟨k zc (by simp) _ fz, k pI (by simp) _ fI, ⟨x, y, k pO (by simp) _ fO⟩, c1.kept fun o q => k ia (by simp) o q, c2.kept fun o q => k ib (by simp) o q⟩
  item := fun X hP hw hK hc i pins s σ H E I hf ⟨fz, fI, ⟨x0, y0, fO⟩, c1, c2⟩ hg => by
    subst hP hw hK
    obtain ⟨xs, ys, x, y, qx, qy, hx, hy⟩ := hg
    obtain ⟨its, rv, p, _⟩ := sqK_at I qx
    obtain ⟨its2, rv2, p2, _⟩ := sqK_at I qy
    obtain ⟨u, hu, ru⟩ := rv.get hx
    obtain ⟨u2, hu2, ru2⟩ := rv2.get hy
    have zl : zc < s.heap.objs.size := Heap.lt_size fz
    refine nx_zip D fz fI fO c1 c2 p p2 (x := u) (y := u2) (by simpa using hu) (by simpa using hu2) fun h1 w1 w2 w3 w4 w5 w6 => ⟨_, rfl, wpAny_letOwnedTupleGo_zip (s := { s with heap := h1 }) w1 fun h2 v1 sb => ?_⟩
    have pr : h2.get? s.heap.objs.size = some { cls := .type "tuple", data := .seq #[u, u2] } := (sb.2 _ (Nat.ne_of_gt zl)).trans w5
    have new : ObjOk X.prog X.w (upd H s.heap.objs.size (.tup [x, y])) h2 s.heap.objs.size (.tup [x, y]) := ⟨by show 2 ≤ sizeLine; decide, [u, u2], .cons ru (.cons ru2 .nil), ⟨_, pr, rfl, _, rfl⟩⟩
    have on : ∀ c, c ≠ zc → ∀ o, h1.get? c = some o → h2.get? c = some o := fun c n o e => (sb.2 _ n).trans e
    have I1 : Inv X pins σ (upd H s.heap.objs.size (.tup [x, y])) { s with heap := h2 } :=
      I.turnedNew (t' := s.toks) (ch := [zc, pI, pO, ia, ib]) (fun c o hb q => on c (fun z => hb (by simp [z])) o (w6 c o (fun z => hb (by simp [z])) (fun z => hb (by simp [z])) (fun z => hb (by simp [z])) (fun z => hb (by simp [z])) q)) hf (Nat.le_refl _) new
    refine ⟨.ref s.heap.objs.size, _, I1, rfl, ⟨_, x, y, rfl, I.hok.fresh (Nat.le_refl _), rfl, fun l hl => by rw [sqK_inj I hl qx]; exact hx, fun l hl => by rw [sqK_inj I hl qy]; exact hy⟩,
      ⟨v1, on _ D.TIz _ (w6 _ _ D.TIz D.TITO D.TIi1 D.TIi2 fI), ⟨u, u2, on _ D.TOz _ w2⟩, w3.kept fun o q => on _ D.i1z o q, w4.kept fun o q => on _ D.i2z o q⟩, fun c hcm => ?_⟩
    have lt : c < s.heap.objs.size := by
      rcases five hcm with rfl | rfl | rfl | rfl | rfl
      · exact zl
      · exact Heap.lt_size fI
      · exact Heap.lt_size fO
      · obtain ⟨o, e, _⟩ := c1.is; exact Heap.lt_size e
      · obtain ⟨o, e, _⟩ := c2.is; exact Heap.lt_size e
    rw [upd_ne (Nat.ne_of_lt lt)]
    exact (hf c hcm).1
  done := fun X hP hw hK hc i pins s σ H E I hf ⟨fz, fI, ⟨x0, y0, fO⟩, c1, c2⟩ hg => by
    subst hP hw hK
    obtain ⟨xs, ys, qx, qy, hend⟩ := hg
    obtain ⟨its, rv, p, _⟩ := sqK_at I qx
    obtain ⟨its2, rv2, p2, _⟩ := sqK_at I qy
    have l1 := rv.length
    have l2 := rv2.length
    have over : its.toArray[i]? = none ∨ its2.toArray[i]? = none := hend.elim (fun q => .inl (by simp; omega)) fun q => .inr (by simp; omega)
    exact nx_zip_end (I.ok.hd hc) D fz fI fO c1 c2 p p2 over fun h' r => ⟨rfl, I.turnedL (t' := s.toks) (ch := [zc, pI, pO, ia, ib]) (fun c o hb q => r c o (fun z => hb (by simp [z])) (fun z => hb (by simp [z])) (fun z => hb (by simp [z])) (fun z => hb (by simp [z])) q) hf⟩
  self := fun A i s Q E st h => wpAny_pyIter_zip st.1 h
def iZipM (K : PySem.W.Frag) (ta : TA) : TI := fun σ H R => ta σ H fun vs H1 => ∃ a b xs ys k1 k2, vs = [.ref a, .ref b] ∧ SqK k1 K H1 a xs ∧ SqK k2 K H1 b ys ∧ R (ItM k1 k2 K a b) H1
theorem pi_zipM {X : Cx} {e e2 : Expr} {ta : TA} {p pos tpos : Pos} {elts : List Expr} {kk : Nat} (hg : Gl X "zip") (hm : X.mg "zip" = none) (ha : PA X [e, e2] ta)
    (hs : starEach [e, e2] X.env = (false, eval e X.env) :: starEach [e2] X.env := by rfl) (hpl : (backTo pos (starEach [e2] X.env)).any (·.1) = false := by rfl) :
    PI X (.Tuple elts kk tpos) (.Call (.Name "zip" p) [e, e2] [] pos) (iZipM X.K ta) := ⟨fun pins s σ H R I h => by
  refine Call_ (ld_blt I hg hm PyProof.Rows.boot_zip (PyProof.Rows.callWith_type1 (thn (ha.run pos pins s σ H _ I h) fun us t ⟨vs, H1, I1, r1, a, b, xs, ys, k1, k2, ex, qx, qy, q⟩ => ?_) hs hpl))
  subst ex
  cases r1 with
  | cons r rr => cases rr with
    | cons r' rr =>
      cases rr
      cases r
      cases r'
      obtain ⟨its, rv, p1, la⟩ := sqK_at I1 qx
      obtain ⟨its2, rv2, p2, lb⟩ := sqK_at I1 qy
      refine call_zip p1 p2 fun h' w1 w2 w3 w4 w5 keep => wpAny_pyIter_zip w1 ?_
      refine ⟨t.heap.objs.size + 4, [t.heap.objs.size + 4, t.heap.objs.size + 2, t.heap.objs.size + 3, t.heap.objs.size, t.heap.objs.size + 1], _, _, H1, rfl, I1.kept (t' := t.toks) keep, turnM (PySem.W.ktu_apart t.heap.objs.size a b la lb), ⟨w1, w2, ⟨_, _, w3⟩, w4, w5⟩, fun c hc => ?_, q⟩
      have ge : t.heap.objs.size ≤ c := by rcases five hc with z | z | z | z | z <;> rw [z] <;> first | exact Nat.le_refl _ | exact Nat.le_add_right _ _
      exact I1.fpOk ge (I1.hok.fresh ge)⟩
end LLZ


set_option Elab.async false
set_option linter.all false
set_option maxRecDepth 100000
set_option maxHeartbeats 4000000
/-! LLSeq: lists and tuples alike: loops, zip, copies, isinstance of the two, insert -/
namespace LL
open PySem PySem.Spec PyProof.Rows L2
open Evl (Ex)
open LLZ (SqK ItM iZipM)
/-- the items of a list or a tuple -/
def seqI : PyData → Option (List PyData)
  | .list ds => some ds
  | .tuple ds => some ds
  | _ => none
section
variable {K : PySem.W.Frag} {O : Addr → Bool} {J : Hp → Prop} {Γ : List Sl} {te tl : TE} {ta : TA} {d : PyData} {ds : List PyData}
theorem seq_dp {H : Hp} {v : V} (h : Dp K H v d) (e : seqI d = some ds) : ∃ a k xs, v = .ref a ∧ SqK k K H a xs ∧ DpAll K H xs ds := by
  cases h with
  | lst hs ha => cases e; exact ⟨_, true, _, rfl, hs, ha⟩
  | tup hs ha => cases e; exact ⟨_, false, _, rfl, hs, ha⟩
  | _ => cases e
theorem sqK_grow {k : Bool} {H H' : Hp} {a : Addr} {xs : List V} (e : Ex H H') (h : SqK k K H a xs) : SqK k K H' a xs := by
  cases k
  · exact Evl.ex_t e h
  · exact Evl.ex_l e h
/-- an iterable that is a list or a tuple -/
def ItK (k : Bool) (K : PySem.W.Frag) (a : Addr) : It :=
  ⟨fun i H => ∃ xs x, SqK k K H a xs ∧ xs[i]? = some x, fun i H x H' => H' = H ∧ ∀ xs, SqK k K H a xs → xs[i]? = some x, fun i H => ∃ xs, SqK k K H a xs ∧ xs.length ≤ i⟩
def iEi (K : PySem.W.Frag) (te : TE) : TI := fun σ H R => te σ H fun x H1 => ∃ a k xs, x = .ref a ∧ SqK k K H1 a xs ∧ R (ItK k K a) H1
theorem pi_ei {X : Cx} {tg l : Expr} (hl : PE X l tl) : PI X tg l (iEi X.K tl) := ⟨fun pins s σ H R I h => by
  refine thn (hl.run pins s σ H _ I h) fun v s1 ⟨x, H1, I1, r1, a, k, xs, e, hq, q⟩ => ?_
  subst e
  cases r1
  have fp : ∀ b ∈ [s1.heap.objs.size], FpOk X pins H1 b := fun b hb => by
    rw [List.mem_singleton.mp hb]
    exact I1.fpOk (Nat.le_refl _) (I1.hok.fresh (Nat.le_refl _))
  cases k
  · obtain ⟨its, rv, p, hz⟩ := I1.tuple hq
    exact wpAny_pyIter_tuple p ⟨s1.heap.objs.size, [s1.heap.objs.size], _, _, H1, rfl, I1.kept (t' := s1.toks) fun b o e => Heap.get?_push_of_some _ e, turn_tuple a _, ⟨_, Heap.get?_push_size _ rfl, rfl, rfl⟩, fp, q⟩
  · obtain ⟨its, rv, p, hz⟩ := I1.list hq
    exact wpAny_pyIter_list p.isList ⟨s1.heap.objs.size, [s1.heap.objs.size], _, _, H1, rfl, I1.kept (t' := s1.toks) fun b o e => Heap.get?_push_of_some _ e, turn_list a _, ⟨_, Heap.get?_push_size _ rfl, rfl, rfl⟩, fp, q⟩⟩
theorem src_ei (h : ED K O J Γ tl d) (e : seqI d = some ds) : Src K O J Γ (iEi K tl) ds.length (fun i => ds.getD i .none) := fun σ H1 hJ hE R q =>
  h σ H1 hJ hE _ fun s v H2 ps hJ2 st o => by
    cases ps
    obtain ⟨a, k, xs, rfl, hq, ha⟩ := seq_dp (show Dp K (hid O H2) v d from o) e
    refine ⟨a, k, xs, rfl, sqK_grow hid_ex hq, q _ H2 hJ2 st fun O' H3 g => ?_⟩
    have hq3 : SqK k K H3 a xs := sqK_grow hid_ex (sqK_grow g hq)
    have hl := dpLen ha
    refine ⟨fun i hi => ?_, fun i hi => ⟨xs, hq3, by omega⟩⟩
    have ed : ds[i]? = some (ds.getD i .none) := by rw [List.getD_eq_getElem?_getD, List.getElem?_eq_getElem hi]; rfl
    obtain ⟨y, e1, e2⟩ := dpAt ha ed
    refine ⟨⟨xs, y, hq3, e1⟩, fun x H4 ⟨e4, hx⟩ => ⟨e4, ?_⟩⟩
    have := hx xs hq3
    rw [e1] at this
    cases (Option.some.inj this)
    exact dpGrow g e2
/-- a loop over whatever Src serves -/
theorem ok_forS {wi : TI} {t : TS} {p : Po} {j n : Nat} {it : Nat → PyData} (h : Src K O J Γ wi n it) (I : Nat → List Sl → Prop) (h0 : I 0 Γ)
    (hs : ∀ (i : Nat) Γ', i < n → I i Γ' → Ok K O J (Γ'.set j (.da (it i))) t { rt := p.rt, nx := I (i + 1), ct := I (i + 1), bk := p.nx }) (hd : ∀ Γ', I n Γ' → p.nx Γ') : Ok K O J Γ (tFor wi (gName j) t) p := fun D σ H1 hJ hE g =>
  h σ H1 hJ hE _ fun It H2 hJ2 st hit => by
    refine ⟨fun i m σ' H' => i + m = n ∧ J H' ∧ Step O H2 H' ∧ ∃ Γ', I i Γ' ∧ En K O σ' Γ' H', ⟨n, Nat.zero_add n, hJ2, .refl, Γ, h0, hE.step st⟩, ?_⟩
    rintro i m σ' H' ⟨him, hJ', st', Γ', q, hE'⟩
    obtain ⟨go, stop⟩ := hit O H' st'.ex
    by_cases hi : i < n
    · refine .inr ⟨(go i hi).1, fun σ2 H3 => J H3 ∧ Step O H2 H3 ∧ ∃ Γ2, I (i + 1) Γ2 ∧ En K O σ2 Γ2 H3, fun σ2 H3 ⟨a1, a2, a3⟩ => ⟨m - 1, by omega, by omega, a1, a2, a3⟩, fun x H4 hy => ?_⟩
      obtain ⟨rfl, hx⟩ := (go i hi).2 x H4 hy
      exact hs i Γ' hi q _ _ H4 hJ' (hE'.set (s := .da (it i)) hx) ⟨fun s v H3 r jj st3 o => g.rt s v H3 r jj ((st.trans st').trans st3) o, fun Γ2 σ2 H3 r jj st3 e => ⟨jj, st'.trans st3, Γ2, r, e⟩,
        fun Γ2 σ2 H3 r jj st3 e => g.nx Γ2 σ2 H3 r jj ((st.trans st').trans st3) e, fun Γ2 σ2 H3 r jj st3 e => ⟨jj, st'.trans st3, Γ2, r, e⟩⟩
    · have ei : i = n := by omega
      subst ei
      exact .inl ⟨stop i (Nat.le_refl _), g.nx Γ' σ' H' (hd Γ' q) hJ' (st.trans st') hE'⟩
/-! ### zip -/
abbrev gTwo (K : PySem.W.Frag) (m k : Nat) : TG := gTup K 2 (gCons (gName m) (gCons (gName k) gNil))
/-- for x, y in zip(a, b) -/
theorem ok_forZ (G : Gr J) {t : TS} {p : Po} {m k n : Nat} {d1 d2 : PyData} {ds1 ds2 : List PyData} (h : EAs K O J Γ ta [.da d1, .da d2]) (e1 : seqI d1 = some ds1) (e2 : seqI d2 = some ds2) (hn : n = min ds1.length ds2.length) (I : Nat → List Sl → Prop) (h0 : I 0 Γ)
    (hs : ∀ (i : Nat) (x y : PyData) Γ', ds1[i]? = some x → ds2[i]? = some y → I i Γ' → Ok K O J ((Γ'.set m (.da x)).set k (.da y)) t { rt := p.rt, nx := I (i + 1), ct := I (i + 1), bk := p.nx }) (hd : ∀ Γ', I n Γ' → p.nx Γ') :
    Ok K O J Γ (tFor (iZipM K ta) (gTwo K m k) t) p := fun D σ H1 hJ hE g =>
  h σ H1 hJ hE _ fun ss vs H2 ps hJ2 st o => by
    cases ps
    obtain ⟨v, w, rfl, o1, o2⟩ := sl2 o
    obtain ⟨a, k1, xs, rfl, hq1, ha1⟩ := seq_dp (show Dp K (hid O H2) v d1 from o1) e1
    obtain ⟨b, k2, ys, rfl, hq2, ha2⟩ := seq_dp (show Dp K (hid O H2) w d2 from o2) e2
    have l1 := dpLen ha1
    have l2 := dpLen ha2
    refine ⟨a, b, xs, ys, k1, k2, rfl, sqK_grow hid_ex hq1, sqK_grow hid_ex hq2, fun i q σ' H' => i + q = n ∧ J H' ∧ Step O H2 H' ∧ ∃ Γ', I i Γ' ∧ En K O σ' Γ' H', ⟨n, Nat.zero_add n, hJ2, .refl, Γ, h0, hE.step st⟩, ?_⟩
    rintro i q σ' H' ⟨hiq, hJ', st', Γ', hI, hE'⟩
    have g1 : SqK k1 K H' a xs := sqK_grow hid_ex (sqK_grow st'.ex hq1)
    have g2 : SqK k2 K H' b ys := sqK_grow hid_ex (sqK_grow st'.ex hq2)
    by_cases hi : i < n
    · have i1 : i < ds1.length := by omega
      have i2 : i < ds2.length := by omega
      obtain ⟨x, ex, px⟩ := dpAt ha1 (List.getElem?_eq_getElem i1)
      obtain ⟨y, ey, py⟩ := dpAt ha2 (List.getElem?_eq_getElem i2)
      refine .inr ⟨⟨xs, ys, x, y, g1, g2, ex, ey⟩, fun σ2 H3 => J H3 ∧ Step O H2 H3 ∧ ∃ Γ2, I (i + 1) Γ2 ∧ En K O σ2 Γ2 H3, fun σ2 H3 ⟨a1, a2, a3⟩ => ⟨q - 1, by omega, by omega, a1, a2, a3⟩, fun z H4 hy => ?_⟩
      obtain ⟨T, x', y', rfl, hT, rfl, f1, f2⟩ := hy
      have ex' := f1 xs g1
      have ey' := f2 ys g2
      rw [ex] at ex'
      rw [ey] at ey'
      cases ex'
      cases ey'
      have gr : Ex H' (upd H' T (.tup [x, y])) := Evl.Ex.new hT
      have s2 : Step O H2 (upd H' T (.tup [x, y])) := st'.trans (.of gr)
      have qx : Dp K (hid O (upd H' T (.tup [x, y]))) x ds1[i] := dpGrow s2.ex px
      have qy : Dp K (hid O (upd H' T (.tup [x, y]))) y ds2[i] := dpGrow s2.ex py
      refine ⟨T, [x, y], rfl, Evl.st_of upd_same, rfl, x, [y], rfl, y, [], rfl, rfl, ?_⟩
      exact hs i _ _ Γ' (List.getElem?_eq_getElem i1) (List.getElem?_eq_getElem i2) hI _ _ _ (G _ _ gr hJ') (((hE'.step (.of gr)).set (s := .da ds1[i]) qx).set (s := .da ds2[i]) qy)
        ⟨fun s v H3 r jj st3 o => g.rt s v H3 r jj ((st.trans s2).trans st3) o, fun Γ2 σ2 H3 r jj st3 e => ⟨jj, s2.trans st3, Γ2, r, e⟩, fun Γ2 σ2 H3 r jj st3 e => g.nx Γ2 σ2 H3 r jj ((st.trans s2).trans st3) e, fun Γ2 σ2 H3 r jj st3 e => ⟨jj, s2.trans st3, Γ2, r, e⟩⟩
    · have ei : i = n := by omega
      subst ei
      exact .inl ⟨⟨xs, ys, g1, g2, by omega⟩, g.nx Γ' σ' H' (hd Γ' hI) hJ' (st.trans st') hE'⟩
/-! ### copies, lengths, isinstance -/
abbrev rListOf (K : PySem.W.Frag) : List V → Hp → VK → Prop := fun xs H Q => ∃ p ys, xs = [.ref p] ∧ (SqL K H p ys ∨ SqT K H p ys) ∧ ∀ l, H l = none → Q (.ref l) (upd H l (.lst ys))
abbrev rTupOf (K : PySem.W.Frag) : List V → Hp → VK → Prop := fun xs H Q => ∃ p ys, xs = [.ref p] ∧ ((SqL K H p ys ∧ ∀ l, H l = none → Q (.ref l) (upd H l (.tup ys))) ∨ (SqT K H p ys ∧ Q (.ref p) H))
theorem c_list (G : Gr J) (e : seqI d = some ds) : RcS K O J (rListOf K) [.da d] (fun x => x = .da (.list ds)) := fun vs H1 hJ tr h Q q => by
  obtain ⟨v, rfl, o⟩ := sl1 h
  obtain ⟨a, k, xs, rfl, hq, ha⟩ := seq_dp (show Dp K (hid O H1) v d from o) e
  refine ⟨a, xs, rfl, ?_, fun l nl => ?_⟩
  · cases k
    · exact .inr (Evl.ex_t hid_ex hq)
    · exact .inl (Evl.ex_l hid_ex hq)
  · have g : Ex H1 (upd H1 l (.lst xs)) := Evl.Ex.new nl
    exact q _ _ _ rfl (G _ _ g hJ) (.of g) (.lst (Evl.sq_of (hid_new tr nl)) (dpGrowAll (hid_grow g) ha))
theorem c_tuple (G : Gr J) (e : seqI d = some ds) : RcS K O J (rTupOf K) [.da d] (fun x => x = .da (.tuple ds)) := fun vs H1 hJ tr h Q q => by
  obtain ⟨v, rfl, o⟩ := sl1 h
  obtain ⟨a, k, xs, rfl, hq, ha⟩ := seq_dp (show Dp K (hid O H1) v d from o) e
  refine ⟨a, xs, rfl, ?_⟩
  cases k
  · exact .inr ⟨Evl.ex_t hid_ex hq, q _ _ H1 rfl hJ .refl (.tup hq ha)⟩
  · refine .inl ⟨Evl.ex_l hid_ex hq, fun l nl => ?_⟩
    have g : Ex H1 (upd H1 l (.tup xs)) := Evl.Ex.new nl
    exact q _ _ _ rfl (G _ _ g hJ) (.of g) (.tup (Evl.st_of (hid_new tr nl)) (dpGrowAll (hid_grow g) ha))
theorem c_lenSeq (e : seqI d = some ds) : RcS K O J (LL.rLen K) [.da d] (fun x => x = .da (.int (ds.length : Int))) := by
  cases d with
  | list x => cases e; exact c_lenL
  | tuple x => cases e; exact c_lenT
  | _ => cases e
theorem set_twice {σ : L2.St} {m k : Nat} {x y : Option V} (h : m ≠ k) : (((σ.set k none).set m none).set m x).set k y = (σ.set m x).set k y := by
  rw [List.set_set, List.set_comm none x (Ne.symm h), List.set_set]
theorem wipe_twice {σ : L2.St} {m k : Nat} {x y : Option V} (h : m ≠ k) : wipe (((wipe σ [m, k]).set m x).set k y) [m, k] = wipe σ [m, k] := by
  show (((((σ.set k none).set m none).set m x).set k y).set k none).set m none = (σ.set k none).set m none
  rw [set_twice h, List.set_set, List.set_comm x none h, List.set_set]
/-- [te for x, y in zip(a, b)] -/
theorem e_lcZ {m k n : Nat} {d1 d2 : PyData} {ds1 ds2 : List PyData} {P : Sl → Prop} (G : Gr J) (F : Fr J) (h : EAs K O J Γ ta [.da d1, .da d2]) (e1 : seqI d1 = some ds1) (e2 : seqI d2 = some ds2) (hn : n = min ds1.length ds2.length) (hz : n ≤ sizeLine) (hmk : m ≠ k)
    (I : Nat → List PyData → Prop) (h0 : I 0 [])
    (hb : ∀ O' J' i x y ds, Ext O J O' J' → ds1[i]? = some x → ds2[i]? = some y → I i ds → EP K O' J' ((Γ.set m (.da x)).set k (.da y)) te (fun s => ∃ d, s = .da d ∧ I (i + 1) (ds ++ [d])))
    (hd : ∀ ds, I n ds → P (.da (.list ds))) : EP K O J Γ (tLc (iZipM K ta) (gTwo K m k) tYes te [m, k]) P := fun σ H1 hJ hE Q q =>
  h σ H1 hJ hE _ fun ss vs H2 ps hJ2 st o => by
    cases ps
    obtain ⟨v, w, rfl, o1, o2⟩ := sl2 o
    obtain ⟨a, k1, xs, rfl, hq1, ha1⟩ := seq_dp (show Dp K (hid O H2) v d1 from o1) e1
    obtain ⟨b, k2, ys, rfl, hq2, ha2⟩ := seq_dp (show Dp K (hid O H2) w d2 from o2) e2
    have l1 := dpLen ha1
    have l2 := dpLen ha2
    have hE2 := hE.step st
    have tr2 := hE2.tr
    refine ⟨a, b, xs, ys, k1, k2, rfl, sqK_grow hid_ex hq1, sqK_grow hid_ex hq2, fun D hD => ?_⟩
    have nO : ¬ O D = true := fun z => tr2 D z hD
    let O' := own1 O D
    let Hs := upd H2 D (.lst [])
    have g0 : Ex H2 Hs := Evl.Ex.new hD
    have eb : ∀ H3, Step O' Hs H3 → Ex (hid O H2) (hid O' H3) := fun H3 s3 => by
      refine Evl.Ex.trans (fun x o e => ?_) s3.ex
      have nx : ¬ O x = true := fun z => by unfold hid at e; rw [if_pos z] at e; cases e
      have hx : H2 x = some o := by rw [hid_at nx] at e; exact e
      have nd : x ≠ D := fun z => by rw [z, hD] at hx; cases hx
      rw [hid_at (own1_ne nx nd)]
      show upd H2 D (.lst []) x = some o
      rw [upd_ne nd]
      exact hx
    have grow : ∀ H3, Step O' Hs H3 → Step O H2 H3 := fun H3 s3 => ⟨(eb H3 s3).trans (ex_hid_sub fun b h => own1_sub h), fun x ox hx => s3.tr x (own1_sub ox) (by
      have nd : x ≠ D := fun z => nO (by rw [← z]; exact ox)
      show upd H2 D (.lst []) x ≠ none
      rw [upd_ne nd]
      exact hx)⟩
    refine ⟨fun i q H3 => ∃ ds vs, i + q = n ∧ J H3 ∧ Step O' Hs H3 ∧ H3 D = some (.lst vs) ∧ DpAll K (hid O' H3) vs ds ∧ ds.length ≤ i ∧ I i ds, ⟨n, [], [], Nat.zero_add n, G _ _ g0 hJ2, .refl, upd_same .., .nil, Nat.le_refl _, h0⟩, ?_⟩
    rintro i q' H3 ⟨ds, vs, hiq, hJ3, st3, hD3, hv, hl, hI⟩
    have g1 : SqK k1 K H3 a xs := sqK_grow hid_ex (sqK_grow (eb H3 st3) hq1)
    have g2 : SqK k2 K H3 b ys := sqK_grow hid_ex (sqK_grow (eb H3 st3) hq2)
    by_cases hi : i < n
    · have i1 : i < ds1.length := by omega
      have i2 : i < ds2.length := by omega
      obtain ⟨x, ex, px⟩ := dpAt ha1 (List.getElem?_eq_getElem i1)
      obtain ⟨y, ey, py⟩ := dpAt ha2 (List.getElem?_eq_getElem i2)
      refine .inr ⟨⟨xs, ys, x, y, g1, g2, ex, ey⟩, fun H => ∃ ds vs, J H ∧ Step O' Hs H ∧ H D = some (.lst vs) ∧ DpAll K (hid O' H) vs ds ∧ ds.length ≤ i + 1 ∧ I (i + 1) ds, fun H ⟨ds, vs, c1, c2, c3, c4, c5, c6⟩ => ⟨q' - 1, by omega, ds, vs, by omega, c1, c2, c3, c4, c5, c6⟩, fun z H4 hy => ?_⟩
      obtain ⟨T, x', y', rfl, hT, rfl, f1, f2⟩ := hy
      have ex' := f1 xs g1
      have ey' := f2 ys g2
      rw [ex] at ex'
      rw [ey] at ey'
      cases ex'
      cases ey'
      have gr : Ex H3 (upd H3 T (.tup [x, y])) := Evl.Ex.new hT
      have st4 : Step O' Hs (upd H3 T (.tup [x, y])) := st3.trans (.of gr)
      have hD4 : upd H3 T (.tup [x, y]) D = some (.lst vs) := gr D _ hD3
      have qx : Dp K (hid O' (upd H3 T (.tup [x, y]))) x ds1[i] := dpGrow (eb _ st4) px
      have qy : Dp K (hid O' (upd H3 T (.tup [x, y]))) y ds2[i] := dpGrow (eb _ st4) py
      have hE4 : En K O' σ Γ (upd H3 T (.tup [x, y])) := by
        refine ⟨hE2.len, fun k s hk ns => ?_, fun u ou => ?_⟩
        · obtain ⟨v, a1, a2⟩ := hE2.at_ k s hk ns
          exact ⟨v, a1, a2.grow (eb _ st4)⟩
        · by_cases z : u = D
          · rw [z, hD4]; exact fun z => nomatch z
          · have ou' : O u = true := by
              have : (O u || decide (u = D)) = true := ou
              simpa [z] using this
            exact st4.tr u ou (by show upd H2 D (.lst []) u ≠ none; rw [upd_ne z]; exact tr2 u ou')
      have X := ext_of (O := O) G F hJ2 hD tr2 vs
      refine ⟨T, [x, y], rfl, Evl.st_of upd_same, rfl, x, [y], rfl, y, [], rfl, rfl, wipe_twice hmk, ?_⟩
      unfold tYes
      refine iteT ?_
      have es : ((wipe σ [m, k]).set m (some x)).set k (some y) = (σ.set m (some x)).set k (some y) := set_twice hmk
      show te (((wipe σ [m, k]).set m (some x)).set k (some y)) _ _
      rw [es]
      refine hb O' _ i _ _ ds X (List.getElem?_eq_getElem i1) (List.getElem?_eq_getElem i2) hI _ _ ⟨G _ _ gr hJ3, hD4⟩ ((hE4.set (s := .da ds1[i]) qx).set (s := .da ds2[i]) qy) _ fun s u H6 ⟨d, es, hI'⟩ hJ6 st6 o => ?_
      subst es
      have st6' : Step O' Hs H6 := st4.trans st6
      have gv := dpGrowAll ((Step.of (O := O') gr).trans st6).ex hv
      have off : Ex (hid O' H6) (hid O' (upd H6 D (.lst (vs ++ [u])))) := fun x o e => by
        have nx : ¬ O' x = true := fun z => by unfold hid at e; rw [if_pos z] at e; cases e
        rw [hid_at nx] at e ⊢
        have nd : x ≠ D := fun z => nx (by rw [z]; exact own1_D)
        rw [upd_ne nd]
        exact e
      refine ⟨vs, hJ6.2, by rw [dpLen hv]; omega, ds ++ [d], vs ++ [u], F _ _ hJ2 hD _ _ hJ6.1, st6'.trans ⟨off, fun x ox hx => ?_⟩, upd_same .., dpGrowAll off (dpSnoc gv o), by rw [List.length_append]; simp; omega, hI'⟩
      by_cases z : x = D
      · rw [z, upd_same]; exact fun z => nomatch z
      · rw [upd_ne z]; exact hx
    · have ei : i = n := by omega
      subst ei
      refine .inl ⟨⟨xs, ys, g1, g2, by omega⟩, q _ _ H3 (hd ds hI) hJ3 (st.trans (grow H3 st3)) (.lst (Evl.sq_of ?_) (dpGrowAll (ex_hid_sub fun b h => own1_sub h) hv))⟩
      rw [hid_at nO]
      exact hD3
/-- isinstance(x, (list, tuple)) and the like -/
theorem e_isiT {n1 n2 : String} (h : ED K O J Γ te d) (G : Gr J) (h1 : n1 ∈ ["int", "bool", "str", "list", "tuple"]) (h2 : n2 ∈ ["int", "bool", "str", "list", "tuple"]) :
    ED K O J Γ (tCB (rIsiT K) (tCons te (tCons (tTup (tCons (tC (.ty n1)) (tCons (tC (.ty n2)) tNil))) tNil))) (.bool (isiD d n1 || isiD d n2)) := fun σ H1 hJ hE Q q =>
  h σ H1 hJ hE _ fun s v H2 ps hJ2 st o => by
    cases ps
    have o : Dp K (hid O H2) v d := o
    refine ⟨by show 2 ≤ sizeLine; decide, fun p np => ?_⟩
    have g : Ex H2 (upd H2 p (.tup [.ty n1, .ty n2])) := Evl.Ex.new np
    refine ⟨v, p, [.ty n1, .ty n2], .type (tyN d), [.type n1, .type n2], _, rfl, upd_same, .cons (.ty n1) (.cons (.ty n2) .nil), ty_of (dpGrow (g.trans (Evl.Ex.refl _)) (dpGrow hid_ex o)), ?_, q _ _ _ rfl (G _ _ g hJ2) (st.trans (.of g)) (.bl _)⟩
    show (match PySem.W.kitOne K (.type (tyN d)) (.type n1) with
      | some true => some true
      | some false => PySem.W.kitAny K (.type (tyN d)) [.type n2]
      | none => none) = _
    rw [kit_ty (isi_kit h1)]
    cases isiD d n1
    · show (match PySem.W.kitOne K (.type (tyN d)) (.type n2) with
        | some true => some true
        | some false => some false
        | none => none) = _
      rw [kit_ty (isi_kit h2)]
      cases isiD d n2 <;> rfl
    · rfl
end
end LL


set_option Elab.async false
set_option linter.all false
set_option maxRecDepth 100000
set_option maxHeartbeats 4000000
/-! LLIns: a copy of a row, one thing put in -/
namespace LL
open PySem PySem.Spec PyProof.Rows L2
open Evl (Ex)
abbrev rIns : V → List V → Hp → VK → Prop := fun x vs H Q => ∃ (l : Addr) (xs : List V) (i : Int) (y : V), x = .ref l ∧ vs = [.int i, y] ∧ H l = some (.lst xs) ∧ xs.length < sizeLine ∧ 0 ≤ i ∧ i < 2 ^ 63 ∧
  Q .non (upd H l (.lst (xs.take i.toNat ++ [y] ++ xs.drop i.toNat)))
section
variable {K : PySem.W.Frag} {O : Addr → Bool} {J : Hp → Prop} {Γ : List Sl} {tl : TE} {ta : TA} {d : PyData} {ds : List PyData}
theorem dpApp {H : Hp} : ∀ {as bs : List PyData} {vs us : List V}, DpAll K H vs as → DpAll K H us bs → DpAll K H (vs ++ us) (as ++ bs)
  | [], _, _, _, h, q => by cases h; exact q
  | _ :: _, _, _, _, h, q => by cases h with | cons a b => exact .cons a (dpApp b q)
theorem dpTake {H : Hp} : ∀ {as : List PyData} {vs : List V} (n : Nat), DpAll K H vs as → DpAll K H (vs.take n) (as.take n)
  | [], _, n, h => by cases h; simp; exact .nil
  | _ :: _, _, 0, h => by simp; exact .nil
  | _ :: _, _, n + 1, h => by cases h with | cons a b => exact .cons a (dpTake n b)
theorem dpDrop {H : Hp} : ∀ {as : List PyData} {vs : List V} (n : Nat), DpAll K H vs as → DpAll K H (vs.drop n) (as.drop n)
  | [], _, n, h => by cases h; simp; exact .nil
  | _ :: _, _, 0, h => h
  | _ :: _, _, n + 1, h => by cases h with | cons a b => exact dpDrop n b
/-- x = list(row); x.insert(i, y) -/
theorem q_insert {u : TS} {p : Po} {j : Nat} {P : Int → PyData → Prop} (G : Gr J) (F : Fr J) (h : ED K O J Γ tl d) (e : seqI d = some ds) (hz : ds.length < sizeLine) (hj : j < Γ.length)
    (ha : ∀ O' J', Ext O J O' J' → EA K O' J' (Γ.set j .un) ta (fun ss => ∃ i x, ss = [.da (.int i), .da x] ∧ P i x)) (hP : ∀ i x, P i x → 0 ≤ i ∧ i < 2 ^ 63)
    (k : ∀ i x, P i x → Ok K O J (Γ.set j (.da (.list (ds.take i.toNat ++ [x] ++ ds.drop i.toNat)))) u p) :
    Ok K O J Γ (tSeq (tAsg (tCB (rListOf K) (tCons tl tNil)) (gName j)) (tSeq (tDrop (tBM K "list" rIns (tVar j) ta)) u)) p := fun D σ H1 hJ hE g =>
  h σ H1 hJ hE _ fun s v H2 ps hJ2 st o => by
    cases ps
    obtain ⟨a, kk, xs, rfl, hq, hx⟩ := seq_dp (show Dp K (hid O H2) v d from o) e
    have hE2 := hE.step st
    have tr2 := hE2.tr
    have src : SqL K H2 a xs ∨ SqT K H2 a xs := by
      cases kk
      · exact .inr (Evl.ex_t hid_ex hq)
      · exact .inl (Evl.ex_l hid_ex hq)
    refine ⟨a, xs, rfl, src, fun l nl => ?_⟩
    have nO : ¬ O l = true := fun z => tr2 l z nl
    let O' := own1 O l
    let Hs := upd H2 l (.lst xs)
    have g0 : Ex H2 Hs := Evl.Ex.new nl
    have eb : ∀ H3, Step O' Hs H3 → Ex (hid O H2) (hid O' H3) := fun H3 s3 => by
      refine Evl.Ex.trans (fun x o e => ?_) s3.ex
      have nx : ¬ O x = true := fun z => by unfold hid at e; rw [if_pos z] at e; cases e
      have hx : H2 x = some o := by rw [hid_at nx] at e; exact e
      have nd : x ≠ l := fun z => by rw [z, nl] at hx; cases hx
      rw [hid_at (own1_ne nx nd)]
      show upd H2 l (.lst xs) x = some o
      rw [upd_ne nd]
      exact hx
    have X := ext_of (O := O) G F hJ2 nl tr2 xs
    have lj : j < σ.length := by rw [hE.len]; exact hj
    have enA : En K O' (σ.set j (some (.ref l))) (Γ.set j .un) Hs := by
      refine ⟨by rw [List.length_set, List.length_set]; exact hE2.len, fun i s hs ns => ?_, fun x ox => ?_⟩
      · by_cases q : j = i
        · subst q
          rw [List.getElem?_set_self hj] at hs
          exact absurd (Option.some.inj hs).symm ns
        · rw [List.getElem?_set_ne q] at hs
          obtain ⟨v, a1, a2⟩ := hE2.at_ i s hs ns
          exact ⟨v, by rw [List.getElem?_set_ne q]; exact a1, a2.grow (eb Hs .refl)⟩
      · by_cases z : x = l
        · rw [z]; show upd H2 l (.lst xs) l ≠ none; rw [upd_same]; exact fun z => nomatch z
        · have ox' : O x = true := by
            have : (O x || decide (x = l)) = true := ox
            simpa [z] using this
          show upd H2 l (.lst xs) x ≠ none
          rw [upd_ne z]
          exact tr2 x ox'
    refine ⟨.ref l, List.getElem?_set_self lj, ?_, ?_⟩
    · exact .inl ⟨rfl, xs, Evl.sq_of upd_same⟩
    refine ha O' _ X _ Hs ⟨G _ _ g0 hJ2, upd_same ..⟩ enA _ fun ss vs H3 ⟨i, x, es, hp⟩ hJ3 st3 oa => ?_
    subst es
    obtain ⟨w1, w2, rfl, o1, o2⟩ := sl2 oa
    cases o1
    have o2 : Dp K (hid O' H3) w2 x := o2
    have b := hP i x hp
    refine ⟨l, xs, i, w2, rfl, rfl, hJ3.2, by rw [dpLen hx]; exact hz, b.1, b.2, ?_⟩
    have off : Ex (hid O' H3) (hid O (upd H3 l (.lst (xs.take i.toNat ++ [w2] ++ xs.drop i.toNat)))) := fun x o e => by
      have nx : ¬ O' x = true := fun z => by unfold hid at e; rw [if_pos z] at e; cases e
      have no : ¬ O x = true := fun z => nx (own1_sub z)
      have nd : x ≠ l := fun z => nx (by rw [z]; exact own1_D)
      rw [hid_at nx] at e
      rw [hid_at no, upd_ne nd]
      exact e
    have all : Ex (hid O H2) (hid O (upd H3 l (.lst (xs.take i.toNat ++ [w2] ++ xs.drop i.toNat)))) := (eb H3 st3).trans off
    have s4 : Step O H2 (upd H3 l (.lst (xs.take i.toNat ++ [w2] ++ xs.drop i.toNat))) := ⟨all, fun x ox hx => by
      have nd : x ≠ l := fun z => nO (by rw [← z]; exact ox)
      rw [upd_ne nd]
      exact st3.tr x (own1_sub ox) (by show upd H2 l (.lst xs) x ≠ none; rw [upd_ne nd]; exact hx)⟩
    refine k i x hp D _ _ (F _ _ hJ2 nl _ _ hJ3.1) ((hE.step (st.trans s4)).set (s := .da (.list (ds.take i.toNat ++ [x] ++ ds.drop i.toNat))) ?_) (g.step (st.trans s4))
    refine .lst (Evl.sq_of (by rw [hid_at nO, upd_same])) (dpApp (dpApp (dpTake _ (dpGrowAll all hx)) (.cons (dpGrow off o2) .nil)) (dpDrop _ (dpGrowAll all hx)))
end
end LL


set_option Elab.async false
set_option linter.all false
set_option maxRecDepth 100000
set_option maxHeartbeats 4000000
/-! LLCaller: a law's own def, proved at the caller of a law alone: there no container is being shown (the guards are known to be none) -/
namespace LL
open PySem PySem.Spec PyProof.Rows L2
open Evl (Ex)
/-- a def keeps its promise around A -/
structure FnAt (P : Program) (w : World) (K : PySem.W.Frag) (mg : Str → Option Value) (base : Heap) (CX : CXT) (k : Nat) (A : Around) (f : Addr) (fd : FuncData) (ps : List Str) (sp : Sp) : Prop where
  go : ∀ (outer : List Env) (s : Shared) (H : Hp) (args : Args) (us : List Value) (vs : List V) (Q : VK) (E : XK), Room k A → Env0 P w K mg base A outer s H → BindsTo s fd args (ps.zip us) → Vals vs us → sp vs H Q E →
    codeAny (model P w) A (.call (.ref f) args) (CR CX outer P w H s Q E) s
theorem fn_at {CX : CXT} {P : Program} {w : World} {K : PySem.W.Frag} {mg : Str → Option Value} {base : Heap} {k : Nat} {A : Around} {x q : Str} {args : Arguments} {body : List Stmt} {scope : Scope} {dvs : List V} {f : Addr} {fd : FuncData} {N ps : List Str} {sp : Sp}
    (F : FunD K x q args body scope dvs [] f fd) (S : FnScope N ps scope) (len : ∀ vs H Q E, sp vs H Q E → vs.length = ps.length)
    (der : ∀ (cdv : Value) (outer : List Env) (s : Shared) (H : Hp) (vs : List V) (Q : VK) (E : XK), Room k (A.deeper (envOfC q scope s.heap.objs.size f cdv)) → sp vs H Q E →
      ∃ t, PSs (cxOf CX P w K mg base N q scope f cdv A outer s H E) body t ∧ t { nx := fun _ H' => Q .non H', rt := Q } (L2.start N vs) H) : FnAt P w K mg base CX (k + 1) A f fd ps sp := by
  obtain ⟨oc, od, dV, kV, doc, pm, an, cdv, ct, osl, rfl, lk, hcd, _, _⟩ := F.ex
  refine ⟨fun outer s H ar us vs Q E hr e0 hb rel given => ?_⟩
  have inK : K.In s.heap := e0.mod.kin.keeps fun b o e => (e0.bs b o e).1
  have free : s.heap.NoLimit := e0.mod.nolimit.keeps fun b o e => (e0.bs b o e).1
  have kinds : ∀ y ∈ ps.zip us, scope.names.lookup y.1 = some .local ∨ (scope.names.lookup y.1 = some .cell ∧ ((cellsFrom (s.heap.objs.size + 1) scope.names []).lookup y.1).isSome = true) := fun ⟨n, v⟩ hy =>
    (S.par n (List.of_mem_zip hy).1).elim .inl fun z => .inr ⟨z, PySem.W.cellsFrom_some _ _ _ (.inl z)⟩
  refine codeAny_call_function hr.depth (inK _ _ lk) rfl S.co S.gen rfl (PySem.W.codeRec_of inK hcd) (hb _ _ _ _ (wpAny_newFunctionEnv_cells S.kind kinds fun env he s1 ext => ?_))
  subst he
  refine ⟨free.keeps ext.toInCall.keep, codeAny_func ?_⟩
  obtain ⟨t, ht, hq⟩ := der cdv outer s H vs Q E (hr.deeper _) given
  have at0 : Inv (cxOf CX P w K mg base N q scope f cdv A outer s H E) [] (L2.start N vs) H s1 := inv_start S hr.hd e0 (len _ _ _ _ given) rel ext
  refine wpAny_mono (ht.run [] s1 (L2.start N vs) H _ at0 hq) (fun fl s' hs => ?_) fun e s' hs => hs
  have out : ∀ {σ' : L2.St} {H' : Hp} {v : V} {u : Value}, Inv (cxOf CX P w K mg base N q scope f cdv A outer s H E) [] σ' H' s' → RelV v u → Q v H' → CE outer P w H s Q u s' := fun {σ' H' v u} j rv z => ⟨v, H', j.os, j.bare, j.base, j.hok, rv, z⟩
  match fl, hs with
  | .ret u, ⟨v, σ', H', j, rv, z⟩ => exact out j rv z
  | .next, ⟨σ', H', j, z⟩ => exact out (v := V.non) (u := Value.none) j rfl z
  | .brk, ⟨_, _, _, z⟩ => exact z.elim
  | .cont, ⟨_, _, _, z⟩ => exact z.elim
/-- the law is called -/
theorem law_at {P : Program} {w : World} {K : PySem.W.Frag} {mg mb : Str → Option Value} {CX : CXT} {k : Nat} {fa a : Addr} {fd : FuncData} {x : Str} {sp : Sp} {s1 : Shared} {vs : List Value} {ns : List Int}
    (KX : K.In s1.heap) (g1 : s1.heap.Ns mainGlobals mg) (g2 : s1.heap.Ns builtinsNs mb) (g3 : ∀ x : Str, x ≠ "__name__" → mb x = bootBuiltins x) (lim : s1.heap.NoLimit) (gens : s1.gens = #[])
    (obj : s1.heap.get? a = some { cls := .type "list", data := .seq vs.toArray }) (nums : IntsAre vs ns) (few : ns.length ≤ sizeLine) (room : Room k callerA)
    (F : ∀ base : Heap, K.In base → base.Ns mainGlobals mg → FnAt P w K mg base CX k callerA fa fd [x] sp) (bind : ∀ (s : Shared) (u : Value), BindsTo s fd ⟨[u], []⟩ [(x, u)])
    (says : ∀ H : Hp, Only H → SqL K H a (ns.map V.int) → sp [.ref a] H (fun v _ => v = .bl true) fun _ _ _ => False) (none' : ∀ H e s', CX [] H s1 (fun _ _ _ => False) e s' → False) :
    codeAny (model P w) callerA (.call (.ref fa) ⟨[.ref a], []⟩) (fun r s' => r = .ok (.ret (.bool true)) ∧ OldK s1.heap s'.heap ∧ s'.os = s1.os ∧ AllBare s'.gens) s1 := by
  have rel := vals_ints nums
  have same := nums.length
  have main : ∀ H : Hp, Only H → SqL K H a (ns.map V.int) → HOk P w H s1.heap → (∀ b, H b ≠ none → b = a ∧ K.lookup a = none) →
      codeAny (model P w) callerA (.call (.ref fa) ⟨[.ref a], []⟩) (fun r s' => r = .ok (.ret (.bool true)) ∧ OldK s1.heap s'.heap ∧ s'.os = s1.os ∧ AllBare s'.gens) s1 := fun H only sq ok one => by
    have un0 : ∀ {b : Addr}, b ≠ a → H b = none := fun {b} n => Classical.byContradiction fun z => n (one b z).1
    have keeps : ∀ {b : Addr} {o : Obj}, s1.heap.get? b = some o → H b = none → (hidT s1.heap H).get? b = some o := fun e n => hidT_get e n
    have dicts : ∀ {b : Addr} {m : Str → Option Value}, s1.heap.Ns b m → (hidT s1.heap H).Ns b m := fun {b m} ⟨o, es, ep, e, d, r⟩ => by
      refine ⟨o, es, ep, keeps e (un0 fun z => ?_), d, r⟩
      subst z
      rw [obj] at e
      cases e
      cases d
    have frag : K.In (hidT s1.heap H) := fun b o e => keeps (KX b o e) (Classical.byContradiction fun z => by
      obtain ⟨z1, z2⟩ := one b z
      rw [z1, z2] at e
      cases e)
    have md : Mod K mg (hidT s1.heap H) := ⟨frag, dicts g1, ⟨mb, dicts g2, g3⟩, let ⟨mc, h1, h2⟩ := lim; ⟨mc, dicts h1, h2⟩⟩
    have env : Env0 P w K mg (hidT s1.heap H) callerA [] s1 H := ⟨rfl, md, fun b o e => of_hidT e, Nat.le_of_eq (hidT_size _ _), trivial, fun b hb => (List.not_mem_nil hb).elim, ok, .of_eq gens⟩
    refine codeAny_mono ((F _ frag (dicts g1)).go [] s1 H ⟨[.ref a], []⟩ [.ref a] [.ref a] _ _ room env (bind s1 (.ref a)) (.cons rfl .nil) (says H only sq)) fun r s' h => ?_
    match r, h with
    | .error e, h => exact (none' H e s' h).elim
    | .ok .next, h => exact h.elim
    | .ok .brk, h => exact h.elim
    | .ok .cont, h => exact h.elim
    | .ok (.ret u), ⟨v, H', os, bare, un, ok', rv, z⟩ =>
      have z' : v = .bl true := z
      subst z'
      obtain rfl : u = Value.bool true := rv
      refine ⟨rfl, OldK.of_keep fun b o e => ?_, os, bare⟩
      cases y : H b with
      | none => exact un.keep b o e y (fun z => (List.not_mem_nil z).elim) (by simp)
      | some u =>
        rcases only b with z | ⟨ob, xs, z⟩
        · rw [y] at z; cases z
        · obtain ⟨e1, _⟩ := ok b _ z
          obtain ⟨e2, _⟩ := ok' b _ (un.frzs b ob _ z)
          rw [e] at e1
          cases e1
          exact e2
  cases hk : K.lookup a with
  | some o =>
    have e := KX a o hk
    rw [obj] at e
    cases e
    exact main (fun _ => none) (fun _ => .inl rfl) (.inr ⟨_, vs.toArray, _, hk, rfl, rfl, rfl, by rw [List.size_toArray, same]; exact few, by simpa using rel⟩) (fun b u z => by cases (show (none : Option HO) = some u from z)) fun b z => absurd rfl z
  | none =>
    let L : HO := .frz { cls := .type "list", data := .seq vs.toArray } (.lst (ns.map V.int))
    have at_ : ∀ b : Addr, (if b = a then some L else none) ≠ none → b = a := fun b z => Classical.byContradiction fun n => z (if_neg n)
    refine main (fun b => if b = a then some L else none) (fun b => ?_) (.inl (.inr ⟨{ cls := .type "list", data := .seq vs.toArray }, if_pos rfl⟩)) (fun b u z => ?_) fun b z => ⟨at_ b z, hk⟩
    · by_cases hb : b = a
      · exact .inr ⟨_, _, if_pos hb⟩
      · exact .inl (if_neg hb)
    · have hb : b = a := at_ b fun w => by
        have z0 : (if b = a then some L else none) = some u := z
        rw [w] at z0
        cases z0
      have z' := (if_pos hb).symm.trans z
      cases z'
      subst hb
      exact ⟨obj, by rw [List.length_map]; exact few, vs, _, rel, obj⟩
/-- a law's end where its own def is proved at the caller -/
theorem walk_at {l : PySem.W.OpenLaw} {n k : Nat} {q : Program} {loose : List Str} {XP : (Str → Option Value) → Heap → Prop} {YP : World → Heap → Prop} {d : DefRec} {x : Str} (hn : l.most = some n) (hn2 : n ≤ sizeLine) (hdf : d.params.defaults = []) (hr : Room k callerA)
    (F : ∀ (w : World) (mg : Str → Option Value) (fa : Addr) (h : Heap), YP w h → h.Ns mainGlobals mg → mg d.name = some (.ref fa) → ∃ (K : PySem.W.Frag) (fd : FuncData) (sp : Sp), K.In h ∧ (∀ (s : Shared) (u : Value), BindsTo s fd ⟨[u], []⟩ [(x, u)]) ∧
      (∀ (H : Hp) (a : Addr) (ns : List Int), ns.length ≤ n → Only H → SqL K H a (ns.map V.int) → sp [.ref a] H (fun v _ => v = .bl true) fun _ _ _ => False) ∧ ∀ base : Heap, K.In base → base.Ns mainGlobals mg → FnAt l.prog w K mg base (L2.CX l.prog w) k callerA fa fd [x] sp) :
    PySem.W.WalkO q loose XP YP l.row.toRowW d [] (fun f vs => PySem.call f vs) :=
  Att.attach_call hn hdf fun w s₀ s₁ mg mb fa o pm cd doc a vs ns G Y ho hd hcd hmg hobj hints hlen hg => by
    obtain ⟨K, fd, sp, KX, hb, hsp, hF⟩ := F w mg fa _ Y G.T.g hmg
    refine law_at KX G.T.g G.T.b G.T.builtins G.T.nolimit hg hobj hints (Nat.le_trans hlen hn2) hr hF hb (fun H hO hS => hsp H a ns hlen hO hS) fun H e s' z => ?_
    obtain ⟨_, _, _, _, _, _, _, _, _, _, _, _, z⟩ := z
    exact z
end LL


set_option Elab.async false
set_option linter.all false
set_option maxRecDepth 100000
set_option maxHeartbeats 4000000
/-! LLRepr: repr of data at a law's own level -/
namespace LL
open PySem PySem.Spec PyProof.Rows L2
open Evl (Ex)
section
variable {X : Cx} {pins : List (Addr × Obj)} {σ : L2.St} {H : Hp} {s : Shared}
mutual
theorem dp_reads (I : Inv X pins σ H s) : ∀ {d : PyData} {x : V} {v : Value}, Dp X.K H x d → RelV x v → ∃ as, Reads s.heap v d as
  | .none, _, _, h, r => by cases h; cases r; exact ⟨_, .none⟩
  | .bool _, _, _, h, r => by cases h; cases r; exact ⟨_, .bool _⟩
  | .int _, _, _, h, r => by cases h; obtain ⟨t, rfl⟩ := r; exact ⟨_, .int _ t⟩
  | .str _, _, _, h, r => by cases h; obtain ⟨t, rfl⟩ := r; exact ⟨_, .str _ t⟩
  | .list _, _, _, h, r => by
    cases h with
    | lst hs ha =>
      cases r
      obtain ⟨its, rv, p, _⟩ := I.list hs
      obtain ⟨o, ho, hc, n, hd⟩ := p.isList
      obtain ⟨as, q⟩ := dp_readsAll I ha rv
      exact ⟨_, .list ho hc hd (by simpa using q)⟩
  | .tuple _, _, _, h, r => by
    cases h with
    | tup hs ha =>
      cases r
      obtain ⟨its, rv, ⟨o, ho, hc, n, hd⟩, _⟩ := I.tuple hs
      obtain ⟨as, q⟩ := dp_readsAll I ha rv
      exact ⟨_, .tuple ho hc hd (by simpa using q)⟩
  | .dict _, _, _, h, _ => by cases h
theorem dp_readsAll (I : Inv X pins σ H s) : ∀ {ds : List PyData} {xs : List V} {vs : List Value}, DpAll X.K H xs ds → Vals xs vs → ∃ as, ReadsAll s.heap vs ds as
  | [], _, _, h, r => by cases h; cases r; exact ⟨_, .nil⟩
  | _ :: _, _, _, h, r => by
    cases h with
    | cons a b =>
      cases r with
      | cons ra rb =>
        obtain ⟨as, p⟩ := dp_reads I a ra
        obtain ⟨bs, q⟩ := dp_readsAll I b rb
        exact ⟨_, .cons p q⟩
end
mutual
theorem dp_nodict {K : PySem.W.Frag} : ∀ {d : PyData} {x : V}, Dp K H x d → d.hasDict = false
  | .none, _, _ => by simp only [PyData.hasDict]
  | .bool _, _, _ => by simp only [PyData.hasDict]
  | .int _, _, _ => by simp only [PyData.hasDict]
  | .str _, _, _ => by simp only [PyData.hasDict]
  | .list _, _, h => by cases h with | lst hs ha => simp only [PyData.hasDict]; exact dp_nodictAll ha
  | .tuple _, _, h => by cases h with | tup hs ha => simp only [PyData.hasDict]; exact dp_nodictAll ha
  | .dict _, _, h => by cases h
theorem dp_nodictAll {K : PySem.W.Frag} : ∀ {ds : List PyData} {xs : List V}, DpAll K H xs ds → PyData.hasDictAll ds = false
  | [], _, _ => by simp only [PyData.hasDictAll]
  | _ :: _, _, h => by cases h with | cons a b => simp only [PyData.hasDictAll, dp_nodict a, dp_nodictAll b, Bool.or_self]
end
theorem room_un {k : Nat} {A : Around} (hr : Room k A) : A.units + 150 < cLine := by
  have := hr.un
  omega
/-- repr(x), x a list or a tuple of data -/
def rRepr (K : PySem.W.Frag) : List V → Hp → VK → Prop := fun xs H Q => ∃ (a : Addr) (d : PyData), xs = [.ref a] ∧ Dp K H (.ref a) d ∧ d.showable = true ∧ d.depth ≤ 100 ∧ d.shown.length ≤ sizeLine ∧ Q (.str d.shown) H
theorem cr_repr (hg : X.A.guards = some []) (hu : X.A.units + 150 < cLine) : CallR X (.builtin "repr") (rRepr X.K) := by
  intro pins s σ H xs us Q I r h
  obtain ⟨a, d, rfl, hd, hs, hdp, hz, q⟩ := h
  cases r with
  | cons r rr =>
    cases rr
    cases r
    obtain ⟨as, rd⟩ := dp_reads I hd rfl
    exact repr_of_reads' rd hs (PyData.noDict_hsm (dp_nodict hd)) hg (by omega) (fun b o e => e) (fun h' u tk keep => ⟨.str d.shown, H, I.kept (t' := tk) keep, ⟨u, rfl⟩, q⟩) hz
end
end LL


set_option Elab.async false
set_option linter.all false
set_option maxRecDepth 100000
set_option maxHeartbeats 4000000
/-! LLRows: rows of ratios -/
namespace LL
open PySem PySem.Spec PyProof.Rows L2
open Evl (Ex)
abbrev Qt := Int × Int
def AllQ (n : Nat) (qs : List Qt) : Prop := ∀ q ∈ qs, Low q ∧ BR n q
def sumQ (qs : List Qt) : Qt := qs.foldl addQ (0, 1)
def dotQ (ps qs : List Qt) : Qt := (ps.zip qs).foldl (fun t z => addQ t (mulQ z.1 z.2)) (0, 1)
def leastQ (q0 : Qt) (qs : List Qt) : Qt := qs.foldl (fun l q => if belowQ q l then q else l) q0
def mostQ (q0 : Qt) (qs : List Qt) : Qt := qs.foldl (fun l q => if belowQ l q then q else l) q0
theorem zero_br : BR 1 (0, 1) := ⟨by show (0 : Int).natAbs < 2 ^ 1; decide, by show (1 : Int).natAbs < 2 ^ 1; decide, by decide⟩
theorem add_br {a b : Nat} {p q : Qt} (h : BR a p) (k : BR b q) : BR (a + b + 1) (addQ p q) ∧ Low (addQ p q) := by
  have z : p.2 * q.2 ≠ 0 := fun z => (Int.mul_eq_zero.mp z).elim h.z k.z
  have n : Bd (a + b + 1) (p.1 * q.2 + q.1 * p.2) := Bd.add (h.t.mul k.b) (by rw [Int.mul_comm]; exact h.b.mul k.t)
  have m := mkR_bd z n ((h.b.mul k.b).mono (Nat.le_succ _))
  have low : Low (addQ p q) := mkR_low (a := p.1 * q.2 + q.1 * p.2) z
  exact ⟨⟨m.1, m.2, fun e => by have h1 := low.1; rw [e] at h1; exact absurd h1 (by decide)⟩, low⟩
theorem mul_br {a b : Nat} {p q : Qt} (h : BR a p) (k : BR b q) : BR (a + b) (mulQ p q) ∧ Low (mulQ p q) := by
  have z : p.2 * q.2 ≠ 0 := fun z => (Int.mul_eq_zero.mp z).elim h.z k.z
  have m := mkR_bd z (h.t.mul k.t) (h.b.mul k.b)
  have low : Low (mulQ p q) := mkR_low (a := p.1 * q.1) z
  exact ⟨⟨m.1, m.2, fun e => by have h1 := low.1; rw [e] at h1; exact absurd h1 (by decide)⟩, low⟩
theorem br_mono {n m : Nat} {q : Qt} (h : BR n q) (l : n ≤ m) : BR m q := ⟨h.t.mono l, h.b.mono l, h.z⟩
theorem takeS {α : Type} {l : List α} {i : Nat} {x : α} (h : l[i]? = some x) : l.take (i + 1) = l.take i ++ [x] := by
  rw [List.take_succ, h]
  rfl
theorem sum_step {qs : List Qt} {i : Nat} {q : Qt} (h : qs[i]? = some q) : sumQ (qs.take (i + 1)) = addQ (sumQ (qs.take i)) q := by
  unfold sumQ
  rw [takeS h, List.foldl_append]
  rfl
theorem sum_br {qs : List Qt} (h : AllQ 110 qs) : ∀ i, i ≤ qs.length → BR (111 * i + 1) (sumQ (qs.take i)) := by
  intro i
  induction i with
  | zero => intro _; exact zero_br
  | succ i ih =>
    intro hi
    have e : qs[i]? = some qs[i] := List.getElem?_eq_getElem hi
    rw [sum_step e]
    have b := (add_br (ih (by omega)) (h qs[i] (List.getElem_mem hi)).2).1
    exact br_mono b (by omega)
theorem mapR {qs : List Qt} {i : Nat} {d : PyData} (h : (qs.map rt)[i]? = some d) : ∃ q, qs[i]? = some q ∧ d = rt q := by
  rw [List.getElem?_map] at h
  cases e : qs[i]? with
  | none => rw [e] at h; cases h
  | some q => rw [e] at h; exact ⟨q, rfl, (Option.some.inj h).symm⟩
theorem getR {qs : List Qt} {i : Nat} (h : i < (qs.map rt).length) : ∃ q, qs[i]? = some q ∧ (qs.map rt).getD i .none = rt q ∧ q ∈ qs := by
  have h' : i < qs.length := by rwa [List.length_map] at h
  refine ⟨qs[i], List.getElem?_eq_getElem h', ?_, List.getElem_mem h'⟩
  rw [List.getD_eq_getElem?_getD, List.getElem?_map, List.getElem?_eq_getElem h']
  rfl
section
variable {K : PySem.W.Frag} {O : Addr → Bool} {J : Hp → Prop} {Γ : List Sl} {E : XK}
theorem u_two {f : Qt → Qt → PyData} (G : Gr J) {p q : Qt} (h1 : BR 4000 p) (h2 : BR 4000 q) : SpS K O J (spG K 2 pre2 (rel2 f)) E [.da (rt p), .da (rt q)] (fun x => x = .da (f p q)) :=
  spG_us G rfl ⟨p, q, rfl, h1, h2⟩ fun s ⟨p', q', e, h⟩ => by
    injection e with e e2
    injection e with e
    injection e2 with e2
    injection e2 with e2
    rw [rt_inj e, rt_inj e2]
    exact h
theorem e_zero (h : ∀ H : Hp, SqT K H (He.ga K "ZERO") [.int 0, .int 1]) : ED K O J Γ (tC (.ref (He.ga K "ZERO"))) (rt (0, 1)) := e_con fun H => .tup (h H) (.cons (.int _) (.cons (.int _) .nil))
end
/-! ### is_sequence, is_row -/
def isSeq (d : PyData) : Bool := (seqI d).isSome
def anyS (s : Sl) : Prop := (∃ d, s = .da d) ∨ s = .dc
def seqB : Sl → Bool
  | .da d => isSeq d
  | _ => false
def sp_is_sequence (K : PySem.W.Frag) : Sp := spG K 1 (fun ss => ∃ s, ss = [s] ∧ anyS s) (fun ss s => ∃ t, ss = [t] ∧ s = .da (.bool (seqB t)))
def t_is_sequence (K : PySem.W.Frag) (E : XK) : TS := (tRet (tCB (rIsiT K) (tCons (tVar 0) (tCons (tTup (tCons (tC (.ty "list")) (tCons (tC (.ty "tuple")) tNil))) tNil))))
theorem isi_seq (d : PyData) : (isiD d "list" || isiD d "tuple") = isSeq d := by
  cases d with
  | none => decide +kernel
  | bool b => show ((kitB "bool" "list").getD false || (kitB "bool" "tuple").getD false) = false; decide +kernel
  | int b => show ((kitB "int" "list").getD false || (kitB "int" "tuple").getD false) = false; decide +kernel
  | str b => show ((kitB "str" "list").getD false || (kitB "str" "tuple").getD false) = false; decide +kernel
  | list b => show ((kitB "list" "list").getD false || (kitB "list" "tuple").getD false) = true; decide +kernel
  | tuple b => show ((kitB "tuple" "list").getD false || (kitB "tuple" "tuple").getD false) = true; decide +kernel
  | dict b => show ((kitB "dict" "list").getD false || (kitB "dict" "tuple").getD false) = false; decide +kernel
theorem sem_is_sequence {K : PySem.W.Frag} (E : XK) (O : Addr → Bool) (H : Hp) (ss : List Sl) (hl : ss.length = 1) (hp : ∃ s, ss = [s] ∧ anyS s) :
    Ok K O (fun H' => Ex H H') (ss ++ List.replicate 0 .un) (t_is_sequence K E) { rt := fun s => ∃ t, ss = [t] ∧ s = .da (.bool (seqB t)), nx := fun _ => False } := by
  obtain ⟨s, rfl, hs⟩ := hp
  have G := gr_ex H
  rcases hs with ⟨d, rfl⟩ | rfl
  · refine ok_retS (s := .da (.bool (isSeq d))) (e_is (e_isiT (e_d rfl) G (by decide) (by decide)) (by rw [isi_seq])) ⟨_, rfl, rfl⟩
  · intro D σ H1 hJ hE g
    obtain ⟨v, a1, a, kvs, rfl, e⟩ := hE.at_ 0 .dc rfl (fun z => nomatch z)
    refine ⟨.ref a, a1, by show 2 ≤ sizeLine; decide, fun p np => ?_⟩
    have gr : Ex H1 (upd H1 p (.tup [.ty "list", .ty "tuple"])) := Evl.Ex.new np
    have e1 : upd H1 p (.tup [.ty "list", .ty "tuple"]) a = some (.dK kvs) := gr a _ (hid_ex a _ e)
    refine ⟨.ref a, p, [.ty "list", .ty "tuple"], .type "dict", [.type "list", .type "tuple"], false, rfl, upd_same, .cons (.ty _) (.cons (.ty _) .nil), .base (.dK e1), ?_, ?_⟩
    · show (match PySem.W.kitOne K (.type "dict") (.type "list") with
        | some true => some true
        | some false => PySem.W.kitAny K (.type "dict") [.type "tuple"]
        | none => none) = _
      rw [kit_ty (show kitB "dict" "list" = some false by decide +kernel)]
      show (match PySem.W.kitOne K (.type "dict") (.type "tuple") with
        | some true => some true
        | some false => some false
        | none => none) = _
      rw [kit_ty (show kitB "dict" "tuple" = some false by decide +kernel)]
    · exact g.rt (.da (.bool false)) _ _ ⟨.dc, rfl, rfl⟩ (G _ _ gr hJ) (.of gr) (.bl _)
section
variable {K : PySem.W.Frag} {O : Addr → Bool} {J : Hp → Prop} {E : XK}
theorem u_seq (G : Gr J) {s : Sl} (h : anyS s) : SpS K O J (sp_is_sequence K) E [s] (fun x => x = .da (.bool (seqB s))) :=
  spG_us G rfl ⟨s, rfl, h⟩ fun x ⟨t, e, h⟩ => by
    injection e with e
    subst e
    exact h
end
/-! ### is_ratio_from -/
theorem isR_rt {d : PyData} (h : isR d = true) : ∃ q, d = rt q ∧ Low q := by
  match d, h with
  | .tuple [.int a, .int b], h =>
    have h : (decide (1 ≤ b) && decide (Nat.gcd a.natAbs b.natAbs = 1)) = true := h
    rw [Bool.and_eq_true] at h
    exact ⟨(a, b), rfl, by have := of_decide_eq_true h.1; show 0 < b; omega, of_decide_eq_true h.2⟩
/-- a ratio that is no less than l -/
def fromQ (d : PyData) (l : Qt) : Bool := isR d && (match d with
  | .tuple [.int a, .int b] => decide (0 ≤ cmpQ (a, b) l)
  | _ => false)
def tame (d : PyData) : Prop := ∀ q, d = rt q → Bd 110 q.1 ∧ Bd 110 q.2
def sp_is_ratio_from (K : PySem.W.Frag) : Sp := spG K 2 (fun ss => ∃ d l, ss = [.da d, .da (rt l)] ∧ tame d ∧ BR 110 l) (fun ss s => ∃ d l, ss = [.da d, .da (rt l)] ∧ s = .da (.bool (fromQ d l)))
def t_is_ratio_from (K : PySem.W.Frag) (E : XK) : TS := (tRet (tAndV (tCall (sp_is_ratio K) [] E0 (tCons (tVar 0) tNil)) (tOp rGeI (tCall (sp_compare K) [] E0 (tCons (tVar 0) (tCons (tVar 1) tNil))) (tC (.int 0)))))
theorem sem_is_ratio_from {K : PySem.W.Frag} (E : XK) (O : Addr → Bool) (H : Hp) (ss : List Sl) (hl : ss.length = 2) (hp : ∃ d l, ss = [.da d, .da (rt l)] ∧ tame d ∧ BR 110 l) :
    Ok K O (fun H' => Ex H H') (ss ++ List.replicate 0 .un) (t_is_ratio_from K E) { rt := fun s => ∃ d l, ss = [.da d, .da (rt l)] ∧ s = .da (.bool (fromQ d l)), nx := fun _ => False } := by
  obtain ⟨d, l, rfl, ht, hb⟩ := hp
  have G := gr_ex H
  refine ok_retS (s := .da (.bool (fromQ d l))) (e_andV (e_call (a_cons (e_d rfl) a_nil) (u_ratio G d)) (fun h => ?_) fun h => ?_) ⟨d, l, rfl, rfl⟩
  · obtain ⟨q, rfl, low⟩ := isR_rt h
    have b := ht q rfl
    have bq : BR 4000 q := ⟨b.1.mono (by decide), b.2.mono (by decide), by have := low.1; omega⟩
    refine e_is (e_ge (e_call (a_cons (e_d rfl) (a_cons (e_d rfl) a_nil)) (u_two (f := fun p q => .int (cmpQ p q)) G bq (br_mono hb (by decide)))) e_int) ?_
    unfold fromQ
    rw [h, Bool.true_and]
    rfl
  · unfold fromQ
    rw [h, Bool.false_and]
section
variable {K : PySem.W.Frag} {O : Addr → Bool} {J : Hp → Prop} {E : XK}
theorem u_from (G : Gr J) {d : PyData} {l : Qt} (h : tame d) (hl : BR 110 l) : SpS K O J (sp_is_ratio_from K) E [.da d, .da (rt l)] (fun x => x = .da (.bool (fromQ d l))) :=
  spG_us G rfl ⟨d, l, rfl, h, hl⟩ fun x ⟨d', l', e, h⟩ => by
    injection e with e e2
    injection e with e
    injection e2 with e2
    injection e2 with e2
    rw [e, rt_inj e2]
    exact h
end
/-! ### is_row -/
def okQ (d : PyData) (le : Option Qt) : Bool := match le with
  | none => isR d
  | some l => fromQ d l
def leD : Option Qt → PyData
  | none => .none
  | some l => rt l
def rowD (d : PyData) (n : Int) (le : Option Qt) : Bool := match seqI d with
  | some ds => decide ((ds.length : Int) = n) && ds.all fun x => okQ x le
  | none => false
def rowB (s : Sl) (n : Int) (le : Option Qt) : Bool := match s with
  | .da d => rowD d n le
  | _ => false
def preRow (ss : List Sl) : Prop := ∃ s n le, ss = [s, .da (.int n), .da (leD le)] ∧ anyS s ∧ (∀ l, le = some l → BR 110 l) ∧ ∀ d ds, s = .da d → seqI d = some ds → ds.length ≤ 1000 ∧ ∀ x ∈ ds, tame x
def relRow (ss : List Sl) (x : Sl) : Prop := ∃ s n le, ss = [s, .da (.int n), .da (leD le)] ∧ x = .da (.bool (rowB s n le))
def sp_is_row (K : PySem.W.Frag) : Sp := spG K 3 preRow relRow
def sp_is_row2 (K : PySem.W.Frag) : Sp := fun vs => sp_is_row K (vs ++ [.non])
def t_is_row (K : PySem.W.Frag) (E : XK) : TS := (tSeq (tIfS (tOr (tNot (tTru K (tCall (sp_is_sequence K) [] E0 (tCons (tVar 0) tNil)))) (tTest (tOp rNe (tCB (LL.rLen K) (tCons (tVar 0) tNil)) (tVar 1)))) (tRet (tC (.bl false))) tNext)
 (tSeq (tIfS (tTest (tOp rIsNon (tVar 2) (tC .non))) (tRet (tCB (rAll K) (tCons (tLc (iEi K (tVar 0)) (gName 3) tYes (tCall (sp_is_ratio K) [] E0 (tCons (tVar 3) tNil)) [3]) tNil))) tNext)
 (tRet (tCB (rAll K) (tCons (tLc (iEi K (tVar 0)) (gName 3) tYes (tCall (sp_is_ratio_from K) [] E0 (tCons (tVar 3) (tCons (tVar 2) tNil))) [3]) tNil)))))
theorem dpBools' {K : PySem.W.Frag} {H : Hp} : ∀ {bs : List Bool} {vs : List V}, DpAll K H vs (bs.map PyData.bool) → vs = bs.map V.bl
  | [], _, h => by cases h; rfl
  | _ :: _, _, h => by
    cases h with
    | cons a b =>
      cases a
      rw [dpBools' b]
      rfl
theorem c_all' {K : PySem.W.Frag} {O : Addr → Bool} {J : Hp → Prop} {bs : List Bool} : RcS K O J (rAll K) [.da (.list (bs.map PyData.bool))] (fun x => x = .da (.bool (bs.all id))) := fun vs H1 hJ tr h Q q => by
  obtain ⟨v, rfl, o⟩ := sl1 h
  have o : Dp K (hid O H1) v (.list (bs.map PyData.bool)) := o
  cases o with
  | lst hs ha =>
    have e := dpBools' ha
    subst e
    exact ⟨_, bs, rfl, Evl.ex_l hid_ex hs, q _ _ H1 rfl hJ .refl (.bl _)⟩
theorem t_yes' {K : PySem.W.Frag} {O : Addr → Bool} {J : Hp → Prop} {Γ : List Sl} : ET K O J Γ tYes true := fun σ H1 hJ hE Q q => q H1 hJ .refl
theorem getDs {ds : List PyData} {i : Nat} (h : i < ds.length) : ds[i]? = some (ds.getD i .none) ∧ ds.getD i .none ∈ ds := by
  rw [List.getD_eq_getElem?_getD, List.getElem?_eq_getElem h]
  exact ⟨rfl, List.getElem_mem h⟩
theorem sem_is_row {K : PySem.W.Frag} (E : XK) (O : Addr → Bool) (H : Hp) (ss : List Sl) (hl : ss.length = 3) (hp : preRow ss) :
    Ok K O (fun H' => Ex H H') (ss ++ List.replicate 1 .un) (t_is_row K E) { rt := relRow ss, nx := fun _ => False } := by
  obtain ⟨s, n, le, rfl, hs, hb, ht⟩ := hp
  have G := gr_ex H
  have z : sizeLine = 16777216 := rfl
  have fin : ∀ {x : Sl}, x = .da (.bool (rowB s n le)) → relRow [s, .da (.int n), .da (leD le)] x := fun e => ⟨s, n, le, rfl, e⟩
  cases hq : seqB s with
  | false =>
    have ne : s ≠ .un := fun e => by subst e; rcases hs with ⟨d, e⟩ | e <;> cases e
    refine q_when (a := true) (t_or (a := true) (t_is (t_not (t_truth (e_call (a_cons (e_var rfl ne) a_nil) (u_seq G hs)) True.intro)) (by rw [hq]; rfl)) (fun h => nomatch h) fun _ => rfl) (fun _ => ?_) fun h => nomatch h
    refine q_retS e_bl (fin ?_)
    rcases hs with ⟨d, rfl⟩ | rfl
    · have hq : isSeq d = false := hq
      unfold isSeq at hq
      have e : rowD d n le = false := by
        unfold rowD
        cases e : seqI d with
        | none => rfl
        | some ds => rw [e] at hq; cases hq
      show Sl.da (.bool false) = .da (.bool (rowD d n le))
      rw [e]
    · rfl
  | true =>
    obtain ⟨d, rfl⟩ : ∃ d, s = .da d := by
      rcases hs with h | rfl
      · exact h
      · cases hq
    have hq' : isSeq d = true := hq
    obtain ⟨ds, hds⟩ : ∃ ds, seqI d = some ds := Option.isSome_iff_exists.mp hq'
    obtain ⟨hlen, htm⟩ := ht d ds rfl hds
    have rb : rowB (.da d) n le = (decide ((ds.length : Int) = n) && ds.all fun x => okQ x le) := by
      show rowD d n le = _
      unfold rowD
      rw [hds]
    have t1 : ET K O (fun H' => Ex H H') [.da d, .da (.int n), .da (leD le), .un] (tOr (tNot (tTru K (tCall (sp_is_sequence K) [] E0 (tCons (tVar 0) tNil)))) (tTest (tOp rNe (tCB (LL.rLen K) (tCons (tVar 0) tNil)) (tVar 1)))) (!decide ((ds.length : Int) = n)) :=
      t_or (a := false) (t_is (t_not (t_truth (e_call (a_cons (e_d rfl) a_nil) (u_seq G (.inl ⟨d, rfl⟩))) True.intro)) (by rw [hq]; rfl)) (fun _ => t_val (e_neI (e_cb (a_cons (e_d rfl) a_nil) (c_lenSeq hds)) (e_d rfl))) fun h => nomatch h
    refine q_when t1 (fun h => ?_) fun h => ?_
    · refine q_retS e_bl (fin ?_)
      rw [rb, (by rwa [Bool.not_eq_true'] at h : decide ((ds.length : Int) = n) = false), Bool.false_and]
    · have hn : decide ((ds.length : Int) = n) = true := by rwa [Bool.not_eq_false'] at h
      have done : ∀ {te : TE}, (∀ O' J' i, Ext O (fun H' => Ex H H') O' J' → i < ds.length → ED K O' J' [.da d, .da (.int n), .da (leD le), .da (ds.getD i .none)] te (.bool (okQ (ds.getD i .none) le))) →
          Ok K O (fun H' => Ex H H') [.da d, .da (.int n), .da (leD le), .un] (tRet (tCB (rAll K) (tCons (tLc (iEi K (tVar 0)) (gName 3) tYes te [3]) tNil))) { rt := relRow [.da d, .da (.int n), .da (leD le)], nx := fun _ => False } := fun {te} hte => by
        have comp : ED K O (fun H' => Ex H H') [.da d, .da (.int n), .da (leD le), .un] (tLc (iEi K (tVar 0)) (gName 3) tYes te [3]) (.list ((ds.map fun x => okQ x le).map PyData.bool)) :=
          e_lc G (fr_ex H) (src_ei (e_d rfl) hds) (by omega) (b := fun _ => true) (fun i rs => rs = ((ds.take i).map fun x => okQ x le).map PyData.bool) rfl (fun _ _ _ _ _ => t_yes') (fun O' J' i rs X hi hI _ => (hte O' J' i X hi).imp fun s e => ⟨_, e, by
            rw [hI, takeS (getDs hi).1, List.map_append, List.map_append]
            rfl⟩) (fun _ _ _ _ z => nomatch z) (fun rs hI => by rw [hI, List.take_length]) (by show 3 < 4; decide)
        refine ok_retS (e_cb (a_cons comp a_nil) c_all') (fin ?_)
        rw [rb, hn, Bool.true_and, List.all_map]
        rfl
      cases le with
      | none =>
        refine q_when (a := true) (t_is (t_val (e_isN (e_d rfl) e_non)) rfl) (fun _ => ?_) fun h => nomatch h
        exact ok_seq (M := fun _ => False) (done fun O' J' i X hi => e_call (a_cons (e_d rfl) a_nil) (u_ratio X.gr _)) fun _ z => z.elim
      | some l =>
        refine q_not (t_is (t_val (e_isN (e_d rfl) e_non)) rfl) ?_
        exact done fun O' J' i X hi => e_call (a_cons (e_d rfl) (a_cons (e_d rfl) a_nil)) (u_from X.gr (htm _ (getDs hi).2) (hb l rfl))
end LL


set_option Elab.async false
set_option linter.all false
set_option maxRecDepth 100000
set_option maxHeartbeats 4000000
/-! LLRow2: sums, least, greatest, sums of products, rows added and multiplied -/
namespace LL
open PySem PySem.Spec PyProof.Rows L2
open Evl (Ex)
def sp_is_row2_least (K : PySem.W.Frag) : Sp := sp_is_row K
theorem fold_step {α β : Type} {f : β → α → β} {b : β} {l : List α} {i : Nat} {x : α} (h : l[i]? = some x) : (l.take (i + 1)).foldl f b = f ((l.take i).foldl f b) x := by
  rw [takeS h, List.foldl_append]
  rfl
section
variable {K : PySem.W.Frag} {O : Addr → Bool} {J : Hp → Prop} {Γ : List Sl} {ta tb te : TE} {d : PyData} {ds : List PyData}
theorem e_ixQ {n : Nat} {x : PyData} (h1 : ED K O J Γ ta d) (e : seqI d = some ds) (h2 : ED K O J Γ tb (.int (n : Int))) (hn : ds[n]? = some x) : ED K O J Γ (tOp (rIx K) ta tb) x :=
  e_op h1 h2 fun s1 s2 v y H1 p1 p2 hJ tr o1 o2 Q q => by
    cases p1; cases p2; cases o2
    obtain ⟨a, k, xs, rfl, hq, ha⟩ := seq_dp (show Dp K (hid O H1) v d from o1) e
    obtain ⟨u, e1, e2⟩ := dpAt ha hn
    cases k
    · exact .inr (.inl ⟨_, _, _, u, rfl, rfl, Evl.ex_t hid_ex hq, atI_nat e1, q _ _ H1 rfl hJ .refl e2⟩)
    · exact .inl ⟨_, _, _, u, rfl, rfl, Evl.ex_l hid_ex hq, atI_nat e1, q _ _ H1 rfl hJ .refl e2⟩
theorem e_notTP {P : Sl → Prop} {b : Bool} (h : EP K O J Γ te P) (k : ∀ s, P s → ∃ d, s = .da d ∧ sizedD d ∧ truD d = b) : ED K O J Γ (tNotT K te) (.bool (!b)) := fun σ H1 hJ hE Q q =>
  h σ H1 hJ hE _ fun s v H2 ps hJ2 st o => by
    obtain ⟨d, rfl, hz, hb⟩ := k s ps
    have o : Dp K (hid O H2) v d := o
    refine ⟨b, ?_, q _ _ H2 rfl hJ2 st (.bl _)⟩
    rw [← hb]
    cases o with
    | non => exact rfl
    | bl b => exact rfl
    | int i => exact rfl
    | str y => exact ⟨hz, rfl⟩
    | lst hs ha => exact .inl ⟨_, Evl.ex_l hid_ex hs, empty_of ha⟩
    | tup hs ha => exact .inr (.inl ⟨_, Evl.ex_t hid_ex hs, empty_of ha⟩)
theorem e_dict (G : Gr J) : ES K O J Γ tDNewK .dc := fun σ H1 hJ hE Q q p np => by
  have g : Ex H1 (upd H1 p (.dK [])) := Evl.Ex.new np
  exact q _ _ _ rfl (G _ _ g hJ) (.of g) ⟨p, [], rfl, hid_new hE.tr np⟩
end
theorem mapLen (qs : List Qt) : (qs.map rt).length = qs.length := List.length_map ..
/-! ### sum_of -/
def preSum (ss : List Sl) : Prop := ∃ d qs, ss = [.da d] ∧ seqI d = some (qs.map rt) ∧ qs.length ≤ 10 ∧ AllQ 110 qs
def relSum (ss : List Sl) (s : Sl) : Prop := ∃ d qs, ss = [.da d] ∧ seqI d = some (qs.map rt) ∧ s = .da (rt (sumQ qs))
def sp_sum_of (K : PySem.W.Frag) : Sp := spG K 1 preSum relSum
def t_sum_of (K : PySem.W.Frag) (E : XK) : TS := (tSeq (tAsg (tC (.ref (He.ga K "ZERO"))) (gName 1))
 (tSeq (tFor (iEi K (tVar 0)) (gName 2) (tAsg (tCall (sp_plus K) [] E0 (tCons (tVar 1) (tCons (tVar 2) tNil))) (gName 1)))
 (tRet (tVar 1))))
theorem sum_of_ok {K : PySem.W.Frag} (hZ : ∀ H : Hp, SqT K H (He.ga K "ZERO") [.int 0, .int 1]) (E : XK) (O : Addr → Bool) (H : Hp) (ss : List Sl) (hl : ss.length = 1) (hp : preSum ss) :
    Ok K O (fun H' => Ex H H') (ss ++ List.replicate 2 .un) (t_sum_of K E) { rt := relSum ss, nx := fun _ => False } := by
  obtain ⟨d, qs, rfl, hs, hn, hq⟩ := hp
  have G := gr_ex H
  refine q_setS (e_zero hZ) ?_
  refine ok_seq (M := fun Γ' => ∃ x, Γ' = [.da d, .da (rt (sumQ qs)), x]) (ok_forS (src_ei (e_d rfl) hs) (fun i Γ' => ∃ x, Γ' = [.da d, .da (rt (sumQ (qs.take i))), x]) ⟨.un, rfl⟩ (fun i Γ' hi ⟨x, e⟩ => ?_) fun Γ' ⟨x, e⟩ => ?_) fun Γ' ⟨x, e⟩ => ?_
  · subst e
    obtain ⟨q, eq, er, mq⟩ := getR hi
    rw [er]
    rw [mapLen] at hi
    refine ok_setS (e_call (a_cons (e_d rfl) (a_cons (e_d rfl) a_nil)) (u_two (f := fun p q => rt (addQ p q)) G (br_mono (sum_br hq i (by omega)) (by omega)) (br_mono (hq q mq).2 (by decide)))) ⟨.da (rt q), ?_⟩
    rw [sum_step eq]
    rfl
  · refine ⟨x, ?_⟩
    rw [e, mapLen, List.take_length]
  · subst e
    exact ok_retS (e_d rfl) ⟨d, qs, rfl, hs, rfl⟩
/-! ### least_of, greatest_of -/
theorem cmp_lt (p q : Qt) : decide (cmpQ p q < 0) = belowQ p q := by
  unfold cmpQ belowQ
  by_cases h1 : p.1 * q.2 = q.1 * p.2
  · rw [if_pos h1, decide_eq_false (p := p.1 * q.2 < q.1 * p.2) (by omega)]
    rfl
  · rw [if_neg h1]
    by_cases h2 : p.1 * q.2 < q.1 * p.2
    · rw [if_pos h2, decide_eq_true h2]
      rfl
    · rw [if_neg h2, decide_eq_false h2]
      rfl
theorem cmp_gt (p q : Qt) : decide (0 < cmpQ p q) = belowQ q p := by
  unfold cmpQ belowQ
  by_cases h1 : p.1 * q.2 = q.1 * p.2
  · rw [if_pos h1, decide_eq_false (p := q.1 * p.2 < p.1 * q.2) (by omega)]
    rfl
  · rw [if_neg h1]
    by_cases h2 : p.1 * q.2 < q.1 * p.2
    · rw [if_pos h2, decide_eq_false (p := q.1 * p.2 < p.1 * q.2) (by omega)]
      rfl
    · rw [if_neg h2, decide_eq_true (p := q.1 * p.2 < p.1 * q.2) (by omega)]
      rfl
theorem pick_mem {f : Qt → Qt → Bool} (q0 : Qt) : ∀ (qs : List Qt), qs.foldl (fun l q => if f l q then q else l) q0 = q0 ∨ qs.foldl (fun l q => if f l q then q else l) q0 ∈ qs := by
  intro qs
  induction qs generalizing q0 with
  | nil => exact .inl rfl
  | cons q r ih =>
    rw [List.foldl_cons]
    by_cases h : f q0 q = true
    · rw [if_pos h]
      rcases ih q with e | e
      · exact .inr (by rw [e]; exact List.mem_cons_self ..)
      · exact .inr (List.mem_cons_of_mem _ e)
    · rw [if_neg h]
      rcases ih q0 with e | e
      · exact .inl e
      · exact .inr (List.mem_cons_of_mem _ e)
theorem pick_br {f : Qt → Qt → Bool} {q0 : Qt} {r qs : List Qt} (h : AllQ 110 (q0 :: r)) (hs : ∀ q ∈ qs, q ∈ q0 :: r) : BR 4000 (qs.foldl (fun l q => if f l q then q else l) q0) := by
  rcases pick_mem (f := f) q0 qs with e | e
  · rw [e]; exact br_mono (h q0 (List.mem_cons_self ..)).2 (by decide)
  · exact br_mono (h _ (hs _ e)).2 (by decide)
def preLeast (ss : List Sl) : Prop := ∃ d q0 r, ss = [.da d] ∧ seqI d = some ((q0 :: r).map rt) ∧ AllQ 110 (q0 :: r)
def relLeast (ss : List Sl) (s : Sl) : Prop := ∃ d q0 r, ss = [.da d] ∧ seqI d = some ((q0 :: r).map rt) ∧ s = .da (rt (leastQ q0 (q0 :: r)))
def relMost (ss : List Sl) (s : Sl) : Prop := ∃ d q0 r, ss = [.da d] ∧ seqI d = some ((q0 :: r).map rt) ∧ s = .da (rt (mostQ q0 (q0 :: r)))
def sp_least_of (K : PySem.W.Frag) : Sp := spG K 1 preLeast relLeast
def sp_greatest_of (K : PySem.W.Frag) : Sp := spG K 1 preLeast relMost
def t_least_of (K : PySem.W.Frag) (E : XK) : TS := (tSeq (tAsg (tOp (rIx K) (tVar 0) (tC (.int 0))) (gName 1))
 (tSeq (tFor (iEi K (tVar 0)) (gName 2) (tIfS (tTest (tOp rLtI (tCall (sp_compare K) [] E0 (tCons (tVar 2) (tCons (tVar 1) tNil))) (tC (.int 0)))) (tAsg (tVar 2) (gName 1)) tNext))
 (tRet (tVar 1))))
def t_greatest_of (K : PySem.W.Frag) (E : XK) : TS := (tSeq (tAsg (tOp (rIx K) (tVar 0) (tC (.int 0))) (gName 1))
 (tSeq (tFor (iEi K (tVar 0)) (gName 2) (tIfS (tTest (tOp rGtI (tCall (sp_compare K) [] E0 (tCons (tVar 2) (tCons (tVar 1) tNil))) (tC (.int 0)))) (tAsg (tVar 2) (gName 1)) tNext))
 (tRet (tVar 1))))
theorem pick_ok {K : PySem.W.Frag} {O : Addr → Bool} {H : Hp} {f : Qt → Qt → Bool} {tt : TT} {d : PyData} {q0 : Qt} {r : List Qt} {R : Sl → Prop} (hs : seqI d = some ((q0 :: r).map rt)) (hq : AllQ 110 (q0 :: r))
    (ht : ∀ {Γ : List Sl} {l q : Qt}, Γ[1]? = some (.da (rt l)) → Γ[2]? = some (.da (rt q)) → BR 4000 l → BR 4000 q → ET K O (fun H' => Ex H H') Γ tt (f l q))
    (hR : R (.da (rt ((q0 :: r).foldl (fun l q => if f l q then q else l) q0)))) :
    Ok K O (fun H' => Ex H H') [.da d, .un, .un] (tSeq (tAsg (tOp (rIx K) (tVar 0) (tC (.int 0))) (gName 1)) (tSeq (tFor (iEi K (tVar 0)) (gName 2) (tIfS tt (tAsg (tVar 2) (gName 1)) tNext)) (tRet (tVar 1)))) { rt := R, nx := fun _ => False } := by
  refine q_setS (e_ixQ (n := 0) (e_d rfl) hs e_int rfl) ?_
  refine ok_seq (M := fun Γ' => ∃ x, Γ' = [.da d, .da (rt ((q0 :: r).foldl (fun l q => if f l q then q else l) q0)), x]) (ok_forS (src_ei (e_d rfl) hs) (fun i Γ' => ∃ x, Γ' = [.da d, .da (rt (((q0 :: r).take i).foldl (fun l q => if f l q then q else l) q0)), x]) ⟨.un, rfl⟩ (fun i Γ' hi ⟨x, e⟩ => ?_) fun Γ' ⟨x, e⟩ => ?_) fun Γ' ⟨x, e⟩ => ?_
  · subst e
    obtain ⟨q, eq, er, mq⟩ := getR hi
    rw [er]
    have b1 := pick_br (f := f) hq (qs := (q0 :: r).take i) fun q h => List.mem_of_mem_take h
    refine ok_if (ht rfl rfl b1 (br_mono (hq q mq).2 (by decide))) (fun h => ok_setS (e_d rfl) ⟨.da (rt q), ?_⟩) fun h => ok_next ⟨.da (rt q), ?_⟩
    · rw [fold_step eq, if_pos h]
      rfl
    · rw [fold_step eq, if_neg (by rw [h]; exact Bool.false_ne_true)]
      rfl
  · refine ⟨x, ?_⟩
    rw [e, mapLen, List.take_length]
  · subst e
    exact ok_retS (e_d rfl) hR
theorem sem_least_of {K : PySem.W.Frag} (E : XK) (O : Addr → Bool) (H : Hp) (ss : List Sl) (hl : ss.length = 1) (hp : preLeast ss) :
    Ok K O (fun H' => Ex H H') (ss ++ List.replicate 2 .un) (t_least_of K E) { rt := relLeast ss, nx := fun _ => False } := by
  obtain ⟨d, q0, r, rfl, hs, hq⟩ := hp
  exact pick_ok (f := fun l q => belowQ q l) hs hq (fun h1 h2 b1 b2 => t_is (t_val (e_lt (e_call (a_cons (e_d h2) (a_cons (e_d h1) a_nil)) (u_two (f := fun p q => .int (cmpQ p q)) (gr_ex H) b2 b1)) e_int)) (cmp_lt _ _)) ⟨d, q0, r, rfl, hs, rfl⟩
theorem sem_greatest_of {K : PySem.W.Frag} (E : XK) (O : Addr → Bool) (H : Hp) (ss : List Sl) (hl : ss.length = 1) (hp : preLeast ss) :
    Ok K O (fun H' => Ex H H') (ss ++ List.replicate 2 .un) (t_greatest_of K E) { rt := relMost ss, nx := fun _ => False } := by
  obtain ⟨d, q0, r, rfl, hs, hq⟩ := hp
  exact pick_ok (f := fun l q => belowQ l q) hs hq (fun h1 h2 b1 b2 => t_is (t_val (e_gt (e_call (a_cons (e_d h2) (a_cons (e_d h1) a_nil)) (u_two (f := fun p q => .int (cmpQ p q)) (gr_ex H) b2 b1)) e_int)) (cmp_gt _ _)) ⟨d, q0, r, rfl, hs, rfl⟩
end LL


set_option Elab.async false
set_option linter.all false
set_option maxRecDepth 100000
set_option maxHeartbeats 4000000
/-! LLRow3: sums of products, rows added and multiplied -/
namespace LL
open PySem PySem.Spec PyProof.Rows L2
open Evl (Ex)
theorem low_id {q : Qt} (h : Low q) : mkR q.1 q.2 = q := by
  have g : sg q.1 q.2 = 1 := by
    unfold sg
    rw [if_neg (by have := h.1; omega), h.2]
    rfl
  unfold mkR
  rw [g, Int.fdiv_one, Int.fdiv_one]
theorem mk_zero {c : Int} (h : c ≠ 0) : mkR 0 c = (0, 1) := by
  have g : sg 0 c = c := by
    unfold sg
    by_cases hc : c < 0
    · rw [if_pos hc, Int.natAbs_zero, Nat.gcd_zero_left]
      omega
    · rw [if_neg hc, Int.natAbs_zero, Nat.gcd_zero_left]
      omega
  unfold mkR
  rw [g, Int.zero_fdiv, Int.fdiv_self h]
theorem add_none {t p q : Qt} (ht : Low t) (hp : p.2 ≠ 0) (hq : q.2 ≠ 0) (h : p.1 = 0 ∨ q.1 = 0) : addQ t (mulQ p q) = t := by
  have e : mulQ p q = (0, 1) := by
    unfold mulQ
    have e1 : p.1 * q.1 = 0 := by
      rcases h with h | h <;> rw [h] <;> simp
    rw [e1]
    exact mk_zero fun z => (Int.mul_eq_zero.mp z).elim hp hq
  rw [e]
  unfold addQ
  show mkR (t.1 * 1 + 0 * t.2) (t.2 * 1) = t
  rw [Int.mul_one, Int.zero_mul, Int.add_zero, Int.mul_one]
  exact low_id ht
def dotF (zs : List (Qt × Qt)) : Qt := zs.foldl (fun t z => addQ t (mulQ z.1 z.2)) (0, 1)
theorem zip_at {ps qs : List Qt} {i : Nat} {p q : Qt} (h1 : ps[i]? = some p) (h2 : qs[i]? = some q) : (ps.zip qs)[i]? = some (p, q) := by
  rw [List.getElem?_zip_eq_some]
  exact ⟨h1, h2⟩
theorem dot_br {ps qs : List Qt} (h1 : AllQ 110 ps) (h2 : AllQ 110 qs) : ∀ i, i ≤ (ps.zip qs).length → BR (221 * i + 1) (dotF ((ps.zip qs).take i)) ∧ Low (dotF ((ps.zip qs).take i)) := by
  intro i
  induction i with
  | zero => intro _; exact ⟨zero_br, show Low (0, 1) from ⟨by decide, by decide⟩⟩
  | succ i ih =>
    intro hi
    have e : (ps.zip qs)[i]? = some (ps.zip qs)[i] := List.getElem?_eq_getElem hi
    have m := List.of_mem_zip (List.getElem_mem hi : ((ps.zip qs)[i].1, (ps.zip qs)[i].2) ∈ ps.zip qs)
    have st : dotF ((ps.zip qs).take (i + 1)) = addQ (dotF ((ps.zip qs).take i)) (mulQ (ps.zip qs)[i].1 (ps.zip qs)[i].2) := fold_step e
    rw [st]
    have b := add_br (ih (by omega)).1 (mul_br (h1 _ m.1).2 (h2 _ m.2).2).1
    exact ⟨br_mono b.1 (by omega), b.2⟩
def preDot (ss : List Sl) : Prop := ∃ (d1 d2 : PyData) (ps qs : List Qt), ss = [.da d1, .da d2] ∧ seqI d1 = some (ps.map rt) ∧ seqI d2 = some (qs.map rt) ∧ ps.length ≤ 10 ∧ AllQ 110 ps ∧ AllQ 110 qs
def relDot (ss : List Sl) (s : Sl) : Prop := ∃ (d1 d2 : PyData) (ps qs : List Qt), ss = [.da d1, .da d2] ∧ seqI d1 = some (ps.map rt) ∧ seqI d2 = some (qs.map rt) ∧ s = .da (rt (dotF (ps.zip qs)))
def sp_dot (K : PySem.W.Frag) : Sp := spG K 2 preDot relDot
def sp__law_dot (K : PySem.W.Frag) : Sp := spG K 2 preDot relDot
def t_dot (K : PySem.W.Frag) (E : XK) : TS := (tSeq (tAsg (tC (.ref (He.ga K "ZERO"))) (gName 2))
 (tSeq (tFor (LLZ.iZipM K (tCons (tVar 0) (tCons (tVar 1) tNil))) (gTwo K 3 4) (tIfS (tAnd (tTest (tOp rNe (tOp (rIxT K) (tVar 3) (tC (.int 0))) (tC (.int 0)))) (tTest (tOp rNe (tOp (rIxT K) (tVar 4) (tC (.int 0))) (tC (.int 0))))) (tAsg (tCall (sp_plus K) [] E0 (tCons (tVar 2) (tCons (tCall (sp_times K) [] E0 (tCons (tVar 3) (tCons (tVar 4) tNil))) tNil))) (gName 2)) tNext))
 (tRet (tVar 2))))
def t__law_dot (K : PySem.W.Frag) (E : XK) : TS := (tSeq (tAsg (tTup (tCons (tC (.int 0)) (tCons (tC (.int 1)) tNil))) (gName 2))
 (tSeq (tFor (LLZ.iZipM K (tCons (tVar 0) (tCons (tVar 1) tNil))) (gTwo K 3 4) (tAsg (tCall (sp__law_plus K) [] E0 (tCons (tVar 2) (tCons (tCall (sp__law_times K) [] E0 (tCons (tVar 3) (tCons (tVar 4) tNil))) tNil))) (gName 2)))
 (tRet (tVar 2))))
theorem zipMin (ps qs : List Qt) : (ps.zip qs).length = min (ps.map rt).length (qs.map rt).length := by rw [mapLen, mapLen, List.length_zip]
theorem dot_loop {K : PySem.W.Frag} {O : Addr → Bool} {H : Hp} {t : TS} {d1 d2 : PyData} {ps qs : List Qt} (e1 : seqI d1 = some (ps.map rt)) (e2 : seqI d2 = some (qs.map rt)) (hn : ps.length ≤ 10) (h1 : AllQ 110 ps) (h2 : AllQ 110 qs)
    (ht : ∀ (u p q : Qt), Low u → BR 3000 u → Low p → BR 110 p → Low q → BR 110 q → Ok K O (fun H' => Ex H H') [.da d1, .da d2, .da (rt u), .da (rt p), .da (rt q)] t { rt := relDot [.da d1, .da d2], nx := fun Γ => ∃ x y, Γ = [.da d1, .da d2, .da (rt (addQ u (mulQ p q))), x, y], ct := fun Γ => ∃ x y, Γ = [.da d1, .da d2, .da (rt (addQ u (mulQ p q))), x, y] }) :
    Ok K O (fun H' => Ex H H') [.da d1, .da d2, .da (rt (0, 1)), .un, .un] (tSeq (tFor (LLZ.iZipM K (tCons (tVar 0) (tCons (tVar 1) tNil))) (gTwo K 3 4) t) (tRet (tVar 2))) { rt := relDot [.da d1, .da d2], nx := fun _ => False } := by
  have G := gr_ex H
  have zl : (ps.zip qs).length ≤ ps.length := by rw [List.length_zip]; omega
  refine ok_seq (M := fun Γ' => ∃ x y, Γ' = [.da d1, .da d2, .da (rt (dotF (ps.zip qs))), x, y]) (ok_forZ (n := (ps.zip qs).length) G (a_cons (e_d rfl) (a_cons (e_d rfl) a_nil)) e1 e2 (zipMin ps qs) (fun i Γ' => ∃ x y, i ≤ (ps.zip qs).length ∧ Γ' = [.da d1, .da d2, .da (rt (dotF ((ps.zip qs).take i))), x, y]) ⟨.un, .un, Nat.zero_le _, rfl⟩ (fun i x y Γ' hx hy ⟨x', y', hi, e⟩ => ?_) fun Γ' ⟨x, y, hi, e⟩ => ?_) fun Γ' ⟨x, y, e⟩ => ?_
  · subst e
    obtain ⟨p, ep, rfl⟩ := mapR hx
    obtain ⟨q, eq, rfl⟩ := mapR hy
    have b := dot_br h1 h2 i hi
    have mp := h1 p (List.mem_of_getElem? ep)
    have mq := h2 q (List.mem_of_getElem? eq)
    have ez := zip_at ep eq
    have lt : i < (ps.zip qs).length := (List.getElem?_eq_some_iff.mp ez).1
    have st : dotF ((ps.zip qs).take (i + 1)) = addQ (dotF ((ps.zip qs).take i)) (mulQ p q) := fold_step ez
    intro D σ H1 hJ hE g
    refine ht _ p q b.2 (br_mono b.1 (by omega)) mp.1 mp.2 mq.1 mq.2 D σ H1 hJ hE ⟨g.rt, fun Γ σ' H' ⟨x, y, e⟩ j s en => g.nx Γ σ' H' ⟨x, y, lt, by rw [e, st]⟩ j s en, fun _ _ _ z => z.elim, fun Γ σ' H' ⟨x, y, e⟩ j s en => g.ct Γ σ' H' ⟨x, y, lt, by rw [e, st]⟩ j s en⟩
  · refine ⟨x, y, ?_⟩
    rw [e, List.take_length]
  · subst e
    exact ok_retS (e_d rfl) ⟨d1, d2, ps, qs, rfl, e1, e2, rfl⟩
theorem dot_ok {K : PySem.W.Frag} (hZ : ∀ H : Hp, SqT K H (He.ga K "ZERO") [.int 0, .int 1]) (E : XK) (O : Addr → Bool) (H : Hp) (ss : List Sl) (hl : ss.length = 2) (hp : preDot ss) :
    Ok K O (fun H' => Ex H H') (ss ++ List.replicate 3 .un) (t_dot K E) { rt := relDot ss, nx := fun _ => False } := by
  obtain ⟨d1, d2, ps, qs, rfl, e1, e2, hn, h1, h2⟩ := hp
  have G := gr_ex H
  refine q_setS (e_zero hZ) (dot_loop e1 e2 hn h1 h2 fun u p q lu bu lp bp lq bq => ?_)
  have ip : ∀ {Γ : List Sl}, Γ[3]? = some (.da (rt p)) → ET K O (fun H' => Ex H H') Γ (tTest (tOp rNe (tOp (rIxT K) (tVar 3) (tC (.int 0))) (tC (.int 0)))) (!decide (p.1 = 0)) := fun h => t_val (e_neI (e_ixT (n := 0) (ds := [.int p.1, .int p.2]) (e_d h) e_int rfl) e_int)
  have iq : ∀ {Γ : List Sl}, Γ[4]? = some (.da (rt q)) → ET K O (fun H' => Ex H H') Γ (tTest (tOp rNe (tOp (rIxT K) (tVar 4) (tC (.int 0))) (tC (.int 0)))) (!decide (q.1 = 0)) := fun h => t_val (e_neI (e_ixT (n := 0) (ds := [.int q.1, .int q.2]) (e_d h) e_int rfl) e_int)
  refine ok_if (a := !decide (p.1 = 0) && !decide (q.1 = 0)) (t_and (ip rfl) (fun h => t_is (iq rfl) (by rw [h, Bool.true_and])) fun h => by rw [h, Bool.false_and]) (fun h => ?_) fun h => ?_
  · refine ok_setS (e_call (a_cons (e_d rfl) (a_cons (e_call (a_cons (e_d rfl) (a_cons (e_d rfl) a_nil)) (u_two (f := fun p q => rt (mulQ p q)) G (br_mono bp (by decide)) (br_mono bq (by decide)))) a_nil)) (u_two (f := fun p q => rt (addQ p q)) G (br_mono bu (by decide)) (br_mono (mul_br bp bq).1 (by decide)))) ⟨_, _, rfl⟩
  · refine ok_next ⟨.da (rt p), .da (rt q), ?_⟩
    rw [add_none lu bp.z bq.z (by
      rw [Bool.and_eq_false_iff, Bool.not_eq_false', Bool.not_eq_false'] at h
      exact h.elim (fun h => .inl (of_decide_eq_true h)) fun h => .inr (of_decide_eq_true h))]
theorem sem__law_dot {K : PySem.W.Frag} (E : XK) (O : Addr → Bool) (H : Hp) (ss : List Sl) (hl : ss.length = 2) (hp : preDot ss) :
    Ok K O (fun H' => Ex H H') (ss ++ List.replicate 3 .un) (t__law_dot K E) { rt := relDot ss, nx := fun _ => False } := by
  obtain ⟨d1, d2, ps, qs, rfl, e1, e2, hn, h1, h2⟩ := hp
  have G := gr_ex H
  refine q_setS (e_tup G (ds := [.int 0, .int 1]) (a_cons e_int (a_cons e_int a_nil))) (dot_loop e1 e2 hn h1 h2 fun u p q lu bu lp bp lq bq => ?_)
  exact ok_setS (e_call (a_cons (e_d rfl) (a_cons (e_call (a_cons (e_d rfl) (a_cons (e_d rfl) a_nil)) (u_two (f := fun p q => rt (mulQ p q)) G (br_mono bp (by decide)) (br_mono bq (by decide)))) a_nil)) (u_two (f := fun p q => rt (addQ p q)) G (br_mono bu (by decide)) (br_mono (mul_br bp bq).1 (by decide)))) ⟨_, _, rfl⟩
/-! ### plus_rows, times_row -/
def addR (ps qs : List Qt) : List Qt := (ps.zip qs).map fun z => addQ z.1 z.2
def relPR (ss : List Sl) (s : Sl) : Prop := ∃ (d1 d2 : PyData) (ps qs : List Qt), ss = [.da d1, .da d2] ∧ seqI d1 = some (ps.map rt) ∧ seqI d2 = some (qs.map rt) ∧ s = .da (.tuple ((addR ps qs).map rt))
def sp_plus_rows (K : PySem.W.Frag) : Sp := spG K 2 preDot relPR
def t_plus_rows (K : PySem.W.Frag) (E : XK) : TS := (tRet (tCB (LL.rTupOf K) (tCons (tLc (LLZ.iZipM K (tCons (tVar 0) (tCons (tVar 1) tNil))) (gTwo K 2 3) tYes (tCall (sp_plus K) [] E0 (tCons (tVar 2) (tCons (tVar 3) tNil))) [2, 3]) tNil)))
theorem sem_plus_rows {K : PySem.W.Frag} (E : XK) (O : Addr → Bool) (H : Hp) (ss : List Sl) (hl : ss.length = 2) (hp : preDot ss) :
    Ok K O (fun H' => Ex H H') (ss ++ List.replicate 2 .un) (t_plus_rows K E) { rt := relPR ss, nx := fun _ => False } := by
  obtain ⟨d1, d2, ps, qs, rfl, e1, e2, hn, h1, h2⟩ := hp
  have G := gr_ex H
  have z : sizeLine = 16777216 := rfl
  have comp : ED K O (fun H' => Ex H H') [.da d1, .da d2, .un, .un] (tLc (LLZ.iZipM K (tCons (tVar 0) (tCons (tVar 1) tNil))) (gTwo K 2 3) tYes (tCall (sp_plus K) [] E0 (tCons (tVar 2) (tCons (tVar 3) tNil))) [2, 3]) (.list ((addR ps qs).map rt)) :=
    e_lcZ (n := (ps.zip qs).length) G (fr_ex H) (a_cons (e_d rfl) (a_cons (e_d rfl) a_nil)) e1 e2 (zipMin ps qs) (by rw [List.length_zip]; omega) (by decide) (fun i rs => rs = (((ps.zip qs).take i).map fun z => addQ z.1 z.2).map rt) rfl (fun O' J' i x y rs X hx hy hI => by
      obtain ⟨p, ep, rfl⟩ := mapR hx
      obtain ⟨q, eq, rfl⟩ := mapR hy
      refine (e_call (a_cons (e_d rfl) (a_cons (e_d rfl) a_nil)) (u_two (f := fun p q => rt (addQ p q)) X.gr (br_mono (h1 p (List.mem_of_getElem? ep)).2 (by decide)) (br_mono (h2 q (List.mem_of_getElem? eq)).2 (by decide)))).imp fun s e => ⟨_, e, ?_⟩
      rw [hI, takeS (zip_at ep eq), List.map_append, List.map_append]
      rfl) fun rs hI => by rw [hI, List.take_length]; rfl
  exact ok_retS (e_cb (a_cons comp a_nil) (c_tuple G rfl)) ⟨d1, d2, ps, qs, rfl, e1, e2, rfl⟩
def preTR (ss : List Sl) : Prop := ∃ (d : PyData) (qs : List Qt) (l : Qt), ss = [.da d, .da (rt l)] ∧ seqI d = some (qs.map rt) ∧ qs.length ≤ 10 ∧ AllQ 110 qs ∧ BR 110 l
def relTR (ss : List Sl) (s : Sl) : Prop := ∃ (d : PyData) (qs : List Qt) (l : Qt), ss = [.da d, .da (rt l)] ∧ seqI d = some (qs.map rt) ∧ s = .da (.tuple ((qs.map fun q => mulQ q l).map rt))
def sp_times_row (K : PySem.W.Frag) : Sp := spG K 2 preTR relTR
def t_times_row (K : PySem.W.Frag) (E : XK) : TS := (tRet (tCB (LL.rTupOf K) (tCons (tLc (iEi K (tVar 0)) (gName 2) tYes (tCall (sp_times K) [] E0 (tCons (tVar 2) (tCons (tVar 1) tNil))) [2]) tNil)))
theorem sem_times_row {K : PySem.W.Frag} (E : XK) (O : Addr → Bool) (H : Hp) (ss : List Sl) (hl : ss.length = 2) (hp : preTR ss) :
    Ok K O (fun H' => Ex H H') (ss ++ List.replicate 1 .un) (t_times_row K E) { rt := relTR ss, nx := fun _ => False } := by
  obtain ⟨d, qs, l, rfl, e1, hn, h1, hl⟩ := hp
  have G := gr_ex H
  have z : sizeLine = 16777216 := rfl
  have comp : ED K O (fun H' => Ex H H') [.da d, .da (rt l), .un] (tLc (iEi K (tVar 0)) (gName 2) tYes (tCall (sp_times K) [] E0 (tCons (tVar 2) (tCons (tVar 1) tNil))) [2]) (.list ((qs.map fun q => mulQ q l).map rt)) :=
    e_lc G (fr_ex H) (src_ei (e_d rfl) e1) (by rw [mapLen]; omega) (b := fun _ => true) (fun i rs => rs = ((qs.take i).map fun q => mulQ q l).map rt) rfl (fun _ _ _ _ _ => t_yes') (fun O' J' i rs X hi hI _ => by
      obtain ⟨q, eq, er, mq⟩ := getR hi
      rw [er]
      refine (e_call (a_cons (e_d rfl) (a_cons (e_d rfl) a_nil)) (u_two (f := fun p q => rt (mulQ p q)) X.gr (br_mono (h1 q mq).2 (by decide)) (br_mono hl (by decide)))).imp fun s e => ⟨_, e, ?_⟩
      rw [hI, takeS eq, List.map_append, List.map_append]
      rfl) (fun _ _ _ _ z => nomatch z) (fun rs hI => by rw [hI, mapLen, List.take_length]) (by show 2 < 3; decide)
  exact ok_retS (e_cb (a_cons comp a_nil) (c_tuple G rfl)) ⟨d, qs, l, rfl, e1, rfl⟩
end LL


set_option Elab.async false
set_option linter.all false
set_option maxRecDepth 100000
set_option maxHeartbeats 4000000
/-! LLShow: how long the texts of rows are; repr of two rows -/
namespace LL
open PySem PySem.Spec PyProof.Rows L2
open Evl (Ex)
theorem from_le (ts : List Str) (k : Nat) (acc : Str) : (textFrom k acc ts).length ≤ acc.length + piled ts := by
  cases k with
  | succ k => rw [textFrom_length_pos ts (k + 1) acc (Nat.succ_pos _)]; exact Nat.le_refl _
  | zero =>
    cases ts with
    | nil => exact Nat.le_add_right _ _
    | cons t r =>
      show (textFrom 1 (acc ++ ("" : Str) ++ t) r).length ≤ _
      rw [textFrom_length_pos r 1 _ (Nat.succ_pos _), Str.length_append, Str.length_append, piled_cons]
      have : (("" : Str)).length = 0 := by decide +kernel
      omega
theorem list_le (ts : List Str) : (listText ts).length ≤ piled ts + 2 := by
  unfold listText
  rw [Str.length_append]
  have h := from_le ts 0 ("[" : Str)
  have h1 : (("[" : Str)).length = 1 := by decide +kernel
  have h2 : (("]" : Str)).length = 1 := by decide +kernel
  omega
theorem tuple_le (ts : List Str) : (tupleText ts).length ≤ piled ts + 3 := by
  unfold tupleText
  rw [Str.length_append, Str.length_append]
  have h1 : (("(" : Str)).length = 1 := by decide +kernel
  have h2 : ((if (ts.length == 1) = true then (",)" : String) else ")" : String) : Str).length ≤ 2 := by
    split
    · decide +kernel
    · decide +kernel
  have h3 : (Str.join ", " ts).length ≤ piled ts := by
    cases ts with
    | nil => show (Str.empty).length ≤ _; exact Nat.zero_le _
    | cons t r =>
      have := join_length_add (t :: r) (List.cons_ne_nil _ _)
      omega
  omega
theorem int_le {i : Int} (h : Bd 110 i) : (Str.ofString (toString i)).length ≤ 35 := by
  rw [int_txt, SX.S_len]
  have n1 : i.natAbs < 10 ^ 34 := Nat.lt_of_lt_of_le h (by decide +kernel)
  unfold intL
  have n2 := TL.numL_len (k := 34) (by decide) n1
  split
  · rw [List.length_cons]; omega
  · omega
theorem rt_le {q : Qt} (h : BR 110 q) : (rt q).shown.length ≤ 77 := by
  have a := int_le h.t
  have b := int_le h.b
  have t := tuple_le [Str.ofString (toString q.1), Str.ofString (toString q.2)]
  rw [piled_cons, piled_cons, piled_nil] at t
  show (tupleText [Str.ofString (toString q.1), Str.ofString (toString q.2)]).length ≤ 77
  omega
theorem rts_le : ∀ {qs : List Qt}, AllQ 110 qs → piled (PyData.shownAll (qs.map rt)) ≤ 79 * qs.length
  | [], _ => by show piled [] ≤ _; rw [piled_nil]; exact Nat.zero_le _
  | q :: r, h => by
    have a := rt_le (h q (List.mem_cons_self ..)).2
    have b := rts_le (qs := r) fun x hx => h x (List.mem_cons_of_mem _ hx)
    show piled ((rt q).shown :: PyData.shownAll (r.map rt)) ≤ _
    rw [piled_cons, List.length_cons]
    omega
theorem pair_le {ps qs : List Qt} (h1 : AllQ 110 ps) (h2 : AllQ 110 qs) : (PyData.tuple [.list (ps.map rt), .list (qs.map rt)]).shown.length ≤ 79 * ps.length + 79 * qs.length + 11 := by
  have a := rts_le h1
  have b := rts_le h2
  have l1 := list_le (PyData.shownAll (ps.map rt))
  have l2 := list_le (PyData.shownAll (qs.map rt))
  have t := tuple_le [listText (PyData.shownAll (ps.map rt)), listText (PyData.shownAll (qs.map rt))]
  rw [piled_cons, piled_cons, piled_nil] at t
  show (tupleText [listText (PyData.shownAll (ps.map rt)), listText (PyData.shownAll (qs.map rt))]).length ≤ _
  omega
theorem rt_show {q : Qt} (h : BR 110 q) : (rt q).showable = true := by
  have lg : ∀ {i : Int}, Bd 110 i → decide (i.natAbs.log2 < 1920) = true := fun {i} hi => by
    refine decide_eq_true ?_
    by_cases z : i.natAbs = 0
    · rw [z]; decide
    · exact (Nat.log2_lt z).mpr (Nat.lt_of_lt_of_le hi (Nat.pow_le_pow_right (by decide) (by decide)))
  show (decide (q.1.natAbs.log2 < 1920) && (decide (q.2.natAbs.log2 < 1920) && true)) = true
  rw [lg h.t, lg h.b]
  rfl
theorem rts_show : ∀ {qs : List Qt}, AllQ 110 qs → PyData.showableAll (qs.map rt) = true
  | [], _ => rfl
  | q :: r, h => by
    show ((rt q).showable && PyData.showableAll (r.map rt)) = true
    rw [rt_show (h q (List.mem_cons_self ..)).2, rts_show fun x hx => h x (List.mem_cons_of_mem _ hx)]
    rfl
theorem rts_deep : ∀ (qs : List Qt), PyData.depthAll (qs.map rt) ≤ 1
  | [] => Nat.zero_le _
  | q :: r => by
    show max (rt q).depth (PyData.depthAll (r.map rt)) ≤ 1
    have a : (rt q).depth = 1 := rfl
    have b := rts_deep r
    rw [a]
    omega
/-- repr((row, other)) -/
theorem c_repr {K : PySem.W.Frag} {O : Addr → Bool} {J : Hp → Prop} {ps qs : List Qt} (h1 : AllQ 110 ps) (h2 : AllQ 110 qs) (l1 : ps.length ≤ 100) (l2 : qs.length ≤ 100) :
    RcS K O J (rRepr K) [.da (.tuple [.list (ps.map rt), .list (qs.map rt)])] (fun x => x = .da (.str (PyData.tuple [.list (ps.map rt), .list (qs.map rt)]).shown)) := fun vs H1 hJ tr h Q q => by
  obtain ⟨v, rfl, o⟩ := sl1 h
  have o : Dp K (hid O H1) v (.tuple [.list (ps.map rt), .list (qs.map rt)]) := o
  have dp := dpGrow hid_ex o
  cases o with
  | @tup a xs _ hs ha =>
    refine ⟨a, _, rfl, dp, ?_, ?_, ?_, q _ _ H1 rfl hJ .refl (.str _)⟩
    · show (PyData.showableAll (ps.map rt) && (PyData.showableAll (qs.map rt) && true)) = true
      rw [rts_show h1, rts_show h2]
      rfl
    · show max (PyData.depthAll (ps.map rt) + 1) (max (PyData.depthAll (qs.map rt) + 1) 0) + 1 ≤ 100
      have := rts_deep ps
      have := rts_deep qs
      omega
    · have := pair_le h1 h2
      have z : sizeLine = 16777216 := rfl
      omega
end LL


set_option Elab.async false
set_option linter.all false
set_option maxRecDepth 100000
set_option maxHeartbeats 4000000
namespace K01
open PySem PySem.Spec PyProof.Rows L2 LL
open Evl (Ex)
def top (i : Nat) : Stmt := PySem.Challenge.pw_leastlabour_k01_whole_rows_of_ratios.main.body.getD i (.Pass ⟨0, 0, 0, 0⟩)
abbrev s_is_sequence : Stmt := top 6
theorem sc_is_sequence : FnScope ["thing"] ["thing"] (defScope s_is_sequence) := ⟨rfl, rfl, rfl, by decide +kernel, rfl, by decide +kernel, by decide +kernel⟩
abbrev s_is_whole : Stmt := top 7
theorem sc_is_whole : FnScope ["thing", "low", "high"] ["thing", "low", "high"] (defScope s_is_whole) := ⟨rfl, rfl, rfl, by decide +kernel, rfl, by decide +kernel, by decide +kernel⟩
abbrev s_is_ratio : Stmt := top 8
theorem sc_is_ratio : FnScope ["thing"] ["thing"] (defScope s_is_ratio) := ⟨rfl, rfl, rfl, by decide +kernel, rfl, by decide +kernel, by decide +kernel⟩
abbrev s_is_ratio_from : Stmt := top 9
theorem sc_is_ratio_from : FnScope ["thing", "least"] ["thing", "least"] (defScope s_is_ratio_from) := ⟨rfl, rfl, rfl, by decide +kernel, rfl, by decide +kernel, by decide +kernel⟩
abbrev s_is_row : Stmt := top 10
theorem sc_is_row : FnScope ["thing", "many", "least", "one"] ["thing", "many", "least"] (defScope s_is_row) := ⟨rfl, rfl, rfl, by decide +kernel, rfl, by decide +kernel, by decide +kernel⟩
abbrev s_make_ratio : Stmt := top 11
theorem sc_make_ratio : FnScope ["top", "bottom", "common"] ["top", "bottom"] (defScope s_make_ratio) := ⟨rfl, rfl, rfl, by decide +kernel, rfl, by decide +kernel, by decide +kernel⟩
abbrev s_plus : Stmt := top 12
theorem sc_plus : FnScope ["one", "other"] ["one", "other"] (defScope s_plus) := ⟨rfl, rfl, rfl, by decide +kernel, rfl, by decide +kernel, by decide +kernel⟩
abbrev s_times : Stmt := top 13
theorem sc_times : FnScope ["one", "other"] ["one", "other"] (defScope s_times) := ⟨rfl, rfl, rfl, by decide +kernel, rfl, by decide +kernel, by decide +kernel⟩
abbrev s_compare : Stmt := top 14
theorem sc_compare : FnScope ["one", "other", "left", "right"] ["one", "other"] (defScope s_compare) := ⟨rfl, rfl, rfl, by decide +kernel, rfl, by decide +kernel, by decide +kernel⟩
abbrev s_sum_of : Stmt := top 15
theorem sc_sum_of : FnScope ["row", "total", "one"] ["row"] (defScope s_sum_of) := ⟨rfl, rfl, rfl, by decide +kernel, rfl, by decide +kernel, by decide +kernel⟩
abbrev s_least_of : Stmt := top 16
theorem sc_least_of : FnScope ["row", "least", "one"] ["row"] (defScope s_least_of) := ⟨rfl, rfl, rfl, by decide +kernel, rfl, by decide +kernel, by decide +kernel⟩
abbrev s_greatest_of : Stmt := top 17
theorem sc_greatest_of : FnScope ["row", "greatest", "one"] ["row"] (defScope s_greatest_of) := ⟨rfl, rfl, rfl, by decide +kernel, rfl, by decide +kernel, by decide +kernel⟩
abbrev s_dot : Stmt := top 18
theorem sc_dot : FnScope ["one", "other", "total", "left", "right"] ["one", "other"] (defScope s_dot) := ⟨rfl, rfl, rfl, by decide +kernel, rfl, by decide +kernel, by decide +kernel⟩
abbrev s_plus_rows : Stmt := top 19
theorem sc_plus_rows : FnScope ["one", "other", "left", "right"] ["one", "other"] (defScope s_plus_rows) := ⟨rfl, rfl, rfl, by decide +kernel, rfl, by decide +kernel, by decide +kernel⟩
abbrev s_times_row : Stmt := top 20
theorem sc_times_row : FnScope ["row", "ratio", "one"] ["row", "ratio"] (defScope s_times_row) := ⟨rfl, rfl, rfl, by decide +kernel, rfl, by decide +kernel, by decide +kernel⟩
abbrev s__law_hand : Stmt := top 22
theorem sc__law_hand : FnScope ["_law_script", "_law_total", "_law_cells", "_law_cell"] ["_law_script"] (defScope s__law_hand) := ⟨rfl, rfl, rfl, by decide +kernel, rfl, by decide +kernel, by decide +kernel⟩
abbrev s__law_mixed : Stmt := top 23
theorem sc__law_mixed : FnScope ["_law_number_here", "_law_turn", "_law_once", "_law_twice"] ["_law_number_here", "_law_turn"] (defScope s__law_mixed) := ⟨rfl, rfl, rfl, by decide +kernel, rfl, by decide +kernel, by decide +kernel⟩
abbrev s__law_take : Stmt := top 24
theorem sc__law_take : FnScope ["_law_hand_here", "_law_many", "_law_cell", "_law_rest"] ["_law_hand_here", "_law_many"] (defScope s__law_take) := ⟨rfl, rfl, rfl, by decide +kernel, rfl, by decide +kernel, by decide +kernel⟩
abbrev s__law_gcd : Stmt := top 25
theorem sc__law_gcd : FnScope ["_law_one", "_law_other"] ["_law_one", "_law_other"] (defScope s__law_gcd) := ⟨rfl, rfl, rfl, by decide +kernel, rfl, by decide +kernel, by decide +kernel⟩
abbrev s__law_ratio : Stmt := top 26
theorem sc__law_ratio : FnScope ["_law_top", "_law_bottom", "_law_part"] ["_law_top", "_law_bottom"] (defScope s__law_ratio) := ⟨rfl, rfl, rfl, by decide +kernel, rfl, by decide +kernel, by decide +kernel⟩
abbrev s__law_plus : Stmt := top 27
theorem sc__law_plus : FnScope ["_law_one", "_law_other"] ["_law_one", "_law_other"] (defScope s__law_plus) := ⟨rfl, rfl, rfl, by decide +kernel, rfl, by decide +kernel, by decide +kernel⟩
abbrev s__law_times : Stmt := top 28
theorem sc__law_times : FnScope ["_law_one", "_law_other"] ["_law_one", "_law_other"] (defScope s__law_times) := ⟨rfl, rfl, rfl, by decide +kernel, rfl, by decide +kernel, by decide +kernel⟩
abbrev s__law_below : Stmt := top 29
theorem sc__law_below : FnScope ["_law_one", "_law_other"] ["_law_one", "_law_other"] (defScope s__law_below) := ⟨rfl, rfl, rfl, by decide +kernel, rfl, by decide +kernel, by decide +kernel⟩
abbrev s__law_dot : Stmt := top 30
theorem sc__law_dot : FnScope ["_law_one", "_law_other", "_law_total", "_law_mine", "_law_yours"] ["_law_one", "_law_other"] (defScope s__law_dot) := ⟨rfl, rfl, rfl, by decide +kernel, rfl, by decide +kernel, by decide +kernel⟩
abbrev s__law_same : Stmt := top 31
theorem sc__law_same : FnScope ["_law_found", "_law_due", "_law_part"] ["_law_found", "_law_due"] (defScope s__law_same) := ⟨rfl, rfl, rfl, by decide +kernel, rfl, by decide +kernel, by decide +kernel⟩
abbrev s__law_row_same : Stmt := top 32
theorem sc__law_row_same : FnScope ["_law_found", "_law_due", "_law_k"] ["_law_found", "_law_due"] (defScope s__law_row_same) := ⟨rfl, rfl, rfl, by decide +kernel, rfl, by decide +kernel, by decide +kernel⟩
abbrev s__law_number : Stmt := top 33
theorem sc__law_number : FnScope ["_law_hand_here", "_law_size", "_law_turn"] ["_law_hand_here"] (defScope s__law_number) := ⟨rfl, rfl, rfl, by decide +kernel, rfl, by decide +kernel, by decide +kernel⟩
abbrev s__law_any_ratio : Stmt := top 34
theorem sc__law_any_ratio : FnScope ["_law_hand_here", "_law_pick", "_law_bottom"] ["_law_hand_here"] (defScope s__law_any_ratio) := ⟨rfl, rfl, rfl, by decide +kernel, rfl, by decide +kernel, by decide +kernel⟩
abbrev s__law_odd : Stmt := top 35
theorem sc__law_odd : FnScope ["_law_hand_here"] ["_law_hand_here"] (defScope s__law_odd) := ⟨rfl, rfl, rfl, by decide +kernel, rfl, by decide +kernel, by decide +kernel⟩
abbrev s__law_truth : Stmt := top 36
theorem sc__law_truth : FnScope ["_law_found", "_law_due"] ["_law_found", "_law_due"] (defScope s__law_truth) := ⟨rfl, rfl, rfl, by decide +kernel, rfl, by decide +kernel, by decide +kernel⟩
abbrev s__law_kinds : Stmt := top 37
theorem sc__law_kinds : FnScope ["_law_hand_here", "_law_row", "_law_many", "_law_least", "_law_enough", "_law_entry", "_law_told", "_law_spoilt"] ["_law_hand_here", "_law_row"] (defScope s__law_kinds) := ⟨rfl, rfl, rfl, by decide +kernel, rfl, by decide +kernel, by decide +kernel⟩
abbrev s_law : Stmt := top 38
theorem sc_law : FnScope ["_law_script", "_law_hand_here", "_law_turn", "_law_many", "_law_row", "_law_k", "_law_other", "_law_size", "_law_total", "_law_entry", "_law_shown", "_law_least", "_law_greatest"] ["_law_script"] (defScope s_law) := ⟨rfl, rfl, rfl, by decide +kernel, rfl, by decide +kernel, by decide +kernel⟩
abbrev s_BadRatio_init : Stmt := inClass (top 3) 0
theorem sc_BadRatio_init : FnScope ["self", "what"] ["self", "what"] (defScope s_BadRatio_init) := ⟨rfl, rfl, rfl, by decide +kernel, rfl, by decide +kernel, by decide +kernel⟩
structure Txt (K : PySem.W.Frag) (mg : Str → Option Value) : Prop where
  d_is_sequence : ∃ fd, FunD K "is_sequence" "is_sequence" (defArgs s_is_sequence) (defBody s_is_sequence) (defScope s_is_sequence) [] [] (He.ga K "is_sequence") fd
  g_is_sequence : mg "is_sequence" = some (.ref (He.ga K "is_sequence"))
  d_is_whole : ∃ fd, FunD K "is_whole" "is_whole" (defArgs s_is_whole) (defBody s_is_whole) (defScope s_is_whole) [.non, .non] [] (He.ga K "is_whole") fd
  g_is_whole : mg "is_whole" = some (.ref (He.ga K "is_whole"))
  d_is_ratio : ∃ fd, FunD K "is_ratio" "is_ratio" (defArgs s_is_ratio) (defBody s_is_ratio) (defScope s_is_ratio) [] [] (He.ga K "is_ratio") fd
  g_is_ratio : mg "is_ratio" = some (.ref (He.ga K "is_ratio"))
  d_is_ratio_from : ∃ fd, FunD K "is_ratio_from" "is_ratio_from" (defArgs s_is_ratio_from) (defBody s_is_ratio_from) (defScope s_is_ratio_from) [] [] (He.ga K "is_ratio_from") fd
  g_is_ratio_from : mg "is_ratio_from" = some (.ref (He.ga K "is_ratio_from"))
  d_is_row : ∃ fd, FunD K "is_row" "is_row" (defArgs s_is_row) (defBody s_is_row) (defScope s_is_row) [.non] [] (He.ga K "is_row") fd
  g_is_row : mg "is_row" = some (.ref (He.ga K "is_row"))
  d_make_ratio : ∃ fd, FunD K "make_ratio" "make_ratio" (defArgs s_make_ratio) (defBody s_make_ratio) (defScope s_make_ratio) [.int 1] [] (He.ga K "make_ratio") fd
  g_make_ratio : mg "make_ratio" = some (.ref (He.ga K "make_ratio"))
  d_plus : ∃ fd, FunD K "plus" "plus" (defArgs s_plus) (defBody s_plus) (defScope s_plus) [] [] (He.ga K "plus") fd
  g_plus : mg "plus" = some (.ref (He.ga K "plus"))
  d_times : ∃ fd, FunD K "times" "times" (defArgs s_times) (defBody s_times) (defScope s_times) [] [] (He.ga K "times") fd
  g_times : mg "times" = some (.ref (He.ga K "times"))
  d_compare : ∃ fd, FunD K "compare" "compare" (defArgs s_compare) (defBody s_compare) (defScope s_compare) [] [] (He.ga K "compare") fd
  g_compare : mg "compare" = some (.ref (He.ga K "compare"))
  d_sum_of : ∃ fd, FunD K "sum_of" "sum_of" (defArgs s_sum_of) (defBody s_sum_of) (defScope s_sum_of) [] [] (He.ga K "sum_of") fd
  g_sum_of : mg "sum_of" = some (.ref (He.ga K "sum_of"))
  d_least_of : ∃ fd, FunD K "least_of" "least_of" (defArgs s_least_of) (defBody s_least_of) (defScope s_least_of) [] [] (He.ga K "least_of") fd
  g_least_of : mg "least_of" = some (.ref (He.ga K "least_of"))
  d_greatest_of : ∃ fd, FunD K "greatest_of" "greatest_of" (defArgs s_greatest_of) (defBody s_greatest_of) (defScope s_greatest_of) [] [] (He.ga K "greatest_of") fd
  g_greatest_of : mg "greatest_of" = some (.ref (He.ga K "greatest_of"))
  d_dot : ∃ fd, FunD K "dot" "dot" (defArgs s_dot) (defBody s_dot) (defScope s_dot) [] [] (He.ga K "dot") fd
  g_dot : mg "dot" = some (.ref (He.ga K "dot"))
  d_plus_rows : ∃ fd, FunD K "plus_rows" "plus_rows" (defArgs s_plus_rows) (defBody s_plus_rows) (defScope s_plus_rows) [] [] (He.ga K "plus_rows") fd
  g_plus_rows : mg "plus_rows" = some (.ref (He.ga K "plus_rows"))
  d_times_row : ∃ fd, FunD K "times_row" "times_row" (defArgs s_times_row) (defBody s_times_row) (defScope s_times_row) [] [] (He.ga K "times_row") fd
  g_times_row : mg "times_row" = some (.ref (He.ga K "times_row"))
  d__law_hand : ∃ fd, FunD K "_law_hand" "_law_hand" (defArgs s__law_hand) (defBody s__law_hand) (defScope s__law_hand) [] [] (He.ga K "_law_hand") fd
  g__law_hand : mg "_law_hand" = some (.ref (He.ga K "_law_hand"))
  d__law_mixed : ∃ fd, FunD K "_law_mixed" "_law_mixed" (defArgs s__law_mixed) (defBody s__law_mixed) (defScope s__law_mixed) [] [] (He.ga K "_law_mixed") fd
  g__law_mixed : mg "_law_mixed" = some (.ref (He.ga K "_law_mixed"))
  d__law_take : ∃ fd, FunD K "_law_take" "_law_take" (defArgs s__law_take) (defBody s__law_take) (defScope s__law_take) [] [] (He.ga K "_law_take") fd
  g__law_take : mg "_law_take" = some (.ref (He.ga K "_law_take"))
  d__law_gcd : ∃ fd, FunD K "_law_gcd" "_law_gcd" (defArgs s__law_gcd) (defBody s__law_gcd) (defScope s__law_gcd) [] [] (He.ga K "_law_gcd") fd
  g__law_gcd : mg "_law_gcd" = some (.ref (He.ga K "_law_gcd"))
  d__law_ratio : ∃ fd, FunD K "_law_ratio" "_law_ratio" (defArgs s__law_ratio) (defBody s__law_ratio) (defScope s__law_ratio) [] [] (He.ga K "_law_ratio") fd
  g__law_ratio : mg "_law_ratio" = some (.ref (He.ga K "_law_ratio"))
  d__law_plus : ∃ fd, FunD K "_law_plus" "_law_plus" (defArgs s__law_plus) (defBody s__law_plus) (defScope s__law_plus) [] [] (He.ga K "_law_plus") fd
  g__law_plus : mg "_law_plus" = some (.ref (He.ga K "_law_plus"))
  d__law_times : ∃ fd, FunD K "_law_times" "_law_times" (defArgs s__law_times) (defBody s__law_times) (defScope s__law_times) [] [] (He.ga K "_law_times") fd
  g__law_times : mg "_law_times" = some (.ref (He.ga K "_law_times"))
  d__law_below : ∃ fd, FunD K "_law_below" "_law_below" (defArgs s__law_below) (defBody s__law_below) (defScope s__law_below) [] [] (He.ga K "_law_below") fd
  g__law_below : mg "_law_below" = some (.ref (He.ga K "_law_below"))
  d__law_dot : ∃ fd, FunD K "_law_dot" "_law_dot" (defArgs s__law_dot) (defBody s__law_dot) (defScope s__law_dot) [] [] (He.ga K "_law_dot") fd
  g__law_dot : mg "_law_dot" = some (.ref (He.ga K "_law_dot"))
  d__law_same : ∃ fd, FunD K "_law_same" "_law_same" (defArgs s__law_same) (defBody s__law_same) (defScope s__law_same) [] [] (He.ga K "_law_same") fd
  g__law_same : mg "_law_same" = some (.ref (He.ga K "_law_same"))
  d__law_row_same : ∃ fd, FunD K "_law_row_same" "_law_row_same" (defArgs s__law_row_same) (defBody s__law_row_same) (defScope s__law_row_same) [] [] (He.ga K "_law_row_same") fd
  g__law_row_same : mg "_law_row_same" = some (.ref (He.ga K "_law_row_same"))
  d__law_number : ∃ fd, FunD K "_law_number" "_law_number" (defArgs s__law_number) (defBody s__law_number) (defScope s__law_number) [] [] (He.ga K "_law_number") fd
  g__law_number : mg "_law_number" = some (.ref (He.ga K "_law_number"))
  d__law_any_ratio : ∃ fd, FunD K "_law_any_ratio" "_law_any_ratio" (defArgs s__law_any_ratio) (defBody s__law_any_ratio) (defScope s__law_any_ratio) [] [] (He.ga K "_law_any_ratio") fd
  g__law_any_ratio : mg "_law_any_ratio" = some (.ref (He.ga K "_law_any_ratio"))
  d__law_odd : ∃ fd, FunD K "_law_odd" "_law_odd" (defArgs s__law_odd) (defBody s__law_odd) (defScope s__law_odd) [] [] (He.ga K "_law_odd") fd
  g__law_odd : mg "_law_odd" = some (.ref (He.ga K "_law_odd"))
  d__law_truth : ∃ fd, FunD K "_law_truth" "_law_truth" (defArgs s__law_truth) (defBody s__law_truth) (defScope s__law_truth) [] [] (He.ga K "_law_truth") fd
  g__law_truth : mg "_law_truth" = some (.ref (He.ga K "_law_truth"))
  d__law_kinds : ∃ fd, FunD K "_law_kinds" "_law_kinds" (defArgs s__law_kinds) (defBody s__law_kinds) (defScope s__law_kinds) [] [] (He.ga K "_law_kinds") fd
  g__law_kinds : mg "_law_kinds" = some (.ref (He.ga K "_law_kinds"))
  d_law : ∃ fd, FunD K "law" "law" (defArgs s_law) (defBody s_law) (defScope s_law) [] [] (He.ga K "law") fd
  g_law : mg "law" = some (.ref (He.ga K "law"))
  f_abs : mg "abs" = none
  f_all : mg "all" = none
  f_bool : mg "bool" = none
  f_int : mg "int" = none
  f_isinstance : mg "isinstance" = none
  f_len : mg "len" = none
  f_list : mg "list" = none
  f_range : mg "range" = none
  f_repr : mg "repr" = none
  f_tuple : mg "tuple" = none
  f_zip : mg "zip" = none
  g_gcd : mg "gcd" = some (.builtin "math.gcd")
  g_ZERO : mg "ZERO" = some (.ref (He.ga K "ZERO"))
  c_ZERO : ∀ H : Hp, SqT K H (He.ga K "ZERO") [V.int 0, V.int 1]
  g_WorksError : mg "WorksError" = some (.ref (He.ga K "WorksError"))
  g_BadRatio : mg "BadRatio" = some (.ref (He.ga K "BadRatio"))
  x_BadRatio : Xc K "BadRatio" "what"
  i_BadRatio : ∃ fd, FunD K "__init__" "BadRatio.__init__" (defArgs s_BadRatio_init) (defBody s_BadRatio_init) (defScope s_BadRatio_init) [] [] (He.ma K (He.ga K "BadRatio") "__init__") fd
  e_BadRatio_BadRatio : PySem.W.exmOne K (.ref (He.ga K "BadRatio")) (.ref (He.ga K "BadRatio")) = some true
  e_BadRatio_WorksError : PySem.W.exmOne K (.ref (He.ga K "BadRatio")) (.ref (He.ga K "WorksError")) = some true
  k_BadRatio_BadRatio : PySem.W.kitOne K (.ref (He.ga K "BadRatio")) (.ref (He.ga K "BadRatio")) = some true
  k_BadRatio_ValueError : PySem.W.kitOne K (.ref (He.ga K "BadRatio")) (.type "ValueError") = some true
theorem sem_sum_of {K : PySem.W.Frag} {mg : Str → Option Value} (T : Txt K mg) (E : XK) (O : Addr → Bool) (H : Hp) (ss : List Sl) (hl : ss.length = 1) (hp : preSum ss) :
    Ok K O (fun H' => Ex H H') (ss ++ List.replicate 2 .un) (t_sum_of K E) { rt := relSum ss, nx := fun _ => False } := sum_of_ok T.c_ZERO E O H ss hl hp
theorem sem_dot {K : PySem.W.Frag} {mg : Str → Option Value} (T : Txt K mg) (E : XK) (O : Addr → Bool) (H : Hp) (ss : List Sl) (hl : ss.length = 2) (hp : preDot ss) :
    Ok K O (fun H' => Ex H H') (ss ++ List.replicate 3 .un) (t_dot K E) { rt := relDot ss, nx := fun _ => False } := dot_ok T.c_ZERO E O H ss hl hp
/-! ### _law_row_same -/
def preRS (ss : List Sl) : Prop := ∃ qs : List Qt, ss = [.da (.tuple (qs.map rt)), .da (.list (qs.map rt))] ∧ qs.length ≤ 100
def sp__law_row_same (K : PySem.W.Frag) : Sp := spG K 2 preRS (fun _ s => s = .da (.bool true))
def t__law_row_same (K : PySem.W.Frag) (E : XK) : TS := (tSeq (tIfS (tOr (tNot (tTru K (tCB (rIsi K) (tCons (tVar 0) (tCons (tC (.ty "tuple")) tNil))))) (tTest (tOp rNe (tCB (LL.rLen K) (tCons (tVar 0) tNil)) (tCB (LL.rLen K) (tCons (tVar 1) tNil))))) (tRet (tC (.bl false))) tNext)
 (tSeq (tFor (iRng1 (tCons (tCB (LL.rLen K) (tCons (tVar 1) tNil)) tNil)) (gName 2) (tIfS (tNot (tTru K (tCall (sp__law_same K) [] E0 (tCons (tOp (rIxT K) (tVar 0) (tVar 2)) (tCons (tOp (rIxL K) (tVar 1) (tVar 2)) tNil))))) (tRet (tC (.bl false))) tNext))
 (tRet (tC (.bl true)))))
theorem sem__law_row_same {K : PySem.W.Frag} (E : XK) (O : Addr → Bool) (H : Hp) (ss : List Sl) (hl : ss.length = 2) (hp : preRS ss) :
    Ok K O (fun H' => Ex H H') (ss ++ List.replicate 1 .un) (t__law_row_same K E) { rt := fun s => s = .da (.bool true), nx := fun _ => False } := by
  obtain ⟨qs, rfl, hn⟩ := hp
  have G := gr_ex H
  refine q_not (t_or (a := false) (t_is (t_not (t_truth (e_cb (a_cons (e_d rfl) (a_cons e_va a_nil)) (c_isi (by decide))) True.intro)) (by show (!isiD (.tuple (qs.map rt)) "tuple") = false; rw [isi_tup_tuple]; rfl)) (fun _ => t_is (t_val (e_neI (e_cb (a_cons (e_d rfl) a_nil) c_lenT) (e_cb (a_cons (e_d rfl) a_nil) c_lenL))) (by rw [decide_eq_true rfl]; rfl)) fun h => nomatch h) ?_
  refine ok_seq (M := fun _ => True) (ok_forR (n := ((qs.map rt).length : Int)) (a_cons (e_cb (a_cons (e_d rfl) a_nil) c_lenL) a_nil) (by rw [mapLen]; omega) (by omega) (fun _ Γ' => ∃ x, Γ' = [.da (.tuple (qs.map rt)), .da (.list (qs.map rt)), x]) ⟨_, rfl⟩ (fun i Γ' hi ⟨x, e⟩ => ?_) fun _ _ => True.intro) fun Γ' _ => ok_retS e_bl rfl
  subst e
  have hi' : i < (qs.map rt).length := by omega
  obtain ⟨q, eq, er, mq⟩ := getR hi'
  have at_ : (qs.map rt)[i]? = some (rt q) := by rw [List.getElem?_map, eq]; rfl
  exact ok_if (a := false) (same_t G (p := q) (e_ixT (n := i) (e_d rfl) (e_d rfl) at_) (e_ixL (n := i) (e_d rfl) (e_d rfl) at_)) (fun h => nomatch h) fun _ => ok_next ⟨_, rfl⟩
/-! ### _law_kinds -/
theorem isR_low {q : Qt} (h : Low q) : isR (rt q) = true := by
  show (decide (1 ≤ q.2) && decide (Nat.gcd q.1.natAbs q.2.natAbs = 1)) = true
  rw [decide_eq_true h.2, decide_eq_true (by have := h.1; omega)]
  rfl
theorem from_rt {q l : Qt} (low : Low q) : fromQ (rt q) l = !belowQ q l := by
  unfold fromQ
  rw [isR_low low, Bool.true_and]
  show decide (0 ≤ cmpQ q l) = _
  rw [← cmp_lt]
  by_cases h : cmpQ q l < 0
  · rw [decide_eq_true h, decide_eq_false (by omega)]
    rfl
  · rw [decide_eq_false h, decide_eq_true (by omega)]
    rfl
theorem tame_rt {q : Qt} (h : BR 110 q) : tame (rt q) := fun p e => by
  rw [← rt_inj e]
  exact ⟨h.t, h.b⟩
theorem tame_odd {d : PyData} (h : d ∈ oddL) : tame d := fun q e => by
  unfold oddL at h
  simp only [List.mem_cons, List.mem_nil_iff, or_false] at h
  unfold rt at e
  rcases h with rfl | rfl | rfl | rfl | rfl | rfl | rfl | rfl | rfl | rfl | rfl | rfl | rfl <;> first
    | (cases e; done)
    | (injection e with e; injection e with a b; injection b with b _; first | (cases a; done) | (cases b; done) | (injection a with a; injection b with b; rw [← a, ← b]; exact ⟨by show (_ : Int).natAbs < 2 ^ 110; decide +kernel, by show (_ : Int).natAbs < 2 ^ 110; decide +kernel⟩))
theorem odd_ratio {d : PyData} (h : d ∈ oddL) : isR d = false := by
  unfold oddL at h
  simp only [List.mem_cons, List.mem_nil_iff, or_false] at h
  rcases h with rfl | rfl | rfl | rfl | rfl | rfl | rfl | rfl | rfl | rfl | rfl | rfl | rfl <;> first | rfl | decide +kernel
def preKi (ss : List Sl) : Prop := ∃ qs : List Qt, ss = [.da (.list (qs.map rt))] ∧ qs.length ≤ 6 ∧ AllQ 110 qs
def sp__law_kinds (K : PySem.W.Frag) : Sp := spH K 1 preKi (fun _ s => s = .da (.bool true))
def t__law_kinds (K : PySem.W.Frag) (E : XK) : TS := (tSeq (tAsg (tCB (LL.rLen K) (tCons (tVar 1) tNil)) (gName 2))
 (tSeq (tAsg (tCall (sp__law_any_ratio K) [] E0 (tCons (tVar 0) tNil)) (gName 3))
 (tSeq (tAsg (tNotT K (tLc (iList K (tVar 1)) (gName 5) (tTru K (tCall (sp__law_below K) [] E0 (tCons (tVar 5) (tCons (tVar 3) tNil)))) (tC (.int 1)) [5])) (gName 4))
 (tSeq (tFor (iList K (tLst (tCons (tVar 1) (tCons (tCB (LL.rTupOf K) (tCons (tVar 1) tNil)) tNil)))) (gName 6) (tSeq (tIfS (tOr (tTest (tOp rIsnBl (tCall (sp_is_row2 K) [] E0 (tCons (tVar 6) (tCons (tVar 2) tNil))) (tC (.bl true)))) (tOr (tTest (tOp rIsnBl (tCall (sp_is_row2 K) [] E0 (tCons (tVar 6) (tCons (tOp rAddI (tVar 2) (tC (.int 1))) tNil))) (tC (.bl false)))) (tTest (tOp rIsnBl (tCall (sp_is_row2 K) [] E0 (tCons (tVar 6) (tCons (tOp rSubI (tVar 2) (tC (.int 1))) tNil))) (tC (.bl false)))))) (tRet (tC (.bl false))) tNext)
 (tIfS (tOr (tNot (tTru K (tCall (sp__law_truth K) [] E0 (tCons (tCall (sp_is_row K) [] E0 (tCons (tVar 6) (tCons (tVar 2) (tCons (tVar 3) tNil)))) (tCons (tVar 4) tNil))))) (tNot (tTru K (tCall (sp__law_truth K) [] E0 (tCons (tCallKw (sp_is_row2_least K) 2 1 (tCons (tVar 6) (tCons (tVar 2) tNil)) (tCons (tVar 3) tNil)) (tCons (tVar 4) tNil)))))) (tRet (tC (.bl false))) tNext)))
 (tSeq (tAsg (tCB (LL.rListOf K) (tCons (tVar 1) tNil)) (gName 7))
 (tSeq (tDrop (tBM K "list" rIns (tVar 7) (tCons (tCall (sp__law_take K) [] E0 (tCons (tVar 0) (tCons (tOp rAddI (tVar 2) (tC (.int 1))) tNil))) (tCons (tCall (sp__law_odd K) [] E0 (tCons (tVar 0) tNil)) tNil))))
 (tSeq (tIfS (tOr (tTest (tOp rIsnBl (tCall (sp_is_row2 K) [] E0 (tCons (tVar 7) (tCons (tOp rAddI (tVar 2) (tC (.int 1))) tNil))) (tC (.bl false)))) (tTest (tOp rIsnBl (tCall (sp_is_row2 K) [] E0 (tCons (tCB (LL.rTupOf K) (tCons (tVar 7) tNil)) (tCons (tOp rAddI (tVar 2) (tC (.int 1))) tNil))) (tC (.bl false))))) (tRet (tC (.bl false))) tNext)
 (tRet (tAndV (tOp rIsBl (tCall (sp_is_row2 K) [] E0 (tCons (tC (.str "12")) (tCons (tC (.int 2)) tNil))) (tC (.bl false))) (tAndV (tOp rIsBl (tCall (sp_is_row2 K) [] E0 (tCons (tC .non) (tCons (tVar 2) tNil))) (tC (.bl false))) (tOp rIsBl (tCall (sp_is_row2 K) [] E0 (tCons tDNewK (tCons (tC (.int 0)) tNil))) (tC (.bl false)))))))))))))
theorem rowD_list {qs : List Qt} (h : AllQ 110 qs) (d : PyData) (hd : seqI d = some (qs.map rt)) (n : Int) : rowD d n none = decide ((qs.length : Int) = n) := by
  unfold rowD
  rw [hd]
  show (decide (((qs.map rt).length : Int) = n) && (qs.map rt).all fun x => okQ x none) = _
  rw [mapLen, (List.all_eq_true.mpr fun x hx => by
    obtain ⟨q, hq, rfl⟩ := List.mem_map.mp hx
    exact isR_low (h q hq).1 : ((qs.map rt).all fun x => okQ x none) = true), Bool.and_true]
theorem rowD_from {qs : List Qt} (h : AllQ 110 qs) (d : PyData) (hd : seqI d = some (qs.map rt)) (l : Qt) : rowD d (qs.length : Int) (some l) = qs.all fun q => !belowQ q l := by
  unfold rowD
  rw [hd]
  show (decide (((qs.map rt).length : Int) = (qs.length : Int)) && (qs.map rt).all fun x => okQ x (some l)) = _
  rw [mapLen, decide_eq_true rfl, Bool.true_and, List.all_map]
  rw [Bool.eq_iff_iff, List.all_eq_true, List.all_eq_true]
  constructor
  · intro w q hq
    have := w q hq
    rw [← from_rt (h q hq).1]
    exact this
  · intro w q hq
    show fromQ (rt q) l = true
    rw [from_rt (h q hq).1]
    exact w q hq
section
variable {K : PySem.W.Frag} {O : Addr → Bool} {J : Hp → Prop} {E : XK}
theorem u_row (G : Gr J) {s : Sl} {n : Int} {le : Option Qt} (h1 : anyS s) (h2 : ∀ l, le = some l → BR 110 l) (h3 : ∀ d ds, s = .da d → seqI d = some ds → ds.length ≤ 1000 ∧ ∀ x ∈ ds, tame x) :
    SpS K O J (sp_is_row K) E [s, .da (.int n), .da (leD le)] (fun x => x = .da (.bool (rowB s n le))) :=
  spG_us G rfl ⟨s, n, le, rfl, h1, h2, h3⟩ fun x ⟨s', n', le', e, h⟩ => by
    injection e with e e2
    injection e2 with e2 e3
    injection e2 with e2
    injection e2 with e2
    injection e3 with e3
    injection e3 with e3
    subst e e2
    have el : le = le' := by
      cases le <;> cases le' <;> first
        | rfl
        | (cases e3; done)
        | (rw [rt_inj e3])
    rw [h, el]
theorem u_row2 (G : Gr J) {s : Sl} {n : Int} (h1 : anyS s) (h3 : ∀ d ds, s = .da d → seqI d = some ds → ds.length ≤ 1000 ∧ ∀ x ∈ ds, tame x) :
    SpS K O J (sp_is_row2 K) E [s, .da (.int n)] (fun x => x = .da (.bool (rowB s n none))) := fun vs H1 hJ tr hS Q q => by
  have h := u_row (K := K) (O := O) (J := J) (E := E) G (n := n) (le := none) h1 (fun l e => nomatch e) h3
  exact h (vs ++ [.non]) H1 hJ tr (slApp hS (.cons (show OkS K (hid O H1) .non (.da (leD none)) from Dp.non) .nil)) Q q
end
theorem sem__law_kinds {K : PySem.W.Frag} (E : XK) (O : Addr → Bool) (J : Hp → Prop) (a c : Addr) (ss : List Sl) (hl : ss.length = 1) (hp : preKi ss) (hj : HandJ O J a c) :
    Ok K O J (.va (.ref a) :: ss ++ List.replicate 6 .un) (t__law_kinds K E) { rt := fun s => s = .da (.bool true), nx := fun _ => False } := by
  obtain ⟨qs, rfl, hn, hq⟩ := hp
  have G := hj.gr
  have z : sizeLine = 16777216 := rfl
  have isn : ∀ {ta : TE} {Γ : List Sl} {x y : Bool}, ED K O J Γ ta (.bool x) → x = y → ET K O J Γ (tTest (tOp rIsnBl ta (tC (.bl y)))) false := fun h e => t_is (t_val (e_isnB h e_bl)) (by rw [e, decide_eq_true rfl]; rfl)
  have ok1 : ∀ d, seqI d = some (qs.map rt) → ∀ d' ds, Sl.da d = .da d' → seqI d' = some ds → ds.length ≤ 1000 ∧ ∀ x ∈ ds, tame x := fun d hd d' ds e hd' => by
    cases e
    rw [hd] at hd'
    cases hd'
    refine ⟨by rw [mapLen]; omega, fun x hx => ?_⟩
    obtain ⟨q, mq, rfl⟩ := List.mem_map.mp hx
    exact tame_rt (hq q mq).2
  refine q_setS (e_cb (a_cons (e_d rfl) a_nil) c_lenL) ?_
  rw [mapLen]
  refine q_set (d_any hj rfl) fun s ⟨l, e, ll, bl⟩ => ?_
  subst e
  refine q_setS (s := .da (.bool (qs.all fun q => !belowQ q l))) (e_is (e_notTP (b := !qs.all fun q => !belowQ q l) (P := fun s => ∃ ds, s = .da (.list ds) ∧ ds.isEmpty = qs.all fun q => !belowQ q l) (e_lc G hj.fr (src_list (e_d rfl)) (by rw [mapLen]; omega) (b := fun i => belowQ (qs.getD i (0, 1)) l) (fun i ds => ds.isEmpty = (qs.take i).all fun q => !belowQ q l) rfl
      (fun O' J' i X hi => ?_) (fun O' J' i ds X hi hI hb => e_int.to ⟨_, rfl, ?_⟩) (fun i ds hi hI hb => ?_) (fun ds hI => ⟨ds, rfl, by rw [hI, mapLen, List.take_length]⟩) (by show 5 < 8; decide)) fun s ⟨ds, e, hd⟩ => ⟨_, e, True.intro, by rw [← hd]; rfl⟩) (by rw [Bool.not_not])) ?_
  · obtain ⟨q, eq, er, mq⟩ := getR hi
    rw [er]
    have eg : qs.getD i (0, 1) = q := by rw [List.getD_eq_getElem?_getD, eq]; rfl
    show ET K O' J' _ _ (belowQ (qs.getD i (0, 1)) l)
    rw [eg]
    exact t_truth (e_call (a_cons (e_d rfl) (a_cons (e_d rfl) a_nil)) (u_two (f := fun p q => .bool (belowQ p q)) X.gr (br_mono (hq q mq).2 (by decide)) (br_mono bl (by decide)))) True.intro
  · obtain ⟨q, eq, er, mq⟩ := getR hi
    have eg : qs.getD i (0, 1) = q := by rw [List.getD_eq_getElem?_getD, eq]; rfl
    have hb : belowQ (qs.getD i (0, 1)) l = true := hb
    rw [eg] at hb
    rw [takeS eq, List.all_append, List.all_cons, hb]
    simp
  · obtain ⟨q, eq, er, mq⟩ := getR hi
    have eg : qs.getD i (0, 1) = q := by rw [List.getD_eq_getElem?_getD, eq]; rfl
    have hb : belowQ (qs.getD i (0, 1)) l = false := hb
    rw [eg] at hb
    rw [takeS eq, List.all_append, List.all_cons, hb, hI]
    simp
  refine ok_seq (M := fun Γ' => ∃ x y w, Γ' = [.va (.ref a), .da (.list (qs.map rt)), .da (.int (qs.length : Int)), .da (rt l), .da (.bool (qs.all fun q => !belowQ q l)), x, y, w])
    (ok_forL (ds := [.list (qs.map rt), .tuple (qs.map rt)]) (e_lst G (ds := [.list (qs.map rt), .tuple (qs.map rt)]) (a_cons (e_d rfl) (a_cons (e_cb (a_cons (e_d rfl) a_nil) (c_tuple G rfl)) a_nil))) (fun _ Γ' => ∃ x y w, Γ' = [.va (.ref a), .da (.list (qs.map rt)), .da (.int (qs.length : Int)), .da (rt l), .da (.bool (qs.all fun q => !belowQ q l)), x, y, w]) ⟨_, _, _, rfl⟩ (fun i d Γ' hd ⟨x, y, w, e⟩ => ?_) fun _ h => h) fun Γ' ⟨x, y, w, e⟩ => ?_
  · subst e
    have hs : seqI d = some (qs.map rt) := by
      match i, hd with
      | 0, hd => cases hd; rfl
      | 1, hd => cases hd; rfl
    have r2 : ∀ {Γ : List Sl} {te : TE} {n : Int}, Γ[6]? = some (.da d) → ED K O J Γ te (.int n) → ED K O J Γ (tCall (sp_is_row2 K) [] E0 (tCons (tVar 6) (tCons te tNil))) (.bool (decide ((qs.length : Int) = n))) := fun h ht => e_is (e_call (a_cons (e_d h) (a_cons ht a_nil)) (u_row2 G (.inl ⟨d, rfl⟩) (ok1 d hs))) (by show Sl.da (.bool (rowD d _ none)) = _; rw [rowD_list hq d hs])
    refine q_not (t_or (isn (r2 rfl (e_d rfl)) (decide_eq_true rfl)) (fun _ => t_or (isn (r2 rfl (e_add (e_d rfl) e_int)) (decide_eq_false (by omega))) (fun _ => isn (r2 rfl (e_sub (e_d rfl) e_int)) (decide_eq_false (by omega))) fun h => nomatch h) fun h => nomatch h) ?_
    have r3 : SpS K O J (sp_is_row K) E0 [.da d, .da (.int (qs.length : Int)), .da (rt l)] (fun x => x = .da (.bool (qs.all fun q => !belowQ q l))) := by
      have h := u_row (K := K) (O := O) (J := J) (E := E0) G (n := (qs.length : Int)) (le := some l) (.inl ⟨d, rfl⟩) (fun l' e => by cases e; exact bl) (ok1 d hs)
      have e : rowB (.da d) (qs.length : Int) (some l) = qs.all fun q => !belowQ q l := rowD_from hq d hs l
      rw [e] at h
      exact h
    exact ok_if (a := false) (t_or (truth_t G (e_call (a_cons (e_d rfl) (a_cons (e_d rfl) (a_cons (e_d rfl) a_nil))) r3) (e_d rfl)) (fun _ => truth_t G (e_callKw (a_cons (e_d rfl) (a_cons (e_d rfl) a_nil)) (a_cons (e_d rfl) a_nil) rfl rfl r3) (e_d rfl)) fun h => nomatch h) (fun h => nomatch h) fun _ => ok_next ⟨_, _, _, rfl⟩
  subst e
  refine q_insert (P := fun i x => 0 ≤ i ∧ i < (qs.length : Int) + 1 ∧ x ∈ oddL) G hj.fr (e_d rfl) rfl (by rw [mapLen]; omega) (by show 7 < 8; decide) (fun O' J' X => ?_) (fun i x h => ⟨h.1, by omega⟩) fun i x ⟨i0, i1, hx⟩ => ?_
  · have hj' := X.hand a c hj
    refine a_consP (Ps := fun ss => ∃ x, ss = [.da x] ∧ x ∈ oddL) (d_takeAt hj' rfl ((qs.length : Int) + 1) (by omega) (by omega) (e_add (e_d rfl) e_int)) (a_consP (Ps := fun x => x = []) (d_oddAt hj' rfl) a_nil fun s ss ⟨d, h1, h2⟩ e => ⟨d, by rw [h2, e], h1⟩) fun s ss ⟨r, e, r0, r1⟩ ⟨x, e2, hx⟩ => ⟨r, x, by rw [e, e2], r0, r1, hx⟩
  have bad : ∀ d, seqI d = some ((qs.map rt).take i.toNat ++ [x] ++ (qs.map rt).drop i.toNat) → rowB (.da d) ((qs.length : Int) + 1) none = false := fun d hd => by
    show rowD d ((qs.length : Int) + 1) none = false
    unfold rowD
    rw [hd]
    show (_ && ((qs.map rt).take i.toNat ++ [x] ++ (qs.map rt).drop i.toNat).all fun x => okQ x none) = false
    rw [List.all_append, List.all_append, List.all_cons, show okQ x none = false from odd_ratio hx]
    simp
  have ok2 : ∀ d, seqI d = some ((qs.map rt).take i.toNat ++ [x] ++ (qs.map rt).drop i.toNat) → ∀ d' ds, Sl.da d = .da d' → seqI d' = some ds → ds.length ≤ 1000 ∧ ∀ x ∈ ds, tame x := fun d hd d' ds e hd' => by
    cases e
    rw [hd] at hd'
    cases hd'
    refine ⟨by rw [List.length_append, List.length_append, List.length_take, List.length_drop, mapLen, List.length_singleton]; omega, fun y hy => ?_⟩
    rcases List.mem_append.mp hy with hy | hy
    · rcases List.mem_append.mp hy with hy | hy
      · obtain ⟨q, mq, rfl⟩ := List.mem_map.mp (List.mem_of_mem_take hy)
        exact tame_rt (hq q mq).2
      · rw [List.mem_singleton.mp hy]
        exact tame_odd hx
    · obtain ⟨q, mq, rfl⟩ := List.mem_map.mp (List.mem_of_mem_drop hy)
      exact tame_rt (hq q mq).2
  refine q_not (t_or (isn (e_call (a_cons (e_d rfl) (a_cons (e_add (e_d rfl) e_int) a_nil)) (u_row2 G (.inl ⟨_, rfl⟩) (ok2 _ rfl))) (bad (.list _) rfl)) (fun _ => isn (e_call (a_cons (e_cb (a_cons (e_d rfl) a_nil) (c_tuple G rfl)) (a_cons (e_add (e_d rfl) e_int) a_nil)) (u_row2 G (.inl ⟨_, rfl⟩) (ok2 _ rfl))) (bad (.tuple _) rfl)) fun h => nomatch h) ?_
  have none' : ∀ d, seqI d = none → ∀ d' ds, Sl.da d = .da d' → seqI d' = some ds → ds.length ≤ 1000 ∧ ∀ x ∈ ds, tame x := fun d hd d' ds e hd' => by
    cases e
    rw [hd] at hd'
    cases hd'
  refine ok_retS (s := .da (.bool true)) (e_andV (a := true) (e_is (e_isB (e_call (a_cons e_str (a_cons e_int a_nil)) (u_row2 G (.inl ⟨_, rfl⟩) (none' _ rfl))) e_bl) rfl) (fun _ => e_andV (a := true) (e_is (e_isB (e_call (a_cons e_non (a_cons (e_d rfl) a_nil)) (u_row2 G (.inl ⟨_, rfl⟩) (none' _ rfl))) e_bl) rfl) (fun _ => e_is (e_isB (e_call (a_cons (e_dict G) (a_cons e_int a_nil)) (u_row2 G (.inr rfl) fun d ds e => nomatch e)) e_bl) rfl) fun h => nomatch h) fun h => nomatch h) rfl
/-! ### the law -/
def sp_law (K : PySem.W.Frag) : Sp := spLaw K
def t_law (K : PySem.W.Frag) (E : XK) : TS := (tSeq (tAsg (tCall (sp__law_hand K) [] E0 (tCons (tVar 0) tNil)) (gName 1))
 (tSeq (tFor (iRng1 (tCons (tC (.int 4)) tNil)) (gName 2) (tSeq (tAsg (tCall (sp__law_take K) [] E0 (tCons (tVar 1) (tCons (tC (.int 7)) tNil))) (gName 3))
 (tSeq (tAsg (tLc (iRng1 (tCons (tVar 3) tNil)) (gName 5) tYes (tCall (sp__law_any_ratio K) [] E0 (tCons (tVar 1) tNil)) [5]) (gName 4))
 (tSeq (tAsg (tLc (iRng1 (tCons (tVar 3) tNil)) (gName 5) tYes (tCall (sp__law_any_ratio K) [] E0 (tCons (tVar 1) tNil)) [5]) (gName 6))
 (tSeq (tIfS (tTest (tOp rEq (tVar 2) (tC (.int 3)))) (tAsg (tCB (LL.rListOf K) (tCons (tVar 4) tNil)) (gName 6)) tNext)
 (tSeq (tAsg (tCall (sp__law_any_ratio K) [] E0 (tCons (tVar 1) tNil)) (gName 7))
 (tSeq (tIfS (tNot (tTru K (tCall (sp__law_kinds K) [] E0 (tCons (tVar 1) (tCons (tCB (LL.rListOf K) (tCons (tVar 4) tNil)) tNil))))) (tRet (tC (.bl false))) tNext)
 (tSeq (tAsg (tTup (tCons (tC (.int 0)) (tCons (tC (.int 1)) tNil))) (gName 8))
 (tSeq (tFor (iList K (tVar 4)) (gName 9) (tAsg (tCall (sp__law_plus K) [] E0 (tCons (tVar 8) (tCons (tVar 9) tNil))) (gName 8)))
 (tSeq (tAsg (tCB (rRepr K) (tCons (tTup (tCons (tVar 4) (tCons (tVar 6) tNil))) tNil)) (gName 10))
 (tSeq (tIfS (tOr (tNot (tTru K (tCall (sp__law_same K) [] E0 (tCons (tCall (sp_sum_of K) [] E0 (tCons (tVar 4) tNil)) (tCons (tVar 8) tNil))))) (tNot (tTru K (tCall (sp__law_same K) [] E0 (tCons (tCall (sp_sum_of K) [] E0 (tCons (tCB (LL.rTupOf K) (tCons (tVar 4) tNil)) tNil)) (tCons (tVar 8) tNil)))))) (tRet (tC (.bl false))) tNext)
 (tSeq (tIfS (tNot (tTru K (tCall (sp__law_same K) [] E0 (tCons (tCall (sp_dot K) [] E0 (tCons (tVar 4) (tCons (tCB (LL.rTupOf K) (tCons (tVar 6) tNil)) tNil))) (tCons (tCall (sp__law_dot K) [] E0 (tCons (tVar 4) (tCons (tVar 6) tNil))) tNil))))) (tRet (tC (.bl false))) tNext)
 (tSeq (tIfS (tNot (tTru K (tCall (sp__law_row_same K) [] E0 (tCons (tCall (sp_plus_rows K) [] E0 (tCons (tVar 4) (tCons (tVar 6) tNil))) (tCons (tLc (iRng1 (tCons (tVar 3) tNil)) (gName 5) tYes (tCall (sp__law_plus K) [] E0 (tCons (tOp (rIxL K) (tVar 4) (tVar 5)) (tCons (tOp (rIxL K) (tVar 6) (tVar 5)) tNil))) [5]) tNil))))) (tRet (tC (.bl false))) tNext)
 (tSeq (tIfS (tNot (tTru K (tCall (sp__law_row_same K) [] E0 (tCons (tCall (sp_times_row K) [] E0 (tCons (tVar 4) (tCons (tVar 7) tNil))) (tCons (tLc (iList K (tVar 4)) (gName 9) tYes (tCall (sp__law_times K) [] E0 (tCons (tVar 9) (tCons (tVar 7) tNil))) [9]) tNil))))) (tRet (tC (.bl false))) tNext)
 (tSeq (tIfS (tTru K (tVar 3)) (tSeq (tPar 11 12 (tCons (tOp (rIxL K) (tVar 4) (tC (.int 0))) (tCons (tOp (rIxL K) (tVar 4) (tC (.int 0))) tNil)))
 (tSeq (tFor (iList K (tVar 4)) (gName 9) (tSeq (tAsg (tIf (tTru K (tCall (sp__law_below K) [] E0 (tCons (tVar 9) (tCons (tVar 11) tNil)))) (tVar 9) (tVar 11)) (gName 11))
 (tAsg (tIf (tTru K (tCall (sp__law_below K) [] E0 (tCons (tVar 12) (tCons (tVar 9) tNil)))) (tVar 9) (tVar 12)) (gName 12))))
 (tIfS (tOr (tNot (tTru K (tCall (sp__law_same K) [] E0 (tCons (tCall (sp_least_of K) [] E0 (tCons (tVar 4) tNil)) (tCons (tVar 11) tNil))))) (tNot (tTru K (tCall (sp__law_same K) [] E0 (tCons (tCall (sp_greatest_of K) [] E0 (tCons (tCB (LL.rTupOf K) (tCons (tVar 4) tNil)) tNil)) (tCons (tVar 12) tNil)))))) (tRet (tC (.bl false))) tNext))) tNext)
 (tIfS (tTest (tOp rNe (tCB (rRepr K) (tCons (tTup (tCons (tVar 4) (tCons (tVar 6) tNil))) tNil)) (tVar 10))) (tRet (tC (.bl false))) tNext))))))))))))))))
 (tRet (tC (.bl true)))))
def t_law_tail (K : PySem.W.Frag) (E : XK) : TS := (tSeq (tFor (iRng1 (tCons (tC (.int 4)) tNil)) (gName 2) (tSeq (tAsg (tCall (sp__law_take K) [] E0 (tCons (tVar 1) (tCons (tC (.int 7)) tNil))) (gName 3))
 (tSeq (tAsg (tLc (iRng1 (tCons (tVar 3) tNil)) (gName 5) tYes (tCall (sp__law_any_ratio K) [] E0 (tCons (tVar 1) tNil)) [5]) (gName 4))
 (tSeq (tAsg (tLc (iRng1 (tCons (tVar 3) tNil)) (gName 5) tYes (tCall (sp__law_any_ratio K) [] E0 (tCons (tVar 1) tNil)) [5]) (gName 6))
 (tSeq (tIfS (tTest (tOp rEq (tVar 2) (tC (.int 3)))) (tAsg (tCB (LL.rListOf K) (tCons (tVar 4) tNil)) (gName 6)) tNext)
 (tSeq (tAsg (tCall (sp__law_any_ratio K) [] E0 (tCons (tVar 1) tNil)) (gName 7))
 (tSeq (tIfS (tNot (tTru K (tCall (sp__law_kinds K) [] E0 (tCons (tVar 1) (tCons (tCB (LL.rListOf K) (tCons (tVar 4) tNil)) tNil))))) (tRet (tC (.bl false))) tNext)
 (tSeq (tAsg (tTup (tCons (tC (.int 0)) (tCons (tC (.int 1)) tNil))) (gName 8))
 (tSeq (tFor (iList K (tVar 4)) (gName 9) (tAsg (tCall (sp__law_plus K) [] E0 (tCons (tVar 8) (tCons (tVar 9) tNil))) (gName 8)))
 (tSeq (tAsg (tCB (rRepr K) (tCons (tTup (tCons (tVar 4) (tCons (tVar 6) tNil))) tNil)) (gName 10))
 (tSeq (tIfS (tOr (tNot (tTru K (tCall (sp__law_same K) [] E0 (tCons (tCall (sp_sum_of K) [] E0 (tCons (tVar 4) tNil)) (tCons (tVar 8) tNil))))) (tNot (tTru K (tCall (sp__law_same K) [] E0 (tCons (tCall (sp_sum_of K) [] E0 (tCons (tCB (LL.rTupOf K) (tCons (tVar 4) tNil)) tNil)) (tCons (tVar 8) tNil)))))) (tRet (tC (.bl false))) tNext)
 (tSeq (tIfS (tNot (tTru K (tCall (sp__law_same K) [] E0 (tCons (tCall (sp_dot K) [] E0 (tCons (tVar 4) (tCons (tCB (LL.rTupOf K) (tCons (tVar 6) tNil)) tNil))) (tCons (tCall (sp__law_dot K) [] E0 (tCons (tVar 4) (tCons (tVar 6) tNil))) tNil))))) (tRet (tC (.bl false))) tNext)
 (tSeq (tIfS (tNot (tTru K (tCall (sp__law_row_same K) [] E0 (tCons (tCall (sp_plus_rows K) [] E0 (tCons (tVar 4) (tCons (tVar 6) tNil))) (tCons (tLc (iRng1 (tCons (tVar 3) tNil)) (gName 5) tYes (tCall (sp__law_plus K) [] E0 (tCons (tOp (rIxL K) (tVar 4) (tVar 5)) (tCons (tOp (rIxL K) (tVar 6) (tVar 5)) tNil))) [5]) tNil))))) (tRet (tC (.bl false))) tNext)
 (tSeq (tIfS (tNot (tTru K (tCall (sp__law_row_same K) [] E0 (tCons (tCall (sp_times_row K) [] E0 (tCons (tVar 4) (tCons (tVar 7) tNil))) (tCons (tLc (iList K (tVar 4)) (gName 9) tYes (tCall (sp__law_times K) [] E0 (tCons (tVar 9) (tCons (tVar 7) tNil))) [9]) tNil))))) (tRet (tC (.bl false))) tNext)
 (tSeq (tIfS (tTru K (tVar 3)) (tSeq (tPar 11 12 (tCons (tOp (rIxL K) (tVar 4) (tC (.int 0))) (tCons (tOp (rIxL K) (tVar 4) (tC (.int 0))) tNil)))
 (tSeq (tFor (iList K (tVar 4)) (gName 9) (tSeq (tAsg (tIf (tTru K (tCall (sp__law_below K) [] E0 (tCons (tVar 9) (tCons (tVar 11) tNil)))) (tVar 9) (tVar 11)) (gName 11))
 (tAsg (tIf (tTru K (tCall (sp__law_below K) [] E0 (tCons (tVar 12) (tCons (tVar 9) tNil)))) (tVar 9) (tVar 12)) (gName 12))))
 (tIfS (tOr (tNot (tTru K (tCall (sp__law_same K) [] E0 (tCons (tCall (sp_least_of K) [] E0 (tCons (tVar 4) tNil)) (tCons (tVar 11) tNil))))) (tNot (tTru K (tCall (sp__law_same K) [] E0 (tCons (tCall (sp_greatest_of K) [] E0 (tCons (tCB (LL.rTupOf K) (tCons (tVar 4) tNil)) tNil)) (tCons (tVar 12) tNil)))))) (tRet (tC (.bl false))) tNext))) tNext)
 (tIfS (tTest (tOp rNe (tCB (rRepr K) (tCons (tTup (tCons (tVar 4) (tCons (tVar 6) tNil))) tNil)) (tVar 10))) (tRet (tC (.bl false))) tNext))))))))))))))))
 (tRet (tC (.bl true))))
theorem allQ_snoc {n : Nat} {qs : List Qt} {q : Qt} (h : AllQ n qs) (hq : Low q ∧ BR n q) : AllQ n (qs ++ [q]) := fun x hx => by
  rcases List.mem_append.mp hx with hx | hx
  · exact h x hx
  · rw [List.mem_singleton.mp hx]; exact hq
theorem rts_inj : ∀ {ps qs : List Qt}, ps.map rt = qs.map rt → ps = qs
  | [], [], _ => rfl
  | [], _ :: _, h => by cases h
  | _ :: _, [], h => by cases h
  | p :: ps, q :: qs, h => by
    injection h with h1 h2
    rw [rt_inj h1, rts_inj h2]
theorem seq_inj {d : PyData} {ps qs : List Qt} (h1 : seqI d = some (ps.map rt)) (h2 : seqI d = some (qs.map rt)) : ps = qs := rts_inj (Option.some.inj (h1.symm.trans h2))
theorem da_inj {d e : PyData} {ss ts : List Sl} (h : Sl.da d :: ss = .da e :: ts) : d = e ∧ ss = ts := by
  injection h with h1 h2
  injection h1 with h1
  exact ⟨h1, h2⟩
section
variable {K : PySem.W.Frag} {O : Addr → Bool} {J : Hp → Prop} {E : XK} {Γ : List Sl} {ta tb : TE}
theorem e_neStr {x : Str} (h1 : ED K O J Γ ta (.str x)) (h2 : ED K O J Γ tb (.str x)) : ED K O J Γ (tOp rNe ta tb) (.bool false) :=
  e_op h1 h2 fun s1 s2 v y H1 p1 p2 hJ tr o1 o2 Q q => by
    cases p1; cases p2; cases o1; cases o2
    exact ⟨rfl, q _ _ H1 rfl hJ .refl (by rw [decide_eq_true rfl]; exact .bl _)⟩
theorem u_sum (G : Gr J) {d : PyData} {qs : List Qt} (hs : seqI d = some (qs.map rt)) (hl : qs.length ≤ 10) (hq : AllQ 110 qs) : SpS K O J (sp_sum_of K) E [.da d] (fun x => x = .da (rt (sumQ qs))) :=
  spG_us G rfl ⟨d, qs, rfl, hs, hl, hq⟩ fun s ⟨d', qs', e, hs', h⟩ => by
    obtain ⟨rfl, _⟩ := da_inj e
    rw [h, seq_inj hs hs']
theorem u_dot (G : Gr J) {d1 d2 : PyData} {ps qs : List Qt} (h1 : seqI d1 = some (ps.map rt)) (h2 : seqI d2 = some (qs.map rt)) (hl : ps.length ≤ 10) (hp : AllQ 110 ps) (hq : AllQ 110 qs) : SpS K O J (spG K 2 preDot relDot) E [.da d1, .da d2] (fun x => x = .da (rt (dotF (ps.zip qs)))) :=
  spG_us G rfl ⟨d1, d2, ps, qs, rfl, h1, h2, hl, hp, hq⟩ fun s ⟨d1', d2', ps', qs', e, e1, e2, h⟩ => by
    obtain ⟨x1, x2⟩ := da_inj e
    obtain ⟨x3, _⟩ := da_inj x2
    subst x1 x3
    rw [h, seq_inj h1 e1, seq_inj h2 e2]
theorem u_prows (G : Gr J) {d1 d2 : PyData} {ps qs : List Qt} (h1 : seqI d1 = some (ps.map rt)) (h2 : seqI d2 = some (qs.map rt)) (hl : ps.length ≤ 10) (hp : AllQ 110 ps) (hq : AllQ 110 qs) : SpS K O J (sp_plus_rows K) E [.da d1, .da d2] (fun x => x = .da (.tuple ((addR ps qs).map rt))) :=
  spG_us G rfl ⟨d1, d2, ps, qs, rfl, h1, h2, hl, hp, hq⟩ fun s ⟨d1', d2', ps', qs', e, e1, e2, h⟩ => by
    obtain ⟨x1, x2⟩ := da_inj e
    obtain ⟨x3, _⟩ := da_inj x2
    subst x1 x3
    rw [h, seq_inj h1 e1, seq_inj h2 e2]
theorem u_trow (G : Gr J) {d : PyData} {qs : List Qt} {l : Qt} (hs : seqI d = some (qs.map rt)) (hn : qs.length ≤ 10) (hq : AllQ 110 qs) (hb : BR 110 l) : SpS K O J (sp_times_row K) E [.da d, .da (rt l)] (fun x => x = .da (.tuple ((qs.map fun q => mulQ q l).map rt))) :=
  spG_us G rfl ⟨d, qs, l, rfl, hs, hn, hq, hb⟩ fun s ⟨d', qs', l', e, hs', h⟩ => by
    obtain ⟨x1, x2⟩ := da_inj e
    obtain ⟨x3, _⟩ := da_inj x2
    subst x1
    rw [h, seq_inj hs hs', rt_inj x3]
theorem u_least (G : Gr J) {d : PyData} {q0 : Qt} {r : List Qt} (hs : seqI d = some ((q0 :: r).map rt)) (hq : AllQ 110 (q0 :: r)) : SpS K O J (sp_least_of K) E [.da d] (fun x => x = .da (rt (leastQ q0 (q0 :: r)))) :=
  spG_us G rfl ⟨d, q0, r, rfl, hs, hq⟩ fun s ⟨d', q', r', e, hs', h⟩ => by
    obtain ⟨rfl, _⟩ := da_inj e
    injection seq_inj hs hs' with e1 e2
    rw [h, e1, e2]
theorem u_most (G : Gr J) {d : PyData} {q0 : Qt} {r : List Qt} (hs : seqI d = some ((q0 :: r).map rt)) (hq : AllQ 110 (q0 :: r)) : SpS K O J (sp_greatest_of K) E [.da d] (fun x => x = .da (rt (mostQ q0 (q0 :: r)))) :=
  spG_us G rfl ⟨d, q0, r, rfl, hs, hq⟩ fun s ⟨d', q', r', e, hs', h⟩ => by
    obtain ⟨rfl, _⟩ := da_inj e
    injection seq_inj hs hs' with e1 e2
    rw [h, e1, e2]
end
theorem row_at {qs : List Qt} {i : Nat} (h : i < qs.length) : (qs.map rt)[i]? = some (rt (qs.getD i (0, 1))) ∧ qs[i]? = some (qs.getD i (0, 1)) := by
  rw [List.getElem?_map, List.getD_eq_getElem?_getD, List.getElem?_eq_getElem h]
  exact ⟨rfl, rfl⟩
theorem sem_law {K : PySem.W.Frag} {mg : Str → Option Value} (T : Txt K mg) (E' : XK) (vs : List V) (H : Hp) (Q : VK) (E : XK) (hs : sp_law K vs H Q E) : t_law K E' { nx := fun _ H' => Q .non H', rt := Q } (L2.start ["_law_script", "_law_hand_here", "_law_turn", "_law_many", "_law_row", "_law_k", "_law_other", "_law_size", "_law_total", "_law_entry", "_law_shown", "_law_least", "_law_greatest"] vs) H := by
  refine law_top (tail := t_law_tail K E') (m := 11) rfl (fun O J a c hj => ?_) vs H Q E hs
  have G := hj.gr
  have z : sizeLine = 16777216 := rfl
  refine ok_seq (M := fun _ => True) (ok_forR (a_cons e_int a_nil) (by decide) (by decide) (fun _ Γ' => ∃ r : List Sl, r.length = 11 ∧ Γ' = .un :: .va (.ref a) :: r) ⟨_, by simp, rfl⟩ (fun i Γ' hi ⟨r, hr, e⟩ => ?_) fun _ _ => True.intro) fun Γ' _ => ok_retS e_bl rfl
  subst e
  match r, hr with
  | [x2, x3, x4, x5, x6, x7, x8, x9, x10, x11, x12], _ =>
  refine q_set (d_takeAt hj rfl 7 (by decide) (by decide) e_int) fun s ⟨n, e, n0, n1⟩ => ?_
  subst e
  obtain ⟨k, rfl⟩ := Int.eq_ofNat_of_zero_le n0
  have k7 : k ≤ 6 := by omega
  have draw : ∀ {Γ : List Sl}, Γ[1]? = some (.va (.ref a)) → Γ[3]? = some (.da (.int (k : Int))) → 5 < Γ.length → EP K O J Γ (tLc (iRng1 (tCons (tVar 3) tNil)) (gName 5) tYes (tCall (sp__law_any_ratio K) [] E0 (tCons (tVar 1) tNil)) [5]) (fun s => ∃ qs : List Qt, s = .da (.list (qs.map rt)) ∧ qs.length = k ∧ AllQ 110 qs) := fun {Γ} h1 h3 h5 =>
    e_lc G hj.fr (src_range (n := (k : Int)) (a_cons (e_d h3) a_nil) (by omega) (by omega)) (by rw [Int.toNat_natCast]; omega) (b := fun _ => true) (fun i ds => ∃ qs : List Qt, ds = qs.map rt ∧ qs.length = i ∧ AllQ 110 qs) ⟨[], rfl, rfl, fun x hx => (List.not_mem_nil hx).elim⟩ (fun _ _ _ _ _ => t_yes')
      (fun O' J' i ds X hi ⟨qs, e, hl, hq⟩ _ => (d_anyAt (n := 1) (X.hand a c hj) (by rw [List.getElem?_set_ne (by decide)]; exact h1)).imp fun s ⟨q, e2, low, br⟩ => ⟨rt q, e2, qs ++ [q], by rw [e, List.map_append]; rfl, by rw [List.length_append, hl]; rfl, allQ_snoc hq ⟨low, br⟩⟩) (fun _ _ _ _ z => nomatch z)
      (fun ds ⟨qs, e, hl, hq⟩ => ⟨qs, by rw [e], by rw [hl, Int.toNat_natCast], hq⟩) h5
  refine q_set (draw rfl rfl (by show 5 < 13; decide)) fun s ⟨qs, e, hl, hq⟩ => ?_
  subst e
  refine q_set (draw rfl rfl (by show 5 < 13; decide)) fun s ⟨os0, e, hol, hoq⟩ => ?_
  subst e
  refine ok_seq (M := fun Γ' => ∃ os : List Qt, os.length = k ∧ AllQ 110 os ∧ Γ' = [.un, .va (.ref a), .da (.int (i : Int)), .da (.int (k : Int)), .da (.list (qs.map rt)), x5, .da (.list (os.map rt)), x7, x8, x9, x10, x11, x12])
    (ok_if (a := decide ((i : Int) = 3)) (t_val (e_eqI (e_d rfl) e_int)) (fun _ => ok_setS (e_cb (a_cons (e_d rfl) a_nil) (c_list G rfl)) ⟨qs, hl, hq, rfl⟩) fun _ => ok_next ⟨os0, hol, hoq, rfl⟩) fun Γ' ⟨os, hos, hoq, e⟩ => ?_
  subst e
  refine q_set (d_anyAt hj rfl) fun s ⟨l, e, ll, bl⟩ => ?_
  subst e
  refine q_not (t_is (t_not (t_truth (e_call (a_cons (e_v rfl) (a_cons (e_cb (a_cons (e_d rfl) a_nil) (c_list G rfl)) a_nil)) (spH_us hj rfl ⟨qs, rfl, by omega, hq⟩ fun _ h => h)) True.intro)) rfl) ?_
  refine q_setS (e_tup G (ds := [.int 0, .int 1]) (a_cons e_int (a_cons e_int a_nil))) ?_
  refine ok_seq (M := fun Γ' => ∃ y9, Γ' = [.un, .va (.ref a), .da (.int (i : Int)), .da (.int (k : Int)), .da (.list (qs.map rt)), x5, .da (.list (os.map rt)), .da (rt l), .da (rt (sumQ qs)), y9, x10, x11, x12])
    (ok_forL (ds := qs.map rt) (e_d rfl) (fun j Γ' => ∃ y9, j ≤ qs.length ∧ Γ' = [.un, .va (.ref a), .da (.int (i : Int)), .da (.int (k : Int)), .da (.list (qs.map rt)), x5, .da (.list (os.map rt)), .da (rt l), .da (rt (sumQ (qs.take j))), y9, x10, x11, x12]) ⟨_, Nat.zero_le _, rfl⟩ (fun j d Γ' hd ⟨y9, hj9, e⟩ => ?_) fun Γ' ⟨y9, hj9, e⟩ => ⟨y9, by rw [e, mapLen, List.take_length]⟩) fun Γ' ⟨y9, e⟩ => ?_
  · subst e
    obtain ⟨q, eq, rfl⟩ := mapR hd
    have lt : j < qs.length := (List.getElem?_eq_some_iff.mp eq).1
    refine ok_setS (e_call (a_cons (e_d rfl) (a_cons (e_d rfl) a_nil)) (u_two (f := fun p q => rt (addQ p q)) G (br_mono (sum_br hq j hj9) (by omega)) (br_mono (hq q (List.mem_of_getElem? eq)).2 (by decide)))) ⟨.da (rt q), lt, ?_⟩
    rw [sum_step eq]
    rfl
  subst e
  have lq : qs.length ≤ 10 := by omega
  refine q_setS (e_cb (a_cons (e_tup G (ds := [.list (qs.map rt), .list (os.map rt)]) (a_cons (e_d rfl) (a_cons (e_d rfl) a_nil))) a_nil) (c_repr hq hoq (by omega) (by omega))) ?_
  refine q_not (t_or (same_t G (p := sumQ qs) (e_call (a_cons (e_d rfl) a_nil) (u_sum G rfl lq hq)) (e_d rfl)) (fun _ => same_t G (p := sumQ qs) (e_call (a_cons (e_cb (a_cons (e_d rfl) a_nil) (c_tuple G rfl)) a_nil) (u_sum G rfl lq hq)) (e_d rfl)) fun h => nomatch h) ?_
  refine q_not (same_t G (p := dotF (qs.zip os)) (e_call (a_cons (e_d rfl) (a_cons (e_cb (a_cons (e_d rfl) a_nil) (c_tuple G rfl)) a_nil)) (u_dot G rfl rfl lq hq hoq)) (e_call (a_cons (e_d rfl) (a_cons (e_d rfl) a_nil)) (u_dot G rfl rfl lq hq hoq))) ?_
  have zl : (qs.zip os).length = k := by rw [List.length_zip]; omega
  refine q_not (t_is (t_not (t_truth (e_call (a_cons (e_call (a_cons (e_d rfl) (a_cons (e_d rfl) a_nil)) (u_prows G rfl rfl lq hq hoq)) (a_cons (e_lc G hj.fr (src_range (n := (k : Int)) (a_cons (e_d rfl) a_nil) (by omega) (by omega)) (by rw [Int.toNat_natCast]; omega) (b := fun _ => true) (fun j ds => ds = (((qs.zip os).take j).map fun z => addQ z.1 z.2).map rt) rfl (fun _ _ _ _ _ => t_yes')
      (fun O' J' j ds X hj' hI _ => ?_) (fun _ _ _ _ z => nomatch z) (fun ds hI => by rw [hI, Int.toNat_natCast, ← zl, List.take_length]; rfl) (by show 5 < 13; decide)) a_nil)) (spG_us G rfl ⟨addR qs os, rfl, by unfold addR; rw [List.length_map, zl]; omega⟩ fun _ h => h)) True.intro)) rfl) ?_
  · rw [Int.toNat_natCast] at hj'
    have a1 := row_at (qs := qs) (i := j) (by omega)
    have a2 := row_at (qs := os) (i := j) (by omega)
    refine (e_call (a_cons (e_ixL (n := j) (e_d rfl) (e_d rfl) a1.1) (a_cons (e_ixL (n := j) (e_d rfl) (e_d rfl) a2.1) a_nil)) (u_two (f := fun p q => rt (addQ p q)) X.gr (br_mono (hq _ (List.mem_of_getElem? a1.2)).2 (by decide)) (br_mono (hoq _ (List.mem_of_getElem? a2.2)).2 (by decide)))).imp fun s e => ⟨_, e, ?_⟩
    rw [hI, takeS (zip_at a1.2 a2.2), List.map_append, List.map_append]
    rfl
  refine q_not (t_is (t_not (t_truth (e_call (a_cons (e_call (a_cons (e_d rfl) (a_cons (e_d rfl) a_nil)) (u_trow G rfl lq hq bl)) (a_cons (e_lc G hj.fr (src_list (e_d rfl)) (by rw [mapLen]; omega) (b := fun _ => true) (fun j ds => ds = ((qs.take j).map fun q => mulQ q l).map rt) rfl (fun _ _ _ _ _ => t_yes')
      (fun O' J' j ds X hj' hI _ => ?_) (fun _ _ _ _ z => nomatch z) (fun ds hI => by rw [hI, mapLen, List.take_length]) (by show 9 < 13; decide)) a_nil)) (spG_us G rfl ⟨qs.map fun q => mulQ q l, rfl, by rw [List.length_map]; omega⟩ fun _ h => h)) True.intro)) rfl) ?_
  · obtain ⟨q, eq, er, mq⟩ := getR hj'
    rw [er]
    refine (e_call (a_cons (e_d rfl) (a_cons (e_d rfl) a_nil)) (u_two (f := fun p q => rt (mulQ p q)) X.gr (br_mono (hq q mq).2 (by decide)) (br_mono bl (by decide)))).imp fun s e => ⟨_, e, ?_⟩
    rw [hI, takeS eq, List.map_append, List.map_append]
    rfl
  refine ok_seq (M := fun Γ' => ∃ y9 y11 y12, Γ' = [.un, .va (.ref a), .da (.int (i : Int)), .da (.int (k : Int)), .da (.list (qs.map rt)), x5, .da (.list (os.map rt)), .da (rt l), .da (rt (sumQ qs)), y9, .da (.str (PyData.tuple [.list (qs.map rt), .list (os.map rt)]).shown), y11, y12]) (ok_if (t_truth (e_d rfl) True.intro) (fun hk => ?_) fun _ => ok_next ⟨_, _, _, rfl⟩) fun Γ' ⟨y9, y11, y12, e⟩ => ?_
  · match qs, hl, hq, hk with
    | [], hl, _, hk =>
      exfalso
      have e : k = 0 := hl.symm
      subst e
      cases hk
    | q0 :: r, hl, hq, _ =>
    refine q_par (Ps := fun ss => ss = [.da (rt q0), .da (rt q0)]) (a_cons (e_ixL (n := 0) (e_d rfl) e_int rfl) (a_cons (e_ixL (n := 0) (e_d rfl) e_int rfl) a_nil)) fun ss e => ⟨_, _, e, ?_⟩
    refine ok_seq (M := fun Γ' => ∃ y9, Γ' = [.un, .va (.ref a), .da (.int (i : Int)), .da (.int (k : Int)), .da (.list ((q0 :: r).map rt)), x5, .da (.list (os.map rt)), .da (rt l), .da (rt (sumQ (q0 :: r))), y9, .da (.str (PyData.tuple [.list ((q0 :: r).map rt), .list (os.map rt)]).shown), .da (rt (leastQ q0 (q0 :: r))), .da (rt (mostQ q0 (q0 :: r)))])
      (ok_forL (ds := (q0 :: r).map rt) (e_d rfl) (fun j Γ' => ∃ y9, Γ' = [.un, .va (.ref a), .da (.int (i : Int)), .da (.int (k : Int)), .da (.list ((q0 :: r).map rt)), x5, .da (.list (os.map rt)), .da (rt l), .da (rt (sumQ (q0 :: r))), y9, .da (.str (PyData.tuple [.list ((q0 :: r).map rt), .list (os.map rt)]).shown), .da (rt (leastQ q0 ((q0 :: r).take j))), .da (rt (mostQ q0 ((q0 :: r).take j)))]) ⟨_, rfl⟩ (fun j d Γ' hd ⟨y9, e⟩ => ?_) fun Γ' ⟨y9, e⟩ => ⟨y9, by rw [e, mapLen, List.take_length]⟩) fun Γ' ⟨y9, e⟩ => ?_
    · subst e
      obtain ⟨q, eq, rfl⟩ := mapR hd
      have bq := br_mono (hq q (List.mem_of_getElem? eq)).2 (show 110 ≤ 4000 by decide)
      have b1 : BR 4000 (leastQ q0 ((q0 :: r).take j)) := pick_br (f := fun l q => belowQ q l) hq fun q h => List.mem_of_mem_take h
      have b2 : BR 4000 (mostQ q0 ((q0 :: r).take j)) := pick_br (f := fun l q => belowQ l q) hq fun q h => List.mem_of_mem_take h
      have s1 : leastQ q0 ((q0 :: r).take (j + 1)) = if belowQ q (leastQ q0 ((q0 :: r).take j)) then q else leastQ q0 ((q0 :: r).take j) := fold_step eq
      have s2 : mostQ q0 ((q0 :: r).take (j + 1)) = if belowQ (mostQ q0 ((q0 :: r).take j)) q then q else mostQ q0 ((q0 :: r).take j) := fold_step eq
      refine q_setS (s := .da (rt (leastQ q0 ((q0 :: r).take (j + 1))))) (e_if (t_truth (e_call (a_cons (e_d rfl) (a_cons (e_d rfl) a_nil)) (u_two (f := fun p q => .bool (belowQ p q)) G bq b1)) True.intro) (fun h => e_is (e_d rfl) (by rw [s1, if_pos (show belowQ q (leastQ q0 ((q0 :: r).take j)) = true from h)])) fun h => e_is (e_d rfl) (by rw [s1, if_neg (by rw [show belowQ q (leastQ q0 ((q0 :: r).take j)) = false from h]; exact Bool.false_ne_true)])) ?_
      exact ok_setS (s := .da (rt (mostQ q0 ((q0 :: r).take (j + 1))))) (e_if (t_truth (e_call (a_cons (e_d rfl) (a_cons (e_d rfl) a_nil)) (u_two (f := fun p q => .bool (belowQ p q)) G b2 bq)) True.intro) (fun h => e_is (e_d rfl) (by rw [s2, if_pos (show belowQ (mostQ q0 ((q0 :: r).take j)) q = true from h)])) fun h => e_is (e_d rfl) (by rw [s2, if_neg (by rw [show belowQ (mostQ q0 ((q0 :: r).take j)) q = false from h]; exact Bool.false_ne_true)])) ⟨_, rfl⟩
    · subst e
      exact ok_if (a := false) (t_or (same_t G (p := leastQ q0 (q0 :: r)) (e_call (a_cons (e_d rfl) a_nil) (u_least G rfl hq)) (e_d rfl)) (fun _ => same_t G (p := mostQ q0 (q0 :: r)) (e_call (a_cons (e_cb (a_cons (e_d rfl) a_nil) (c_tuple G rfl)) a_nil) (u_most G rfl hq)) (e_d rfl)) fun h => nomatch h) (fun h => nomatch h) fun _ => ok_next ⟨_, _, _, rfl⟩
  subst e
  exact ok_if (a := false) (t_is (t_val (e_neStr (e_cb (a_cons (e_tup G (ds := [.list (qs.map rt), .list (os.map rt)]) (a_cons (e_d rfl) (a_cons (e_d rfl) a_nil))) a_nil) (c_repr hq hoq (by omega) (by omega))) (e_d rfl))) rfl) (fun h => nomatch h) fun _ => ok_next ⟨_, rfl, rfl⟩
section
variable {P : Program} {w : World} {K : PySem.W.Frag} {mg : Str → Option Value} {base : Heap}
theorem di_BadRatio (T : Txt K mg) : Di P w K mg base 1 "BadRatio" "what" := by
  obtain ⟨fd, F⟩ := T.i_BadRatio
  exact ⟨T.x_BadRatio, ⟨fd, _, ok_init F sc_BadRatio_init T.x_BadRatio (fun cdv A outer s H E hr => pss_one (ps_ost (pv 0) (pv 1))), F.bindsN fun _ _ _ _ _ _ us hl => match us, hl with | [_, _], _ => rfl⟩, T.g_BadRatio⟩
theorem der_is_sequence (T : Txt K mg) {f : Addr} (cdv : Value) (A : Around) (outer : List Env) (s : Shared) (H : Hp) (E : XK) (hr : Room 0 (A.deeper (envOfC "is_sequence" (defScope s_is_sequence) s.heap.objs.size f cdv))) :
    PSs (cxOf (L2.CX P w) P w K mg base ["thing"] "is_sequence" (defScope s_is_sequence) f cdv A outer s H E) (defBody s_is_sequence) (t_is_sequence K E) := by
  exact (pss_one (ps_ret (pe_callB call_isiT (by rfl) T.f_isinstance (by decide +kernel) (pa_cons (pv 0) (pa_cons (pe_tup (pa_cons (pe_bltn (v := .ty "list") rfl T.f_list (by decide +kernel) rfl) (pa_cons (pe_bltn (v := .ty "tuple") rfl T.f_tuple (by decide +kernel) rfl) pa_nil))) pa_nil)))))
theorem fn_is_sequence (T : Txt K mg) : ∃ fd, FunD K "is_sequence" "is_sequence" (defArgs s_is_sequence) (defBody s_is_sequence) (defScope s_is_sequence) [] [] (He.ga K "is_sequence") fd ∧ FnOk P w K mg base (L2.CX P w) 1 (He.ga K "is_sequence") fd ["thing"] (sp_is_sequence K) := by
  obtain ⟨fd, F⟩ := T.d_is_sequence
  exact ⟨fd, F, fn_mk (t := fun E => t_is_sequence K E) F sc_is_sequence (fun vs H Q E h => spG_len vs H Q E h) (fun cdv A outer s H E hr => der_is_sequence T cdv A outer s H E hr) (fun vs H Q E h => spG_body (m := 0) (by rfl) (fun O H ss hl hp => ⟨_, fun _ z => (by first | exact z | exact z.elim), sem_is_sequence E O H ss hl hp⟩) vs H Q E h)⟩
theorem dn_is_sequence (T : Txt K mg) : Dn P w K mg base 1 "is_sequence" (sp_is_sequence K) := by
  obtain ⟨fd, F, G⟩ := fn_is_sequence (P := P) (w := w) (base := base) T
  exact dn_all F T.g_is_sequence G fun _ _ _ _ _ _ us hl => match us, hl with | [_], _ => rfl
theorem der_is_whole (T : Txt K mg) {f : Addr} (cdv : Value) (A : Around) (outer : List Env) (s : Shared) (H : Hp) (E : XK) (hr : Room 0 (A.deeper (envOfC "is_whole" (defScope s_is_whole) s.heap.objs.size f cdv))) :
    PSs (cxOf (L2.CX P w) P w K mg base ["thing", "low", "high"] "is_whole" (defScope s_is_whole) f cdv A outer s H E) (defBody s_is_whole) (t_is_whole K E) := by
  exact (pss_cons (ps_if (PW.pt (pw_or (pt_not (pt_truth (pe_callB call_isi (by rfl) T.f_isinstance (by decide +kernel) (pa_cons (pv 0) (pa_cons (pe_bltn (v := .ty "int") rfl T.f_int (by decide +kernel) rfl) pa_nil))) (by intro _; rfl))) (pw_or1 (pt_truth (pe_callB call_isi (by rfl) T.f_isinstance (by decide +kernel) (pa_cons (pv 0) (pa_cons (pe_bltn (v := .ty "bool") rfl T.f_bool (by decide +kernel) rfl) pa_nil))) (by intro _; rfl))))) (pss_one (ps_ret pe_bl)) pss_nil)
     (pss_cons (ps_if (PW.pt (pw_and (pt_cmpR op_notN (pv 1) pe_non (nomark _)) (pw_and1 (pt_cmpR op_lt (pv 0) (pv 1) (nomark _))))) (pss_one (ps_ret pe_bl)) pss_nil)
     (pss_one (ps_ret (pe_or (pe_cmpR op_isN (pv 2) pe_non (nomark _)) (pe_one (pe_cmpR op_le (pv 0) (pv 2) (nomark _))))))))
theorem fn_is_whole (T : Txt K mg) : ∃ fd, FunD K "is_whole" "is_whole" (defArgs s_is_whole) (defBody s_is_whole) (defScope s_is_whole) [.non, .non] [] (He.ga K "is_whole") fd ∧ FnOk P w K mg base (L2.CX P w) 1 (He.ga K "is_whole") fd ["thing", "low", "high"] (sp_is_whole K) := by
  obtain ⟨fd, F⟩ := T.d_is_whole
  exact ⟨fd, F, fn_mk (t := fun E => t_is_whole K E) F sc_is_whole (fun vs H Q E h => spG_len vs H Q E h) (fun cdv A outer s H E hr => der_is_whole T cdv A outer s H E hr) (fun vs H Q E h => spG_body (m := 0) (by rfl) (fun O H ss hl hp => ⟨_, fun _ z => (by first | exact z | exact z.elim), sem_is_whole E O H ss hl hp⟩) vs H Q E h)⟩
theorem dn_is_whole1 (T : Txt K mg) : Dn P w K mg base 1 "is_whole" (sp_is_whole1 K) := by
  obtain ⟨fd, F, G⟩ := fn_is_whole (P := P) (w := w) (base := base) T
  exact dn_dfl F T.g_is_whole G 1 0 (by simp) (by rfl) fun _ _ _ _ _ _ _ us its hl h2 => match us, its, hl, h2 with | [_], [_, _], _, _ => ⟨_, rfl, rfl⟩
theorem dn_is_whole2 (T : Txt K mg) : Dn P w K mg base 1 "is_whole" (sp_is_whole2 K) := by
  obtain ⟨fd, F, G⟩ := fn_is_whole (P := P) (w := w) (base := base) T
  exact dn_dfl F T.g_is_whole G 2 1 (by simp) (by rfl) fun _ _ _ _ _ _ _ us its hl h2 => match us, its, hl, h2 with | [_, _], [_, _], _, _ => ⟨_, rfl, rfl⟩
theorem der_is_ratio (T : Txt K mg) (D_is_whole2 : Dn P w K mg base 1 "is_whole" (sp_is_whole2 K)) (D_is_whole1 : Dn P w K mg base 1 "is_whole" (sp_is_whole1 K)) {f : Addr} (cdv : Value) (A : Around) (outer : List Env) (s : Shared) (H : Hp) (E : XK) (hr : Room 1 (A.deeper (envOfC "is_ratio" (defScope s_is_ratio) s.heap.objs.size f cdv))) :
    PSs (cxOf (L2.CX P w) P w K mg base ["thing"] "is_ratio" (defScope s_is_ratio) f cdv A outer s H E) (defBody s_is_ratio) (t_is_ratio K E) := by
  exact (pss_cons (ps_if (PW.pt (pw_or (pt_not (pt_truth (pe_callB call_isi (by rfl) T.f_isinstance (by decide +kernel) (pa_cons (pv 0) (pa_cons (pe_bltn (v := .ty "tuple") rfl T.f_tuple (by decide +kernel) rfl) pa_nil))) (by intro _; rfl))) (pw_or1 (pt_cmpR op_ne (pe_callB call_len (by rfl) T.f_len (by decide +kernel) (pa_cons (pv 0) pa_nil)) pe_int (nomark _))))) (pss_one (ps_ret pe_bl)) pss_nil)
     (pss_one (ps_ret (pe_and (pcall D_is_whole1 hr (by decide) rfl passL (pa_cons (pe_ix ix_tup (pv 0) pe_int (fun _ _ => rfl)) pa_nil)) (pe_and (pcall D_is_whole2 hr (by decide) rfl passL (pa_cons (pe_ix ix_tup (pv 0) pe_int (fun _ _ => rfl)) (pa_cons pe_int pa_nil))) (pe_one (pe_cmpR op_eq (pe_callBfun cr_gcd rfl T.g_gcd (pa_cons (pe_ix ix_tup (pv 0) pe_int (fun _ _ => rfl)) (pa_cons (pe_ix ix_tup (pv 0) pe_int (fun _ _ => rfl)) pa_nil))) pe_int (nomark _))))))))
theorem fn_is_ratio (T : Txt K mg) : ∃ fd, FunD K "is_ratio" "is_ratio" (defArgs s_is_ratio) (defBody s_is_ratio) (defScope s_is_ratio) [] [] (He.ga K "is_ratio") fd ∧ FnOk P w K mg base (L2.CX P w) 2 (He.ga K "is_ratio") fd ["thing"] (sp_is_ratio K) := by
  obtain ⟨fd, F⟩ := T.d_is_ratio
  exact ⟨fd, F, fn_mk (t := fun E => t_is_ratio K E) F sc_is_ratio (fun vs H Q E h => spG_len vs H Q E h) (fun cdv A outer s H E hr => der_is_ratio T (dn_is_whole2 T) (dn_is_whole1 T) cdv A outer s H E hr) (fun vs H Q E h => spG_body (m := 0) (by rfl) (fun O H ss hl hp => ⟨_, fun _ z => (by first | exact z | exact z.elim), sem_is_ratio E O H ss hl hp⟩) vs H Q E h)⟩
theorem dn_is_ratio (T : Txt K mg) : Dn P w K mg base 2 "is_ratio" (sp_is_ratio K) := by
  obtain ⟨fd, F, G⟩ := fn_is_ratio (P := P) (w := w) (base := base) T
  exact dn_all F T.g_is_ratio G fun _ _ _ _ _ _ us hl => match us, hl with | [_], _ => rfl
theorem der_compare (T : Txt K mg) {f : Addr} (cdv : Value) (A : Around) (outer : List Env) (s : Shared) (H : Hp) (E : XK) (hr : Room 0 (A.deeper (envOfC "compare" (defScope s_compare) s.heap.objs.size f cdv))) :
    PSs (cxOf (L2.CX P w) P w K mg base ["one", "other", "left", "right"] "compare" (defScope s_compare) f cdv A outer s H E) (defBody s_compare) (t_compare K E) := by
  exact (pss_cons (ps_set (i := 2) sc_compare.nd rfl (Or.inl rfl) (pe_op op_mulW (pe_ix ix_tup (pv 0) pe_int (fun _ _ => rfl)) (pe_ix ix_tup (pv 1) pe_int (fun _ _ => rfl))))
     (pss_cons (ps_set (i := 3) sc_compare.nd rfl (Or.inl rfl) (pe_op op_mulW (pe_ix ix_tup (pv 1) pe_int (fun _ _ => rfl)) (pe_ix ix_tup (pv 0) pe_int (fun _ _ => rfl))))
     (pss_cons (ps_if (pt_cmpR op_eq (pv 2) (pv 3) (nomark _)) (pss_one (ps_ret pe_int)) pss_nil)
     (pss_one (ps_ret (pe_ifExp (pt_cmpR op_lt (pv 2) (pv 3) (nomark _)) (pe_un un_neg pe_int) pe_int))))))
theorem fn_compare (T : Txt K mg) : ∃ fd, FunD K "compare" "compare" (defArgs s_compare) (defBody s_compare) (defScope s_compare) [] [] (He.ga K "compare") fd ∧ FnOk P w K mg base (L2.CX P w) 1 (He.ga K "compare") fd ["one", "other"] (sp_compare K) := by
  obtain ⟨fd, F⟩ := T.d_compare
  exact ⟨fd, F, fn_mk (t := fun E => t_compare K E) F sc_compare (fun vs H Q E h => spG_len vs H Q E h) (fun cdv A outer s H E hr => der_compare T cdv A outer s H E hr) (fun vs H Q E h => spG_body (m := 2) (by rfl) (fun O H ss hl hp => ⟨_, fun _ z => (by first | exact z | exact z.elim), sem_compare E O H ss hl hp⟩) vs H Q E h)⟩
theorem dn_compare (T : Txt K mg) : Dn P w K mg base 1 "compare" (sp_compare K) := by
  obtain ⟨fd, F, G⟩ := fn_compare (P := P) (w := w) (base := base) T
  exact dn_all F T.g_compare G fun _ _ _ _ _ _ us hl => match us, hl with | [_, _], _ => rfl
theorem der_is_ratio_from (T : Txt K mg) (D_compare : Dn P w K mg base 1 "compare" (sp_compare K)) (D_is_ratio : Dn P w K mg base 2 "is_ratio" (sp_is_ratio K)) {f : Addr} (cdv : Value) (A : Around) (outer : List Env) (s : Shared) (H : Hp) (E : XK) (hr : Room 2 (A.deeper (envOfC "is_ratio_from" (defScope s_is_ratio_from) s.heap.objs.size f cdv))) :
    PSs (cxOf (L2.CX P w) P w K mg base ["thing", "least"] "is_ratio_from" (defScope s_is_ratio_from) f cdv A outer s H E) (defBody s_is_ratio_from) (t_is_ratio_from K E) := by
  exact (pss_one (ps_ret (pe_and (pcall D_is_ratio hr (by decide) rfl passL (pa_cons (pv 0) pa_nil)) (pe_one (pe_cmpR op_ge (pcall D_compare hr (by decide) rfl passL (pa_cons (pv 0) (pa_cons (pv 1) pa_nil))) pe_int (nomark _))))))
theorem fn_is_ratio_from (T : Txt K mg) : ∃ fd, FunD K "is_ratio_from" "is_ratio_from" (defArgs s_is_ratio_from) (defBody s_is_ratio_from) (defScope s_is_ratio_from) [] [] (He.ga K "is_ratio_from") fd ∧ FnOk P w K mg base (L2.CX P w) 3 (He.ga K "is_ratio_from") fd ["thing", "least"] (sp_is_ratio_from K) := by
  obtain ⟨fd, F⟩ := T.d_is_ratio_from
  exact ⟨fd, F, fn_mk (t := fun E => t_is_ratio_from K E) F sc_is_ratio_from (fun vs H Q E h => spG_len vs H Q E h) (fun cdv A outer s H E hr => der_is_ratio_from T (dn_compare T) (dn_is_ratio T) cdv A outer s H E hr) (fun vs H Q E h => spG_body (m := 0) (by rfl) (fun O H ss hl hp => ⟨_, fun _ z => (by first | exact z | exact z.elim), sem_is_ratio_from E O H ss hl hp⟩) vs H Q E h)⟩
theorem dn_is_ratio_from (T : Txt K mg) : Dn P w K mg base 3 "is_ratio_from" (sp_is_ratio_from K) := by
  obtain ⟨fd, F, G⟩ := fn_is_ratio_from (P := P) (w := w) (base := base) T
  exact dn_all F T.g_is_ratio_from G fun _ _ _ _ _ _ us hl => match us, hl with | [_, _], _ => rfl
theorem der_is_row (T : Txt K mg) (D_is_ratio_from : Dn P w K mg base 3 "is_ratio_from" (sp_is_ratio_from K)) (D_is_ratio : Dn P w K mg base 2 "is_ratio" (sp_is_ratio K)) (D_is_sequence : Dn P w K mg base 1 "is_sequence" (sp_is_sequence K)) {f : Addr} (cdv : Value) (A : Around) (outer : List Env) (s : Shared) (H : Hp) (E : XK) (hr : Room 3 (A.deeper (envOfC "is_row" (defScope s_is_row) s.heap.objs.size f cdv))) :
    PSs (cxOf (L2.CX P w) P w K mg base ["thing", "many", "least", "one"] "is_row" (defScope s_is_row) f cdv A outer s H E) (defBody s_is_row) (t_is_row K E) := by
  exact (pss_cons (ps_if (PW.pt (pw_or (pt_not (pt_truth (pcall D_is_sequence hr (by decide) rfl passL (pa_cons (pv 0) pa_nil)) (by intro _; rfl))) (pw_or1 (pt_cmpR op_ne (pe_callB call_len (by rfl) T.f_len (by decide +kernel) (pa_cons (pv 0) pa_nil)) (pv 1) (nomark _))))) (pss_one (ps_ret pe_bl)) pss_nil)
     (pss_cons (ps_if (pt_cmpR op_isN (pv 2) pe_non (nomark _)) (pss_one (ps_ret (pe_callB (cr_all rfl) (by rfl) T.f_all (by decide +kernel) (pa_cons (pe_lc (own := [("one", 3)]) (g := (gName 3)) rfl sc_is_row.nd (pi_ei (pv 0)) (blkOk_by (own := [("one", 3)]) (N := ["thing", "many", "least", "one"]) (sc := defScope s_is_row) (by decide +kernel)) (fun _ _ _ _ _ => pg_name (i := 3) sc_is_row.nd rfl (Or.inl rfl)) (fun _ _ _ _ _ => pts_nil) (fun _ _ _ _ _ => (pcall D_is_ratio hr (by decide) rfl passL (pa_cons (pv 3) pa_nil)))) pa_nil)))) pss_nil)
     (pss_one (ps_ret (pe_callB (cr_all rfl) (by rfl) T.f_all (by decide +kernel) (pa_cons (pe_lc (own := [("one", 3)]) (g := (gName 3)) rfl sc_is_row.nd (pi_ei (pv 0)) (blkOk_by (own := [("one", 3)]) (N := ["thing", "many", "least", "one"]) (sc := defScope s_is_row) (by decide +kernel)) (fun _ _ _ _ _ => pg_name (i := 3) sc_is_row.nd rfl (Or.inl rfl)) (fun _ _ _ _ _ => pts_nil) (fun _ _ _ _ _ => (pcall D_is_ratio_from hr (by decide) rfl passL (pa_cons (pv 3) (pa_cons (pv 2) pa_nil))))) pa_nil))))))
theorem fn_is_row (T : Txt K mg) : ∃ fd, FunD K "is_row" "is_row" (defArgs s_is_row) (defBody s_is_row) (defScope s_is_row) [.non] [] (He.ga K "is_row") fd ∧ FnOk P w K mg base (L2.CX P w) 4 (He.ga K "is_row") fd ["thing", "many", "least"] (sp_is_row K) := by
  obtain ⟨fd, F⟩ := T.d_is_row
  exact ⟨fd, F, fn_mk (t := fun E => t_is_row K E) F sc_is_row (fun vs H Q E h => spG_len vs H Q E h) (fun cdv A outer s H E hr => der_is_row T (dn_is_ratio_from T) (dn_is_ratio T) (dn_is_sequence T) cdv A outer s H E hr) (fun vs H Q E h => spG_body (m := 1) (by rfl) (fun O H ss hl hp => ⟨_, fun _ z => (by first | exact z | exact z.elim), sem_is_row E O H ss hl hp⟩) vs H Q E h)⟩
theorem dn_is_row (T : Txt K mg) : Dn P w K mg base 4 "is_row" (sp_is_row K) := by
  obtain ⟨fd, F, G⟩ := fn_is_row (P := P) (w := w) (base := base) T
  have h := dn_dfl F T.g_is_row G 3 1 (by simp) (by rfl) fun _ _ _ _ _ _ _ us its hl h2 => match us, its, hl, h2 with | [_, _, _], [_], _, _ => ⟨_, rfl, rfl⟩
  exact dn_full h
theorem dn_is_row2 (T : Txt K mg) : Dn P w K mg base 4 "is_row" (sp_is_row2 K) := by
  obtain ⟨fd, F, G⟩ := fn_is_row (P := P) (w := w) (base := base) T
  exact dn_dfl F T.g_is_row G 2 0 (by simp) (by rfl) fun _ _ _ _ _ _ _ us its hl h2 => match us, its, hl, h2 with | [_, _], [_], _, _ => ⟨_, rfl, rfl⟩
theorem dn_is_row2_least (T : Txt K mg) : Dk P w K mg base 4 "is_row" 2 ["least"] (sp_is_row2_least K) := by
  obtain ⟨fd, F, G⟩ := fn_is_row (P := P) (w := w) (base := base) T
  obtain ⟨its, kb⟩ := kb_of (ps := ["thing", "many", "least"]) F 2 ["least"] (fun vs es zs => ((vs ++ (es.drop 0).take 0) ++ zs) ++ es.drop 1) (by simp) (fun a b c => ((a.append ((b.drop _).take _)).append c).append (b.drop _)) fun _ _ _ _ _ _ _ us its ws hl h2 h3 => match us, its, ws, hl, h2, h3 with | [_, _], [_], [_], _, _, _ => ⟨_, rfl, rfl⟩
  exact ⟨_, fd, _, _, _, _, G, T.g_is_row, F.kp, kb, fun vs zs h1 h2 => match vs, zs, h1, h2 with | [v0, v1], [z], _, _ => (by funext H Q E; rfl)⟩
theorem der_make_ratio (T : Txt K mg) (D_is_whole1 : Dn P w K mg base 1 "is_whole" (sp_is_whole1 K)) (DI_BadRatio : Di P w K mg base 1 "BadRatio" "what") {f : Addr} (cdv : Value) (A : Around) (outer : List Env) (s : Shared) (H : Hp) (E : XK) (hr : Room 2 (A.deeper (envOfC "make_ratio" (defScope s_make_ratio) s.heap.objs.size f cdv))) :
    PSs (cxOf (L2.CX P w) P w K mg base ["top", "bottom", "common"] "make_ratio" (defScope s_make_ratio) f cdv A outer s H E) (defBody s_make_ratio) (t_make_ratio K E) := by
  exact (pss_cons (ps_if (pt_not (pt_truth (pcall D_is_whole1 hr (by decide) rfl passL (pa_cons (pv 0) pa_nil)) (by intro _; rfl))) (pss_one (ps_raise rfl (takes_of rfl rfl rfl rfl) (pmk_one DI_BadRatio hr (by decide) rfl (pa_cons pe_str pa_nil)))) pss_nil)
     (pss_cons (ps_if (PW.pt (pw_or (pt_not (pt_truth (pcall D_is_whole1 hr (by decide) rfl passL (pa_cons (pv 1) pa_nil)) (by intro _; rfl))) (pw_or1 (pt_cmpR op_eq (pv 1) pe_int (nomark _))))) (pss_one (ps_raise rfl (takes_of rfl rfl rfl rfl) (pmk_one DI_BadRatio hr (by decide) rfl (pa_cons pe_str pa_nil)))) pss_nil)
     (pss_cons (ps_set (i := 2) sc_make_ratio.nd rfl (Or.inl rfl) (pe_callBfun cr_gcd rfl T.g_gcd (pa_cons (pv 0) (pa_cons (pv 1) pa_nil))))
     (pss_cons (ps_if (pt_cmpR op_lt (pv 1) pe_int (nomark _)) (pss_one (ps_set (i := 2) sc_make_ratio.nd rfl (Or.inl rfl) (pe_un un_neg (pv 2)))) pss_nil)
     (pss_one (ps_ret (pe_tup (pa_cons (pe_op op_fdivZ (pv 0) (pv 2)) (pa_cons (pe_op op_fdivZ (pv 1) (pv 2)) pa_nil)))))))))
theorem fn_make_ratio (T : Txt K mg) : ∃ fd, FunD K "make_ratio" "make_ratio" (defArgs s_make_ratio) (defBody s_make_ratio) (defScope s_make_ratio) [.int 1] [] (He.ga K "make_ratio") fd ∧ FnOk P w K mg base (L2.CX P w) 3 (He.ga K "make_ratio") fd ["top", "bottom"] (sp_make_ratio K) := by
  obtain ⟨fd, F⟩ := T.d_make_ratio
  exact ⟨fd, F, fn_mk (t := fun E => t_make_ratio K E) F sc_make_ratio (fun vs H Q E h => spR_len vs H Q E h) (fun cdv A outer s H E hr => der_make_ratio T (dn_is_whole1 T) (di_BadRatio T) cdv A outer s H E hr) (fun vs H Q E h => spR_body (m := 1) (by rfl) (fun O H ss E hl hp hx => ⟨_, fun _ z => (by first | exact z | exact z.elim), sem_make_ratio O H ss E hl hp hx⟩) vs H Q E h)⟩
theorem dn_make_ratio (T : Txt K mg) : Dn P w K mg base 3 "make_ratio" (sp_make_ratio K) := by
  obtain ⟨fd, F, G⟩ := fn_make_ratio (P := P) (w := w) (base := base) T
  have h := dn_dfl F T.g_make_ratio G 2 1 (by simp) (by rfl) fun _ _ _ _ _ _ _ us its hl h2 => match us, its, hl, h2 with | [_, _], [_], _, _ => ⟨_, rfl, rfl⟩
  exact dn_full h
theorem der_plus (T : Txt K mg) (D_make_ratio : Dn P w K mg base 3 "make_ratio" (sp_make_ratio K)) {f : Addr} (cdv : Value) (A : Around) (outer : List Env) (s : Shared) (H : Hp) (E : XK) (hr : Room 3 (A.deeper (envOfC "plus" (defScope s_plus) s.heap.objs.size f cdv))) :
    PSs (cxOf (L2.CX P w) P w K mg base ["one", "other"] "plus" (defScope s_plus) f cdv A outer s H E) (defBody s_plus) (t_plus K E) := by
  exact (pss_one (ps_ret (pcall D_make_ratio hr (by decide) rfl passL (pa_cons (pe_op op_add (pe_op op_mulW (pe_ix ix_tup (pv 0) pe_int (fun _ _ => rfl)) (pe_ix ix_tup (pv 1) pe_int (fun _ _ => rfl))) (pe_op op_mulW (pe_ix ix_tup (pv 1) pe_int (fun _ _ => rfl)) (pe_ix ix_tup (pv 0) pe_int (fun _ _ => rfl)))) (pa_cons (pe_op op_mulW (pe_ix ix_tup (pv 0) pe_int (fun _ _ => rfl)) (pe_ix ix_tup (pv 1) pe_int (fun _ _ => rfl))) pa_nil)))))
theorem fn_plus (T : Txt K mg) : ∃ fd, FunD K "plus" "plus" (defArgs s_plus) (defBody s_plus) (defScope s_plus) [] [] (He.ga K "plus") fd ∧ FnOk P w K mg base (L2.CX P w) 4 (He.ga K "plus") fd ["one", "other"] (sp_plus K) := by
  obtain ⟨fd, F⟩ := T.d_plus
  exact ⟨fd, F, fn_mk (t := fun E => t_plus K E) F sc_plus (fun vs H Q E h => spG_len vs H Q E h) (fun cdv A outer s H E hr => der_plus T (dn_make_ratio T) cdv A outer s H E hr) (fun vs H Q E h => spG_body (m := 0) (by rfl) (fun O H ss hl hp => ⟨_, fun _ z => (by first | exact z | exact z.elim), sem_plus E O H ss hl hp⟩) vs H Q E h)⟩
theorem dn_plus (T : Txt K mg) : Dn P w K mg base 4 "plus" (sp_plus K) := by
  obtain ⟨fd, F, G⟩ := fn_plus (P := P) (w := w) (base := base) T
  exact dn_all F T.g_plus G fun _ _ _ _ _ _ us hl => match us, hl with | [_, _], _ => rfl
theorem der_times (T : Txt K mg) (D_make_ratio : Dn P w K mg base 3 "make_ratio" (sp_make_ratio K)) {f : Addr} (cdv : Value) (A : Around) (outer : List Env) (s : Shared) (H : Hp) (E : XK) (hr : Room 3 (A.deeper (envOfC "times" (defScope s_times) s.heap.objs.size f cdv))) :
    PSs (cxOf (L2.CX P w) P w K mg base ["one", "other"] "times" (defScope s_times) f cdv A outer s H E) (defBody s_times) (t_times K E) := by
  exact (pss_one (ps_ret (pcall D_make_ratio hr (by decide) rfl passL (pa_cons (pe_op op_mulW (pe_ix ix_tup (pv 0) pe_int (fun _ _ => rfl)) (pe_ix ix_tup (pv 1) pe_int (fun _ _ => rfl))) (pa_cons (pe_op op_mulW (pe_ix ix_tup (pv 0) pe_int (fun _ _ => rfl)) (pe_ix ix_tup (pv 1) pe_int (fun _ _ => rfl))) pa_nil)))))
theorem fn_times (T : Txt K mg) : ∃ fd, FunD K "times" "times" (defArgs s_times) (defBody s_times) (defScope s_times) [] [] (He.ga K "times") fd ∧ FnOk P w K mg base (L2.CX P w) 4 (He.ga K "times") fd ["one", "other"] (sp_times K) := by
  obtain ⟨fd, F⟩ := T.d_times
  exact ⟨fd, F, fn_mk (t := fun E => t_times K E) F sc_times (fun vs H Q E h => spG_len vs H Q E h) (fun cdv A outer s H E hr => der_times T (dn_make_ratio T) cdv A outer s H E hr) (fun vs H Q E h => spG_body (m := 0) (by rfl) (fun O H ss hl hp => ⟨_, fun _ z => (by first | exact z | exact z.elim), sem_times E O H ss hl hp⟩) vs H Q E h)⟩
theorem dn_times (T : Txt K mg) : Dn P w K mg base 4 "times" (sp_times K) := by
  obtain ⟨fd, F, G⟩ := fn_times (P := P) (w := w) (base := base) T
  exact dn_all F T.g_times G fun _ _ _ _ _ _ us hl => match us, hl with | [_, _], _ => rfl
theorem der_sum_of (T : Txt K mg) (D_plus : Dn P w K mg base 4 "plus" (sp_plus K)) {f : Addr} (cdv : Value) (A : Around) (outer : List Env) (s : Shared) (H : Hp) (E : XK) (hr : Room 4 (A.deeper (envOfC "sum_of" (defScope s_sum_of) s.heap.objs.size f cdv))) :
    PSs (cxOf (L2.CX P w) P w K mg base ["row", "total", "one"] "sum_of" (defScope s_sum_of) f cdv A outer s H E) (defBody s_sum_of) (t_sum_of K E) := by
  exact (pss_cons (ps_set (i := 1) sc_sum_of.nd rfl (Or.inl rfl) (pe_glob (v := .ref (He.ga K "ZERO")) rfl T.g_ZERO rfl))
     (pss_cons (ps_for (passes_of rfl) rfl (pi_ei (pv 0)) (pg_name (i := 2) sc_sum_of.nd rfl (Or.inl rfl)) (pss_one (ps_set (i := 1) sc_sum_of.nd rfl (Or.inl rfl) (pcall D_plus hr (by decide) rfl passL (pa_cons (pv 1) (pa_cons (pv 2) pa_nil))))))
     (pss_one (ps_ret (pv 1)))))
theorem fn_sum_of (T : Txt K mg) : ∃ fd, FunD K "sum_of" "sum_of" (defArgs s_sum_of) (defBody s_sum_of) (defScope s_sum_of) [] [] (He.ga K "sum_of") fd ∧ FnOk P w K mg base (L2.CX P w) 5 (He.ga K "sum_of") fd ["row"] (sp_sum_of K) := by
  obtain ⟨fd, F⟩ := T.d_sum_of
  exact ⟨fd, F, fn_mk (t := fun E => t_sum_of K E) F sc_sum_of (fun vs H Q E h => spG_len vs H Q E h) (fun cdv A outer s H E hr => der_sum_of T (dn_plus T) cdv A outer s H E hr) (fun vs H Q E h => spG_body (m := 2) (by rfl) (fun O H ss hl hp => ⟨_, fun _ z => (by first | exact z | exact z.elim), sem_sum_of T E O H ss hl hp⟩) vs H Q E h)⟩
theorem dn_sum_of (T : Txt K mg) : Dn P w K mg base 5 "sum_of" (sp_sum_of K) := by
  obtain ⟨fd, F, G⟩ := fn_sum_of (P := P) (w := w) (base := base) T
  exact dn_all F T.g_sum_of G fun _ _ _ _ _ _ us hl => match us, hl with | [_], _ => rfl
theorem der_least_of (T : Txt K mg) (D_compare : Dn P w K mg base 1 "compare" (sp_compare K)) {f : Addr} (cdv : Value) (A : Around) (outer : List Env) (s : Shared) (H : Hp) (E : XK) (hr : Room 1 (A.deeper (envOfC "least_of" (defScope s_least_of) s.heap.objs.size f cdv))) :
    PSs (cxOf (L2.CX P w) P w K mg base ["row", "least", "one"] "least_of" (defScope s_least_of) f cdv A outer s H E) (defBody s_least_of) (t_least_of K E) := by
  exact (pss_cons (ps_set (i := 1) sc_least_of.nd rfl (Or.inl rfl) (pe_ix ix_seq (pv 0) pe_int (fun _ _ => rfl)))
     (pss_cons (ps_for (passes_of rfl) rfl (pi_ei (pv 0)) (pg_name (i := 2) sc_least_of.nd rfl (Or.inl rfl)) (pss_one (ps_if (pt_cmpR op_lt (pcall D_compare hr (by decide) rfl passL (pa_cons (pv 2) (pa_cons (pv 1) pa_nil))) pe_int (nomark _)) (pss_one (ps_set (i := 1) sc_least_of.nd rfl (Or.inl rfl) (pv 2))) pss_nil)))
     (pss_one (ps_ret (pv 1)))))
theorem fn_least_of (T : Txt K mg) : ∃ fd, FunD K "least_of" "least_of" (defArgs s_least_of) (defBody s_least_of) (defScope s_least_of) [] [] (He.ga K "least_of") fd ∧ FnOk P w K mg base (L2.CX P w) 2 (He.ga K "least_of") fd ["row"] (sp_least_of K) := by
  obtain ⟨fd, F⟩ := T.d_least_of
  exact ⟨fd, F, fn_mk (t := fun E => t_least_of K E) F sc_least_of (fun vs H Q E h => spG_len vs H Q E h) (fun cdv A outer s H E hr => der_least_of T (dn_compare T) cdv A outer s H E hr) (fun vs H Q E h => spG_body (m := 2) (by rfl) (fun O H ss hl hp => ⟨_, fun _ z => (by first | exact z | exact z.elim), sem_least_of E O H ss hl hp⟩) vs H Q E h)⟩
theorem dn_least_of (T : Txt K mg) : Dn P w K mg base 2 "least_of" (sp_least_of K) := by
  obtain ⟨fd, F, G⟩ := fn_least_of (P := P) (w := w) (base := base) T
  exact dn_all F T.g_least_of G fun _ _ _ _ _ _ us hl => match us, hl with | [_], _ => rfl
theorem der_greatest_of (T : Txt K mg) (D_compare : Dn P w K mg base 1 "compare" (sp_compare K)) {f : Addr} (cdv : Value) (A : Around) (outer : List Env) (s : Shared) (H : Hp) (E : XK) (hr : Room 1 (A.deeper (envOfC "greatest_of" (defScope s_greatest_of) s.heap.objs.size f cdv))) :
    PSs (cxOf (L2.CX P w) P w K mg base ["row", "greatest", "one"] "greatest_of" (defScope s_greatest_of) f cdv A outer s H E) (defBody s_greatest_of) (t_greatest_of K E) := by
  exact (pss_cons (ps_set (i := 1) sc_greatest_of.nd rfl (Or.inl rfl) (pe_ix ix_seq (pv 0) pe_int (fun _ _ => rfl)))
     (pss_cons (ps_for (passes_of rfl) rfl (pi_ei (pv 0)) (pg_name (i := 2) sc_greatest_of.nd rfl (Or.inl rfl)) (pss_one (ps_if (pt_cmpR op_gt (pcall D_compare hr (by decide) rfl passL (pa_cons (pv 2) (pa_cons (pv 1) pa_nil))) pe_int (nomark _)) (pss_one (ps_set (i := 1) sc_greatest_of.nd rfl (Or.inl rfl) (pv 2))) pss_nil)))
     (pss_one (ps_ret (pv 1)))))
theorem fn_greatest_of (T : Txt K mg) : ∃ fd, FunD K "greatest_of" "greatest_of" (defArgs s_greatest_of) (defBody s_greatest_of) (defScope s_greatest_of) [] [] (He.ga K "greatest_of") fd ∧ FnOk P w K mg base (L2.CX P w) 2 (He.ga K "greatest_of") fd ["row"] (sp_greatest_of K) := by
  obtain ⟨fd, F⟩ := T.d_greatest_of
  exact ⟨fd, F, fn_mk (t := fun E => t_greatest_of K E) F sc_greatest_of (fun vs H Q E h => spG_len vs H Q E h) (fun cdv A outer s H E hr => der_greatest_of T (dn_compare T) cdv A outer s H E hr) (fun vs H Q E h => spG_body (m := 2) (by rfl) (fun O H ss hl hp => ⟨_, fun _ z => (by first | exact z | exact z.elim), sem_greatest_of E O H ss hl hp⟩) vs H Q E h)⟩
theorem dn_greatest_of (T : Txt K mg) : Dn P w K mg base 2 "greatest_of" (sp_greatest_of K) := by
  obtain ⟨fd, F, G⟩ := fn_greatest_of (P := P) (w := w) (base := base) T
  exact dn_all F T.g_greatest_of G fun _ _ _ _ _ _ us hl => match us, hl with | [_], _ => rfl
theorem der_dot (T : Txt K mg) (D_times : Dn P w K mg base 4 "times" (sp_times K)) (D_plus : Dn P w K mg base 4 "plus" (sp_plus K)) {f : Addr} (cdv : Value) (A : Around) (outer : List Env) (s : Shared) (H : Hp) (E : XK) (hr : Room 4 (A.deeper (envOfC "dot" (defScope s_dot) s.heap.objs.size f cdv))) :
    PSs (cxOf (L2.CX P w) P w K mg base ["one", "other", "total", "left", "right"] "dot" (defScope s_dot) f cdv A outer s H E) (defBody s_dot) (t_dot K E) := by
  exact (pss_cons (ps_set (i := 2) sc_dot.nd rfl (Or.inl rfl) (pe_glob (v := .ref (He.ga K "ZERO")) rfl T.g_ZERO rfl))
     (pss_cons (ps_for (passes_of rfl) rfl (LLZ.pi_zipM rfl T.f_zip (pa_cons (pv 0) (pa_cons (pv 1) pa_nil))) (pg_tup (n := 2) rfl (pgs_cons (pg_name (i := 3) sc_dot.nd rfl (Or.inl rfl)) (pgs_cons (pg_name (i := 4) sc_dot.nd rfl (Or.inl rfl)) pgs_nil))) (pss_one (ps_if (PW.pt (pw_and (pt_cmpR op_ne (pe_ix ix_tup (pv 3) pe_int (fun _ _ => rfl)) pe_int (nomark _)) (pw_and1 (pt_cmpR op_ne (pe_ix ix_tup (pv 4) pe_int (fun _ _ => rfl)) pe_int (nomark _))))) (pss_one (ps_set (i := 2) sc_dot.nd rfl (Or.inl rfl) (pcall D_plus hr (by decide) rfl passL (pa_cons (pv 2) (pa_cons (pcall D_times hr (by decide) rfl passL (pa_cons (pv 3) (pa_cons (pv 4) pa_nil))) pa_nil))))) pss_nil)))
     (pss_one (ps_ret (pv 2)))))
theorem fn_dot (T : Txt K mg) : ∃ fd, FunD K "dot" "dot" (defArgs s_dot) (defBody s_dot) (defScope s_dot) [] [] (He.ga K "dot") fd ∧ FnOk P w K mg base (L2.CX P w) 5 (He.ga K "dot") fd ["one", "other"] (sp_dot K) := by
  obtain ⟨fd, F⟩ := T.d_dot
  exact ⟨fd, F, fn_mk (t := fun E => t_dot K E) F sc_dot (fun vs H Q E h => spG_len vs H Q E h) (fun cdv A outer s H E hr => der_dot T (dn_times T) (dn_plus T) cdv A outer s H E hr) (fun vs H Q E h => spG_body (m := 3) (by rfl) (fun O H ss hl hp => ⟨_, fun _ z => (by first | exact z | exact z.elim), sem_dot T E O H ss hl hp⟩) vs H Q E h)⟩
theorem dn_dot (T : Txt K mg) : Dn P w K mg base 5 "dot" (sp_dot K) := by
  obtain ⟨fd, F, G⟩ := fn_dot (P := P) (w := w) (base := base) T
  exact dn_all F T.g_dot G fun _ _ _ _ _ _ us hl => match us, hl with | [_, _], _ => rfl
theorem der_plus_rows (T : Txt K mg) (D_plus : Dn P w K mg base 4 "plus" (sp_plus K)) {f : Addr} (cdv : Value) (A : Around) (outer : List Env) (s : Shared) (H : Hp) (E : XK) (hr : Room 4 (A.deeper (envOfC "plus_rows" (defScope s_plus_rows) s.heap.objs.size f cdv))) :
    PSs (cxOf (L2.CX P w) P w K mg base ["one", "other", "left", "right"] "plus_rows" (defScope s_plus_rows) f cdv A outer s H E) (defBody s_plus_rows) (t_plus_rows K E) := by
  exact (pss_one (ps_ret (pe_callTy call_tuple_of (by rfl) T.f_tuple (by decide +kernel) (pa_cons (pe_lc (own := [("left", 2), ("right", 3)]) (g := (gTwo K 2 3)) rfl sc_plus_rows.nd (LLZ.pi_zipM rfl T.f_zip (pa_cons (pv 0) (pa_cons (pv 1) pa_nil))) (blkOk_by (own := [("left", 2), ("right", 3)]) (N := ["one", "other", "left", "right"]) (sc := defScope s_plus_rows) (by decide +kernel)) (fun _ _ _ _ _ => pg_tup (n := 2) rfl (pgs_cons (pg_name (i := 2) sc_plus_rows.nd rfl (Or.inl rfl)) (pgs_cons (pg_name (i := 3) sc_plus_rows.nd rfl (Or.inl rfl)) pgs_nil))) (fun _ _ _ _ _ => pts_nil) (fun _ _ _ _ _ => (pcall D_plus hr (by decide) rfl passL (pa_cons (pv 2) (pa_cons (pv 3) pa_nil))))) pa_nil))))
theorem fn_plus_rows (T : Txt K mg) : ∃ fd, FunD K "plus_rows" "plus_rows" (defArgs s_plus_rows) (defBody s_plus_rows) (defScope s_plus_rows) [] [] (He.ga K "plus_rows") fd ∧ FnOk P w K mg base (L2.CX P w) 5 (He.ga K "plus_rows") fd ["one", "other"] (sp_plus_rows K) := by
  obtain ⟨fd, F⟩ := T.d_plus_rows
  exact ⟨fd, F, fn_mk (t := fun E => t_plus_rows K E) F sc_plus_rows (fun vs H Q E h => spG_len vs H Q E h) (fun cdv A outer s H E hr => der_plus_rows T (dn_plus T) cdv A outer s H E hr) (fun vs H Q E h => spG_body (m := 2) (by rfl) (fun O H ss hl hp => ⟨_, fun _ z => (by first | exact z | exact z.elim), sem_plus_rows E O H ss hl hp⟩) vs H Q E h)⟩
theorem dn_plus_rows (T : Txt K mg) : Dn P w K mg base 5 "plus_rows" (sp_plus_rows K) := by
  obtain ⟨fd, F, G⟩ := fn_plus_rows (P := P) (w := w) (base := base) T
  exact dn_all F T.g_plus_rows G fun _ _ _ _ _ _ us hl => match us, hl with | [_, _], _ => rfl
theorem der_times_row (T : Txt K mg) (D_times : Dn P w K mg base 4 "times" (sp_times K)) {f : Addr} (cdv : Value) (A : Around) (outer : List Env) (s : Shared) (H : Hp) (E : XK) (hr : Room 4 (A.deeper (envOfC "times_row" (defScope s_times_row) s.heap.objs.size f cdv))) :
    PSs (cxOf (L2.CX P w) P w K mg base ["row", "ratio", "one"] "times_row" (defScope s_times_row) f cdv A outer s H E) (defBody s_times_row) (t_times_row K E) := by
  exact (pss_one (ps_ret (pe_callTy call_tuple_of (by rfl) T.f_tuple (by decide +kernel) (pa_cons (pe_lc (own := [("one", 2)]) (g := (gName 2)) rfl sc_times_row.nd (pi_ei (pv 0)) (blkOk_by (own := [("one", 2)]) (N := ["row", "ratio", "one"]) (sc := defScope s_times_row) (by decide +kernel)) (fun _ _ _ _ _ => pg_name (i := 2) sc_times_row.nd rfl (Or.inl rfl)) (fun _ _ _ _ _ => pts_nil) (fun _ _ _ _ _ => (pcall D_times hr (by decide) rfl passL (pa_cons (pv 2) (pa_cons (pv 1) pa_nil))))) pa_nil))))
theorem fn_times_row (T : Txt K mg) : ∃ fd, FunD K "times_row" "times_row" (defArgs s_times_row) (defBody s_times_row) (defScope s_times_row) [] [] (He.ga K "times_row") fd ∧ FnOk P w K mg base (L2.CX P w) 5 (He.ga K "times_row") fd ["row", "ratio"] (sp_times_row K) := by
  obtain ⟨fd, F⟩ := T.d_times_row
  exact ⟨fd, F, fn_mk (t := fun E => t_times_row K E) F sc_times_row (fun vs H Q E h => spG_len vs H Q E h) (fun cdv A outer s H E hr => der_times_row T (dn_times T) cdv A outer s H E hr) (fun vs H Q E h => spG_body (m := 1) (by rfl) (fun O H ss hl hp => ⟨_, fun _ z => (by first | exact z | exact z.elim), sem_times_row E O H ss hl hp⟩) vs H Q E h)⟩
theorem dn_times_row (T : Txt K mg) : Dn P w K mg base 5 "times_row" (sp_times_row K) := by
  obtain ⟨fd, F, G⟩ := fn_times_row (P := P) (w := w) (base := base) T
  exact dn_all F T.g_times_row G fun _ _ _ _ _ _ us hl => match us, hl with | [_, _], _ => rfl
theorem der__law_hand (T : Txt K mg) {f : Addr} (cdv : Value) (A : Around) (outer : List Env) (s : Shared) (H : Hp) (E : XK) (hr : Room 0 (A.deeper (envOfC "_law_hand" (defScope s__law_hand) s.heap.objs.size f cdv))) :
    PSs (cxOf (L2.CX P w) P w K mg base ["_law_script", "_law_total", "_law_cells", "_law_cell"] "_law_hand" (defScope s__law_hand) f cdv A outer s H E) (defBody s__law_hand) (t__law_hand K E) := by
  exact (pss_cons (ps_set (i := 1) sc__law_hand.nd rfl (Or.inl rfl) (pe_op op_add (pe_callB call_len (by rfl) T.f_len (by decide +kernel) (pa_cons (pv 0) pa_nil)) pe_int))
     (pss_cons (ps_set (i := 2) sc__law_hand.nd rfl (Or.inl rfl) (pe_lst pa_nil))
     (pss_cons (ps_for (passes_of rfl) rfl (pi_list (pv 0)) (pg_name (i := 3) sc__law_hand.nd rfl (Or.inl rfl)) (pss_cons (ps_set (i := 1) sc__law_hand.nd rfl (Or.inl rfl) (pe_op op_mod (pe_callTy call_int1 (by rfl) T.f_int (by decide +kernel) (pa_cons (pe_op op_add (pe_op op_mul (pv 1) pe_int) (pe_callTy call_int1 (by rfl) T.f_int (by decide +kernel) (pa_cons (pv 3) pa_nil))) pa_nil)) pe_int))
     (pss_one (ps_expr (pe_bm PySem.F.plainAttrs_list PySem.F.slot_list_append PySem.F.type_list_append mt_append (pv 2) (pa_cons (pe_ifExp (pt_cmpR op_ge (pv 3) pe_int (nomark _)) (pe_callTy call_int1 (by rfl) T.f_int (by decide +kernel) (pa_cons (pv 3) pa_nil)) (pe_un un_neg (pe_callTy call_int1 (by rfl) T.f_int (by decide +kernel) (pa_cons (pv 3) pa_nil)))) pa_nil))))))
     (pss_one (ps_ret (pe_lst (pa_cons (pv 2) (pa_cons pe_int (pa_cons pe_int (pa_cons (pv 1) pa_nil))))))))))
theorem fn__law_hand (T : Txt K mg) : ∃ fd, FunD K "_law_hand" "_law_hand" (defArgs s__law_hand) (defBody s__law_hand) (defScope s__law_hand) [] [] (He.ga K "_law_hand") fd ∧ FnOk P w K mg base (L2.CX P w) 1 (He.ga K "_law_hand") fd ["_law_script"] (sp__law_hand K) := by
  obtain ⟨fd, F⟩ := T.d__law_hand
  exact ⟨fd, F, fn_mk (t := fun E => t__law_hand K E) F sc__law_hand (fun vs H Q E h => len__law_hand vs H Q E h) (fun cdv A outer s H E hr => der__law_hand T cdv A outer s H E hr) (fun vs H Q E h => sem__law_hand E vs H Q E h)⟩
theorem dn__law_hand (T : Txt K mg) : Dn P w K mg base 1 "_law_hand" (sp__law_hand K) := by
  obtain ⟨fd, F, G⟩ := fn__law_hand (P := P) (w := w) (base := base) T
  exact dn_all F T.g__law_hand G fun _ _ _ _ _ _ us hl => match us, hl with | [_], _ => rfl
theorem der__law_mixed (T : Txt K mg) {f : Addr} (cdv : Value) (A : Around) (outer : List Env) (s : Shared) (H : Hp) (E : XK) (hr : Room 0 (A.deeper (envOfC "_law_mixed" (defScope s__law_mixed) s.heap.objs.size f cdv))) :
    PSs (cxOf (L2.CX P w) P w K mg base ["_law_number_here", "_law_turn", "_law_once", "_law_twice"] "_law_mixed" (defScope s__law_mixed) f cdv A outer s H E) (defBody s__law_mixed) (t__law_mixed K E) := by
  exact (pss_cons (ps_set (i := 2) sc__law_mixed.nd rfl (Or.inl rfl) (pe_op op_mod (pe_callTy call_int1 (by rfl) T.f_int (by decide +kernel) (pa_cons (pe_op op_add (pe_op op_add (pe_op op_mul (pv 0) pe_int) (pe_op op_mul (pv 1) pe_int)) pe_int) pa_nil)) pe_int))
     (pss_cons (ps_set (i := 3) sc__law_mixed.nd rfl (Or.inl rfl) (pe_op op_mod (pe_callTy call_int1 (by rfl) T.f_int (by decide +kernel) (pa_cons (pe_op op_add (pe_op op_add (pe_op op_mulW (pv 2) (pv 2)) (pe_op op_mul (pv 1) pe_int)) (pe_op op_fdiv (pv 2) pe_int)) pa_nil)) pe_int))
     (pss_one (ps_ret (pe_op op_fdiv (pe_callTy call_int1 (by rfl) T.f_int (by decide +kernel) (pa_cons (pe_op op_mod (pe_callTy call_int1 (by rfl) T.f_int (by decide +kernel) (pa_cons (pe_op op_add (pe_op op_mul (pv 3) pe_int) (pe_op op_fdiv (pv 2) pe_int)) pa_nil)) pe_int) pa_nil)) pe_int)))))
theorem fn__law_mixed (T : Txt K mg) : ∃ fd, FunD K "_law_mixed" "_law_mixed" (defArgs s__law_mixed) (defBody s__law_mixed) (defScope s__law_mixed) [] [] (He.ga K "_law_mixed") fd ∧ FnOk P w K mg base (L2.CX P w) 1 (He.ga K "_law_mixed") fd ["_law_number_here", "_law_turn"] (sp__law_mixed K) := by
  obtain ⟨fd, F⟩ := T.d__law_mixed
  exact ⟨fd, F, fn_mk (t := fun E => t__law_mixed K E) F sc__law_mixed (fun vs H Q E h => spG_len vs H Q E h) (fun cdv A outer s H E hr => der__law_mixed T cdv A outer s H E hr) (fun vs H Q E h => spG_body (m := 2) (by rfl) (fun O H ss hl hp => ⟨_, fun _ z => (by first | exact z | exact z.elim), sem__law_mixed E O H ss hl hp⟩) vs H Q E h)⟩
theorem dn__law_mixed (T : Txt K mg) : Dn P w K mg base 1 "_law_mixed" (sp__law_mixed K) := by
  obtain ⟨fd, F, G⟩ := fn__law_mixed (P := P) (w := w) (base := base) T
  exact dn_all F T.g__law_mixed G fun _ _ _ _ _ _ us hl => match us, hl with | [_, _], _ => rfl
theorem der__law_take (T : Txt K mg) (D__law_mixed : Dn P w K mg base 1 "_law_mixed" (sp__law_mixed K)) {f : Addr} (cdv : Value) (A : Around) (outer : List Env) (s : Shared) (H : Hp) (E : XK) (hr : Room 1 (A.deeper (envOfC "_law_take" (defScope s__law_take) s.heap.objs.size f cdv))) :
    PSs (cxOf (L2.CX P w) P w K mg base ["_law_hand_here", "_law_many", "_law_cell", "_law_rest"] "_law_take" (defScope s__law_take) f cdv A outer s H E) (defBody s__law_take) (t__law_take K E) := by
  exact (pss_cons (ps_if (PW.pt (pw_and (pt_cmpR op_eq (pe_ix ix_list (pv 0) pe_int (fun _ _ => rfl)) pe_int (nomark _)) (pw_and1 (pt_cmpR op_lt (pe_ix ix_list (pv 0) pe_int (fun _ _ => rfl)) (pe_callB call_len (by rfl) T.f_len (by decide +kernel) (pa_cons (pe_ix ix_list (pv 0) pe_int (fun _ _ => rfl)) pa_nil)) (nomark _))))) (pss_cons (ps_set (i := 2) sc__law_take.nd rfl (Or.inl rfl) (pe_ix ix_list (pe_ix ix_list (pv 0) pe_int (fun _ _ => rfl)) (pe_ix ix_list (pv 0) pe_int (fun _ _ => rfl)) (fun _ _ => rfl)))
     (pss_cons (ps_asg (pe_op op_add (pe_ix ix_list (pv 0) pe_int (fun _ _ => rfl)) pe_int) (pg_sub (pv 0) pe_int set_list))
     (pss_cons (ps_if (pt_cmpR op_lt (pv 2) (pe_op op_pow pe_int pe_int) (nomark _)) (pss_one (ps_ret (pe_op op_modN (pe_callTy call_int1 (by rfl) T.f_int (by decide +kernel) (pa_cons (pcall D__law_mixed hr (by decide) rfl passL (pa_cons (pe_op op_mod (pe_callTy call_int1 (by rfl) T.f_int (by decide +kernel) (pa_cons (pv 2) pa_nil)) pe_int) (pa_cons (pe_ix ix_list (pv 0) pe_int (fun _ _ => rfl)) pa_nil))) pa_nil)) (pv 1)))) pss_nil)
     (pss_one (ps_asg (pv 2) (pg_sub (pv 0) pe_int set_list)))))) pss_nil)
     (pss_cons (ps_if (pt_cmpR op_gt (pe_ix ix_list (pv 0) pe_int (fun _ _ => rfl)) pe_int (nomark _)) (pss_cons (ps_set (i := 3) sc__law_take.nd rfl (Or.inl rfl) (pe_ix ix_list (pv 0) pe_int (fun _ _ => rfl)))
     (pss_cons (ps_asg (pe_op op_fdivZ (pe_callTy call_int1 (by rfl) T.f_int (by decide +kernel) (pa_cons (pv 3) pa_nil)) (pv 1)) (pg_sub (pv 0) pe_int set_list))
     (pss_one (ps_ret (pe_op op_modN (pe_callTy call_int1 (by rfl) T.f_int (by decide +kernel) (pa_cons (pv 3) pa_nil)) (pv 1)))))) pss_nil)
     (pss_cons (ps_asg (pe_op op_mod (pe_callTy call_int1 (by rfl) T.f_int (by decide +kernel) (pa_cons (pe_op op_add (pe_ix ix_list (pv 0) pe_int (fun _ _ => rfl)) pe_int) pa_nil)) pe_int) (pg_sub (pv 0) pe_int set_list))
     (pss_one (ps_ret (pe_op op_modN (pe_callTy call_int1 (by rfl) T.f_int (by decide +kernel) (pa_cons (pcall D__law_mixed hr (by decide) rfl passL (pa_cons (pe_ix ix_list (pv 0) pe_int (fun _ _ => rfl)) (pa_cons (pe_ix ix_list (pv 0) pe_int (fun _ _ => rfl)) pa_nil))) pa_nil)) (pv 1)))))))
theorem fn__law_take (T : Txt K mg) : ∃ fd, FunD K "_law_take" "_law_take" (defArgs s__law_take) (defBody s__law_take) (defScope s__law_take) [] [] (He.ga K "_law_take") fd ∧ FnOk P w K mg base (L2.CX P w) 2 (He.ga K "_law_take") fd ["_law_hand_here", "_law_many"] (sp__law_take K) := by
  obtain ⟨fd, F⟩ := T.d__law_take
  exact ⟨fd, F, fn_mk (t := fun E => t__law_take K E) F sc__law_take (fun vs H Q E h => len__law_take vs H Q E h) (fun cdv A outer s H E hr => der__law_take T (dn__law_mixed T) cdv A outer s H E hr) (fun vs H Q E h => sem__law_take E vs H Q E h)⟩
theorem dn__law_take (T : Txt K mg) : Dn P w K mg base 2 "_law_take" (sp__law_take K) := by
  obtain ⟨fd, F, G⟩ := fn__law_take (P := P) (w := w) (base := base) T
  exact dn_all F T.g__law_take G fun _ _ _ _ _ _ us hl => match us, hl with | [_, _], _ => rfl
theorem der__law_gcd (T : Txt K mg) {f : Addr} (cdv : Value) (A : Around) (outer : List Env) (s : Shared) (H : Hp) (E : XK) (hr : Room 0 (A.deeper (envOfC "_law_gcd" (defScope s__law_gcd) s.heap.objs.size f cdv))) :
    PSs (cxOf (L2.CX P w) P w K mg base ["_law_one", "_law_other"] "_law_gcd" (defScope s__law_gcd) f cdv A outer s H E) (defBody s__law_gcd) (t__law_gcd K E) := by
  exact (pss_cons (ps_par (i := 0) (j := 1) rfl sc__law_gcd.nd rfl rfl (by decide) rfl rfl (pa_cons (pe_callB call_abs (by rfl) T.f_abs (by decide +kernel) (pa_cons (pv 0) pa_nil)) (pa_cons (pe_callB call_abs (by rfl) T.f_abs (by decide +kernel) (pa_cons (pv 1) pa_nil)) pa_nil)) (by rfl))
     (pss_cons (ps_while (passes_of rfl) (pt_truth (pv 1) (by intro _; rfl)) (pss_one (ps_par (i := 0) (j := 1) rfl sc__law_gcd.nd rfl rfl (by decide) rfl rfl (pa_cons (pv 1) (pa_cons (pe_op op_modN (pe_callTy call_int1 (by rfl) T.f_int (by decide +kernel) (pa_cons (pv 0) pa_nil)) (pv 1)) pa_nil)) (by rfl))))
     (pss_one (ps_ret (pv 0)))))
theorem fn__law_gcd (T : Txt K mg) : ∃ fd, FunD K "_law_gcd" "_law_gcd" (defArgs s__law_gcd) (defBody s__law_gcd) (defScope s__law_gcd) [] [] (He.ga K "_law_gcd") fd ∧ FnOk P w K mg base (L2.CX P w) 1 (He.ga K "_law_gcd") fd ["_law_one", "_law_other"] (sp__law_gcd K) := by
  obtain ⟨fd, F⟩ := T.d__law_gcd
  exact ⟨fd, F, fn_mk (t := fun E => t__law_gcd K E) F sc__law_gcd (fun vs H Q E h => spG_len vs H Q E h) (fun cdv A outer s H E hr => der__law_gcd T cdv A outer s H E hr) (fun vs H Q E h => spG_body (m := 0) (by rfl) (fun O H ss hl hp => ⟨_, fun _ z => (by first | exact z | exact z.elim), sem__law_gcd E O H ss hl hp⟩) vs H Q E h)⟩
theorem dn__law_gcd (T : Txt K mg) : Dn P w K mg base 1 "_law_gcd" (sp__law_gcd K) := by
  obtain ⟨fd, F, G⟩ := fn__law_gcd (P := P) (w := w) (base := base) T
  exact dn_all F T.g__law_gcd G fun _ _ _ _ _ _ us hl => match us, hl with | [_, _], _ => rfl
theorem der__law_ratio (T : Txt K mg) (D__law_gcd : Dn P w K mg base 1 "_law_gcd" (sp__law_gcd K)) {f : Addr} (cdv : Value) (A : Around) (outer : List Env) (s : Shared) (H : Hp) (E : XK) (hr : Room 1 (A.deeper (envOfC "_law_ratio" (defScope s__law_ratio) s.heap.objs.size f cdv))) :
    PSs (cxOf (L2.CX P w) P w K mg base ["_law_top", "_law_bottom", "_law_part"] "_law_ratio" (defScope s__law_ratio) f cdv A outer s H E) (defBody s__law_ratio) (t__law_ratio K E) := by
  exact (pss_cons (ps_set (i := 2) sc__law_ratio.nd rfl (Or.inl rfl) (pcall D__law_gcd hr (by decide) rfl passL (pa_cons (pv 0) (pa_cons (pv 1) pa_nil))))
     (pss_cons (ps_if (pt_cmpR op_lt (pv 1) pe_int (nomark _)) (pss_one (ps_set (i := 2) sc__law_ratio.nd rfl (Or.inl rfl) (pe_un un_neg (pv 2)))) pss_nil)
     (pss_one (ps_ret (pe_tup (pa_cons (pe_op op_fdivZ (pv 0) (pv 2)) (pa_cons (pe_op op_fdivZ (pv 1) (pv 2)) pa_nil)))))))
theorem fn__law_ratio (T : Txt K mg) : ∃ fd, FunD K "_law_ratio" "_law_ratio" (defArgs s__law_ratio) (defBody s__law_ratio) (defScope s__law_ratio) [] [] (He.ga K "_law_ratio") fd ∧ FnOk P w K mg base (L2.CX P w) 2 (He.ga K "_law_ratio") fd ["_law_top", "_law_bottom"] (sp__law_ratio K) := by
  obtain ⟨fd, F⟩ := T.d__law_ratio
  exact ⟨fd, F, fn_mk (t := fun E => t__law_ratio K E) F sc__law_ratio (fun vs H Q E h => spG_len vs H Q E h) (fun cdv A outer s H E hr => der__law_ratio T (dn__law_gcd T) cdv A outer s H E hr) (fun vs H Q E h => spG_body (m := 1) (by rfl) (fun O H ss hl hp => ⟨_, fun _ z => (by first | exact z | exact z.elim), sem__law_ratio E O H ss hl hp⟩) vs H Q E h)⟩
theorem dn__law_ratio (T : Txt K mg) : Dn P w K mg base 2 "_law_ratio" (sp__law_ratio K) := by
  obtain ⟨fd, F, G⟩ := fn__law_ratio (P := P) (w := w) (base := base) T
  exact dn_all F T.g__law_ratio G fun _ _ _ _ _ _ us hl => match us, hl with | [_, _], _ => rfl
theorem der__law_plus (T : Txt K mg) (D__law_ratio : Dn P w K mg base 2 "_law_ratio" (sp__law_ratio K)) {f : Addr} (cdv : Value) (A : Around) (outer : List Env) (s : Shared) (H : Hp) (E : XK) (hr : Room 2 (A.deeper (envOfC "_law_plus" (defScope s__law_plus) s.heap.objs.size f cdv))) :
    PSs (cxOf (L2.CX P w) P w K mg base ["_law_one", "_law_other"] "_law_plus" (defScope s__law_plus) f cdv A outer s H E) (defBody s__law_plus) (t__law_plus K E) := by
  exact (pss_one (ps_ret (pcall D__law_ratio hr (by decide) rfl passL (pa_cons (pe_op op_add (pe_op op_mulW (pe_ix ix_tup (pv 0) pe_int (fun _ _ => rfl)) (pe_ix ix_tup (pv 1) pe_int (fun _ _ => rfl))) (pe_op op_mulW (pe_ix ix_tup (pv 1) pe_int (fun _ _ => rfl)) (pe_ix ix_tup (pv 0) pe_int (fun _ _ => rfl)))) (pa_cons (pe_op op_mulW (pe_ix ix_tup (pv 0) pe_int (fun _ _ => rfl)) (pe_ix ix_tup (pv 1) pe_int (fun _ _ => rfl))) pa_nil)))))
theorem fn__law_plus (T : Txt K mg) : ∃ fd, FunD K "_law_plus" "_law_plus" (defArgs s__law_plus) (defBody s__law_plus) (defScope s__law_plus) [] [] (He.ga K "_law_plus") fd ∧ FnOk P w K mg base (L2.CX P w) 3 (He.ga K "_law_plus") fd ["_law_one", "_law_other"] (sp__law_plus K) := by
  obtain ⟨fd, F⟩ := T.d__law_plus
  exact ⟨fd, F, fn_mk (t := fun E => t__law_plus K E) F sc__law_plus (fun vs H Q E h => spG_len vs H Q E h) (fun cdv A outer s H E hr => der__law_plus T (dn__law_ratio T) cdv A outer s H E hr) (fun vs H Q E h => spG_body (m := 0) (by rfl) (fun O H ss hl hp => ⟨_, fun _ z => (by first | exact z | exact z.elim), sem__law_plus E O H ss hl hp⟩) vs H Q E h)⟩
theorem dn__law_plus (T : Txt K mg) : Dn P w K mg base 3 "_law_plus" (sp__law_plus K) := by
  obtain ⟨fd, F, G⟩ := fn__law_plus (P := P) (w := w) (base := base) T
  exact dn_all F T.g__law_plus G fun _ _ _ _ _ _ us hl => match us, hl with | [_, _], _ => rfl
theorem der__law_times (T : Txt K mg) (D__law_ratio : Dn P w K mg base 2 "_law_ratio" (sp__law_ratio K)) {f : Addr} (cdv : Value) (A : Around) (outer : List Env) (s : Shared) (H : Hp) (E : XK) (hr : Room 2 (A.deeper (envOfC "_law_times" (defScope s__law_times) s.heap.objs.size f cdv))) :
    PSs (cxOf (L2.CX P w) P w K mg base ["_law_one", "_law_other"] "_law_times" (defScope s__law_times) f cdv A outer s H E) (defBody s__law_times) (t__law_times K E) := by
  exact (pss_one (ps_ret (pcall D__law_ratio hr (by decide) rfl passL (pa_cons (pe_op op_mulW (pe_ix ix_tup (pv 0) pe_int (fun _ _ => rfl)) (pe_ix ix_tup (pv 1) pe_int (fun _ _ => rfl))) (pa_cons (pe_op op_mulW (pe_ix ix_tup (pv 0) pe_int (fun _ _ => rfl)) (pe_ix ix_tup (pv 1) pe_int (fun _ _ => rfl))) pa_nil)))))
theorem fn__law_times (T : Txt K mg) : ∃ fd, FunD K "_law_times" "_law_times" (defArgs s__law_times) (defBody s__law_times) (defScope s__law_times) [] [] (He.ga K "_law_times") fd ∧ FnOk P w K mg base (L2.CX P w) 3 (He.ga K "_law_times") fd ["_law_one", "_law_other"] (sp__law_times K) := by
  obtain ⟨fd, F⟩ := T.d__law_times
  exact ⟨fd, F, fn_mk (t := fun E => t__law_times K E) F sc__law_times (fun vs H Q E h => spG_len vs H Q E h) (fun cdv A outer s H E hr => der__law_times T (dn__law_ratio T) cdv A outer s H E hr) (fun vs H Q E h => spG_body (m := 0) (by rfl) (fun O H ss hl hp => ⟨_, fun _ z => (by first | exact z | exact z.elim), sem__law_times E O H ss hl hp⟩) vs H Q E h)⟩
theorem dn__law_times (T : Txt K mg) : Dn P w K mg base 3 "_law_times" (sp__law_times K) := by
  obtain ⟨fd, F, G⟩ := fn__law_times (P := P) (w := w) (base := base) T
  exact dn_all F T.g__law_times G fun _ _ _ _ _ _ us hl => match us, hl with | [_, _], _ => rfl
theorem der__law_below (T : Txt K mg) {f : Addr} (cdv : Value) (A : Around) (outer : List Env) (s : Shared) (H : Hp) (E : XK) (hr : Room 0 (A.deeper (envOfC "_law_below" (defScope s__law_below) s.heap.objs.size f cdv))) :
    PSs (cxOf (L2.CX P w) P w K mg base ["_law_one", "_law_other"] "_law_below" (defScope s__law_below) f cdv A outer s H E) (defBody s__law_below) (t__law_below K E) := by
  exact (pss_one (ps_ret (pe_cmpR op_lt (pe_op op_mulW (pe_ix ix_tup (pv 0) pe_int (fun _ _ => rfl)) (pe_ix ix_tup (pv 1) pe_int (fun _ _ => rfl))) (pe_op op_mulW (pe_ix ix_tup (pv 1) pe_int (fun _ _ => rfl)) (pe_ix ix_tup (pv 0) pe_int (fun _ _ => rfl))) (nomark _))))
theorem fn__law_below (T : Txt K mg) : ∃ fd, FunD K "_law_below" "_law_below" (defArgs s__law_below) (defBody s__law_below) (defScope s__law_below) [] [] (He.ga K "_law_below") fd ∧ FnOk P w K mg base (L2.CX P w) 1 (He.ga K "_law_below") fd ["_law_one", "_law_other"] (sp__law_below K) := by
  obtain ⟨fd, F⟩ := T.d__law_below
  exact ⟨fd, F, fn_mk (t := fun E => t__law_below K E) F sc__law_below (fun vs H Q E h => spG_len vs H Q E h) (fun cdv A outer s H E hr => der__law_below T cdv A outer s H E hr) (fun vs H Q E h => spG_body (m := 0) (by rfl) (fun O H ss hl hp => ⟨_, fun _ z => (by first | exact z | exact z.elim), sem__law_below E O H ss hl hp⟩) vs H Q E h)⟩
theorem dn__law_below (T : Txt K mg) : Dn P w K mg base 1 "_law_below" (sp__law_below K) := by
  obtain ⟨fd, F, G⟩ := fn__law_below (P := P) (w := w) (base := base) T
  exact dn_all F T.g__law_below G fun _ _ _ _ _ _ us hl => match us, hl with | [_, _], _ => rfl
theorem der__law_dot (T : Txt K mg) (D__law_times : Dn P w K mg base 3 "_law_times" (sp__law_times K)) (D__law_plus : Dn P w K mg base 3 "_law_plus" (sp__law_plus K)) {f : Addr} (cdv : Value) (A : Around) (outer : List Env) (s : Shared) (H : Hp) (E : XK) (hr : Room 3 (A.deeper (envOfC "_law_dot" (defScope s__law_dot) s.heap.objs.size f cdv))) :
    PSs (cxOf (L2.CX P w) P w K mg base ["_law_one", "_law_other", "_law_total", "_law_mine", "_law_yours"] "_law_dot" (defScope s__law_dot) f cdv A outer s H E) (defBody s__law_dot) (t__law_dot K E) := by
  exact (pss_cons (ps_set (i := 2) sc__law_dot.nd rfl (Or.inl rfl) (pe_tup (pa_cons pe_int (pa_cons pe_int pa_nil))))
     (pss_cons (ps_for (passes_of rfl) rfl (LLZ.pi_zipM rfl T.f_zip (pa_cons (pv 0) (pa_cons (pv 1) pa_nil))) (pg_tup (n := 2) rfl (pgs_cons (pg_name (i := 3) sc__law_dot.nd rfl (Or.inl rfl)) (pgs_cons (pg_name (i := 4) sc__law_dot.nd rfl (Or.inl rfl)) pgs_nil))) (pss_one (ps_set (i := 2) sc__law_dot.nd rfl (Or.inl rfl) (pcall D__law_plus hr (by decide) rfl passL (pa_cons (pv 2) (pa_cons (pcall D__law_times hr (by decide) rfl passL (pa_cons (pv 3) (pa_cons (pv 4) pa_nil))) pa_nil))))))
     (pss_one (ps_ret (pv 2)))))
theorem fn__law_dot (T : Txt K mg) : ∃ fd, FunD K "_law_dot" "_law_dot" (defArgs s__law_dot) (defBody s__law_dot) (defScope s__law_dot) [] [] (He.ga K "_law_dot") fd ∧ FnOk P w K mg base (L2.CX P w) 4 (He.ga K "_law_dot") fd ["_law_one", "_law_other"] (sp__law_dot K) := by
  obtain ⟨fd, F⟩ := T.d__law_dot
  exact ⟨fd, F, fn_mk (t := fun E => t__law_dot K E) F sc__law_dot (fun vs H Q E h => spG_len vs H Q E h) (fun cdv A outer s H E hr => der__law_dot T (dn__law_times T) (dn__law_plus T) cdv A outer s H E hr) (fun vs H Q E h => spG_body (m := 3) (by rfl) (fun O H ss hl hp => ⟨_, fun _ z => (by first | exact z | exact z.elim), sem__law_dot E O H ss hl hp⟩) vs H Q E h)⟩
theorem dn__law_dot (T : Txt K mg) : Dn P w K mg base 4 "_law_dot" (sp__law_dot K) := by
  obtain ⟨fd, F, G⟩ := fn__law_dot (P := P) (w := w) (base := base) T
  exact dn_all F T.g__law_dot G fun _ _ _ _ _ _ us hl => match us, hl with | [_, _], _ => rfl
theorem der__law_same (T : Txt K mg) {f : Addr} (cdv : Value) (A : Around) (outer : List Env) (s : Shared) (H : Hp) (E : XK) (hr : Room 0 (A.deeper (envOfC "_law_same" (defScope s__law_same) s.heap.objs.size f cdv))) :
    PSs (cxOf (L2.CX P w) P w K mg base ["_law_found", "_law_due", "_law_part"] "_law_same" (defScope s__law_same) f cdv A outer s H E) (defBody s__law_same) (t__law_same K E) := by
  exact (pss_cons (ps_if (PW.pt (pw_or (pt_not (pt_truth (pe_callB call_isi (by rfl) T.f_isinstance (by decide +kernel) (pa_cons (pv 0) (pa_cons (pe_bltn (v := .ty "tuple") rfl T.f_tuple (by decide +kernel) rfl) pa_nil))) (by intro _; rfl))) (pw_or1 (pt_cmpR op_ne (pe_callB call_len (by rfl) T.f_len (by decide +kernel) (pa_cons (pv 0) pa_nil)) pe_int (nomark _))))) (pss_one (ps_ret pe_bl)) pss_nil)
     (pss_cons (ps_for (passes_of rfl) rfl (pi_tup (pv 0)) (pg_name (i := 2) sc__law_same.nd rfl (Or.inl rfl)) (pss_one (ps_if (PW.pt (pw_or (pt_not (pt_truth (pe_callB call_isi (by rfl) T.f_isinstance (by decide +kernel) (pa_cons (pv 2) (pa_cons (pe_bltn (v := .ty "int") rfl T.f_int (by decide +kernel) rfl) pa_nil))) (by intro _; rfl))) (pw_or1 (pt_truth (pe_callB call_isi (by rfl) T.f_isinstance (by decide +kernel) (pa_cons (pv 2) (pa_cons (pe_bltn (v := .ty "bool") rfl T.f_bool (by decide +kernel) rfl) pa_nil))) (by intro _; rfl))))) (pss_one (ps_ret pe_bl)) pss_nil)))
     (pss_one (ps_ret (pe_and (pe_cmpR op_eq (pe_ix ix_tup (pv 0) pe_int (fun _ _ => rfl)) (pe_ix ix_tup (pv 1) pe_int (fun _ _ => rfl)) (nomark _)) (pe_one (pe_cmpR op_eq (pe_ix ix_tup (pv 0) pe_int (fun _ _ => rfl)) (pe_ix ix_tup (pv 1) pe_int (fun _ _ => rfl)) (nomark _))))))))
theorem fn__law_same (T : Txt K mg) : ∃ fd, FunD K "_law_same" "_law_same" (defArgs s__law_same) (defBody s__law_same) (defScope s__law_same) [] [] (He.ga K "_law_same") fd ∧ FnOk P w K mg base (L2.CX P w) 1 (He.ga K "_law_same") fd ["_law_found", "_law_due"] (sp__law_same K) := by
  obtain ⟨fd, F⟩ := T.d__law_same
  exact ⟨fd, F, fn_mk (t := fun E => t__law_same K E) F sc__law_same (fun vs H Q E h => spG_len vs H Q E h) (fun cdv A outer s H E hr => der__law_same T cdv A outer s H E hr) (fun vs H Q E h => spG_body (m := 1) (by rfl) (fun O H ss hl hp => ⟨_, fun _ z => (by first | exact z | exact z.elim), sem__law_same E O H ss hl hp⟩) vs H Q E h)⟩
theorem dn__law_same (T : Txt K mg) : Dn P w K mg base 1 "_law_same" (sp__law_same K) := by
  obtain ⟨fd, F, G⟩ := fn__law_same (P := P) (w := w) (base := base) T
  exact dn_all F T.g__law_same G fun _ _ _ _ _ _ us hl => match us, hl with | [_, _], _ => rfl
theorem der__law_row_same (T : Txt K mg) (D__law_same : Dn P w K mg base 1 "_law_same" (sp__law_same K)) {f : Addr} (cdv : Value) (A : Around) (outer : List Env) (s : Shared) (H : Hp) (E : XK) (hr : Room 1 (A.deeper (envOfC "_law_row_same" (defScope s__law_row_same) s.heap.objs.size f cdv))) :
    PSs (cxOf (L2.CX P w) P w K mg base ["_law_found", "_law_due", "_law_k"] "_law_row_same" (defScope s__law_row_same) f cdv A outer s H E) (defBody s__law_row_same) (t__law_row_same K E) := by
  exact (pss_cons (ps_if (PW.pt (pw_or (pt_not (pt_truth (pe_callB call_isi (by rfl) T.f_isinstance (by decide +kernel) (pa_cons (pv 0) (pa_cons (pe_bltn (v := .ty "tuple") rfl T.f_tuple (by decide +kernel) rfl) pa_nil))) (by intro _; rfl))) (pw_or1 (pt_cmpR op_ne (pe_callB call_len (by rfl) T.f_len (by decide +kernel) (pa_cons (pv 0) pa_nil)) (pe_callB call_len (by rfl) T.f_len (by decide +kernel) (pa_cons (pv 1) pa_nil)) (nomark _))))) (pss_one (ps_ret pe_bl)) pss_nil)
     (pss_cons (ps_for (passes_of rfl) rfl (pi_range1 rfl T.f_range (pa_cons (pe_callB call_len (by rfl) T.f_len (by decide +kernel) (pa_cons (pv 1) pa_nil)) pa_nil)) (pg_name (i := 2) sc__law_row_same.nd rfl (Or.inl rfl)) (pss_one (ps_if (pt_not (pt_truth (pcall D__law_same hr (by decide) rfl passL (pa_cons (pe_ix ix_tup (pv 0) (pv 2) (fun _ _ => rfl)) (pa_cons (pe_ix ix_list (pv 1) (pv 2) (fun _ _ => rfl)) pa_nil))) (by intro _; rfl))) (pss_one (ps_ret pe_bl)) pss_nil)))
     (pss_one (ps_ret pe_bl))))
theorem fn__law_row_same (T : Txt K mg) : ∃ fd, FunD K "_law_row_same" "_law_row_same" (defArgs s__law_row_same) (defBody s__law_row_same) (defScope s__law_row_same) [] [] (He.ga K "_law_row_same") fd ∧ FnOk P w K mg base (L2.CX P w) 2 (He.ga K "_law_row_same") fd ["_law_found", "_law_due"] (sp__law_row_same K) := by
  obtain ⟨fd, F⟩ := T.d__law_row_same
  exact ⟨fd, F, fn_mk (t := fun E => t__law_row_same K E) F sc__law_row_same (fun vs H Q E h => spG_len vs H Q E h) (fun cdv A outer s H E hr => der__law_row_same T (dn__law_same T) cdv A outer s H E hr) (fun vs H Q E h => spG_body (m := 1) (by rfl) (fun O H ss hl hp => ⟨_, fun _ z => (by first | exact z | exact z.elim), sem__law_row_same E O H ss hl hp⟩) vs H Q E h)⟩
theorem dn__law_row_same (T : Txt K mg) : Dn P w K mg base 2 "_law_row_same" (sp__law_row_same K) := by
  obtain ⟨fd, F, G⟩ := fn__law_row_same (P := P) (w := w) (base := base) T
  exact dn_all F T.g__law_row_same G fun _ _ _ _ _ _ us hl => match us, hl with | [_, _], _ => rfl
theorem der__law_number (T : Txt K mg) (D__law_take : Dn P w K mg base 2 "_law_take" (sp__law_take K)) {f : Addr} (cdv : Value) (A : Around) (outer : List Env) (s : Shared) (H : Hp) (E : XK) (hr : Room 2 (A.deeper (envOfC "_law_number" (defScope s__law_number) s.heap.objs.size f cdv))) :
    PSs (cxOf (L2.CX P w) P w K mg base ["_law_hand_here", "_law_size", "_law_turn"] "_law_number" (defScope s__law_number) f cdv A outer s H E) (defBody s__law_number) (t__law_number K E) := by
  exact (pss_cons (ps_if (pt_truth (pcall D__law_take hr (by decide) rfl passL (pa_cons (pv 0) (pa_cons pe_int pa_nil))) (by intro _; rfl)) (pss_one (ps_ret (pe_op op_sub (pcall D__law_take hr (by decide) rfl passL (pa_cons (pv 0) (pa_cons pe_int pa_nil))) pe_int))) pss_nil)
     (pss_cons (ps_set (i := 1) sc__law_number.nd rfl (Or.inl rfl) pe_int)
     (pss_cons (ps_for (passes_of rfl) rfl (pi_range1 rfl T.f_range (pa_cons (pe_op op_add pe_int (pcall D__law_take hr (by decide) rfl passL (pa_cons (pv 0) (pa_cons pe_int pa_nil)))) pa_nil)) (pg_name (i := 2) sc__law_number.nd rfl (Or.inl rfl)) (pss_one (ps_set (i := 1) sc__law_number.nd rfl (Or.inl rfl) (pe_op op_add (pe_op op_mulW (pv 1) (pe_op op_pow pe_int pe_int)) (pcall D__law_take hr (by decide) rfl passL (pa_cons (pv 0) (pa_cons (pe_op op_pow pe_int pe_int) pa_nil)))))))
     (pss_one (ps_ret (pe_ifExp (pt_truth (pcall D__law_take hr (by decide) rfl passL (pa_cons (pv 0) (pa_cons pe_int pa_nil))) (by intro _; rfl)) (pv 1) (pe_un un_neg (pv 1))))))))
theorem fn__law_number (T : Txt K mg) : ∃ fd, FunD K "_law_number" "_law_number" (defArgs s__law_number) (defBody s__law_number) (defScope s__law_number) [] [] (He.ga K "_law_number") fd ∧ FnOk P w K mg base (L2.CX P w) 3 (He.ga K "_law_number") fd ["_law_hand_here"] (sp__law_number K) := by
  obtain ⟨fd, F⟩ := T.d__law_number
  exact ⟨fd, F, fn_mk (t := fun E => t__law_number K E) F sc__law_number (fun vs H Q E h => spH_len vs H Q E h) (fun cdv A outer s H E hr => der__law_number T (dn__law_take T) cdv A outer s H E hr) (fun vs H Q E h => spH_body (m := 2) (by rfl) (fun O J a c ss hl hp hj => ⟨_, fun _ z => (by first | exact z | exact z.elim), sem__law_number E O J a c ss hl hp hj⟩) vs H Q E h)⟩
theorem dn__law_number (T : Txt K mg) : Dn P w K mg base 3 "_law_number" (sp__law_number K) := by
  obtain ⟨fd, F, G⟩ := fn__law_number (P := P) (w := w) (base := base) T
  exact dn_all F T.g__law_number G fun _ _ _ _ _ _ us hl => match us, hl with | [_], _ => rfl
theorem der__law_any_ratio (T : Txt K mg) (D__law_number : Dn P w K mg base 3 "_law_number" (sp__law_number K)) (D__law_ratio : Dn P w K mg base 2 "_law_ratio" (sp__law_ratio K)) (D__law_take : Dn P w K mg base 2 "_law_take" (sp__law_take K)) {f : Addr} (cdv : Value) (A : Around) (outer : List Env) (s : Shared) (H : Hp) (E : XK) (hr : Room 3 (A.deeper (envOfC "_law_any_ratio" (defScope s__law_any_ratio) s.heap.objs.size f cdv))) :
    PSs (cxOf (L2.CX P w) P w K mg base ["_law_hand_here", "_law_pick", "_law_bottom"] "_law_any_ratio" (defScope s__law_any_ratio) f cdv A outer s H E) (defBody s__law_any_ratio) (t__law_any_ratio K E) := by
  exact (pss_cons (ps_set (i := 1) sc__law_any_ratio.nd rfl (Or.inl rfl) (pcall D__law_take hr (by decide) rfl passL (pa_cons (pv 0) (pa_cons pe_int pa_nil))))
     (pss_cons (ps_if (pt_cmpR op_eq (pv 1) pe_int (nomark _)) (pss_one (ps_ret (pe_tup (pa_cons pe_int (pa_cons pe_int pa_nil))))) pss_nil)
     (pss_cons (ps_if (pt_cmpR op_eq (pv 1) pe_int (nomark _)) (pss_one (ps_ret (pe_tup (pa_cons (pe_op op_sub (pcall D__law_take hr (by decide) rfl passL (pa_cons (pv 0) (pa_cons pe_int pa_nil))) pe_int) (pa_cons pe_int pa_nil))))) pss_nil)
     (pss_cons (ps_set (i := 2) sc__law_any_ratio.nd rfl (Or.inl rfl) (pe_callB call_abs (by rfl) T.f_abs (by decide +kernel) (pa_cons (pcall D__law_number hr (by decide) rfl passL (pa_cons (pv 0) pa_nil)) pa_nil)))
     (pss_one (ps_ret (pcall D__law_ratio hr (by decide) rfl passL (pa_cons (pcall D__law_number hr (by decide) rfl passL (pa_cons (pv 0) pa_nil)) (pa_cons (pe_ifExp (pt_truth (pv 2) (by intro _; rfl)) (pv 2) pe_int) pa_nil)))))))))
theorem fn__law_any_ratio (T : Txt K mg) : ∃ fd, FunD K "_law_any_ratio" "_law_any_ratio" (defArgs s__law_any_ratio) (defBody s__law_any_ratio) (defScope s__law_any_ratio) [] [] (He.ga K "_law_any_ratio") fd ∧ FnOk P w K mg base (L2.CX P w) 4 (He.ga K "_law_any_ratio") fd ["_law_hand_here"] (sp__law_any_ratio K) := by
  obtain ⟨fd, F⟩ := T.d__law_any_ratio
  exact ⟨fd, F, fn_mk (t := fun E => t__law_any_ratio K E) F sc__law_any_ratio (fun vs H Q E h => spH_len vs H Q E h) (fun cdv A outer s H E hr => der__law_any_ratio T (dn__law_number T) (dn__law_ratio T) (dn__law_take T) cdv A outer s H E hr) (fun vs H Q E h => spH_body (m := 2) (by rfl) (fun O J a c ss hl hp hj => ⟨_, fun _ z => (by first | exact z | exact z.elim), sem__law_any_ratio E O J a c ss hl hp hj⟩) vs H Q E h)⟩
theorem dn__law_any_ratio (T : Txt K mg) : Dn P w K mg base 4 "_law_any_ratio" (sp__law_any_ratio K) := by
  obtain ⟨fd, F, G⟩ := fn__law_any_ratio (P := P) (w := w) (base := base) T
  exact dn_all F T.g__law_any_ratio G fun _ _ _ _ _ _ us hl => match us, hl with | [_], _ => rfl
theorem der__law_odd (T : Txt K mg) (D__law_take : Dn P w K mg base 2 "_law_take" (sp__law_take K)) {f : Addr} (cdv : Value) (A : Around) (outer : List Env) (s : Shared) (H : Hp) (E : XK) (hr : Room 2 (A.deeper (envOfC "_law_odd" (defScope s__law_odd) s.heap.objs.size f cdv))) :
    PSs (cxOf (L2.CX P w) P w K mg base ["_law_hand_here"] "_law_odd" (defScope s__law_odd) f cdv A outer s H E) (defBody s__law_odd) (t__law_odd K E) := by
  exact (pss_one (ps_ret (pe_ix ix_list (pe_lst (pa_cons pe_non (pa_cons pe_bl (pa_cons pe_bl (pa_cons pe_str (pa_cons (pe_tup pa_nil) (pa_cons (pe_lst (pa_cons pe_int (pa_cons pe_int pa_nil))) (pa_cons (pe_tup (pa_cons pe_int (pa_cons pe_int pa_nil))) (pa_cons (pe_tup (pa_cons pe_int (pa_cons pe_int pa_nil))) (pa_cons (pe_tup (pa_cons pe_int (pa_cons (pe_un un_neg pe_int) pa_nil))) (pa_cons (pe_tup (pa_cons pe_bl (pa_cons pe_int pa_nil))) (pa_cons (pe_tup (pa_cons pe_int (pa_cons pe_bl pa_nil))) (pa_cons (pe_tup (pa_cons pe_int (pa_cons pe_int (pa_cons pe_int pa_nil)))) (pa_cons (pe_lst (pa_cons pe_int (pa_cons pe_int pa_nil))) pa_nil)))))))))))))) (pcall D__law_take hr (by decide) rfl passL (pa_cons (pv 0) (pa_cons pe_int pa_nil))) (fun _ _ => rfl))))
theorem fn__law_odd (T : Txt K mg) : ∃ fd, FunD K "_law_odd" "_law_odd" (defArgs s__law_odd) (defBody s__law_odd) (defScope s__law_odd) [] [] (He.ga K "_law_odd") fd ∧ FnOk P w K mg base (L2.CX P w) 3 (He.ga K "_law_odd") fd ["_law_hand_here"] (sp__law_odd K) := by
  obtain ⟨fd, F⟩ := T.d__law_odd
  exact ⟨fd, F, fn_mk (t := fun E => t__law_odd K E) F sc__law_odd (fun vs H Q E h => spH_len vs H Q E h) (fun cdv A outer s H E hr => der__law_odd T (dn__law_take T) cdv A outer s H E hr) (fun vs H Q E h => spH_body (m := 0) (by rfl) (fun O J a c ss hl hp hj => ⟨_, fun _ z => (by first | exact z | exact z.elim), sem__law_odd E O J a c ss hl hp hj⟩) vs H Q E h)⟩
theorem dn__law_odd (T : Txt K mg) : Dn P w K mg base 3 "_law_odd" (sp__law_odd K) := by
  obtain ⟨fd, F, G⟩ := fn__law_odd (P := P) (w := w) (base := base) T
  exact dn_all F T.g__law_odd G fun _ _ _ _ _ _ us hl => match us, hl with | [_], _ => rfl
theorem der__law_truth (T : Txt K mg) {f : Addr} (cdv : Value) (A : Around) (outer : List Env) (s : Shared) (H : Hp) (E : XK) (hr : Room 0 (A.deeper (envOfC "_law_truth" (defScope s__law_truth) s.heap.objs.size f cdv))) :
    PSs (cxOf (L2.CX P w) P w K mg base ["_law_found", "_law_due"] "_law_truth" (defScope s__law_truth) f cdv A outer s H E) (defBody s__law_truth) (t__law_truth K E) := by
  exact (pss_one (ps_ret (pe_ifExp (pt_truth (pv 1) (by intro _; rfl)) (pe_cmpR op_is_bl (pv 0) pe_bl (nomark _)) (pe_cmpR op_is_bl (pv 0) pe_bl (nomark _)))))
theorem fn__law_truth (T : Txt K mg) : ∃ fd, FunD K "_law_truth" "_law_truth" (defArgs s__law_truth) (defBody s__law_truth) (defScope s__law_truth) [] [] (He.ga K "_law_truth") fd ∧ FnOk P w K mg base (L2.CX P w) 1 (He.ga K "_law_truth") fd ["_law_found", "_law_due"] (sp__law_truth K) := by
  obtain ⟨fd, F⟩ := T.d__law_truth
  exact ⟨fd, F, fn_mk (t := fun E => t__law_truth K E) F sc__law_truth (fun vs H Q E h => spG_len vs H Q E h) (fun cdv A outer s H E hr => der__law_truth T cdv A outer s H E hr) (fun vs H Q E h => spG_body (m := 0) (by rfl) (fun O H ss hl hp => ⟨_, fun _ z => (by first | exact z | exact z.elim), sem__law_truth E O H ss hl hp⟩) vs H Q E h)⟩
theorem dn__law_truth (T : Txt K mg) : Dn P w K mg base 1 "_law_truth" (sp__law_truth K) := by
  obtain ⟨fd, F, G⟩ := fn__law_truth (P := P) (w := w) (base := base) T
  exact dn_all F T.g__law_truth G fun _ _ _ _ _ _ us hl => match us, hl with | [_, _], _ => rfl
theorem der__law_kinds (T : Txt K mg) (D_is_row2 : Dn P w K mg base 4 "is_row" (sp_is_row2 K)) (D__law_odd : Dn P w K mg base 3 "_law_odd" (sp__law_odd K)) (D__law_take : Dn P w K mg base 2 "_law_take" (sp__law_take K)) (D_is_row2_least : Dk P w K mg base 4 "is_row" 2 ["least"] (sp_is_row2_least K)) (D__law_truth : Dn P w K mg base 1 "_law_truth" (sp__law_truth K)) (D_is_row : Dn P w K mg base 4 "is_row" (sp_is_row K)) (D__law_below : Dn P w K mg base 1 "_law_below" (sp__law_below K)) (D__law_any_ratio : Dn P w K mg base 4 "_law_any_ratio" (sp__law_any_ratio K)) {f : Addr} (cdv : Value) (A : Around) (outer : List Env) (s : Shared) (H : Hp) (E : XK) (hr : Room 4 (A.deeper (envOfC "_law_kinds" (defScope s__law_kinds) s.heap.objs.size f cdv))) :
    PSs (cxOf (L2.CX P w) P w K mg base ["_law_hand_here", "_law_row", "_law_many", "_law_least", "_law_enough", "_law_entry", "_law_told", "_law_spoilt"] "_law_kinds" (defScope s__law_kinds) f cdv A outer s H E) (defBody s__law_kinds) (t__law_kinds K E) := by
  exact (pss_cons (ps_set (i := 2) sc__law_kinds.nd rfl (Or.inl rfl) (pe_callB call_len (by rfl) T.f_len (by decide +kernel) (pa_cons (pv 1) pa_nil)))
     (pss_cons (ps_set (i := 3) sc__law_kinds.nd rfl (Or.inr rfl) (pcall D__law_any_ratio hr (by decide) rfl passL (pa_cons (pv 0) pa_nil)))
     (pss_cons (ps_set (i := 4) sc__law_kinds.nd rfl (Or.inl rfl) (pe_notT (pe_lc (own := [("_law_entry", 5)]) (g := (gName 5)) rfl sc__law_kinds.nd (pi_list (pv 1)) (blkOk_by (own := [("_law_entry", 5)]) (N := ["_law_hand_here", "_law_row", "_law_many", "_law_least", "_law_enough", "_law_entry", "_law_told", "_law_spoilt"]) (sc := defScope s__law_kinds) (by decide +kernel)) (fun _ _ _ _ _ => pg_name (i := 5) sc__law_kinds.nd rfl (Or.inl rfl)) (fun _ _ _ _ _ => pts_one (pt_truth (pcall D__law_below hr (by decide) rfl passL (pa_cons (pv 5) (pa_cons (pv 3) pa_nil))) (by intro _; rfl))) (fun _ _ _ _ _ => pe_int))))
     (pss_cons (ps_for (passes_of rfl) rfl (pi_list (pe_lst (pa_cons (pv 1) (pa_cons (pe_callTy call_tuple_of (by rfl) T.f_tuple (by decide +kernel) (pa_cons (pv 1) pa_nil)) pa_nil)))) (pg_name (i := 6) sc__law_kinds.nd rfl (Or.inl rfl)) (pss_cons (ps_if (PW.pt (pw_or (pt_cmpR op_isnot_bl (pcall D_is_row2 hr (by decide) rfl passL (pa_cons (pv 6) (pa_cons (pv 2) pa_nil))) pe_bl (nomark _)) (pw_or (pt_cmpR op_isnot_bl (pcall D_is_row2 hr (by decide) rfl passL (pa_cons (pv 6) (pa_cons (pe_op op_add (pv 2) pe_int) pa_nil))) pe_bl (nomark _)) (pw_or1 (pt_cmpR op_isnot_bl (pcall D_is_row2 hr (by decide) rfl passL (pa_cons (pv 6) (pa_cons (pe_op op_sub (pv 2) pe_int) pa_nil))) pe_bl (nomark _)))))) (pss_one (ps_ret pe_bl)) pss_nil)
     (pss_one (ps_if (PW.pt (pw_or (pt_not (pt_truth (pcall D__law_truth hr (by decide) rfl passL (pa_cons (pcall D_is_row hr (by decide) rfl passL (pa_cons (pv 6) (pa_cons (pv 2) (pa_cons (pv 3) pa_nil)))) (pa_cons (pv 4) pa_nil))) (by intro _; rfl))) (pw_or1 (pt_not (pt_truth (pcall D__law_truth hr (by decide) rfl passL (pa_cons (pcallN D_is_row2_least hr (by decide) rfl (pa_cons (pv 6) (pa_cons (pv 2) pa_nil)) (pk_cons (pv 3) pk_nil)) (pa_cons (pv 4) pa_nil))) (by intro _; rfl)))))) (pss_one (ps_ret pe_bl)) pss_nil))))
     (pss_cons (ps_set (i := 7) sc__law_kinds.nd rfl (Or.inl rfl) (pe_callTy call_list_of (by rfl) T.f_list (by decide +kernel) (pa_cons (pv 1) pa_nil)))
     (pss_cons (ps_expr (pe_bm PySem.F.plainAttrs_list PySem.F.slot_list_insert PySem.F.type_list_insert mt_insert (pv 7) (pa_cons (pcall D__law_take hr (by decide) rfl passL (pa_cons (pv 0) (pa_cons (pe_op op_add (pv 2) pe_int) pa_nil))) (pa_cons (pcall D__law_odd hr (by decide) rfl passL (pa_cons (pv 0) pa_nil)) pa_nil))))
     (pss_cons (ps_if (PW.pt (pw_or (pt_cmpR op_isnot_bl (pcall D_is_row2 hr (by decide) rfl passL (pa_cons (pv 7) (pa_cons (pe_op op_add (pv 2) pe_int) pa_nil))) pe_bl (nomark _)) (pw_or1 (pt_cmpR op_isnot_bl (pcall D_is_row2 hr (by decide) rfl passL (pa_cons (pe_callTy call_tuple_of (by rfl) T.f_tuple (by decide +kernel) (pa_cons (pv 7) pa_nil)) (pa_cons (pe_op op_add (pv 2) pe_int) pa_nil))) pe_bl (nomark _))))) (pss_one (ps_ret pe_bl)) pss_nil)
     (pss_one (ps_ret (pe_and (pe_cmpR op_is_bl (pcall D_is_row2 hr (by decide) rfl passL (pa_cons pe_str (pa_cons pe_int pa_nil))) pe_bl (nomark _)) (pe_and (pe_cmpR op_is_bl (pcall D_is_row2 hr (by decide) rfl passL (pa_cons pe_non (pa_cons (pv 2) pa_nil))) pe_bl (nomark _)) (pe_one (pe_cmpR op_is_bl (pcall D_is_row2 hr (by decide) rfl passL (pa_cons pe_dnewK (pa_cons pe_int pa_nil))) pe_bl (nomark _))))))))))))))
theorem fn__law_kinds (T : Txt K mg) : ∃ fd, FunD K "_law_kinds" "_law_kinds" (defArgs s__law_kinds) (defBody s__law_kinds) (defScope s__law_kinds) [] [] (He.ga K "_law_kinds") fd ∧ FnOk P w K mg base (L2.CX P w) 5 (He.ga K "_law_kinds") fd ["_law_hand_here", "_law_row"] (sp__law_kinds K) := by
  obtain ⟨fd, F⟩ := T.d__law_kinds
  exact ⟨fd, F, fn_mk (t := fun E => t__law_kinds K E) F sc__law_kinds (fun vs H Q E h => spH_len vs H Q E h) (fun cdv A outer s H E hr => der__law_kinds T (dn_is_row2 T) (dn__law_odd T) (dn__law_take T) (dn_is_row2_least T) (dn__law_truth T) (dn_is_row T) (dn__law_below T) (dn__law_any_ratio T) cdv A outer s H E hr) (fun vs H Q E h => spH_body (m := 6) (by rfl) (fun O J a c ss hl hp hj => ⟨_, fun _ z => (by first | exact z | exact z.elim), sem__law_kinds E O J a c ss hl hp hj⟩) vs H Q E h)⟩
theorem dn__law_kinds (T : Txt K mg) : Dn P w K mg base 5 "_law_kinds" (sp__law_kinds K) := by
  obtain ⟨fd, F, G⟩ := fn__law_kinds (P := P) (w := w) (base := base) T
  exact dn_all F T.g__law_kinds G fun _ _ _ _ _ _ us hl => match us, hl with | [_, _], _ => rfl
theorem der_law (T : Txt K mg) (D_greatest_of : Dn P w K mg base 2 "greatest_of" (sp_greatest_of K)) (D__law_same : Dn P w K mg base 1 "_law_same" (sp__law_same K)) (D_least_of : Dn P w K mg base 2 "least_of" (sp_least_of K)) (D__law_below : Dn P w K mg base 1 "_law_below" (sp__law_below K)) (D__law_times : Dn P w K mg base 3 "_law_times" (sp__law_times K)) (D_times_row : Dn P w K mg base 5 "times_row" (sp_times_row K)) (D__law_row_same : Dn P w K mg base 2 "_law_row_same" (sp__law_row_same K)) (D__law_plus : Dn P w K mg base 3 "_law_plus" (sp__law_plus K)) (D_plus_rows : Dn P w K mg base 5 "plus_rows" (sp_plus_rows K)) (D__law_dot : Dn P w K mg base 4 "_law_dot" (sp__law_dot K)) (D_dot : Dn P w K mg base 5 "dot" (sp_dot K)) (D_sum_of : Dn P w K mg base 5 "sum_of" (sp_sum_of K)) (D__law_kinds : Dn P w K mg base 5 "_law_kinds" (sp__law_kinds K)) (D__law_any_ratio : Dn P w K mg base 4 "_law_any_ratio" (sp__law_any_ratio K)) (D__law_take : Dn P w K mg base 2 "_law_take" (sp__law_take K)) (D__law_hand : Dn P w K mg base 1 "_law_hand" (sp__law_hand K)) {f : Addr} (cdv : Value) (A : Around) (hg : A.guards = some []) (outer : List Env) (s : Shared) (H : Hp) (E : XK) (hr : Room 5 (A.deeper (envOfC "law" (defScope s_law) s.heap.objs.size f cdv))) :
    PSs (cxOf (L2.CX P w) P w K mg base ["_law_script", "_law_hand_here", "_law_turn", "_law_many", "_law_row", "_law_k", "_law_other", "_law_size", "_law_total", "_law_entry", "_law_shown", "_law_least", "_law_greatest"] "law" (defScope s_law) f cdv A outer s H E) (defBody s_law) (t_law K E) := by
  exact (pss_cons (ps_set (i := 1) sc_law.nd rfl (Or.inr rfl) (pcall D__law_hand hr (by decide) rfl passL (pa_cons (pv 0) pa_nil)))
     (pss_cons (ps_for (passes_of rfl) rfl (pi_range1 rfl T.f_range (pa_cons pe_int pa_nil)) (pg_name (i := 2) sc_law.nd rfl (Or.inl rfl)) (pss_cons (ps_set (i := 3) sc_law.nd rfl (Or.inl rfl) (pcall D__law_take hr (by decide) rfl passL (pa_cons (pv 1) (pa_cons pe_int pa_nil))))
     (pss_cons (ps_set (i := 4) sc_law.nd rfl (Or.inr rfl) (pe_lc (own := [("_law_k", 5)]) (g := (gName 5)) rfl sc_law.nd (pi_range1 rfl T.f_range (pa_cons (pv 3) pa_nil)) (blkOk_by (own := [("_law_k", 5)]) (N := ["_law_script", "_law_hand_here", "_law_turn", "_law_many", "_law_row", "_law_k", "_law_other", "_law_size", "_law_total", "_law_entry", "_law_shown", "_law_least", "_law_greatest"]) (sc := defScope s_law) (by decide +kernel)) (fun _ _ _ _ _ => pg_name (i := 5) sc_law.nd rfl (Or.inl rfl)) (fun _ _ _ _ _ => pts_nil) (fun _ _ _ _ _ => (pcall D__law_any_ratio hr (by decide) rfl passL (pa_cons (pv 1) pa_nil)))))
     (pss_cons (ps_set (i := 6) sc_law.nd rfl (Or.inr rfl) (pe_lc (own := [("_law_k", 5)]) (g := (gName 5)) rfl sc_law.nd (pi_range1 rfl T.f_range (pa_cons (pv 3) pa_nil)) (blkOk_by (own := [("_law_k", 5)]) (N := ["_law_script", "_law_hand_here", "_law_turn", "_law_many", "_law_row", "_law_k", "_law_other", "_law_size", "_law_total", "_law_entry", "_law_shown", "_law_least", "_law_greatest"]) (sc := defScope s_law) (by decide +kernel)) (fun _ _ _ _ _ => pg_name (i := 5) sc_law.nd rfl (Or.inl rfl)) (fun _ _ _ _ _ => pts_nil) (fun _ _ _ _ _ => (pcall D__law_any_ratio hr (by decide) rfl passL (pa_cons (pv 1) pa_nil)))))
     (pss_cons (ps_if (pt_cmpR op_eq (pv 2) pe_int (nomark _)) (pss_one (ps_set (i := 6) sc_law.nd rfl (Or.inr rfl) (pe_callTy call_list_of (by rfl) T.f_list (by decide +kernel) (pa_cons (pv 4) pa_nil)))) pss_nil)
     (pss_cons (ps_set (i := 7) sc_law.nd rfl (Or.inr rfl) (pcall D__law_any_ratio hr (by decide) rfl passL (pa_cons (pv 1) pa_nil)))
     (pss_cons (ps_if (pt_not (pt_truth (pcall D__law_kinds hr (by decide) rfl passL (pa_cons (pv 1) (pa_cons (pe_callTy call_list_of (by rfl) T.f_list (by decide +kernel) (pa_cons (pv 4) pa_nil)) pa_nil))) (by intro _; rfl))) (pss_one (ps_ret pe_bl)) pss_nil)
     (pss_cons (ps_set (i := 8) sc_law.nd rfl (Or.inl rfl) (pe_tup (pa_cons pe_int (pa_cons pe_int pa_nil))))
     (pss_cons (ps_for (passes_of rfl) rfl (pi_list (pv 4)) (pg_name (i := 9) sc_law.nd rfl (Or.inl rfl)) (pss_one (ps_set (i := 8) sc_law.nd rfl (Or.inl rfl) (pcall D__law_plus hr (by decide) rfl passL (pa_cons (pv 8) (pa_cons (pv 9) pa_nil))))))
     (pss_cons (ps_set (i := 10) sc_law.nd rfl (Or.inl rfl) (pe_callB (cr_repr hg (room_un hr)) (by rfl) T.f_repr (by decide +kernel) (pa_cons (pe_tup (pa_cons (pv 4) (pa_cons (pv 6) pa_nil))) pa_nil)))
     (pss_cons (ps_if (PW.pt (pw_or (pt_not (pt_truth (pcall D__law_same hr (by decide) rfl passL (pa_cons (pcall D_sum_of hr (by decide) rfl passL (pa_cons (pv 4) pa_nil)) (pa_cons (pv 8) pa_nil))) (by intro _; rfl))) (pw_or1 (pt_not (pt_truth (pcall D__law_same hr (by decide) rfl passL (pa_cons (pcall D_sum_of hr (by decide) rfl passL (pa_cons (pe_callTy call_tuple_of (by rfl) T.f_tuple (by decide +kernel) (pa_cons (pv 4) pa_nil)) pa_nil)) (pa_cons (pv 8) pa_nil))) (by intro _; rfl)))))) (pss_one (ps_ret pe_bl)) pss_nil)
     (pss_cons (ps_if (pt_not (pt_truth (pcall D__law_same hr (by decide) rfl passL (pa_cons (pcall D_dot hr (by decide) rfl passL (pa_cons (pv 4) (pa_cons (pe_callTy call_tuple_of (by rfl) T.f_tuple (by decide +kernel) (pa_cons (pv 6) pa_nil)) pa_nil))) (pa_cons (pcall D__law_dot hr (by decide) rfl passL (pa_cons (pv 4) (pa_cons (pv 6) pa_nil))) pa_nil))) (by intro _; rfl))) (pss_one (ps_ret pe_bl)) pss_nil)
     (pss_cons (ps_if (pt_not (pt_truth (pcall D__law_row_same hr (by decide) rfl passL (pa_cons (pcall D_plus_rows hr (by decide) rfl passL (pa_cons (pv 4) (pa_cons (pv 6) pa_nil))) (pa_cons (pe_lc (own := [("_law_k", 5)]) (g := (gName 5)) rfl sc_law.nd (pi_range1 rfl T.f_range (pa_cons (pv 3) pa_nil)) (blkOk_by (own := [("_law_k", 5)]) (N := ["_law_script", "_law_hand_here", "_law_turn", "_law_many", "_law_row", "_law_k", "_law_other", "_law_size", "_law_total", "_law_entry", "_law_shown", "_law_least", "_law_greatest"]) (sc := defScope s_law) (by decide +kernel)) (fun _ _ _ _ _ => pg_name (i := 5) sc_law.nd rfl (Or.inl rfl)) (fun _ _ _ _ _ => pts_nil) (fun _ _ _ _ _ => (pcall D__law_plus hr (by decide) rfl passL (pa_cons (pe_ix ix_list (pv 4) (pv 5) (fun _ _ => rfl)) (pa_cons (pe_ix ix_list (pv 6) (pv 5) (fun _ _ => rfl)) pa_nil))))) pa_nil))) (by intro _; rfl))) (pss_one (ps_ret pe_bl)) pss_nil)
     (pss_cons (ps_if (pt_not (pt_truth (pcall D__law_row_same hr (by decide) rfl passL (pa_cons (pcall D_times_row hr (by decide) rfl passL (pa_cons (pv 4) (pa_cons (pv 7) pa_nil))) (pa_cons (pe_lc (own := [("_law_entry", 9)]) (g := (gName 9)) rfl sc_law.nd (pi_list (pv 4)) (blkOk_by (own := [("_law_entry", 9)]) (N := ["_law_script", "_law_hand_here", "_law_turn", "_law_many", "_law_row", "_law_k", "_law_other", "_law_size", "_law_total", "_law_entry", "_law_shown", "_law_least", "_law_greatest"]) (sc := defScope s_law) (by decide +kernel)) (fun _ _ _ _ _ => pg_name (i := 9) sc_law.nd rfl (Or.inl rfl)) (fun _ _ _ _ _ => pts_nil) (fun _ _ _ _ _ => (pcall D__law_times hr (by decide) rfl passL (pa_cons (pv 9) (pa_cons (pv 7) pa_nil))))) pa_nil))) (by intro _; rfl))) (pss_one (ps_ret pe_bl)) pss_nil)
     (pss_cons (ps_if (pt_truth (pv 3) (by intro _; rfl)) (pss_cons (ps_par (i := 11) (j := 12) rfl sc_law.nd rfl rfl (by decide) rfl rfl (pa_cons (pe_ix ix_list (pv 4) pe_int (fun _ _ => rfl)) (pa_cons (pe_ix ix_list (pv 4) pe_int (fun _ _ => rfl)) pa_nil)) (by rfl))
     (pss_cons (ps_for (passes_of rfl) rfl (pi_list (pv 4)) (pg_name (i := 9) sc_law.nd rfl (Or.inl rfl)) (pss_cons (ps_set (i := 11) sc_law.nd rfl (Or.inl rfl) (pe_ifExp (pt_truth (pcall D__law_below hr (by decide) rfl passL (pa_cons (pv 9) (pa_cons (pv 11) pa_nil))) (by intro _; rfl)) (pv 9) (pv 11)))
     (pss_one (ps_set (i := 12) sc_law.nd rfl (Or.inl rfl) (pe_ifExp (pt_truth (pcall D__law_below hr (by decide) rfl passL (pa_cons (pv 12) (pa_cons (pv 9) pa_nil))) (by intro _; rfl)) (pv 9) (pv 12))))))
     (pss_one (ps_if (PW.pt (pw_or (pt_not (pt_truth (pcall D__law_same hr (by decide) rfl passL (pa_cons (pcall D_least_of hr (by decide) rfl passL (pa_cons (pv 4) pa_nil)) (pa_cons (pv 11) pa_nil))) (by intro _; rfl))) (pw_or1 (pt_not (pt_truth (pcall D__law_same hr (by decide) rfl passL (pa_cons (pcall D_greatest_of hr (by decide) rfl passL (pa_cons (pe_callTy call_tuple_of (by rfl) T.f_tuple (by decide +kernel) (pa_cons (pv 4) pa_nil)) pa_nil)) (pa_cons (pv 12) pa_nil))) (by intro _; rfl)))))) (pss_one (ps_ret pe_bl)) pss_nil)))) pss_nil)
     (pss_one (ps_if (pt_cmpR op_ne (pe_callB (cr_repr hg (room_un hr)) (by rfl) T.f_repr (by decide +kernel) (pa_cons (pe_tup (pa_cons (pv 4) (pa_cons (pv 6) pa_nil))) pa_nil)) (pv 10) (nomark _)) (pss_one (ps_ret pe_bl)) pss_nil)))))))))))))))))
     (pss_one (ps_ret pe_bl))))
theorem fn_law (T : Txt K mg) : ∃ fd, FunD K "law" "law" (defArgs s_law) (defBody s_law) (defScope s_law) [] [] (He.ga K "law") fd ∧ FnAt P w K mg base (L2.CX P w) 6 callerA (He.ga K "law") fd ["_law_script"] (sp_law K) := by
  obtain ⟨fd, F⟩ := T.d_law
  exact ⟨fd, F, fn_at F sc_law (fun vs H Q E h => len_law vs H Q E h) fun cdv outer s H vs Q E hr h => ⟨_, der_law T (dn_greatest_of T) (dn__law_same T) (dn_least_of T) (dn__law_below T) (dn__law_times T) (dn_times_row T) (dn__law_row_same T) (dn__law_plus T) (dn_plus_rows T) (dn__law_dot T) (dn_dot T) (dn_sum_of T) (dn__law_kinds T) (dn__law_any_ratio T) (dn__law_take T) (dn__law_hand T) cdv callerA rfl outer s H E hr, sem_law T E vs H Q E h⟩⟩
end
/-! the head -/
def fnL : List He.DefD := [⟨("is_sequence", none), "is_sequence", "is_sequence", defArgs s_is_sequence, defBody s_is_sequence, defScope s_is_sequence, [], []⟩,
  ⟨("is_whole", none), "is_whole", "is_whole", defArgs s_is_whole, defBody s_is_whole, defScope s_is_whole, [.non, .non], []⟩,
  ⟨("is_ratio", none), "is_ratio", "is_ratio", defArgs s_is_ratio, defBody s_is_ratio, defScope s_is_ratio, [], []⟩,
  ⟨("is_ratio_from", none), "is_ratio_from", "is_ratio_from", defArgs s_is_ratio_from, defBody s_is_ratio_from, defScope s_is_ratio_from, [], []⟩,
  ⟨("is_row", none), "is_row", "is_row", defArgs s_is_row, defBody s_is_row, defScope s_is_row, [.non], []⟩,
  ⟨("make_ratio", none), "make_ratio", "make_ratio", defArgs s_make_ratio, defBody s_make_ratio, defScope s_make_ratio, [.int 1], []⟩,
  ⟨("plus", none), "plus", "plus", defArgs s_plus, defBody s_plus, defScope s_plus, [], []⟩,
  ⟨("times", none), "times", "times", defArgs s_times, defBody s_times, defScope s_times, [], []⟩,
  ⟨("compare", none), "compare", "compare", defArgs s_compare, defBody s_compare, defScope s_compare, [], []⟩,
  ⟨("sum_of", none), "sum_of", "sum_of", defArgs s_sum_of, defBody s_sum_of, defScope s_sum_of, [], []⟩,
  ⟨("least_of", none), "least_of", "least_of", defArgs s_least_of, defBody s_least_of, defScope s_least_of, [], []⟩,
  ⟨("greatest_of", none), "greatest_of", "greatest_of", defArgs s_greatest_of, defBody s_greatest_of, defScope s_greatest_of, [], []⟩,
  ⟨("dot", none), "dot", "dot", defArgs s_dot, defBody s_dot, defScope s_dot, [], []⟩,
  ⟨("plus_rows", none), "plus_rows", "plus_rows", defArgs s_plus_rows, defBody s_plus_rows, defScope s_plus_rows, [], []⟩,
  ⟨("times_row", none), "times_row", "times_row", defArgs s_times_row, defBody s_times_row, defScope s_times_row, [], []⟩,
  ⟨("_law_hand", none), "_law_hand", "_law_hand", defArgs s__law_hand, defBody s__law_hand, defScope s__law_hand, [], []⟩,
  ⟨("_law_mixed", none), "_law_mixed", "_law_mixed", defArgs s__law_mixed, defBody s__law_mixed, defScope s__law_mixed, [], []⟩,
  ⟨("_law_take", none), "_law_take", "_law_take", defArgs s__law_take, defBody s__law_take, defScope s__law_take, [], []⟩,
  ⟨("_law_gcd", none), "_law_gcd", "_law_gcd", defArgs s__law_gcd, defBody s__law_gcd, defScope s__law_gcd, [], []⟩,
  ⟨("_law_ratio", none), "_law_ratio", "_law_ratio", defArgs s__law_ratio, defBody s__law_ratio, defScope s__law_ratio, [], []⟩,
  ⟨("_law_plus", none), "_law_plus", "_law_plus", defArgs s__law_plus, defBody s__law_plus, defScope s__law_plus, [], []⟩,
  ⟨("_law_times", none), "_law_times", "_law_times", defArgs s__law_times, defBody s__law_times, defScope s__law_times, [], []⟩,
  ⟨("_law_below", none), "_law_below", "_law_below", defArgs s__law_below, defBody s__law_below, defScope s__law_below, [], []⟩,
  ⟨("_law_dot", none), "_law_dot", "_law_dot", defArgs s__law_dot, defBody s__law_dot, defScope s__law_dot, [], []⟩,
  ⟨("_law_same", none), "_law_same", "_law_same", defArgs s__law_same, defBody s__law_same, defScope s__law_same, [], []⟩,
  ⟨("_law_row_same", none), "_law_row_same", "_law_row_same", defArgs s__law_row_same, defBody s__law_row_same, defScope s__law_row_same, [], []⟩,
  ⟨("_law_number", none), "_law_number", "_law_number", defArgs s__law_number, defBody s__law_number, defScope s__law_number, [], []⟩,
  ⟨("_law_any_ratio", none), "_law_any_ratio", "_law_any_ratio", defArgs s__law_any_ratio, defBody s__law_any_ratio, defScope s__law_any_ratio, [], []⟩,
  ⟨("_law_odd", none), "_law_odd", "_law_odd", defArgs s__law_odd, defBody s__law_odd, defScope s__law_odd, [], []⟩,
  ⟨("_law_truth", none), "_law_truth", "_law_truth", defArgs s__law_truth, defBody s__law_truth, defScope s__law_truth, [], []⟩,
  ⟨("_law_kinds", none), "_law_kinds", "_law_kinds", defArgs s__law_kinds, defBody s__law_kinds, defScope s__law_kinds, [], []⟩,
  ⟨("law", none), "law", "law", defArgs s_law, defBody s_law, defScope s_law, [], []⟩,
  ⟨("BadRatio", some "__init__"), "__init__", "BadRatio.__init__", defArgs s_BadRatio_init, defBody s_BadRatio_init, defScope s_BadRatio_init, [], []⟩]
def faL : List He.Fa := [.glo "is_sequence", .glo "is_whole", .glo "is_ratio", .glo "is_ratio_from", .glo "is_row", .glo "make_ratio", .glo "plus", .glo "times", .glo "compare", .glo "sum_of", .glo "least_of", .glo "greatest_of", .glo "dot", .glo "plus_rows", .glo "times_row", .glo "_law_hand", .glo "_law_mixed", .glo "_law_take", .glo "_law_gcd", .glo "_law_ratio", .glo "_law_plus", .glo "_law_times", .glo "_law_below", .glo "_law_dot", .glo "_law_same", .glo "_law_row_same", .glo "_law_number", .glo "_law_any_ratio", .glo "_law_odd", .glo "_law_truth", .glo "_law_kinds", .glo "law", .free "abs", .free "all", .free "bool", .free "int", .free "isinstance", .free "len", .free "list", .free "range", .free "repr", .free "tuple", .free "zip", .glo "ZERO", .glo "WorksError", .glo "BadRatio", .exm "BadRatio" "BadRatio" true, .exm "BadRatio" "WorksError" true]
def exL : List (PySem.W.Frag → Bool) := [fun K => gbB K "gcd" "math.gcd",
  fun K => He.tupB K "ZERO" [.int 0, .int 1],
  fun K => xcB K "BadRatio" "what",
  fun K => decide (PySem.W.kitOne K (.ref (He.ga K "BadRatio")) (.ref (He.ga K "BadRatio")) = some true),
  fun K => decide (PySem.W.kitOne K (.ref (He.ga K "BadRatio")) (.type "ValueError") = some true)]
def exB (K : PySem.W.Frag) : Bool := exL.all fun f => f K
theorem ex_at {K : PySem.W.Frag} (h : exB K = true) (i : Nat) {f : PySem.W.Frag → Bool} (hi : exL[i]? = some f) : f K = true := List.all_eq_true.mp h f (List.mem_of_getElem? hi)
theorem txt_of {K : PySem.W.Frag} {h : Heap} {mg : Str → Option Value} (X : K.In h) (G : h.Ns mainGlobals mg) (c : He.SaysD faL fnL K) (e : exB K = true) : Txt K mg where
  d_is_sequence := c.def_ 0 rfl
  g_is_sequence := He.glo_ok X G (c.fact 0 rfl)
  d_is_whole := c.def_ 1 rfl
  g_is_whole := He.glo_ok X G (c.fact 1 rfl)
  d_is_ratio := c.def_ 2 rfl
  g_is_ratio := He.glo_ok X G (c.fact 2 rfl)
  d_is_ratio_from := c.def_ 3 rfl
  g_is_ratio_from := He.glo_ok X G (c.fact 3 rfl)
  d_is_row := c.def_ 4 rfl
  g_is_row := He.glo_ok X G (c.fact 4 rfl)
  d_make_ratio := c.def_ 5 rfl
  g_make_ratio := He.glo_ok X G (c.fact 5 rfl)
  d_plus := c.def_ 6 rfl
  g_plus := He.glo_ok X G (c.fact 6 rfl)
  d_times := c.def_ 7 rfl
  g_times := He.glo_ok X G (c.fact 7 rfl)
  d_compare := c.def_ 8 rfl
  g_compare := He.glo_ok X G (c.fact 8 rfl)
  d_sum_of := c.def_ 9 rfl
  g_sum_of := He.glo_ok X G (c.fact 9 rfl)
  d_least_of := c.def_ 10 rfl
  g_least_of := He.glo_ok X G (c.fact 10 rfl)
  d_greatest_of := c.def_ 11 rfl
  g_greatest_of := He.glo_ok X G (c.fact 11 rfl)
  d_dot := c.def_ 12 rfl
  g_dot := He.glo_ok X G (c.fact 12 rfl)
  d_plus_rows := c.def_ 13 rfl
  g_plus_rows := He.glo_ok X G (c.fact 13 rfl)
  d_times_row := c.def_ 14 rfl
  g_times_row := He.glo_ok X G (c.fact 14 rfl)
  d__law_hand := c.def_ 15 rfl
  g__law_hand := He.glo_ok X G (c.fact 15 rfl)
  d__law_mixed := c.def_ 16 rfl
  g__law_mixed := He.glo_ok X G (c.fact 16 rfl)
  d__law_take := c.def_ 17 rfl
  g__law_take := He.glo_ok X G (c.fact 17 rfl)
  d__law_gcd := c.def_ 18 rfl
  g__law_gcd := He.glo_ok X G (c.fact 18 rfl)
  d__law_ratio := c.def_ 19 rfl
  g__law_ratio := He.glo_ok X G (c.fact 19 rfl)
  d__law_plus := c.def_ 20 rfl
  g__law_plus := He.glo_ok X G (c.fact 20 rfl)
  d__law_times := c.def_ 21 rfl
  g__law_times := He.glo_ok X G (c.fact 21 rfl)
  d__law_below := c.def_ 22 rfl
  g__law_below := He.glo_ok X G (c.fact 22 rfl)
  d__law_dot := c.def_ 23 rfl
  g__law_dot := He.glo_ok X G (c.fact 23 rfl)
  d__law_same := c.def_ 24 rfl
  g__law_same := He.glo_ok X G (c.fact 24 rfl)
  d__law_row_same := c.def_ 25 rfl
  g__law_row_same := He.glo_ok X G (c.fact 25 rfl)
  d__law_number := c.def_ 26 rfl
  g__law_number := He.glo_ok X G (c.fact 26 rfl)
  d__law_any_ratio := c.def_ 27 rfl
  g__law_any_ratio := He.glo_ok X G (c.fact 27 rfl)
  d__law_odd := c.def_ 28 rfl
  g__law_odd := He.glo_ok X G (c.fact 28 rfl)
  d__law_truth := c.def_ 29 rfl
  g__law_truth := He.glo_ok X G (c.fact 29 rfl)
  d__law_kinds := c.def_ 30 rfl
  g__law_kinds := He.glo_ok X G (c.fact 30 rfl)
  d_law := c.def_ 31 rfl
  g_law := He.glo_ok X G (c.fact 31 rfl)
  f_abs := He.free_ok X G (c.fact 32 rfl)
  f_all := He.free_ok X G (c.fact 33 rfl)
  f_bool := He.free_ok X G (c.fact 34 rfl)
  f_int := He.free_ok X G (c.fact 35 rfl)
  f_isinstance := He.free_ok X G (c.fact 36 rfl)
  f_len := He.free_ok X G (c.fact 37 rfl)
  f_list := He.free_ok X G (c.fact 38 rfl)
  f_range := He.free_ok X G (c.fact 39 rfl)
  f_repr := He.free_ok X G (c.fact 40 rfl)
  f_tuple := He.free_ok X G (c.fact 41 rfl)
  f_zip := He.free_ok X G (c.fact 42 rfl)
  g_gcd := gbB_ok X G (ex_at e 0 rfl)
  g_ZERO := He.glo_ok X G (c.fact 43 rfl)
  c_ZERO := fun H => He.tupB_ok (ex_at e 1 rfl) H
  g_WorksError := He.glo_ok X G (c.fact 44 rfl)
  g_BadRatio := He.glo_ok X G (c.fact 45 rfl)
  x_BadRatio := xcB_ok (ex_at e 2 rfl)
  i_BadRatio := c.def_ 32 rfl
  e_BadRatio_BadRatio := He.exm_ok (c.fact 46 rfl)
  e_BadRatio_WorksError := He.exm_ok (c.fact 47 rfl)
  k_BadRatio_BadRatio := of_decide_eq_true (ex_at e 3 rfl)
  k_BadRatio_ValueError := of_decide_eq_true (ex_at e 4 rfl)
abbrev Rw : PySem.W.OpenRow := PySem.W.OpenLaw.row PySem.Challenge.rw_leastlabour_k01_whole_rows_of_ratios
abbrev hkL : PySem.W.Hook := He.hookX 5 faL fnL [] [] exB
def obL (s : PySem.W.SharedT) : He.AlX := He.obsX 5 faL fnL [] [] exB (HandSHeadRun.getT s)
theorem obL_eq (s : PySem.W.SharedT) : obL s = hkL.obs s.abs := He.obsX_eq (HandSHeadRun.getT_eq s)
def loose0 : List Str := ["gcd", "__name__", "WorksError", "BadRatio", "ZERO", "is_sequence", "is_whole", "is_ratio", "is_ratio_from", "is_row", "make_ratio", "plus", "times", "compare", "sum_of", "least_of", "greatest_of", "dot", "plus_rows", "times_row", "_law_hand", "_law_mixed", "_law_take", "_law_gcd", "_law_ratio", "_law_plus", "_law_times", "_law_below", "_law_dot", "_law_same"]
def loose1 : List Str := ["_law_row_same", "_law_number", "_law_any_ratio", "_law_odd", "_law_truth", "_law_kinds"]
abbrev looseL : List Str := loose0 ++ loose1
theorem runL (w : World) : HandSHeadRun.RunEqI Rw (PySem.W.view Rw.prog [38]) hkL obL 4000 looseL w := by
  unfold HandSHeadRun.RunEqI
  kernel_rfl
theorem factsL {P : Program} {w : World} {K : PySem.W.Frag} {h : Heap} {mg : Str → Option Value} {f : Addr} (X : K.In h) (G : h.Ns mainGlobals mg) (hfa : mg ("law" : Str) = some (.ref f)) (c : He.SaysD faL fnL K) (e : exB K = true) :
    ∃ fd : FuncData, (∀ (s : Shared) (v : Value), BindsTo s fd ⟨[v], []⟩ [("_law_script", v)]) ∧ ∀ base : Heap, K.In base → base.Ns mainGlobals mg → FnAt P w K mg base (L2.CX P w) 6 callerA f fd ["_law_script"] (sp_law K) := by
  have T := txt_of X G c e
  have e0 := hfa.symm.trans T.g_law
  cases e0
  obtain ⟨fd0, F0⟩ := T.d_law
  refine ⟨fd0, fun s v => FunD.bindsA (ps := ["_law_script"]) F0 (fun _ _ _ _ _ _ us hl => match us, hl with | [_], _ => rfl) s [v] rfl, fun base _ _ => ?_⟩
  obtain ⟨fd, F, Gd⟩ := fn_law (P := P) (w := w) (base := base) T
  rw [fun_same F0 F]
  exact Gd
end K01
open PySem PySem.W PySem.Calls PyProof.Rows
theorem PySem.Challenge.cw_leastlabour_k01_whole_rows_of_ratios_holds : PySem.Challenge.rw_leastlabour_k01_whole_rows_of_ratios.Holds := by
  w_on; o_law
  refine HandSHeadRun.head_imp (r := K01.Rw) (q := view K01.Rw.prog [38]) (H := K01.hkL) (ob := K01.obL) (M := 4000) (loose := K01.looseL) (d := HandSHeadRun.topDef K01.Rw.prog 38) (kwd := []) K01.obL_eq
    K01.runL (by kernel_rfl) (by kernel_rfl) (by kernel_rfl) (by rfl) (by first | assumption | decide +kernel) (by decide +kernel) ⟨rfl, rfl, rfl, rfl, rfl, by decide +kernel⟩ ?hw ?hc
  case hw => w_witness2
  case hc =>
    refine LL.walk_at (l := PySem.Challenge.rw_leastlabour_k01_whole_rows_of_ratios) (n := 63) (k := 6) (x := "_law_script") rfl (by decide) (by kernel_rfl) ⟨rfl, by decide, by decide⟩ ?F
    intro w mg fa h Y G hmg0
    obtain ⟨K, KX, c⟩ := Y
    have hmg : mg ("law" : PySem.Str) = some (.ref fa) := by
      have e : (HandSHeadRun.topDef K01.Rw.prog 38).name = ("law" : PySem.Str) := by kernel_rfl
      rw [← e]
      exact hmg0
    obtain ⟨fd, hb, hF⟩ := K01.factsL (P := PySem.Challenge.rw_leastlabour_k01_whole_rows_of_ratios.prog) (w := w) KX G hmg c.t.d c.more
    exact ⟨K, fd, K01.sp_law K, KX, hb, fun H a ns hl _ hS => ⟨a, ns, rfl, hS, hl, fun _ => rfl⟩, hF⟩



