/- As RegL, where s waits for the others by way of others. Imports nothing of the program. -/
import Derived.Test.YtbnaegpjmiiihaaRegL
namespace Go.Proofs.Ytbnaegpjmiiihaa
open Go

section
variable {P : Program} {ops : Array Oper} {Q : Exit → Act → World → Prop} {md : Region.Mode} {T : World → Prop} {s : Nat}
/-- s waits for i, perhaps by way of others. -/
def waitsT (md : Region.Mode) (ops : Array Oper) : Nat → Nat → Nat → Bool
  | 0, s, i => waits md ops s i
  | n + 1, s, i => waits md ops s i || (List.range ops.size).any fun k => waits md ops s k && waitsT md ops n k i
/-- What has come up came up behind what it waits for. -/
def Closed (md : Region.Mode) (ops : Array Oper) (listed : Array Bool) : Prop :=
  ∀ j oj, ops[j]? = some oj → listed.getD j false = true → ∀ e ∈ oj.after, Region.binds md e = true → listed.getD e.on false = true
def closedB (md : Region.Mode) (ops : Array Oper) (listed : Array Bool) : Bool :=
  (List.range ops.size).all fun j => !(listed.getD j false) || match ops[j]? with
    | some o => o.after.all fun e => !(Region.binds md e) || listed.getD e.on false
    | none => true
theorem closed_of {listed : Array Bool} (h : closedB md ops listed = true) : Closed md ops listed := by
  intro j oj hj hl e he hb
  unfold closedB at h
  rw [List.all_eq_true] at h
  have hlt : j < ops.size := (Array.getElem?_eq_some_iff.1 hj).1
  have := h j (List.mem_range.2 hlt)
  rw [hl, hj] at this
  simp only [Bool.not_true, Bool.false_or, Array.all_eq_true_iff_forall_mem] at this
  have := this e he
  rw [hb] at this
  simpa using this
theorem on_of {listed : Array Bool} {k : Nat} (h : listed[k]?.getD false = true) : listed.getD k false = true := by
  rw [Array.getD_eq_getD_getElem?]; exact h
theorem ready_on {j : Nat} {oj : Oper} {listed : Array Bool} (hj : j ∈ Region.ready md ops listed) (hoj : ops[j]? = some oj) : ∀ e ∈ oj.after, Region.binds md e = true → listed.getD e.on false = true := by
  intro e he hb
  obtain ⟨_, o, ho, all⟩ := mem_ready.1 hj
  have hoo : o = oj := by rw [hoj] at ho; exact (Option.some.inj ho).symm
  subst hoo
  exact all e he hb
theorem listed_waitsT {listed : Array Bool} (hc : Closed md ops listed) : ∀ n k i, listed.getD k false = true → waitsT md ops n k i = true → listed.getD i false = true
  | 0, k, i, hk, h => by
    unfold waitsT waits at h
    cases ho : ops[k]? with
    | none => rw [ho] at h; cases h
    | some o =>
      obtain ⟨e, he, hb, hon⟩ := waits_spec (s := k) (i := i) h ho
      rw [← hon]; exact hc k o ho hk e he hb
  | n + 1, k, i, hk, h => by
    unfold waitsT at h
    rw [Bool.or_eq_true] at h
    rcases h with h | h
    · exact listed_waitsT hc 0 k i hk h
    · rw [List.any_eq_true] at h
      obtain ⟨m, _, hm⟩ := h
      rw [Bool.and_eq_true] at hm
      exact listed_waitsT hc n m i (listed_waitsT hc 0 k m hk hm.1) hm.2
theorem ready_waitsT {listed : Array Bool} (hc : Closed md ops listed) {n j i : Nat} (hj : j ∈ Region.ready md ops listed) (h : waitsT md ops n j i = true) : listed.getD i false = true := by
  obtain ⟨_, o, ho, _⟩ := mem_ready.1 hj
  have base : ∀ k, waits md ops j k = true → listed.getD k false = true := fun k hk => by
    obtain ⟨e, he, hb, hon⟩ := waits_spec hk ho
    rw [← hon]; exact ready_on hj ho e he hb
  cases n with
  | zero => exact base i h
  | succ n =>
    unfold waitsT at h
    rw [Bool.or_eq_true] at h
    rcases h with h | h
    · exact base i h
    · rw [List.any_eq_true] at h
      obtain ⟨m, _, hm⟩ := h
      rw [Bool.and_eq_true] at hm
      exact listed_waitsT hc n m i (base m hm.1) hm.2
theorem Closed.more {j : Nat} {listed : Array Bool} (h : Closed md ops listed) (hj : j ∈ Region.ready md ops listed) : Closed md ops (listed.setIfInBounds j true) := by
  have up : ∀ k, listed.getD k false = true → (listed.setIfInBounds j true).getD k false = true := by
    intro k hk
    by_cases e : j = k
    · subst e
      have hlt : j < listed.size := by
        by_cases hlt : j < listed.size
        · exact hlt
        · rw [Array.getD_eq_getD_getElem?, Array.getElem?_eq_none (Nat.le_of_not_lt hlt)] at hk; cases hk
      simp [Array.getD_eq_getD_getElem?, hlt]
    · rw [Array.getD_eq_getD_getElem?, Array.getElem?_setIfInBounds, if_neg e, ← Array.getD_eq_getD_getElem?]; exact hk
  intro k ok hk hl e he hb
  by_cases q : j = k
  · subst q; exact up _ (ready_on hj hk e he hb)
  · refine up _ (h k ok hk ?_ e he hb)
    rw [Array.getD_eq_getD_getElem?, Array.getElem?_setIfInBounds, if_neg q, ← Array.getD_eq_getD_getElem?] at hl
    exact hl
theorem wpAnyL_firstT {i n : Nat} {oi : Oper} {v : Value} (hi : ops[i]? = some oi) (hsel : ∀ (j : Nat) (o : Oper) cs b, ops[j]? = some o → o.op ≠ .select cs b)
    (hQ : ∀ c a w, Q (.panic c) (a.put oi.dst v) w → Q (.panic c) a w) (hws : waitsT md ops n s i = true) :
    ∀ (fuel : Nat) (listed : Array Bool) (a : Act) (w : World), Closed md ops listed → Clear md ops i oi listed → i ∈ Region.ready md ops listed → YieldsIf P ops T oi v a → T w →
      wpAnyL P md ops Q T s fuel (listed.setIfInBounds i true) (a.put oi.dst v) w → wpAnyL P md ops Q T s (fuel + 1) listed a w := by
  intro fuel
  induction fuel with
  | zero =>
    intro listed a w _ _ hr hy hT H
    constructor
    · intro none; rw [none] at hr; cases hr
    · intro j hj
      by_cases hji : j = i
      · subst hji; exact hy.wpOp hi hT ⟨fun _ => hT, H⟩
      · exact absurd (ready_mono hj hji) (by rw [H.1]; simp)
  | succ n ih =>
    intro listed a w hcd hcl hr hy hT H
    constructor
    · intro none; rw [none] at hr; cases hr
    · intro j hj
      by_cases hji : j = i
      · subst hji; exact hy.wpOp hi hT ⟨fun _ => hT, H⟩
      · obtain ⟨un, oj, hoj, _⟩ := mem_ready.1 hj
        have nw := ready_free hr hj hoj
        have js : j ≠ s := by
          intro e; subst e
          have on := ready_waitsT hcd hj hws
          have off := (mem_ready.1 hr).1
          rw [Array.getD_eq_getD_getElem?] at on off
          cases hq : listed[i]? with
          | none => rw [hq] at on; cases on
          | some b => rw [hq] at on off; simp at on off; rw [on] at off; cases off
        have step := wpOp_putIf hoj (hcl j oj hoj hji un nw) (fun cs b => hsel i oi cs b hi) (fun cs b => hsel j oj cs b hoj) hQ hy (H.2 j (ready_mono hj hji))
        refine wpOp_mono (fun a' w' ⟨y', t', k'⟩ => ⟨t', ih _ a' w' (hcd.more hj) (hcl.more hj) (ready_mono hr (Ne.symm hji)) y' (t' js) ?_⟩) step
        rw [Array.setIfInBounds_comm _ _ hji]
        exact k'
/-- Take number i first. -/
theorem wpAnyL_takeT {i : Nat} {oi : Oper} {v : Value} {fuel : Nat} {listed : Array Bool} {a : Act} {w : World} (hi : ops[i]? = some oi)
    (hs : Region.noSelect ops = true) (hf : Region.free md ops listed i = true) (hr : (Region.ready md ops listed).contains i = true) (hws : (waitsT md ops 6 s i && closedB md ops listed) = true)
    (hQ : ∀ c a w, Q (.panic c) (a.put oi.dst v) w → Q (.panic c) a w) (hy : YieldsIf P ops T oi v a) (hS : T w)
    (h : wpAnyL P md ops Q T s fuel (listed.setIfInBounds i true) (a.put oi.dst v) w) : wpAnyL P md ops Q T s (fuel + 1) listed a w :=
  wpAnyL_firstT hi (Region.noSelect_spec hs) hQ (Bool.and_eq_true _ _ ▸ hws).1 fuel listed a w (closed_of (Bool.and_eq_true _ _ ▸ hws).2) (Region.free_spec hi hf) (by simpa using hr) hy hS h
theorem wpAnyL_tkT (i : Nat) (v : Value) {oi : Oper} {fuel : Nat} {listed : Array Bool} {a : Act} {w : World} (hi : ops[i]? = some oi) (hy : ∀ w, T w → (execOp a.eval oi).run P w = .ok (.value v) w)
    (h : wpAnyL P md ops Q T s fuel (listed.setIfInBounds i true) (a.put oi.dst v) w)
    (hw : Region.wanted oi (yielded ops a.tmps) = true := by kernel_rfl) (hs : Region.noSelect ops = true := by kernel_rfl) (hf : Region.free md ops listed i = true := by kernel_rfl) (hr : (Region.ready md ops listed).contains i = true := by kernel_rfl) (hws : (waitsT md ops 6 s i && closedB md ops listed) = true := by kernel_rfl)
    (hQ : ∀ c a w, Q (.panic c) (a.put oi.dst v) w → Q (.panic c) a w := by exact fun _ _ _ h => h) (hS : T w := by assumption) : wpAnyL P md ops Q T s (fuel + 1) listed a w :=
  wpAnyL_takeT hi hs hf hr hws hQ (Or.inl ⟨hw, hy⟩) hS h
end
end Go.Proofs.Ytbnaegpjmiiihaa
