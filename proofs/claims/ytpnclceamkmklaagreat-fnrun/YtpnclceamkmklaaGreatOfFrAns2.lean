import Derived.Test.YtpnclceamkmklaaGreatDrawM4
import Derived.Test.YtpnclceamkmklaaGreatFrMach
import Derived.Test.YtpnclceamkmklaaGreatRunMath
import Derived.Test.YtpnclceamkmklaaGreatRunImpl
import Derived.Test.YtpnclceamkmklaaGreatRunSpec
/- Drawn machines as machines that came in. -/
namespace Go.Proofs.YtpnclceamkmklaaGreat
open Go.RowKit

theorem row_nl {u : World} {B e s n b0 k0 c : Nat} {a : Option Addr} {xs : List Value} {f f0 : Nat → Value} (h : u.ownsRow B e s (.slice a n c) n xs) (hb : Arr u b0 k0 f0) (hf : ∀ i, i < n * s → xs[i]? = some (f i)) : ∃ b, Nl a c n b ∧ Arr u b (n * s) f ∧ n ≤ c := by
  rcases h.2 with ⟨h', h0⟩ | ⟨g, cap, cur, h', h1, h2, h3, h4, h5, h6⟩
  · obtain ⟨rfl, _, rfl⟩ := Value.slice.inj h'
    subst h0
    exact ⟨b0, .inl ⟨rfl, rfl, rfl⟩, ⟨hb.1, hb.2.1, fun i hi => absurd hi (by omega)⟩, Nat.le_refl _⟩
  · obtain ⟨rfl, _, rfl⟩ := Value.slice.inj h'
    exact ⟨g, .inr rfl, ⟨(h.lt g rfl).2, fun i => h.frozenAt i, fun i hi => (h.cellAt i hi).trans (hf i hi)⟩, h3⟩
def hd0 : HD := ⟨0, false, .slice none 0 0, []⟩
def rL (rs : List Int) (i : Nat) : Int := rs.getD i 0
def hL (hs : List HD) (i : Nat) : HeapV := ⟨(hs.getD i hd0).base, (hs.getD i hd0).wr, none, (hs.getD i hd0).ds.length, 0, fun j => (hs.getD i hd0).ds.getD j 0⟩
def slA : Value → Option Addr
  | .slice a _ _ => a
  | _ => none
def slC : Value → Nat
  | .slice _ _ c => c
  | _ => 0
def aL (hs : List HD) (i : Nat) : Option Addr := slA (hs.getD i hd0).v
def cL (hs : List HD) (i : Nat) : Nat := slC (hs.getD i hd0).v
def kL (os : List (Int × Int)) (i : Nat) : Int := (os.getD i (0, 0)).1
def vL (os : List (Int × Int)) (i : Nat) : Int := (os.getD i (0, 0)).2
theorem map_at (k : IntKind) (rs : List Int) (i : Nat) (hi : i < rs.length) : (rs.map (.int k ·))[i]? = some (numF k (fun j => rs.getD j 0) i) := by
  rw [List.getElem?_map, List.getElem?_eq_getElem hi]
  simp [numF, List.getD_eq_getElem?_getD, List.getElem?_eq_getElem hi]
theorem hs_at : ∀ (hs : List HD), (∀ h ∈ hs, ∃ a c, h.v = .slice a h.ds.length c) → ∀ i, i < hs.length * 3 → (hs.flatMap hdC)[i]? = some (heapF (fun i => (hL hs i).put (aL hs i) (cL hs i)) i)
  | [], _, i, hi => by simp at hi
  | x :: l, hv, i, hi => by
    have key : ∀ j, heapF (fun i => (hL (x :: l) i).put (aL (x :: l) i) (cL (x :: l) i)) (j + 3) = heapF (fun i => (hL l i).put (aL l i) (cL l i)) j := fun j => by
      unfold heapF
      rw [show (j + 3) % 3 = j % 3 by omega, show (j + 3) / 3 = j / 3 + 1 by omega]
      rfl
    obtain ⟨a, c, ex⟩ := hv x (by simp)
    rw [List.flatMap_cons]
    match i, hi with
    | 0, _ => rfl
    | 1, _ => rfl
    | 2, _ =>
      show some x.v = some (Value.slice (slA x.v) x.ds.length (slC x.v))
      rw [ex]; rfl
    | j + 3, hi =>
      rw [List.getElem?_append_right (by show 3 ≤ j + 3; omega), show j + 3 - (hdC x).length = j by show j + 3 - 3 = j; omega, key j]
      exact hs_at l (fun h hh => hv h (by simp [hh])) j (by simp at hi; omega)
theorem os_at : ∀ (os : List (Int × Int)) (i : Nat), i < os.length * 2 → (os.flatMap obC)[i]? = some (obsF (kL os) (vL os) i)
  | [], i, hi => by simp at hi
  | x :: l, i, hi => by
    have key : ∀ j, obsF (kL (x :: l)) (vL (x :: l)) (j + 2) = obsF (kL l) (vL l) j := fun j => by
      unfold obsF
      rw [show (j + 2) % 2 = j % 2 by omega, show (j + 2) / 2 = j / 2 + 1 by omega]
      rfl
    rw [List.flatMap_cons]
    match i, hi with
    | 0, _ => rfl
    | 1, _ => rfl
    | j + 2, hi =>
      rw [List.getElem?_append_right (by show 2 ≤ j + 2; omega), show j + 2 - (obC x).length = j by show j + 2 - 2 = j; omega, key j]
      exact os_at l j (by simp at hi; omega)
theorem ML.g {B b0 k0 : Nat} {f0 : Nat → Value} {ra : Option Addr} {rc : Nat} {fz fc fhz fhc : Bool} {ha : Option Addr} {hcp : Nat} {pc st : Int} {oa : Option Addr} {oc : Nat} {rs : List Int} {hs : List HD} {os : List (Int × Int)} {u : World} (h : ML B ⟨.slice ra rs.length rc, fz, fc, fhz, fhc, .slice ha hs.length hcp, pc, st, .slice oa os.length oc, rs, hs, os⟩ u) (hb : Arr u b0 k0 f0) :
    ∃ bR bH bO, MachG u ra rc bR rs.length (rL rs) ha hcp bH hs.length (hL hs) (aL hs) (cL hs) oa oc bO os.length (kL os) (vL os) := by
  obtain ⟨bR, nR, aR, _⟩ := row_nl (f := numF .u64 (rL rs)) h.R hb (fun i hi => map_at .u64 rs i (by simpa using hi))
  obtain ⟨bH, nH, aH, lH⟩ := row_nl (f := heapF (fun i => (hL hs i).put (aL hs i) (cL hs i))) h.H hb (fun i hi => hs_at hs (fun x hx => row_slD (h.D x hx)) i hi)
  obtain ⟨bO, nO, aO, _⟩ := row_nl (f := obsF (kL os) (vL os)) h.O hb (fun i hi => os_at os i hi)
  rw [Nat.mul_one] at aR
  refine ⟨bR, bH, bO, aR, aH, fun i hi hl => ?_, aO, nR, nH, nO, lH⟩
  have hx : hs.getD i hd0 ∈ hs := by
    rw [List.getD_eq_getElem?_getD, List.getElem?_eq_getElem hi]
    exact List.getElem_mem hi
  have hD := h.D _ hx
  obtain ⟨a, c, ev⟩ := row_slD hD
  have hl' : 0 < (hs.getD i hd0).ds.length := hl
  rw [ev] at hD
  obtain ⟨b, nb, ab, _⟩ := row_nl (f := numF .u8 (fun j => (hs.getD i hd0).ds.getD j 0)) hD hb (fun j hj => map_at .u8 _ j (by simpa using hj))
  rw [Nat.mul_one] at ab
  refine ⟨b, ?_, ab⟩
  show slA (hs.getD i hd0).v = _
  rw [ev]
  exact nb.some hl'
theorem ML.range {B : Nat} {m : Md} {u : World} (h : ML B m u) : InRange (rL m.rs) m.hs.length (hL m.hs) := by
  refine ⟨fun i _ => ?_, fun i hi => ?_, fun i hi j hj => ?_⟩
  · show u64r (m.rs.getD i 0)
    rw [List.getD_eq_getElem?_getD]
    cases hc : m.rs[i]? with
    | none => exact ⟨Int.le_refl _, by decide⟩
    | some x => exact h.rr x (List.mem_of_getElem? hc)
  · have hx : m.hs.getD i hd0 ∈ m.hs := by
      rw [List.getD_eq_getElem?_getD, List.getElem?_eq_getElem hi]
      exact List.getElem_mem hi
    exact (h.hr _ hx).1
  · have hx : m.hs.getD i hd0 ∈ m.hs := by
      rw [List.getD_eq_getElem?_getD, List.getElem?_eq_getElem hi]
      exact List.getElem_mem hi
    show 0 ≤ (m.hs.getD i hd0).ds.getD j 0 ∧ _
    have hj' : j < (m.hs.getD i hd0).ds.length := hj
    have e : (m.hs.getD i hd0).ds.getD j 0 ∈ (m.hs.getD i hd0).ds := by
      rw [List.getD_eq_getElem?_getD (l := (m.hs.getD i hd0).ds), List.getElem?_eq_getElem hj']
      exact List.getElem_mem hj'
    exact (h.hr _ hx).2.2 _ e
theorem ML.small {B : Nat} {m : Md} {u : World} (h : ML B m u) (h1 : m.rs.length ≤ 8) (h2 : m.hs.length ≤ 4) (h3 : m.os.length ≤ 2) : Small m.rs.length m.hs.length (hL m.hs) m.os.length := by
  refine ⟨by omega, by omega, fun i hi => ?_, by omega⟩
  have hx : m.hs.getD i hd0 ∈ m.hs := by
    rw [List.getD_eq_getElem?_getD, List.getElem?_eq_getElem hi]
    exact List.getElem_mem hi
  have := (h.hr _ hx).2.1
  show (m.hs.getD i hd0).ds.length ≤ _
  omega
end Go.Proofs.YtpnclceamkmklaaGreat
/- Answers of RunMach as machines that came in. -/
namespace Go.Proofs.YtpnclceamkmklaaGreat
open Go.RowKit

theorem Mem.g {w : World} {base b0 k0 : Nat} {f0 : Nat → Value} {p : Pl} {M : MV} (h : Mem w base p M) (hb : Arr w b0 k0 f0) :
    ∃ bH bO, MachG w (some ⟨p.bR, 0, none⟩) p.cR p.bR 8 M.R p.aH p.cH bH M.nH M.Hp (fun i => some ⟨p.blk i, 0, none⟩) p.cap p.aO p.cO bO M.nO M.K M.V := by
  obtain ⟨bR, nR, aR, _⟩ := row_nl (f := numF .u64 M.R) h.regs hb (fun i hi => first_at (by omega))
  obtain ⟨bH, nH, aH, lH⟩ := row_nl (f := heapF (place M.Hp p.blk p.cap)) h.heaps hb (fun i hi => first_at hi)
  obtain ⟨bO, nO, aO, _⟩ := row_nl (f := obsF M.K M.V) h.obs hb (fun i hi => first_at hi)
  have eR : bR = p.bR := by
    have := nR.some (by decide)
    exact (congrArg Addr.block (Option.some.inj this)).symm
  subst eR
  rw [Nat.mul_one] at aR
  refine ⟨bH, bO, aR, aH, fun i hi hl => ?_, aO, nR, nH, nO, lH⟩
  obtain ⟨b, nb, ab, _⟩ := row_nl (f := numF .u8 (M.Hp i).dat) (h.data i hi) hb (fun j hj => first_at (by omega))
  rw [Nat.mul_one] at ab
  exact ⟨b, nb.some hl, ab⟩
/-- The machine of noughts. -/
theorem zero_g {w : World} {b0 k0 : Nat} {f0 : Nat → Value} (hb : Arr w b0 k0 f0) (R : Nat → Int) (Hp : Nat → HeapV) (hA : Nat → Option Addr) (hC : Nat → Nat) (K V : Nat → Int) : MachG w none 0 b0 0 R none 0 b0 0 Hp hA hC none 0 b0 0 K V := by
  have k : ∀ f, Arr w b0 0 f := fun f => ⟨hb.1, hb.2.1, fun i hi => absurd hi (by omega)⟩
  exact ⟨k _, by simpa using k _, fun i hi => absurd hi (by omega), by simpa using k _, .inl ⟨rfl, rfl, rfl⟩, .inl ⟨rfl, rfl, rfl⟩, .inl ⟨rfl, rfl, rfl⟩, Nat.le_refl _⟩
/-- Steps one behind the other. -/
theorem runM_add (len : Nat) (F : Nat → Nat → Int) : ∀ (a b : Nat) (M : MV), runM len F (a + b) M = runM len F b (runM len F a M)
  | 0, b, M => by rw [Nat.zero_add]; rfl
  | a + 1, b, M => by
    by_cases h : M.st = 0
    · rw [show a + 1 + b = (a + b) + 1 by omega, runM_step len F _ h, runM_step len F _ h]
      exact runM_add len F a b _
    · rw [runM_stop len F _ h, runM_stop len F _ h, runM_stop len F _ h]
end Go.Proofs.YtpnclceamkmklaaGreat
/- A machine that runs stays valid. -/
namespace Go.Proofs.YtpnclceamkmklaaGreat
open Go.RowKit

/-- What of validity a step could touch; the heaplets as they were laid out. -/
structure VM (M0 M : MV) : Prop where
  fz : M.z = true → M.hz = true
  fc : M.c = true → M.hc = true
  st : 0 ≤ M.st ∧ M.st ≤ 2
  K : ∀ i, i < M.nO → 1 ≤ M.K i ∧ M.K i ≤ 3
  nH : M.nH = M0.nH
  hp : ∀ i, (M.Hp i).base = (M0.Hp i).base ∧ (M.Hp i).len = (M0.Hp i).len
theorem VM.setR {M0 M : MV} (h : VM M0 M) (d : Nat) (v : Int) : VM M0 (M.setR d v) := ⟨h.fz, h.fc, h.st, h.K, h.nH, h.hp⟩
theorem VM.flags {M0 M : MV} (h : VM M0 M) (r : Int) (c : Bool) : VM M0 (M.flags r c) := ⟨fun _ => rfl, fun _ => rfl, h.st, h.K, h.nH, h.hp⟩
theorem VM.see {M0 M : MV} (h : VM M0 M) (k v : Int) (hk : 1 ≤ k ∧ k ≤ 3) : VM M0 (M.see k v) := by
  refine ⟨h.fz, h.fc, h.st, fun i hi => ?_, h.nH, h.hp⟩
  have hi' : i < M.nO + 1 := hi
  show 1 ≤ (if i = M.nO then k else M.K i) ∧ (if i = M.nO then k else M.K i) ≤ 3
  split
  · exact hk
  · exact h.K i (by omega)
theorem VM.fault {M0 M : MV} (h : VM M0 M) : VM M0 M.fault := ⟨h.fz, h.fc, ⟨by show (0 : Int) ≤ 2; omega, by show (2 : Int) ≤ 2; omega⟩, h.K, h.nH, h.hp⟩
theorem VM.poke {M0 M : MV} (h : VM M0 M) (k j : Nat) (u : Int) : VM M0 (M.poke k j u) := by
  refine ⟨h.fz, h.fc, h.st, h.K, h.nH, fun i => ?_⟩
  unfold MV.poke
  dsimp only
  split
  · exact h.hp i
  · exact h.hp i
theorem VM.pokeN {M0 M : MV} (h : VM M0 M) (k o : Nat) (v : Int) : ∀ n, VM M0 (M.pokeN k o v n)
  | 0 => h
  | n + 1 => (VM.pokeN h k o v n).poke k _ _
def vmO (M0 : MV) : Outc → Prop
  | .inl (M', _) => VM M0 M'
  | .inr M' => VM M0 M'
theorem memOp_vm {M0 M : MV} (h : VM M0 M) (s : Bool) (wd : Nat) (A : Int) (d hh : Nat) (nx : Int) : vmO M0 (memOp s wd A d hh M nx) := by
  unfold memOp
  split
  · exact h.see _ _ ⟨by decide, by decide⟩
  · split
    · split
      · exact (h.see _ _ ⟨by decide, by decide⟩).pokeN _ _ _ _
      · exact (h.see _ _ ⟨by decide, by decide⟩).setR _ _
    · exact h.see _ _ ⟨by decide, by decide⟩
theorem jumpOp_vm {M0 M : MV} (h : VM M0 M) (a b c : Bool) (imm nx : Int) : vmO M0 (jumpOp a b c imm M nx) := by
  unfold jumpOp
  split
  · split
    · exact h.see _ _ ⟨by decide, by decide⟩
    · exact h.see _ _ ⟨by decide, by decide⟩
  · exact h
theorem exec_vm {M0 M : MV} (hv : VM M0 M) (op d a b h : Nat) (imm nx : Int) : vmO M0 (exec op d a b h imm M nx) := by
  unfold exec
  split
  all_goals first
    | exact hv.setR _ _
    | exact hv.flags _ _
    | exact (hv.setR _ _).flags _ _
    | exact (hv.flags _ _).setR _ _
    | exact (hv.see _ _ ⟨by decide, by decide⟩).setR _ _
    | exact memOp_vm hv _ _ _ _ _ _
    | exact jumpOp_vm hv _ _ _ _ _
    | exact hv
    | (split
       · exact (hv.setR _ _).flags _ _
       · exact hv)
    | (split
       · exact hv.setR _ _
       · exact hv)
    | exact ⟨hv.fz, hv.fc, ⟨by show (0 : Int) ≤ 1; omega, by show (1 : Int) ≤ 2; omega⟩, hv.K, hv.nH, hv.hp⟩
theorem stepM_vm {M0 M : MV} (hv : VM M0 M) (len : Nat) (F : Nat → Nat → Int) : VM M0 (stepM len F M) := by
  by_cases h : (len : Int) ≤ M.pc
  · unfold stepM; rw [if_pos h]; exact hv.fault
  · rw [stepM_in len F M h]
    have := exec_vm hv (F M.pc.toNat 0).toNat (F M.pc.toNat 1).toNat (F M.pc.toNat 2).toNat (F M.pc.toNat 3).toNat (F M.pc.toNat 5).toNat (F M.pc.toNat 4) (M.pc + 1)
    generalize exec (F M.pc.toNat 0).toNat (F M.pc.toNat 1).toNat (F M.pc.toNat 2).toNat (F M.pc.toNat 3).toNat (F M.pc.toNat 5).toNat (F M.pc.toNat 4) M (M.pc + 1) = o at this
    cases o with
    | inl q => obtain ⟨M', nx⟩ := q; exact ⟨this.fz, this.fc, this.st, this.K, this.nH, this.hp⟩
    | inr M' => exact VM.fault this
theorem runM_vm {M0 : MV} (len : Nat) (F : Nat → Nat → Int) : ∀ (k : Nat) (M : MV), VM M0 M → VM M0 (runM len F k M)
  | 0, M, h => h
  | k + 1, M, h => by
    show VM M0 (if M.st = 0 then _ else M)
    split
    · exact runM_vm len F k _ (stepM_vm h len F)
    · exact h
end Go.Proofs.YtpnclceamkmklaaGreat
/- The count of a machine that runs stays in its bounds; it is valid. -/
namespace Go.Proofs.YtpnclceamkmklaaGreat
open Go.RowKit

def puO : Outc → Prop
  | .inl (_, n) => n ≤ 2000
  | .inr M' => M'.pc ≤ 2000
theorem memOp_pu (s : Bool) (wd : Nat) (A : Int) (d h : Nat) (M : MV) (nx : Int) (h0 : nx ≤ 2000) (hp : M.pc ≤ 2000) : puO (memOp s wd A d h M nx) := by
  unfold memOp
  split
  · exact hp
  · split
    · split
      · exact h0
      · exact h0
    · exact hp
theorem jumpOp_pu (a b c : Bool) (imm : Int) (M : MV) (nx : Int) (h0 : nx ≤ 2000) (hp : M.pc ≤ 2000) (hi : imm ≤ 2000) : puO (jumpOp a b c imm M nx) := by
  unfold jumpOp
  split
  · split
    · exact hi
    · exact h0
  · exact hp
theorem exec_pu (op d a b h : Nat) (imm : Int) (M : MV) (nx : Int) (h0 : nx ≤ 2000) (hp : M.pc ≤ 2000) (hj : (29 ≤ op ∧ op ≤ 33) → imm ≤ 2000) : puO (exec op d a b h imm M nx) := by
  unfold exec
  split
  all_goals first
    | exact h0
    | exact memOp_pu _ _ _ _ _ _ _ h0 hp
    | exact jumpOp_pu _ _ _ _ _ _ h0 hp (hj (by decide))
    | exact hj (by decide)
    | exact hp
    | (split
       · exact h0
       · exact hp)
theorem flat_jump {len : Nat} {F : Nat → Nat → Int} (hf : flatOK len F = true) {q : Nat} (hq : q < len) (h1 : 29 ≤ F q 0) (h2 : F q 0 ≤ 33) : F q 4 < len ∧ len ≤ 2000 := by
  unfold flatOK at hf
  simp only [Bool.and_eq_true, decide_eq_true_eq, List.all_eq_true, List.mem_range] at hf
  have := hf.1.2 q hq
  unfold flatAt jumpB at this
  simp only [Bool.and_eq_true, Bool.not_eq_true', Bool.and_eq_false_iff, decide_eq_false_iff_not] at this
  have h3 := this.2
  exact ⟨by omega, hf.1.1.2⟩
theorem flat_len {len : Nat} {F : Nat → Nat → Int} (hf : flatOK len F = true) : len ≤ 2000 := by
  unfold flatOK at hf
  simp only [Bool.and_eq_true, decide_eq_true_eq] at hf
  exact hf.1.1.2
theorem stepM_pu {len : Nat} {F : Nat → Nat → Int} (hf : flatOK len F = true) {M : MV} (h0 : 0 ≤ M.pc) (h : M.pc ≤ 2000) : (stepM len F M).pc ≤ 2000 := by
  by_cases hpc : (len : Int) ≤ M.pc
  · unfold stepM; rw [if_pos hpc]; exact h
  · rw [stepM_in len F M hpc]
    have hl := flat_len hf
    have hq := exec_pu (F M.pc.toNat 0).toNat (F M.pc.toNat 1).toNat (F M.pc.toNat 2).toNat (F M.pc.toNat 3).toNat (F M.pc.toNat 5).toNat (F M.pc.toNat 4) M (M.pc + 1) (by omega) h (fun hj => by have := flat_jump hf (q := M.pc.toNat) (by omega) (by omega) (by omega); omega)
    generalize exec (F M.pc.toNat 0).toNat (F M.pc.toNat 1).toNat (F M.pc.toNat 2).toNat (F M.pc.toNat 3).toNat (F M.pc.toNat 5).toNat (F M.pc.toNat 4) M (M.pc + 1) = o at hq
    cases o with
    | inl q => obtain ⟨M', nx⟩ := q; exact hq
    | inr M' => exact hq
theorem runM_go {len : Nat} {F : Nat → Nat → Int} (hf : flatOK len F = true) : ∀ (k : Nat) (M : MV) (n : Nat), Going M n → M.pc ≤ 2000 → Going (runM len F k M) (n + k) ∧ (runM len F k M).pc ≤ 2000
  | 0, M, n, h, hp => ⟨h, hp⟩
  | k + 1, M, n, h, hp => by
    show Going (if M.st = 0 then _ else M) _ ∧ (if M.st = 0 then _ else M).pc ≤ 2000
    split
    · have := runM_go hf k (stepM len F M) (n + 1) (stepM_going hf h) (stepM_pu hf h.pc hp)
      rw [show n + (k + 1) = n + 1 + k by omega]
      exact this
    · exact ⟨⟨h.ok, h.pc, by have := h.seen; omega⟩, hp⟩
theorem heaps_same {n : Nat} {Hp Hq : Nat → HeapV} (h : ∀ i, (Hq i).base = (Hp i).base ∧ (Hq i).len = (Hp i).len) : heapsOK n Hq = heapsOK n Hp := by
  have e1 : ∀ i j, apartAt Hq i j = apartAt Hp i j := fun i j => by unfold apartAt; rw [(h i).1, (h i).2, (h j).1, (h j).2]
  have e2 : heapAt Hq = heapAt Hp := by
    funext i
    unfold heapAt
    rw [(h i).1, (h i).2, show apartAt Hq i = apartAt Hp i from funext (e1 i)]
  unfold heapsOK
  rw [e2]
/-- Valid machines stay so. -/
theorem runM_valid {len : Nat} {F : Nat → Nat → Int} (hf : flatOK len F = true) {R : Nat → Int} {z c hz hc : Bool} {nH : Nat} {Hp : Nat → HeapV} {pc st : Int} {nO : Nat} {K V : Nat → Int} (hm : machOK 8 z c hz hc nH Hp pc st nO K = true) (hr : InRange R nH Hp) (k : Nat) (hk : nO + k ≤ 200000) :
    let M := runM len F k { R := R, z := z, c := c, hz := hz, hc := hc, nH := nH, Hp := Hp, pc := pc, st := st, nO := nO, K := K, V := V }
    machOK 8 M.z M.c M.hz M.hc M.nH M.Hp M.pc M.st M.nO M.K = true ∧ Going M (nO + k) := by
  intro M
  have ok := mach_ok (V := V) hm hr
  have hm' := hm
  unfold machOK seenOK inB at hm'
  simp only [Bool.and_eq_true, Bool.or_eq_true, Bool.not_eq_true', decide_eq_true_eq, List.all_eq_true, List.mem_range] at hm'
  obtain ⟨⟨⟨⟨⟨⟨_, h2⟩, h3⟩, h4⟩, h5⟩, h6⟩, h7, h8⟩ := hm'
  have v0 : VM { R := R, z := z, c := c, hz := hz, hc := hc, nH := nH, Hp := Hp, pc := pc, st := st, nO := nO, K := K, V := V } { R := R, z := z, c := c, hz := hz, hc := hc, nH := nH, Hp := Hp, pc := pc, st := st, nO := nO, K := K, V := V } :=
    ⟨fun hz' => h2.elim id (fun e => by rw [show z = true from hz'] at e; cases e), fun hc' => h3.elim id (fun e => by rw [show c = true from hc'] at e; cases e), h6, fun i hi => h8 i hi, rfl, fun _ => ⟨rfl, rfl⟩⟩
  have v := runM_vm len F k _ v0
  have g := runM_go hf k _ nO (⟨ok, h5.1, Nat.le_refl _⟩ : Going { R := R, z := z, c := c, hz := hz, hc := hc, nH := nH, Hp := Hp, pc := pc, st := st, nO := nO, K := K, V := V } nO) h5.2
  refine ⟨?_, g.1⟩
  unfold machOK seenOK inB
  simp only [Bool.and_eq_true, Bool.or_eq_true, Bool.not_eq_true', decide_eq_true_eq, List.all_eq_true, List.mem_range]
  refine ⟨⟨⟨⟨⟨⟨trivial, ?_⟩, ?_⟩, ?_⟩, ⟨g.1.pc, g.2⟩⟩, v.st⟩, Nat.le_trans g.1.seen hk, fun i hi => v.K i hi⟩
  · cases hzz : M.z with
    | false => exact .inr rfl
    | true => exact .inl (v.fz hzz)
  · cases hcc : M.c with
    | false => exact .inr rfl
    | true => exact .inl (v.fc hcc)
  · have e := heaps_same (n := nH) (Hp := Hp) (Hq := M.Hp) v.hp
    have en : M.nH = nH := v.nH
    rw [en, e]; exact h4
end Go.Proofs.YtpnclceamkmklaaGreat
/- FnRun: answers, and what is known of them. -/
namespace Go.Proofs.YtpnclceamkmklaaGreat
open Go.RowKit

theorem ic_arr {u : World} {B bP cP : Nat} {ys : List IV} (h : u.ownsRow B 59 6 (.slice (some ⟨bP, 0, none⟩) ys.length cP) ys.length (ic ys)) : Arr u bP (ys.length * 6) (insF (icF ys)) :=
  ⟨(h.lt bP rfl).2, fun i => h.frozenAt i, fun i hi => (h.cellAt i hi).trans (ic_get ys i hi)⟩
theorem ML.form {B : Nat} {m : Md} {u : World} (h : ML B m u) : ∃ (ra : Option Addr) (rc : Nat) (ha : Option Addr) (hcp : Nat) (oa : Option Addr) (oc : Nat), m.vR = .slice ra m.rs.length rc ∧ m.vH = .slice ha m.hs.length hcp ∧ m.vO = .slice oa m.os.length oc := by
  obtain ⟨ra, rc, hvR⟩ := row_slD h.R
  obtain ⟨ha, hcp, hvH⟩ := row_slD h.H
  obtain ⟨oa, oc, hvO⟩ := row_slD h.O
  exact ⟨ra, rc, ha, hcp, oa, oc, hvR, hvH, hvO⟩
def mZ : MV := { R := fun _ => 0, z := false, c := false, hz := false, hc := false, nH := 0, Hp := fun _ => ⟨0, false, none, 0, 0, fun _ => 0⟩, pc := 0, st := 0, nO := 0, K := fun _ => 0, V := fun _ => 0 }
def mOf : Option MV → MV
  | none => mZ
  | some M => M
def rOf : Option MV → Nat
  | none => 0
  | some _ => 8
/-- A machine's value, and where its lists lie. -/
def Lies (w : World) (v : Value) (nR : Nat) (M : MV) : Prop :=
  ∃ (xR : Option Addr) (yR bR : Nat) (xH : Option Addr) (yH bH : Nat) (hA : Nat → Option Addr) (hC : Nat → Nat) (xO : Option Addr) (yO bO : Nat),
    v = .agg #[.slice xR nR yR, .bool M.z, .bool M.c, .bool M.hz, .bool M.hc, .slice xH M.nH yH, .int .i64 M.pc, .int .i64 M.st, .slice xO M.nO yO] ∧ MachG w xR yR bR nR M.R xH yH bH M.nH M.Hp hA hC xO yO bO M.nO M.K M.V
theorem Ans.lies {w : World} {base b0 k0 : Nat} {f0 : Nat → Value} {v : Value} {o : Option MV} (h : Ans w base v o) (hb : Arr w b0 k0 f0) : Lies w v (rOf o) (mOf o) := by
  cases o with
  | none => exact ⟨none, 0, b0, none, 0, b0, fun _ => none, fun _ => 0, none, 0, b0, h, zero_g hb _ _ _ _ _ _⟩
  | some M =>
    obtain ⟨p, h1, h2⟩ := h
    obtain ⟨bH, bO, g⟩ := h2.g hb
    exact ⟨_, _, _, _, _, _, _, _, _, _, _, h1, g⟩
/-- What the calls ask of a machine. -/
structure Fit (nR : Nat) (M : MV) : Prop where
  small : Small nR M.nH M.Hp M.nO
  range : InRange M.R M.nH M.Hp
  full : ∀ i, i < M.nH → 1 ≤ (M.Hp i).len ∧ ∀ j, j < (M.Hp i).len → 0 ≤ (M.Hp i).dat j ∧ (M.Hp i).dat j ≤ 255
theorem Going.fit {M : MV} {n : Nat} (h : Going M n) (hn : n ≤ 1048576) : Fit 8 M :=
  ⟨⟨by omega, by have := h.ok.heaps; omega, fun i hi => by have := h.ok.heap i hi; omega, Nat.le_trans h.seen hn⟩, ⟨h.ok.reg, fun i hi => by have := h.ok.heap i hi; omega, h.ok.dat⟩, fun i hi => ⟨(h.ok.heap i hi).2.1, h.ok.dat i hi⟩⟩
theorem fit_zero : Fit 0 mZ := by
  refine ⟨⟨by omega, Nat.zero_le _, fun i hi => absurd hi (Nat.not_lt_zero _), Nat.zero_le _⟩, ⟨fun i _ => ⟨Int.le_refl _, by show (0 : Int) ≤ _; decide⟩, fun i hi => absurd hi (Nat.not_lt_zero _), fun i hi => absurd hi (Nat.not_lt_zero _)⟩, fun i hi => absurd hi (Nat.not_lt_zero _)⟩
/-- The program and the machine are valid. -/
def Live (len : Nat) (F : Nat → Nat → Int) (nR : Nat) (M : MV) : Prop := flatOK len F = true ∧ machOK nR M.z M.c M.hz M.hc M.nH M.Hp M.pc M.st M.nO M.K = true
theorem Live.eight {len : Nat} {F : Nat → Nat → Int} {nR : Nat} {M : MV} (h : Live len F nR M) : nR = 8 := (mach_facts h.2).1
theorem runA_live {len : Nat} {F : Nat → Nat → Int} {nR : Nat} {M : MV} (h : Live len F nR M) (hO : M.nO ≤ 1000) (k : Nat) (hk : k ≤ 1000) : runA len F nR M k = some (runM len F k M) := by
  unfold runA
  rw [if_pos, Int.toNat_natCast]
  rw [h.1, h.2]
  simp [inB]
  omega
theorem runA_dead {len : Nat} {F : Nat → Nat → Int} {nR : Nat} {M : MV} (h : ¬ Live len F nR M) (k : Int) : runA len F nR M k = none := by
  unfold runA
  rw [if_neg]
  intro q
  simp only [Bool.and_eq_true] at q
  exact h ⟨q.1.1, q.1.2⟩
theorem stepA_live {len : Nat} {F : Nat → Nat → Int} {nR : Nat} {M : MV} (h : Live len F nR M) : stepA len F nR M = some (runM len F 1 M) := by
  unfold stepA
  rw [if_pos (by rw [h.1, h.2]; rfl)]
  rfl
theorem live_run {len : Nat} {F : Nat → Nat → Int} {nR : Nat} {M : MV} (h : Live len F nR M) (hr : InRange M.R M.nH M.Hp) (hO : M.nO ≤ 1000) (k : Nat) (hk : k ≤ 1000) :
    Live len F 8 (runM len F k M) ∧ Fit 8 (runM len F k M) ∧ (runM len F k M).nO ≤ M.nO + k := by
  obtain ⟨R, z, c, hz, hc, nH, Hp, pc, st, nO, K, V⟩ := M
  obtain rfl := h.eight
  have hO' : nO ≤ 1000 := hO
  have hk' : nO + k ≤ 200000 := by omega
  have := runM_valid (V := V) h.1 h.2 hr k hk'
  exact ⟨⟨h.1, this.1⟩, this.2.fit (by have := hk'; show nO + k ≤ _; omega), this.2.seen⟩
theorem fit_run {len : Nat} {F : Nat → Nat → Int} {nR : Nat} {M : MV} (hr : InRange M.R M.nH M.Hp) (hO : M.nO ≤ 1000) (k : Nat) (hk : k ≤ 1000) : Fit (rOf (runA len F nR M k)) (mOf (runA len F nR M k)) := by
  by_cases h : Live len F nR M
  · rw [runA_live h hO k hk]
    exact (live_run h hr hO k hk).2.1
  · rw [runA_dead h]
    exact fit_zero
/-- A machine's variable. -/
def MVar (w : World) (q nR : Nat) (M : MV) (xR : Option Addr) (yR bR : Nat) (xH : Option Addr) (yH bH : Nat) (hA : Nat → Option Addr) (hC : Nat → Nat) (xO : Option Addr) (yO bO : Nat) : Prop :=
  w.heap[q]? = some (.cells #[.slice xR nR yR, .bool M.z, .bool M.c, .bool M.hz, .bool M.hc, .slice xH M.nH yH, .int .i64 M.pc, .int .i64 M.st, .slice xO M.nO yO] 28) ∧ MachG w xR yR bR nR M.R xH yH bH M.nH M.Hp hA hC xO yO bO M.nO M.K M.V
theorem MVar.below {w w' : World} {q nR : Nat} {M : MV} {xR : Option Addr} {yR bR : Nat} {xH : Option Addr} {yH bH : Nat} {hA : Nat → Option Addr} {hC : Nat → Nat} {xO : Option Addr} {yO bO : Nat} (h : MVar w q nR M xR yR bR xH yH bH hA hC xO yO bO) (hb : Below w.heap.size w w') : MVar w' q nR M xR yR bR xH yH bH hA hC xO yO bO :=
  ⟨(hb.block q (Array.getElem?_eq_some_iff.1 h.1).1).trans h.1, h.2.below hb (Nat.le_refl _)⟩
theorem MVar.new {w : World} {nR : Nat} {M : MV} {xR : Option Addr} {yR bR : Nat} {xH : Option Addr} {yH bH : Nat} {hA : Nat → Option Addr} {hC : Nat → Nat} {xO : Option Addr} {yO bO : Nat} (h : MachG w xR yR bR nR M.R xH yH bH M.nH M.Hp hA hC xO yO bO M.nO M.K M.V) :
    ∃ y, w.alloc (.cells #[.slice xR nR yR, .bool M.z, .bool M.c, .bool M.hz, .bool M.hc, .slice xH M.nH yH, .int .i64 M.pc, .int .i64 M.st, .slice xO M.nO yO] 28) = y ∧ Below w.heap.size w y ∧ MVar y w.heap.size nR M xR yR bR xH yH bH hA hC xO yO bO :=
  ⟨_, rfl, (Below.refl _ _).alloc (Nat.le_refl _) _, hq_new _ _, h.below ((Below.refl _ _).alloc (Nat.le_refl _) _) (Nat.le_refl _)⟩
theorem drawRun_any (ao : Option Addr) (n cap : Nat) (w : World) (hn : n ≤ 1048576) (hr : Bytes0 w w.heap.size ao n) :
    Calls Tryz.prog 4 #[.slice ao n cap] w fun e w' => ∃ (bP cP len : Nat) (F : Nat → Nat → Int) (s : Int) (nR : Nat) (M : MV) (xR : Option Addr) (yR bR : Nat) (xH : Option Addr) (yH bH : Nat) (hA : Nat → Option Addr) (hC : Nat → Nat) (xO : Option Addr) (yO bO : Nat),
      e = .returned (.tuple #[.slice (some ⟨bP, 0, none⟩) len cP, .agg #[.slice xR nR yR, .bool M.z, .bool M.c, .bool M.hz, .bool M.hc, .slice xH M.nH yH, .int .i64 M.pc, .int .i64 M.st, .slice xO M.nO yO], .int .i64 s]) ∧ len ≤ 2100 ∧ Arr w' bP (len * 6) (insF F) ∧ MachG w' xR yR bR nR M.R xH yH bH M.nH M.Hp hA hC xO yO bO M.nO M.K M.V ∧ Small nR M.nH M.Hp M.nO ∧ InRange M.R M.nH M.Hp ∧ M.nO ≤ 2 ∧ Below w.heap.size w w' := by
  refine (DrawRunMach_any ao n cap w hn hr).mono ?_
  rintro e w1 ⟨bP, cP, ys, m, s, rfl, y1, y2, hp, h1, h2, h3, hm, b1⟩
  obtain ⟨ra, rc, ha, hcp, oa, oc, e1, e2, e3⟩ := hm.form
  obtain ⟨vR, fz, fc, fhz, fhc, vH, pc, st, vO, rs, hs, os⟩ := m
  dsimp only at e1 e2 e3 h1 h2 h3
  subst e1 e2 e3
  obtain ⟨bR, bH, bO, hg⟩ := hm.g (ic_arr hp)
  exact ⟨bP, cP, ys.length, icF ys, s, rs.length, { R := rL rs, z := fz, c := fc, hz := fhz, hc := fhc, nH := hs.length, Hp := hL hs, pc := pc, st := st, nO := os.length, K := kL os, V := vL os }, ra, rc, bR, ha, hcp, bH, aL hs, cL hs, oa, oc, bO, rfl, y2, ic_arr hp, hg, hm.small h1 h2 h3, hm.range, h3, b1⟩
end Go.Proofs.YtpnclceamkmklaaGreat
