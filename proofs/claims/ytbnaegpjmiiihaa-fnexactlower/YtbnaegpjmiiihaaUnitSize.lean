/- The flat size of a list of statements: the model's word. -/
import Derived.Test.YtbnaegpjmiiihaaUnitBlock
namespace Go.Proofs.Ytbnaegpjmiiihaa
open Go.RowKit
def zF (Z : Nat → Int) (i : Nat) : Value := .int .i64 (Z i)
/-- What a statement becomes, by number. -/
def wI (s : SV) (Z : Nat → Int) : Int := if s.k = 1 then 1 else if s.k = 4 then Z s.proc.toNat else 2
def szTo (L : Nat → SV) (Z : Nat → Int) : Nat → Int
  | 0 => 0
  | k + 1 => szTo L Z k + wI (L k) Z
theorem wI_pos {s : SV} {Z : Nat → Int} (h : ∀ i, 0 ≤ Z i) : 0 ≤ wI s Z := by
  unfold wI
  split
  · omega
  · split
    · exact h _
    · omega
theorem wI_le {s : SV} {Z : Nat → Int} (h : ∀ i, Z i ≤ 2001) : wI s Z ≤ 2001 := by
  unfold wI
  split
  · omega
  · split
    · exact h _
    · omega
theorem szTo_mono {L : Nat → SV} {Z : Nat → Int} (h : ∀ i, 0 ≤ Z i) {k n : Nat} (hk : k ≤ n) : szTo L Z k ≤ szTo L Z n := by
  induction n with
  | zero => rw [show k = 0 by omega]; exact Int.le_refl _
  | succ n ih =>
    by_cases e : k = n + 1
    · rw [e]; exact Int.le_refl _
    · have := ih (by omega)
      have := wI_pos (s := L n) h
      show szTo L Z k ≤ szTo L Z n + wI (L n) Z
      omega
theorem szTo_pos {L : Nat → SV} {Z : Nat → Int} (h : ∀ i, 0 ≤ Z i) (k : Nat) : 0 ≤ szTo L Z k := szTo_mono h (Nat.zero_le k)
def capI (x : Int) : Int := if 2000 < x then 2001 else x

set_option maxRecDepth 20000 in
set_option maxHeartbeats 4000000 in
theorem l3Size_any (b n cap : Nat) (L : Nat → SV) (bz nz cz : Nat) (Z : Nat → Int) (w : World) (ln : n ≤ 1048576) (hA : Arr w b (n * 11) (stF L)) (hZ : At w bz 0 nz (zF Z)) (z0 : ∀ i, 0 ≤ Z i) (z1 : ∀ i, Z i ≤ 2001) (hp : ∀ j, j < n → (L j).k = 4 → 0 ≤ (L j).proc ∧ (L j).proc < nz) :
    Calls Try.prog 22 #[.slice (some ⟨b, 0, none⟩) n cap, .slice (some ⟨bz, 0, none⟩) nz cz] w fun e w' => e = .returned (.int .i64 (capI (szTo L Z n))) ∧ w' = w := by
  have HA : Hid (Arr w b (n * 11) (stF L)) := hA
  have HZ : Hid (At w bz 0 nz (zF Z)) := hZ
  have HP : Hid (∀ j, j < n → (L j).k = 4 → 0 ≤ (L j).proc ∧ (L j).proc < nz) := hp
  have Z0 : Hid (∀ i, 0 ≤ Z i) := z0
  have Z1 : Hid (∀ i, Z i ≤ 2001) := z1
  have lb := hA.lt
  have lbz := hZ.lt
  clear hA hZ hp z0 z1
  obtain ⟨res, hres⟩ : ∃ x, capI (szTo L Z n) = x := ⟨_, rfl⟩
  rw [hres]
  have HR : Hid (capI (szTo L Z n) = res) := hres
  clear hres
  go_enter Try.func22, Try.ntmps22
  go_wp2
  go_loopw [5, 6] (fun nv iv wr => ∃ j : Nat, j ≤ n ∧ iv = .int .i64 (j : Int) ∧ nv = .int .i64 (szTo L Z j) ∧ szTo L Z j ≤ 4001 ∧ wr = w) (fun _ iv _ => n - (intOf iv).toNat)
  case atStart => exact ⟨0, Nat.zero_le _, rfl, rfl, by simp [szTo], rfl⟩
  case round =>
    obtain ⟨j, hj, rfl, rfl, h4, rfl⟩ := hrel
    have p0 := szTo_pos (L := L) Z0.out j
    have HS : Hid (szTo L Z (j + 1) = szTo L Z j + wI (L j) Z) := rfl
    have HMN : Hid (szTo L Z j ≤ szTo L Z n) := szTo_mono Z0.out hj
    obtain ⟨x, hx⟩ : ∃ x, szTo L Z j = x := ⟨_, rfl⟩
    have HX : Hid (szTo L Z j = x) := hx
    rw [hx] at h4 p0 ⊢
    clear hx
    by_cases hlt : j < n
    · have hlt' : (j : Int) < (n : Int) := by omega
      obtain ⟨s0, _, _, _, _, _, _, _, _, _, s10⟩ := st_at HA.out j hlt
      by_cases hx2 : x ≤ 2000
      · have e0 : decide (x ≤ 2000) = true := by simp [hx2]
        by_cases k1 : (L j).k = 1
        · have e1 : ((L j).k == 1) = true := by simp [k1]
          have HW : Hid (wI (L j) Z = 1) := (by simp [wI, k1] : wI (L j) Z = 1)
          clear k1
          go_wp2
          go_roundw
          case rel => exact ⟨j + 1, by omega, by go_num, by rw [HS.out, HX.out, HW.out], by rw [HS.out, HX.out, HW.out]; omega, by first | rfl | trivial⟩
          case measure => simp [intOf]; omega
        · have e1 : ((L j).k == 1) = false := by simp [k1]
          by_cases k4 : (L j).k = 4
          · have e4 : ((L j).k == 4) = true := by simp [k4]
            obtain ⟨q0, q1⟩ := HP.out j hlt k4
            obtain ⟨q, hq⟩ : ∃ y : Nat, (L j).proc = (y : Int) := ⟨(L j).proc.toNat, by omega⟩
            have HW : Hid (wI (L j) Z = Z q) := (by simp [wI, k4, hq] : wI (L j) Z = Z q)
            rw [hq] at s10
            have hqn : q < nz := by omega
            have hqn' : (q : Int) < (nz : Int) := by omega
            have g0 : wr.cell? ⟨bz, q, none⟩ = some (.int .i64 (Z q)) := by have := HZ.out.cell hqn; rwa [Nat.zero_add] at this
            have y0 := Z0.out q
            have y1 := Z1.out q
            obtain ⟨y, hy⟩ : ∃ y, Z q = y := ⟨_, rfl⟩
            have HY : Hid (Z q = y) := hy
            rw [hy] at g0 y0 y1
            clear k1 k4 hy q0 q1 hq
            go_wp2
            go_roundw
            case rel => exact ⟨j + 1, by omega, by go_num, by rw [HS.out, HX.out, HW.out, HY.out], by rw [HS.out, HX.out, HW.out, HY.out]; omega, by first | rfl | trivial⟩
            case measure => simp [intOf]; omega
          · have e4 : ((L j).k == 4) = false := by simp [k4]
            have HW : Hid (wI (L j) Z = 2) := (by simp [wI, k1, k4] : wI (L j) Z = 2)
            clear k1 k4
            go_wp2
            go_roundw
            case rel => exact ⟨j + 1, by omega, by go_num, by rw [HS.out, HX.out, HW.out], by rw [HS.out, HX.out, HW.out]; omega, by first | rfl | trivial⟩
            case measure => simp [intOf]; omega
      · have e0 : decide (x ≤ 2000) = false := by simp; omega
        have e5 : decide (2000 < x) = true := by simp; omega
        go_wp2
        go_ret
        exact ⟨ret_int (by rw [← HR.out, capI, if_pos (by have := HMN.out; rw [HX.out] at this; omega)]), rfl⟩
    · obtain rfl : j = n := by omega
      have hlt' : ¬ (j : Int) < (j : Int) := by omega
      by_cases hx2 : x ≤ 2000
      · have e5 : decide (2000 < x) = false := by simp; omega
        go_wp2
        go_ret
        exact ⟨ret_int (by rw [← HR.out, capI, HX.out, if_neg (by omega)]), rfl⟩
      · have e5 : decide (2000 < x) = true := by simp; omega
        go_wp2
        go_ret
        exact ⟨ret_int (by rw [← HR.out, capI, HX.out, if_pos (by omega)]), rfl⟩
end Go.Proofs.Ytbnaegpjmiiihaa
