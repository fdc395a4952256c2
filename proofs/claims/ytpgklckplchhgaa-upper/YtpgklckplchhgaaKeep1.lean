/-
  The walks over the statement's own helpers: pick, num, method, file, tower, may, above.
-/
import Derived.Test.YtpgklckplchhgaaCallsK
namespace Go.Proofs.Ytpgklckplchhgaa
open Go.RowKit

/-- pick -/
def Kp1.pk (c n : Int) : Int := if c < 0 then (-(c + 1)) % n else c % n
theorem pk_bd (c n : Int) (hn : 0 < n) : 0 ≤ Kp1.pk c n ∧ Kp1.pk c n < n := by
  unfold Kp1.pk
  split
  · exact ⟨Int.emod_nonneg _ (by omega), Int.emod_lt_of_pos _ hn⟩
  · exact ⟨Int.emod_nonneg _ (by omega), Int.emod_lt_of_pos _ hn⟩

set_option maxRecDepth 100000 in
set_option maxHeartbeats 1000000 in
theorem pick_any (c n : Int) (w : World) (hc0 : -9223372036854775808 ≤ c) (hc1 : c ≤ 9223372036854775807) (hn : 0 < n) (hn1 : n ≤ 1000) :
    Calls Try.prog 12 #[.int .i64 c, .int .i64 n] w fun e w' => e = .returned (.int .i64 (Kp1.pk c n)) ∧ w = w' := by
  unfold Kp1.pk
  by_cases h : c < 0
  · rw [if_pos h]
    go_enter Try.func12, Try.ntmps12
    go_wp2
    go_ret
    exact ⟨ret_int (by rw [← Int.neg_tmod, Int.tmod_eq_emod_of_nonneg (by omega)]), rfl⟩
  · rw [if_neg h]
    go_enter Try.func12, Try.ntmps12
    go_wp2
    go_ret
    exact ⟨rfl, rfl⟩

set_option maxRecDepth 100000 in
set_option maxHeartbeats 1000000 in
theorem num_any (n : Int) (w : World) (h0 : 0 ≤ n) (h1 : n ≤ 255) :
    Calls Try.prog 13 #[.int .i64 n] w fun e w' => e = .returned (.string ⟨#[n.toNat.toUInt8]⟩) ∧ Below w.heap.size w w' := by
  have hk : (convert 49 9 (.slice (some ⟨w.heap.size, 0, none⟩) 1 1)).run Try.prog (w.alloc (.cells #[.int .u8 n] 5)) = .ok (.string ⟨#[n.toNat.toUInt8]⟩) (w.alloc (.cells #[.int .u8 n] 5)) := by
    refine run_convert_bytes_back (P := Try.prog) _ _ _ 5 _ 1 [n.toNat.toUInt8] Try.underlying49 Try.underlying5 Try.underlying9 ?_
    intro j hj
    have hj0 : j = 0 := by simp at hj; omega
    subst hj0
    have h2 := cells_new w [.int .u8 n] 5 w.heap.size rfl 0 (.int .u8 n) rfl
    rw [h2]
    simp
    omega
  go_enter Try.func13, Try.ntmps13
  go_wp2
  go_ret
  exact ⟨rfl, (Below.refl _ _).alloc (Nat.le_refl _) _⟩

theorem ret_str {a b : ByteArray} (h : a = b) : Ending.returned (.string a) = .returned (.string b) := by rw [h]

set_option maxRecDepth 100000 in
set_option maxHeartbeats 2000000 in
theorem method_str (w : World) :
    Calls Try.prog 14 #[.string ⟨#[255, 0, 0]⟩, .string ⟨#[0, 0]⟩, .int .i64 0, .int .i64 0, .string ⟨#[22]⟩, .string ⟨#[]⟩] w fun e w' =>
      e = .returned (.string ⟨#[255, 0, 0, 0, 0, 0, 0, 1, 22, 0, 0]⟩) ∧ Below w.heap.size w w' := by
  go_enter Try.func14, Try.ntmps14
  go_wp2_with fail
  refine (num_any 0 _ (by omega) (by omega)).mono ?_
  rintro e w1 ⟨rfl, hb1⟩
  go_wp2_with fail
  refine (num_any 0 _ (by omega) (by omega)).mono ?_
  rintro e w2 ⟨rfl, hb2⟩
  go_wp2_with fail
  refine (num_any 1 _ (by omega) (by omega)).mono ?_
  rintro e w3 ⟨rfl, hb3⟩
  go_wp2_with fail
  refine (num_any 0 _ (by omega) (by omega)).mono ?_
  rintro e w4 ⟨rfl, hb4⟩
  go_wp2_with fail
  refine (num_any 0 _ (by omega) (by omega)).mono ?_
  rintro e w5 ⟨rfl, hb5⟩
  have hB : Below w.heap.size w w5 := by
    have h2 := hb1.trans (hb2.mono hb1.size)
    have h3 := h2.trans (hb3.mono h2.size)
    have h4 := h3.trans (hb4.mono h3.size)
    exact h4.trans (hb5.mono h4.size)
  go_wp2
  go_ret
  exact ⟨ret_str (by simp only [ByteArray.mk_append_mk]; rfl), hB⟩

set_option maxRecDepth 100000 in
set_option maxHeartbeats 2000000 in
theorem file_str (n : Int) (cl m : ByteArray) (w : World) (h0 : 0 ≤ n) (h1 : n ≤ 6) (hc : cl.size ≤ 1000) (hm : m.size ≤ 1000) :
    Calls Try.prog 15 #[.int .i64 n, .string cl, .int .i64 1, .string m] w fun e w' =>
      e = .returned (.string (⟨#[83, 77]⟩ ++ ⟨#[n.toNat.toUInt8]⟩ ++ cl ++ ⟨#[1]⟩ ++ m)) ∧ Below w.heap.size w w' := by
  go_enter Try.func15, Try.ntmps15
  go_wp2_with fail
  refine (num_any n _ (by omega) (by omega)).mono ?_
  rintro e w1 ⟨rfl, hb1⟩
  go_wp2_with fail
  refine (num_any 1 _ (by omega) (by omega)).mono ?_
  rintro e w2 ⟨rfl, hb2⟩
  go_wp2
  go_ret
  exact ⟨rfl, hb1.trans (hb2.mono hb1.size)⟩

/-- the numbers of a slice, as they lie in memory -/
def UpsIn (w : World) (a : Option Addr) (len : Nat) (zs : Nat → Int) : Prop :=
  ∀ k, k < len → (∃ b off, a = some ⟨b, off, none⟩ ∧ b < w.heap.size ∧ w.cell? ⟨b, off + k, none⟩ = some (.int .i64 (zs k))) ∧ -9223372036854775808 ≤ zs k ∧ zs k ≤ 9223372036854775807
theorem UpsIn.below {w w' : World} {a : Option Addr} {len : Nat} {zs : Nat → Int} (h : UpsIn w a len zs) (hb : Below w.heap.size w w') : UpsIn w' a len zs := by
  intro k hk
  obtain ⟨⟨b, off, e1, e2, e3⟩, e4⟩ := h k hk
  exact ⟨⟨b, off, e1, Nat.lt_of_lt_of_le e2 hb.size, by rw [hb.cell (p := ⟨b, off + k, none⟩) e2]; exact e3⟩, e4⟩

/-- the classes of a tower -/
def Kp1.tw (zs : Nat → Int) : Nat → List UInt8
  | 0 => []
  | k + 1 => Kp1.tw zs k ++ [(Kp1.pk (zs k) (7 + (k : Int))).toNat.toUInt8, 0]
theorem tw_len (zs : Nat → Int) (k : Nat) : (Kp1.tw zs k).length = 2 * k := by
  induction k with
  | zero => rfl
  | succ j ih => simp [Kp1.tw, ih]; omega
def Kp1.towerL (zs : Nat → Int) (n : Nat) : List UInt8 := [83, 77, n.toUInt8] ++ Kp1.tw zs n ++ [1, 255, 0, 0, 0, 0, 0, 0, 1, 22, 0, 0]

theorem size2 (sb : ByteArray) (x y : UInt8) (k : Nat) (h : sb.size ≤ 2 * k) : (sb ++ ⟨#[x]⟩ ++ ⟨#[y]⟩ : ByteArray).size ≤ 2 * (k + 1) := by
  have i1 : (⟨#[x]⟩ : ByteArray).size = 1 := rfl
  have i2 : (⟨#[y]⟩ : ByteArray).size = 1 := rfl
  rw [ByteArray.size_append, ByteArray.size_append]
  omega

set_option maxRecDepth 100000 in
set_option maxHeartbeats 4000000 in
theorem tower_any (a : Option Addr) (len cap : Nat) (zs : Nat → Int) (w : World) (hlen : len ≤ 9223372036854775807) (hU : UpsIn w a len zs) :
    Calls Try.prog 5 #[.slice a len cap] w fun e w' =>
      ∃ s : ByteArray, e = .returned (.tuple #[.string s, .int .i64 (7 + ((min len 6 : Nat) : Int))]) ∧ s.data.toList = Kp1.towerL zs (min len 6) ∧ Below w.heap.size w w' := by
  obtain ⟨n, hn, hn6, hnl, hnv⟩ : ∃ n : Nat, min len 6 = n ∧ n ≤ 6 ∧ n ≤ len ∧ (n = 6 ∨ n = len) := ⟨min len 6, rfl, by omega, by omega, by omega⟩
  rw [hn]
  clear hn
  by_cases h6 : 6 < len
  · have h6' : (6 : Int) < (len : Int) := by omega
    obtain rfl : n = 6 := by omega
    clear hnv hn6
    go_enter Try.func5, Try.ntmps5
    go_wp2
    go_loopw [5, 6] (fun v i wr => ∃ (k : Nat) (sb : ByteArray), k ≤ 6 ∧ i = .int .i64 k ∧ v = .string sb ∧ sb.size ≤ 2 * k ∧ Hid (sb.data.toList = Kp1.tw zs k) ∧ Below w.heap.size w wr)
      (fun _ i _ => 6 - (intOf i).toNat)
    case atStart => exact ⟨0, _, by omega, rfl, rfl, by decide, rfl, Below.refl _ _⟩
    case round =>
      obtain ⟨k, sb, hk, rfl, rfl, hsb, HS, hB⟩ := hrel
      have hBs := hB.size
      by_cases hkn : k < 6
      · obtain ⟨⟨b, off, e1, e2, e3⟩, e4, e5⟩ := (hU.below hB) k (by omega)
        generalize hz : zs k = z at *
        have HZ := hide hz
        clear hz
        subst e1
        go_wp2_with fail
        refine (pick_any z _ _ e4 e5 (by omega) (by omega)).mono ?_
        rintro e w1 ⟨rfl, rfl⟩
        have hpb := pk_bd z (7 + (k : Int)) (by omega)
        generalize hpk : Kp1.pk z (7 + (k : Int)) = pk at *
        obtain ⟨hpb0, hpb1⟩ := hpb
        have HPK := hide hpk
        clear hpk
        go_wp2_with fail
        refine (num_any pk _ (by omega) (by omega)).mono ?_
        rintro e w2 ⟨rfl, hb2⟩
        go_wp2_with fail
        refine (num_any 0 _ (by omega) (by omega)).mono ?_
        rintro e w3 ⟨rfl, hb3⟩
        have hB2 := hB.trans (hb2.mono hBs)
        have hB3 := hB2.trans (hb3.mono hB2.size)
        clear hb2 hb3 hB hB2 e2 e3
        have hsz : (sb ++ ⟨#[pk.toNat.toUInt8]⟩ ++ ⟨#[0]⟩ : ByteArray).size ≤ 2 * (k + 1) := size2 _ _ _ _ hsb
        have HE : Hid ((sb ++ ⟨#[pk.toNat.toUInt8]⟩ ++ ⟨#[0]⟩ : ByteArray).data.toList = Kp1.tw zs (k + 1)) := by
          unfold Hid
          rw [Kp1.tw, unhide HZ, unhide HPK]
          simp [ByteArray.data_append, unhide HS]
        have HSZ := hide hsz
        clear hsz
        go_wp2
        go_roundw
        case rel => exact ⟨k + 1, _, by omega, by go_num, rfl, unhide HSZ, HE, hB3⟩
        case measure => simp [intOf]; omega
      · obtain rfl : k = 6 := by omega
        go_wp2_with fail
        refine (method_str _).mono ?_
        rintro e w1 ⟨rfl, hb1⟩
        go_wp2_with fail
        refine (file_str 6 sb _ _ (by omega) (by omega) (by omega) (by decide)).mono ?_
        rintro e w2 ⟨rfl, hb2⟩
        have hB1 := hB.trans (hb1.mono hBs)
        have hB2 := hB1.trans (hb2.mono hB1.size)
        go_wp2
        go_ret2
        refine ⟨_, rfl, ?_, hB2⟩
        simp [ByteArray.data_append, unhide HS, Kp1.towerL]
  · have h6' : ¬ (6 : Int) < (len : Int) := by omega
    obtain rfl : n = len := by omega
    clear hnv hnl
    go_enter Try.func5, Try.ntmps5
    go_wp2
    go_loopw [5, 6] (fun v i wr => ∃ (k : Nat) (sb : ByteArray), k ≤ n ∧ i = .int .i64 k ∧ v = .string sb ∧ sb.size ≤ 2 * k ∧ Hid (sb.data.toList = Kp1.tw zs k) ∧ Below w.heap.size w wr)
      (fun _ i _ => n - (intOf i).toNat)
    case atStart => exact ⟨0, _, by omega, rfl, rfl, by decide, rfl, Below.refl _ _⟩
    case round =>
      obtain ⟨k, sb, hk, rfl, rfl, hsb, HS, hB⟩ := hrel
      have hBs := hB.size
      by_cases hkn : k < n
      · obtain ⟨⟨b, off, e1, e2, e3⟩, e4, e5⟩ := (hU.below hB) k (by omega)
        generalize hz : zs k = z at *
        have HZ := hide hz
        clear hz
        subst e1
        go_wp2_with fail
        refine (pick_any z _ _ e4 e5 (by omega) (by omega)).mono ?_
        rintro e w1 ⟨rfl, rfl⟩
        have hpb := pk_bd z (7 + (k : Int)) (by omega)
        generalize hpk : Kp1.pk z (7 + (k : Int)) = pk at *
        obtain ⟨hpb0, hpb1⟩ := hpb
        have HPK := hide hpk
        clear hpk
        go_wp2_with fail
        refine (num_any pk _ (by omega) (by omega)).mono ?_
        rintro e w2 ⟨rfl, hb2⟩
        go_wp2_with fail
        refine (num_any 0 _ (by omega) (by omega)).mono ?_
        rintro e w3 ⟨rfl, hb3⟩
        have hB2 := hB.trans (hb2.mono hBs)
        have hB3 := hB2.trans (hb3.mono hB2.size)
        clear hb2 hb3 hB hB2 e2 e3
        have hsz : (sb ++ ⟨#[pk.toNat.toUInt8]⟩ ++ ⟨#[0]⟩ : ByteArray).size ≤ 2 * (k + 1) := size2 _ _ _ _ hsb
        have HE : Hid ((sb ++ ⟨#[pk.toNat.toUInt8]⟩ ++ ⟨#[0]⟩ : ByteArray).data.toList = Kp1.tw zs (k + 1)) := by
          unfold Hid
          rw [Kp1.tw, unhide HZ, unhide HPK]
          simp [ByteArray.data_append, unhide HS]
        have HSZ := hide hsz
        clear hsz
        go_wp2
        go_roundw
        case rel => exact ⟨k + 1, _, by omega, by go_num, rfl, unhide HSZ, HE, hB3⟩
        case measure => simp [intOf]; omega
      · obtain rfl : n = k := by omega
        go_wp2_with fail
        refine (method_str _).mono ?_
        rintro e w1 ⟨rfl, hb1⟩
        go_wp2_with fail
        refine (file_str (n : Int) sb _ _ (by omega) (by omega) (by omega) (by decide)).mono ?_
        rintro e w2 ⟨rfl, hb2⟩
        have hB1 := hB.trans (hb1.mono hBs)
        have hB2 := hB1.trans (hb2.mono hB1.size)
        go_wp2
        go_ret2
        refine ⟨_, rfl, ?_, hB2⟩
        simp [ByteArray.data_append, unhide HS, Kp1.towerL]
end Go.Proofs.Ytpgklckplchhgaa
