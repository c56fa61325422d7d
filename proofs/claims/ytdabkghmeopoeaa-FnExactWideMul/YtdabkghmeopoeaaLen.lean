/- The walk of the count of a word's bits. -/
import Derived.Test.YtdabkghmeopoeaaLenH
namespace Go.Proofs.Ytdabkghmeopoeaa
open Go.RowKit
set_option maxRecDepth 100000 in
set_option maxHeartbeats 1000000 in
theorem len64_0 (x : Int) (h : Word x) (w : World) (h1 : ¬ 4294967296 ≤ x) (h2 : ¬ 65536 ≤ x) (h3 : ¬ 256 ≤ x) :
    Calls Try.prog 74 #[.int .u64 x] w (BitsP x w) := by
  obtain ⟨l, u⟩ := h
  have hu : x < 256 := by omega
  have hl : 0 ≤ x := by omega
  go_enter Try.func74, Try.ntmps74
  go_wp2
  go_ret
  have hy : x = x / 2 ^ 0 := by rw [show (2 : Int) ^ 0 = 1 by decide] <;> omega
  refine len_close w l hy hl hu (by decide) (by omega) (by rw [len8_size]; omega) _ ?_
  have hs := (len8_at (x) hl hu (by rw [len8_size]; omega)).2
  exact len_e0 rfl hs
set_option maxRecDepth 100000 in
set_option maxHeartbeats 1000000 in
theorem len64_8 (x : Int) (h : Word x) (w : World) (h1 : ¬ 4294967296 ≤ x) (h2 : ¬ 65536 ≤ x) (h3 : 256 ≤ x) :
    Calls Try.prog 74 #[.int .u64 x] w (BitsP x w) := by
  obtain ⟨l, u⟩ := h
  have hu : x / 256 < 256 := by omega
  have hl : 0 ≤ x / 256 := by omega
  go_enter Try.func74, Try.ntmps74
  go_wp2
  go_ret
  have hy : x / 256 = x / 2 ^ 8 := by rw [show (2 : Int) ^ 8 = 256 by decide] <;> omega
  refine len_close w l hy hl hu (by decide) (by omega) (by rw [len8_size]; omega) _ ?_
  have hs := (len8_at (x / 256) hl hu (by rw [len8_size]; omega)).2
  exact len_ek 8 8 rfl (by decide) rfl hs
set_option maxRecDepth 100000 in
set_option maxHeartbeats 1000000 in
theorem len64_16 (x : Int) (h : Word x) (w : World) (h1 : ¬ 4294967296 ≤ x) (h2 : 65536 ≤ x) (h3 : ¬ 256 ≤ x / 65536) :
    Calls Try.prog 74 #[.int .u64 x] w (BitsP x w) := by
  obtain ⟨l, u⟩ := h
  have hu : x / 65536 < 256 := by omega
  have hl : 0 ≤ x / 65536 := by omega
  go_enter Try.func74, Try.ntmps74
  go_wp2
  go_ret
  have hy : x / 65536 = x / 2 ^ 16 := by rw [show (2 : Int) ^ 16 = 65536 by decide] <;> omega
  refine len_close w l hy hl hu (by decide) (by omega) (by rw [len8_size]; omega) _ ?_
  have hs := (len8_at (x / 65536) hl hu (by rw [len8_size]; omega)).2
  exact len_ek 16 16 rfl (by decide) rfl hs
set_option maxRecDepth 100000 in
set_option maxHeartbeats 1000000 in
theorem len64_24 (x : Int) (h : Word x) (w : World) (h1 : ¬ 4294967296 ≤ x) (h2 : 65536 ≤ x) (h3 : 256 ≤ x / 65536) :
    Calls Try.prog 74 #[.int .u64 x] w (BitsP x w) := by
  obtain ⟨l, u⟩ := h
  have hu : x / 65536 / 256 < 256 := by omega
  have hl : 0 ≤ x / 65536 / 256 := by omega
  go_enter Try.func74, Try.ntmps74
  go_wp2
  go_ret
  have hy : x / 65536 / 256 = x / 2 ^ 24 := by rw [show (2 : Int) ^ 24 = 16777216 by decide] <;> omega
  refine len_close w l hy hl hu (by decide) (by omega) (by rw [len8_size]; omega) _ ?_
  have hs := (len8_at (x / 65536 / 256) hl hu (by rw [len8_size]; omega)).2
  exact len_ek 24 24 rfl (by decide) rfl hs
set_option maxRecDepth 100000 in
set_option maxHeartbeats 1000000 in
theorem len64_32 (x : Int) (h : Word x) (w : World) (h1 : 4294967296 ≤ x) (h2 : ¬ 65536 ≤ x / 4294967296) (h3 : ¬ 256 ≤ x / 4294967296) :
    Calls Try.prog 74 #[.int .u64 x] w (BitsP x w) := by
  obtain ⟨l, u⟩ := h
  have hu : x / 4294967296 < 256 := by omega
  have hl : 0 ≤ x / 4294967296 := by omega
  go_enter Try.func74, Try.ntmps74
  go_wp2
  go_ret
  have hy : x / 4294967296 = x / 2 ^ 32 := by rw [show (2 : Int) ^ 32 = 4294967296 by decide] <;> omega
  refine len_close w l hy hl hu (by decide) (by omega) (by rw [len8_size]; omega) _ ?_
  have hs := (len8_at (x / 4294967296) hl hu (by rw [len8_size]; omega)).2
  exact len_ek 32 32 rfl (by decide) rfl hs
set_option maxRecDepth 100000 in
set_option maxHeartbeats 1000000 in
theorem len64_40 (x : Int) (h : Word x) (w : World) (h1 : 4294967296 ≤ x) (h2 : ¬ 65536 ≤ x / 4294967296) (h3 : 256 ≤ x / 4294967296) :
    Calls Try.prog 74 #[.int .u64 x] w (BitsP x w) := by
  obtain ⟨l, u⟩ := h
  have hu : x / 4294967296 / 256 < 256 := by omega
  have hl : 0 ≤ x / 4294967296 / 256 := by omega
  go_enter Try.func74, Try.ntmps74
  go_wp2
  go_ret
  have hy : x / 4294967296 / 256 = x / 2 ^ 40 := by rw [show (2 : Int) ^ 40 = 1099511627776 by decide] <;> omega
  refine len_close w l hy hl hu (by decide) (by omega) (by rw [len8_size]; omega) _ ?_
  have hs := (len8_at (x / 4294967296 / 256) hl hu (by rw [len8_size]; omega)).2
  exact len_ek 40 40 rfl (by decide) rfl hs
set_option maxRecDepth 100000 in
set_option maxHeartbeats 1000000 in
theorem len64_48 (x : Int) (h : Word x) (w : World) (h1 : 4294967296 ≤ x) (h2 : 65536 ≤ x / 4294967296) (h3 : ¬ 256 ≤ x / 4294967296 / 65536) :
    Calls Try.prog 74 #[.int .u64 x] w (BitsP x w) := by
  obtain ⟨l, u⟩ := h
  have hu : x / 4294967296 / 65536 < 256 := by omega
  have hl : 0 ≤ x / 4294967296 / 65536 := by omega
  go_enter Try.func74, Try.ntmps74
  go_wp2
  go_ret
  have hy : x / 4294967296 / 65536 = x / 2 ^ 48 := by rw [show (2 : Int) ^ 48 = 281474976710656 by decide] <;> omega
  refine len_close w l hy hl hu (by decide) (by omega) (by rw [len8_size]; omega) _ ?_
  have hs := (len8_at (x / 4294967296 / 65536) hl hu (by rw [len8_size]; omega)).2
  exact len_ek 48 48 rfl (by decide) rfl hs
set_option maxRecDepth 100000 in
set_option maxHeartbeats 1000000 in
theorem len64_56 (x : Int) (h : Word x) (w : World) (h1 : 4294967296 ≤ x) (h2 : 65536 ≤ x / 4294967296) (h3 : 256 ≤ x / 4294967296 / 65536) :
    Calls Try.prog 74 #[.int .u64 x] w (BitsP x w) := by
  obtain ⟨l, u⟩ := h
  have hu : x / 4294967296 / 65536 / 256 < 256 := by omega
  have hl : 0 ≤ x / 4294967296 / 65536 / 256 := by omega
  go_enter Try.func74, Try.ntmps74
  go_wp2
  go_ret
  have hy : x / 4294967296 / 65536 / 256 = x / 2 ^ 56 := by rw [show (2 : Int) ^ 56 = 72057594037927936 by decide] <;> omega
  refine len_close w l hy hl hu (by decide) (by omega) (by rw [len8_size]; omega) _ ?_
  have hs := (len8_at (x / 4294967296 / 65536 / 256) hl hu (by rw [len8_size]; omega)).2
  exact len_ek 56 56 rfl (by decide) rfl hs
theorem len64_any (x : Int) (h : Word x) (w : World) : Calls Try.prog 74 #[.int .u64 x] w (BitsP x w) := by
  by_cases h1 : 4294967296 ≤ x
  · by_cases h2 : 65536 ≤ x / 4294967296
    · by_cases h3 : 256 ≤ x / 4294967296 / 65536
      · exact len64_56 x h w h1 h2 h3
      · exact len64_48 x h w h1 h2 h3
    · by_cases h3 : 256 ≤ x / 4294967296
      · exact len64_40 x h w h1 h2 h3
      · exact len64_32 x h w h1 h2 h3
  · by_cases h2 : 65536 ≤ x
    · by_cases h3 : 256 ≤ x / 65536
      · exact len64_24 x h w h1 h2 h3
      · exact len64_16 x h w h1 h2 h3
    · by_cases h3 : 256 ≤ x
      · exact len64_8 x h w h1 h2 h3
      · exact len64_0 x h w h1 h2 h3
end Go.Proofs.Ytdabkghmeopoeaa
