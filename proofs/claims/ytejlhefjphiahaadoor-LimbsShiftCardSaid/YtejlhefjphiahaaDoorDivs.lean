/- Walks: small numbers divided, as the statements ask of them. -/
import Derived.Test.YtejlhefjphiahaaDoorNum
namespace Go.Proofs.YtejlhefjphiahaaDoor
open Go.RowKit Go.Shelf

set_option maxRecDepth 100000 in
set_option maxHeartbeats 4000000 in
theorem divs_true (m n o l : Int) (w : World) (hm : -2147483648 ≤ m) (hm2 : m ≤ 2147483647) (hn : -2147483648 ≤ n) (hn2 : n ≤ 2147483647) (h0 : n ≠ 0) (ho : m / n = o) (hl : m % n = l) (bo : -9223372036854775808 ≤ o ∧ o ≤ 9223372036854775807) (bl : -9223372036854775808 ≤ l ∧ l ≤ 9223372036854775807) :
    Calls Tryd.prog 28 #[.int .i64 m, .int .i64 n, .int .i64 o, .int .i64 l] w fun e w' => e = .returned (.bool true) ∧ Below w.heap.size w w' := by
  have HO := Lib.hid ho
  have HL := Lib.hid hl
  have H0 := Lib.hid h0
  have BO := Lib.hid bo
  have BL := Lib.hid bl
  clear ho hl h0 bo bl
  go_enter Tryd.func28, Tryd.ntmps28
  go_wp2_with fail
  refine (Of_num m _ (by omega) (by omega)).mono ?_
  rintro e w1 ⟨⟨u1, rfl, h1⟩, hb1⟩
  have U1 := h1.keep
  have B1 := Lib.hid hb1
  clear h1 hb1
  go_wp2_with fail
  refine (Of_num n _ (by omega) (by omega)).mono ?_
  rintro e w2 ⟨⟨u2, rfl, h2⟩, hb2⟩
  have U2 := Lib.hid h2
  have B2 := Lib.hid hb2
  clear h2 hb2
  go_wp2_with fail
  refine (Div_num (U1.out _ B2.out) U2.out (by decide) (by decide) H0.out).mono ?_
  rintro e w3 ⟨⟨sq, aq, nq, cq, sr, ar, nr, cr, rfl, hq, hr, k1, k2⟩, hb3⟩
  rw [HO.out] at hq
  rw [HL.out] at hr
  have Q := hq.keep
  have R := hr.keep
  have B3 := Lib.hid hb3
  clear hq hr hb3
  obtain ⟨W3, e3, n1, n2, hbW, -, -⟩ := box2 w3 (.bool sq) (.slice aq nq cq) (.bool sr) (.slice ar nr cr)
  have N2 := Lib.hid n2
  have BW := Lib.hid hbW
  obtain ⟨c1, c2, -, -⟩ := n1
  clear n2 hbW
  go_wp2_with fail
  refine (whole_num (Q.out _ BW.out) BO.out.1 BO.out.2).mono ?_
  rintro e w4 ⟨rfl, hb4⟩
  have B4 := Lib.hid hb4
  obtain ⟨d1, d2, -, -⟩ := N2.out.below hb4
  clear hb4 c1 c2 e3
  go_wp2_with fail
  refine (whole_num (R.out _ (Below.step BW.out B4.out)) BL.out.1 BL.out.2).mono ?_
  rintro e w5 ⟨rfl, hb5⟩
  have B5 := Lib.hid hb5
  clear hb5 d1 d2
  go_wp2_with fail
  go_ret
  exact ⟨rfl, (by repeat (first | exact Below.refl _ _ | with_reducible refine Below.drew ?_ | with_reducible refine below_drewN ?_ _ | with_reducible refine Below.setCell ?_ (by first | (simp; done) | (simp; omega) | omega) _ | with_reducible refine Below.alloc ?_ (by first | (simp; done) | (simp; omega) | omega) _ | (with_reducible refine Below.step ?_ B5.out) | (with_reducible refine Below.step ?_ B4.out) | (with_reducible refine Below.step ?_ BW.out) | (with_reducible refine Below.step ?_ B3.out) | (with_reducible refine Below.step ?_ B2.out) | (with_reducible refine Below.step ?_ B1.out)))⟩

end Go.Proofs.YtejlhefjphiahaaDoor
