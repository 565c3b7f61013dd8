/- Walks: a number's text is read as it. -/
import Derived.Test.YtejlhefjphiahaaDoorLaw
import Derived.Test.YtejlhefjphiahaaDoorSteps3
import Derived.Test.YtejlhefjphiahaaDoorReadMath
namespace Go.Proofs.YtejlhefjphiahaaDoor
open Go.RowKit Go.Shelf

theorem read_sign {s : Bool} {L : List Nat} {σ : Int} (ho : okB s L = true) (h : cmpI (numZ s L) 0 = σ) : decide (σ < 0) = s := by
  rw [numZ_ok ho] at h
  obtain ⟨k1, k2, k3⟩ := okB_iff.1 ho
  subst h
  cases s with
  | true =>
    have hne : L ≠ [] := fun e => by have := k3 e; cases this
    have hp := val_pos k2 hne
    have : valS true L < 0 := by unfold valS; simp; omega
    rw [cmpI_lt this]
    rfl
  | false =>
    have : 0 ≤ valS false L := by unfold valS; simp
    rw [decide_eq_false_iff_not]
    unfold cmpI
    split
    · omega
    · split <;> omega
theorem txt_len {s : Bool} {L : List Nat} {T : List UInt8} (ho : okB s L = true) (h : txt (fitS s L) (fitL s L) = T) : (T.length : Int) = ((Lib.decDigits (val L)).length : Int) + (if s then 1 else 0) := by
  have e1 : fitS s L = s := by unfold fitS; rw [ho]; simp
  have e2 : fitL s L = L := by unfold fitL; rw [ho]; simp
  rw [e1, e2] at h
  rw [← h, txt_length]
  cases s <;> simp

set_option maxRecDepth 100000 in
set_option maxHeartbeats 4000000 in
theorem LimbsRead_true (w : World) (s1 : Bool) (v1 : Value) (l1 : List Nat) (h1 : Lim w v1 l1) (l : List UInt8) (hl : l.length ≤ 9223372036854775807) (htab : Tab w) :
    Calls Tryd.prog 7 #[.agg #[.bool s1, v1], .string ⟨l.toArray⟩] w fun e w' => e = .returned (.bool true) ∧ Below w.heap.size w w' := by
  have h1' := h1
  obtain ⟨a1, c1, rfl, -⟩ := h1
  have m1 := h1'.max
  obtain ⟨W0, e0, n1, hb0, hz0⟩ := box1 w (.bool s1) (.slice a1 l1.length c1)
  have T0 : Hid (∀ W, Below w.heap.size w W → Tab W) := fun W hb => htab.below hb
  have L1 := keepLim (h1'.below hb0)
  have N1 := Lib.hid n1
  have B0 := Lib.hid hb0
  have hlI : (l.length : Int) ≤ 9223372036854775807 := by omega
  clear h1' n1 hb0 htab hz0 hl
  go_enter Tryd.func7, Tryd.ntmps7
  go_wp2_with fail
  clear e0
  refine (alive_true _ (T0.out _ B0.out)).mono ?_
  rintro e w1 ⟨rfl, hb1⟩
  obtain ⟨p1, p2, -, -⟩ := N1.out.below hb1
  obtain ⟨W1, e1, b1, g1⟩ : ∃ W1, w1.alloc (.cells #[.bool s1, .slice a1 l1.length c1] 24) = W1 ∧ Below w1.heap.size w1 W1 ∧ W1.cell? ⟨w1.heap.size, 1, none⟩ = some (.slice a1 l1.length c1) := ⟨_, rfl, (by repeat (first | exact Below.refl _ _ | with_reducible refine Below.drew ?_ | with_reducible refine below_drewN ?_ _ | with_reducible refine Below.setCell ?_ (by first | (simp; done) | (simp; omega) | omega) _ | with_reducible refine Below.alloc ?_ (by first | (simp; done) | (simp; omega) | omega) _)), by go_simp⟩
  have R1 := Lib.hid (Below.step hb1 b1)
  clear hb1 b1
  go_wp2_with fail
  clear e1
  by_cases hbig : 200 < l1.length
  · refine (great1 (most := 200) (r := true) rfl (by decide) m1 g1 (by simpa using hbig)).mono ?_
    rintro e w2 ⟨rfl, rfl⟩
    go_wp2_with fail
    refine (alive_true _ (T0.out _ (Below.step B0.out R1.out))).mono ?_
    rintro e wz ⟨rfl, hbz⟩
    have BZ := Lib.hid (Below.step (Below.step B0.out R1.out) hbz)
    clear hbz
    go_wp2_with fail
    go_ret
    exact ⟨rfl, BZ.out⟩
  · refine (great1 (most := 200) (r := false) rfl (by decide) m1 g1 (by simpa using hbig)).mono ?_
    rintro e w2 ⟨rfl, rfl⟩
    have K1 : Hid (l1.length ≤ 200) := by show _ ≤ _; omega
    obtain ⟨W2, e2, b2, g2⟩ : ∃ W2, W1.alloc (.cells #[.int .i64 (l.length : Nat)] 3) = W2 ∧ Below W1.heap.size W1 W2 ∧ W2.cell? ⟨W1.heap.size, 0, none⟩ = some (.int .i64 (l.length : Nat)) := ⟨_, rfl, (by repeat (first | exact Below.refl _ _ | with_reducible refine Below.drew ?_ | with_reducible refine below_drewN ?_ _ | with_reducible refine Below.setCell ?_ (by first | (simp; done) | (simp; omega) | omega) _ | with_reducible refine Below.alloc ?_ (by first | (simp; done) | (simp; omega) | omega) _)), by go_simp⟩
    have R2 := Lib.hid (Below.step R1.out b2)
    clear hbig g1 m1 b2
    go_wp2_with fail
    clear e2
    by_cases hbey : 1048576 < l.length
    · refine (Beyond_one l.length _ _ (by omega) g2).mono ?_
      rintro e w3 ⟨rfl, rfl⟩
      rw [decide_eq_true hbey]
      go_wp2_with fail
      refine (alive_true _ (T0.out _ (Below.step B0.out R2.out))).mono ?_
      rintro e wz ⟨rfl, hbz⟩
      have BZ := Lib.hid (Below.step (Below.step B0.out R2.out) hbz)
      clear hbz
      go_wp2_with fail
      go_ret
      exact ⟨rfl, BZ.out⟩
    · refine (Beyond_one l.length _ _ (by omega) g2).mono ?_
      rintro e w3 ⟨rfl, rfl⟩
      rw [decide_eq_false hbey]
      have HLEN : Hid (l.length ≤ 1048576) := by show _ ≤ _; omega
      obtain ⟨p1, p2, -, -⟩ := N1.out.below R2.out
      clear hbey g2 R1
      go_wp2_with fail
      refine (Text_any s1 (.slice a1 l1.length c1) l1 _ (L1.out _ R2.out) (by have := K1.out; omega) (T0.out _ (Below.step B0.out R2.out))).mono ?_
      rintro e w3 ⟨rfl, hb3⟩
      obtain ⟨T, hT⟩ : ∃ T, txt (fitS s1 l1) (fitL s1 l1) = T := ⟨_, rfl⟩
      rw [hT]
      have hTl : T.length ≤ 2000 := by
        rw [← hT]
        exact txt_short (fit_small _ _) (Nat.le_trans (fit_length s1 l1) K1.out)
      have HT := Lib.hid hT
      have R3 := Lib.hid (Below.step R2.out hb3)
      clear hb3 hT p1 p2
      go_wp2_with fail
      refine (Parse_any T _ (by omega)).mono ?_
      rintro e w4 ⟨⟨s4, l4, v4, rfl, hO4, hK4, hZ4⟩, hb4⟩
      have h4 := hO4.lim
      have h4' := h4
      obtain ⟨a4, c4, rfl, -⟩ := h4'
      obtain ⟨k4, hk4⟩ : ∃ k, parseE T = k := ⟨_, rfl⟩
      rw [hk4]
      have HK4 := Lib.hid hk4
      have OK4 := Lib.hid (And.intro hK4 hZ4)
      obtain ⟨W4, e4, n4, bw4, -⟩ := box1 w4 (.bool s4) (.slice a4 l4.length c4)
      have L4 := Lib.hid (h4.below bw4)
      have N4 := Lib.hid n4
      have R4 := Lib.hid (Below.step R3.out (Below.step hb4 bw4))
      obtain ⟨p1, p2, -, -⟩ := N1.out.below R4.out
      have hTI : (T.length : Int) ≤ 2000 := by omega
      clear h4 hO4 hK4 hZ4 hb4 hk4 n4 bw4 R3 R2 hTl
      go_wp2_with fail
      clear e4
      refine (Sign_num (NumAt.of (s := s1) (k := 200) (L1.out _ R4.out) K1.out) _ rfl).mono ?_
      rintro e w5 ⟨rfl, hb5⟩
      obtain ⟨σ, hσ⟩ : ∃ σ, cmpI (numZ s1 l1) 0 = σ := ⟨_, rfl⟩
      rw [hσ]
      have HS := Lib.hid hσ
      have R5 := Lib.hid (Below.step R4.out hb5)
      have L4 := keepLim (L4.out.below hb5)
      have N4 := Lib.hid (N4.out.below hb5)
      clear hb5 hσ p1 p2 R4
      go_upto_if 38 with fail
      go_cut [8] from 39 to 40 (fun v wx => ∃ d : Int, v = .int .i64 d ∧ Hid (okB s1 l1 = true → d = ((Lib.decDigits (val l1)).length : Int)) ∧ w5 = wx)
      case first =>
        by_cases hneg : σ < 0
        · go_wp2_with fail
          go_meet
          refine ⟨_, rfl, fun ho => ?_, rfl⟩
          have hs := read_sign ho HS.out
          rw [decide_eq_true hneg] at hs
          have := txt_len ho HT.out
          rw [← hs, if_pos rfl] at this
          omega
        · have hneg' : 0 ≤ σ := by omega
          clear hneg
          go_wp2_with fail
          go_meet
          refine ⟨_, rfl, fun ho => ?_, rfl⟩
          have hs := read_sign ho HS.out
          rw [decide_eq_false (by omega)] at hs
          have := txt_len ho HT.out
          rw [← hs, if_neg (by decide)] at this
          omega
      case rest =>
        obtain ⟨d, rfl, HD, rfl⟩ := hcut
        clear hTI HS
        obtain ⟨p1, p2, -, -⟩ := N1.out.below R5.out
        obtain ⟨q1, q2, -, -⟩ := N4.out
        go_upto_region 8 with fail
        go_cut [73] from 41 to 73 (fun v wx => v = .bool false ∧ Hid (Below w5.heap.size w5 wx))
        case first =>
          cases ho : okB s1 l1
          · have hT0 : T = [48] := by
              rw [← HT.out]
              have e1 : fitS s1 l1 = false := by unfold fitS; rw [ho]; rfl
              have e2 : fitL s1 l1 = [] := by unfold fitL; rw [ho]; rfl
              rw [e1, e2]
              exact txt_nil
            subst hT0
            have HO := Lib.hid ho
            clear ho
            go_wp2_with fail
            refine (check_any s1 _ l1 _ (L1.out _ R5.out)).mono ?_
            rintro e w6 ⟨rfl, hb6⟩
            rw [HO.out]
            have R6 := Lib.hid hb6
            obtain ⟨p1, p2, -, -⟩ := (N1.out.below R5.out).below hb6
            clear hb6 q1 q2
            go_wp2_with fail
            refine (check_any s1 _ l1 _ (L1.out _ (Below.step R5.out R6.out))).mono ?_
            rintro e w7 ⟨rfl, hb7⟩
            rw [HO.out]
            have R7 := Lib.hid (Below.step R6.out hb7)
            clear hb7 p1 p2
            go_wp2_with fail
            go_meet
            exact ⟨rfl, R7⟩
          · have HO := Lib.hid ho
            obtain ⟨n, hn⟩ : ∃ n, (Lib.decDigits (val l1)).length = n := ⟨_, rfl⟩
            have hd := HD.out ho
            rw [hn] at hd
            subst hd
            have htr := txt_read ho
            have e1 : txt s1 l1 = T := by
              have e1 : fitS s1 l1 = s1 := by unfold fitS; rw [ho]; rfl
              have e2 : fitL s1 l1 = l1 := by unfold fitL; rw [ho]; rfl
              have := HT.out
              rwa [e1, e2] at this
            rw [e1, hn, HK4.out] at htr
            have HTR := Lib.hid htr
            clear ho htr e1 hn
            by_cases hD : n ≤ 200
            · have hDI : (n : Int) ≤ 200 := by omega
              have hk0 : k4 = 0 := (HTR.out.1 hD).1
              subst hk0
              have hz : parseZ T = valS s1 l1 := (HTR.out.1 hD).2
              have HZ := Lib.hid hz
              clear hz hD
              go_wp2_with fail
              refine (check_any s1 _ l1 _ (L1.out _ R5.out)).mono ?_
              rintro e w6 ⟨rfl, hb6⟩
              rw [HO.out]
              have R6 := Lib.hid hb6
              obtain ⟨p1, p2, -, -⟩ := (N1.out.below R5.out).below hb6
              obtain ⟨q1, q2, -, -⟩ := N4.out.below hb6
              clear hb6
              go_wp2_with fail
              refine (Same_num (OkAt.of (k := l4.length) (L4.out _ R6.out) OK4.out.1 (OK4.out.2.trans HZ.out) (Nat.le_refl _)) (OkAt.of (k := 200) (L1.out _ (Below.step R5.out R6.out)) HO.out rfl K1.out) true (by simp)).mono ?_
              rintro e w7 ⟨rfl, hb7⟩
              have R7 := Lib.hid (Below.step R6.out hb7)
              obtain ⟨p1, p2, -, -⟩ := (N1.out.below R5.out).below R7.out
              clear hb7 q1 q2
              go_wp2_with fail
              refine (check_any s1 _ l1 _ (L1.out _ (Below.step R5.out R7.out))).mono ?_
              rintro e w8 ⟨rfl, hb8⟩
              rw [HO.out]
              have R8 := Lib.hid (Below.step R7.out hb8)
              clear hb8 p1 p2
              go_wp2_with fail
              go_meet
              exact ⟨rfl, R8⟩
            · have hDI : (201 : Int) ≤ (n : Int) := by omega
              have hk3 : k4 = 3 := HTR.out.2 (by omega)
              subst hk3
              clear hD
              go_wp2_with fail
              refine (check_any s1 _ l1 _ (L1.out _ R5.out)).mono ?_
              rintro e w6 ⟨rfl, hb6⟩
              rw [HO.out]
              have R6 := Lib.hid hb6
              obtain ⟨p1, p2, -, -⟩ := (N1.out.below R5.out).below hb6
              clear hb6 q1 q2
              go_wp2_with fail
              refine (check_any s1 _ l1 _ (L1.out _ (Below.step R5.out R6.out))).mono ?_
              rintro e w8 ⟨rfl, hb8⟩
              rw [HO.out]
              have R8 := Lib.hid (Below.step R6.out hb8)
              clear hb8 p1 p2
              go_wp2_with fail
              go_meet
              exact ⟨rfl, R8⟩
        case rest =>
          obtain ⟨rfl, HB5⟩ := hcut
          have R9 := Lib.hid (Below.step B0.out (Below.step R5.out HB5.out))
          clear HD L4 N4 OK4 HK4 HT R5 HB5 p1 p2 q1 q2 L1 N1 K1
          go_wp2_with fail
          refine (Parse_any l _ (by have := HLEN.out; omega)).mono ?_
          rintro e w6 ⟨⟨s6, l6, v6, rfl, hO6, hK6, hZ6⟩, hb6⟩
          obtain ⟨k6, hk6⟩ : ∃ k, parseE l = k := ⟨_, rfl⟩
          rw [hk6]
          by_cases hk : k6 = 0
          · subst hk
            have h6 := hO6.lim
            have h6' := h6
            obtain ⟨a6, c6, rfl, -⟩ := h6'
            obtain ⟨W6, e6, n6, bw6, -⟩ := box1 w6 (.bool s6) (.slice a6 l6.length c6)
            have L6 := keepLim (h6.below bw6)
            have N6 := Lib.hid n6
            have R6 := Lib.hid (Below.step R9.out (Below.step hb6 bw6))
            have OK6 := Lib.hid (And.intro hK6 hZ6)
            have HE := Lib.hid hk6
            have hLI2 : (l.length : Int) ≤ 1048576 := by have := HLEN.out; omega
            clear h6 hO6 hK6 hZ6 hb6 hk6 n6 bw6 R9
            go_wp2_with fail
            clear e6
            obtain ⟨Z, hZ⟩ : ∃ Z, parseZ l = Z := ⟨_, rfl⟩
            have HZ := Lib.hid hZ
            have H6 : Hid (∀ W, Below W6.heap.size W6 W → OkAt W (.agg #[.bool s6, .slice a6 l6.length c6]) 23 Z) := fun W hb => OkAt.of (L6.out W hb) OK6.out.1 (OK6.out.2.trans HZ.out) (len_of_valS OK6.out.1 (by rw [OK6.out.2]; exact parseZ_bound HE.out))
            clear hZ
            have hcat : (({ data := #[45] } : ByteArray) ++ { data := l.toArray }) = { data := (45 :: l).toArray } := by
              apply ByteArray.ext
              simp [ByteArray.data_append]
            rw [hcat]
            clear hcat hLI2
            refine (Parse_any (45 :: l) _ (by have := HLEN.out; simp only [List.length_cons]; omega)).mono ?_
            rintro e w7 ⟨⟨s7, l7, v7, rfl, hO7, hK7, hZ7⟩, hb7⟩
            have h7 := hO7.lim
            have h7' := h7
            obtain ⟨a7, c7, rfl, -⟩ := h7'
            obtain ⟨k7, hk7⟩ : ∃ k, parseE (45 :: l) = k := ⟨_, rfl⟩
            rw [hk7]
            obtain ⟨W7, e7, n7, bw7, -⟩ := box1 w7 (.bool s7) (.slice a7 l7.length c7)
            have Q7 := Below.step hb7 bw7
            have L7 := keepLim (h7.below bw7)
            have N7 := Lib.hid n7
            have H6 : Hid (∀ W, Below W7.heap.size W7 W → OkAt W (.agg #[.bool s6, .slice a6 l6.length c6]) 23 Z) := fun W hb => H6.out W (Below.step Q7 hb)
            have L6 := keepLim (L6.out _ Q7)
            have N6 := Lib.hid (N6.out.below Q7)
            have R7 := Lib.hid (Below.step R6.out Q7)
            have OK7 := Lib.hid (And.intro hK7 hZ7)
            have HK7 := Lib.hid hk7
            obtain ⟨d1, d2, -, -⟩ := N6.out
            clear h7 hO7 hK7 hZ7 hb7 hk7 n7 bw7 Q7 R6
            go_wp2_with fail
            clear e7
            refine (Check_num (H6.out _ (Below.refl _ _))).mono ?_
            rintro e w8 ⟨rfl, hb8⟩
            have R8 := Lib.hid hb8
            obtain ⟨d1, d2, -, -⟩ := N6.out.below hb8
            clear hb8
            go_wp2_with fail
            refine (Text_any s6 (.slice a6 l6.length c6) l6 _ (L6.out _ R8.out) (by have := len_of_valS OK6.out.1 (by rw [OK6.out.2]; exact parseZ_bound HE.out); omega) (T0.out _ (Below.step R7.out R8.out))).mono ?_
            rintro e w9 ⟨rfl, hb9⟩
            have htx : txt (fitS s6 l6) (fitL s6 l6) = l := by
              have e1 : fitS s6 l6 = s6 := by unfold fitS; rw [OK6.out.1]; rfl
              have e2 : fitL s6 l6 = l6 := by unfold fitL; rw [OK6.out.1]; rfl
              rw [e1, e2]
              exact read_txt HE.out OK6.out.1 OK6.out.2
            rw [htx]
            have R9 := Lib.hid (Below.step R8.out hb9)
            have H6 := (H6.out _ R9.out).keep
            have L7 := keepLim (L7.out _ R9.out)
            have N6 := Lib.hid (N6.out.below R9.out)
            have N7 := Lib.hid (N7.out.below R9.out)
            have R7 := Lib.hid (Below.step R7.out R9.out)
            clear hb9 htx d1 d2 R8 R9
            have htu := read_turn HE.out
            rw [HZ.out, HK7.out] at htu
            by_cases hp : 0 < Z
            · obtain ⟨rfl, hz7⟩ := htu.1 hp
              have hgt : decide ((0 : Int) < cmpI Z 0) = true := by rw [cmpI_gt hp]; rfl
              have H7 := (OkAt.of (k := 23) (L7.out _ (Below.refl _ _)) OK7.out.1 (OK7.out.2.trans hz7) (len_of_valS OK7.out.1 (by rw [OK7.out.2, hz7, Int.natAbs_neg, ← HZ.out]; exact parseZ_bound HE.out))).keep
              have HGT := Lib.hid hgt
              clear htu hz7 hgt hp L7 OK7 OK6 HE HK7 HZ L6
              go_upto_region 16 with fail
              rename_i K hK
              have hgt := HGT.out
              refine wp_region_knownC [(4, true), (115, true), (116, true), (118, true), (119, true), (120, true), (124, true), (125, true), (126, true), (134, true)] [130]
                [(9, IsV (.pointer (some ⟨w6.heap.size, 0, none⟩))), (11, IsV (.pointer (some ⟨w7.heap.size, 0, none⟩))), (12, IsV (.int .i64 0))]
                [(113, IsO 23 (Z)), (114, IsV (.int .i64 (cmpI (Z) 0))), (117, IsV (.int .i64 0)), (121, IsO 23 (-Z)), (122, IsO 23 (Z)), (123, IsO 23 (-Z)), (130, IsV (undef))]
                135 (by kernel_rfl) rfl (by kernel_rfl) (by kernel_rfl) ⟨rfl, rfl, rfl, trivial⟩ ⟨IsV.grows _ , IsV.grows _ , IsV.grows _ , IsO.grows _ _ , IsV.grows _ , IsV.grows _ , IsO.grows _ _ , IsO.grows _ _ , IsO.grows _ _ , IsV.grows _ , trivial⟩ (fun t ht => by simp only [List.mem_cons, List.not_mem_nil, or_false] at ht; subst ht; exact ⟨fun _ _ h => h, fun _ => rfl⟩) ?_ ?_
              · refine AllStepC.step (by kernel_rfl) (step_load (fun _ _ h => h) (fun _ hb => N6.out.below hb) (fun w hb => H6.out w hb)) ?_
                refine AllStepC.step (by kernel_rfl) (step_call1 (Plain.of Tryd.func19 rfl rfl) (fun _ _ _ hu => (Sign_num (OkAt.num hu) _ rfl).mono (fun _ _ h => ansV h))) ?_
                refine AllStepC.step (by kernel_rfl) (step_gtr (fun _ _ h => h) hgt (fun _ => rfl)) ?_
                refine AllStepC.step (by kernel_rfl) (step_move (fun _ _ h => h)) ?_
                refine AllStepC.step (by kernel_rfl) (step_move (fun _ _ h => h)) ?_
                refine AllStepC.step (by kernel_rfl) (step_eqE (fun _ _ h => h) rfl (fun _ => rfl)) ?_
                refine AllStepC.step (by kernel_rfl) (step_pickT (fun _ _ h => h) (fun _ _ h => h)) ?_
                refine AllStepC.step (by kernel_rfl) (step_move (fun _ _ h => h)) ?_
                refine AllStepC.step (by kernel_rfl) (step_load (fun _ _ h => h) (fun _ hb => N7.out.below hb) (fun w hb => H7.out w hb)) ?_
                refine AllStepC.step (by kernel_rfl) (step_load (fun _ _ h => h) (fun _ hb => N6.out.below hb) (fun w hb => H6.out w hb)) ?_
                refine AllStepC.step (by kernel_rfl) (step_call1 (Plain.of Tryd.func17 rfl rfl) (fun _ _ _ hu => Neg_num (OkAt.num hu) (by decide))) ?_
                refine AllStepC.step (by kernel_rfl) (step_call2 (Plain.of Tryd.func16 rfl rfl) (fun _ _ _ _ hu hv => (Same_num hu hv true (by simp)).mono (fun _ _ h => ansV h))) ?_
                refine AllStepC.step (by kernel_rfl) (step_pickT (fun _ _ h => h) (fun _ _ h => h)) ?_
                refine AllStepC.step (by kernel_rfl) (step_move (fun _ _ h => h)) ?_
                refine AllStepC.skip (by kernel_rfl) (by kernel_rfl) ?_
                refine AllStepC.skip (by kernel_rfl) (by kernel_rfl) ?_
                refine AllStepC.skip (by kernel_rfl) (by kernel_rfl) ?_
                refine AllStepC.skip (by kernel_rfl) (by kernel_rfl) ?_
                refine AllStepC.skip (by kernel_rfl) (by kernel_rfl) ?_
                refine AllStepC.skip (by kernel_rfl) (by kernel_rfl) ?_
                refine AllStepC.skip (by kernel_rfl) (by kernel_rfl) ?_
                refine AllStepC.step (by kernel_rfl) (step_pickTk (fun _ _ h => h) (fun _ => rfl)) ?_
                refine AllStepC.step (by kernel_rfl) (step_assign (fun _ _ h => h)) ?_
                exact AllStepC.nil
              · intro a' w' hb hs hd hk
                refine hK a' w' ?_
                refine wp_ret ?_
                exact ret_slot (t := 4) rfl hd (hk 4) ⟨rfl, Below.step R7.out hb⟩
            · obtain rfl := htu.2 (by omega)
              have hgt : decide ((0 : Int) < cmpI Z 0) = false := by
                rw [decide_eq_false_iff_not]; unfold cmpI; split
                · omega
                · first | omega | (split <;> omega)
              have hle : decide (cmpI Z 0 ≤ (0 : Int)) = true := by
                rw [decide_eq_true_iff]; unfold cmpI; split
                · omega
                · first | omega | (split <;> omega)
              have HGT := Lib.hid (And.intro hgt hle)
              clear htu hgt hle hp L7 OK7 OK6 HE HK7 HZ L6
              go_upto_region 16 with fail
              rename_i K hK
              obtain ⟨hgt, hle⟩ := HGT.out
              refine wp_region_knownC [(4, true), (115, false), (116, false), (119, false), (120, false), (125, false), (126, false), (129, true), (130, true), (132, true), (133, true), (134, true)] []
                [(9, IsV (.pointer (some ⟨w6.heap.size, 0, none⟩))), (11, IsV (.pointer (some ⟨w7.heap.size, 0, none⟩))), (12, IsV (.int .i64 4))]
                [(113, IsO 23 (Z)), (114, IsV (.int .i64 (cmpI (Z) 0))), (127, IsO 23 (Z)), (128, IsV (.int .i64 (cmpI (Z) 0))), (131, IsV (.int .i64 4))]
                135 (by kernel_rfl) rfl (by kernel_rfl) (by kernel_rfl) ⟨rfl, rfl, rfl, trivial⟩ ⟨IsV.grows _ , IsV.grows _ , IsV.grows _ , IsO.grows _ _ , IsV.grows _ , IsO.grows _ _ , IsV.grows _ , IsV.grows _ , trivial⟩ (fun t ht => by simp at ht) ?_ ?_
              · refine AllStepC.step (by kernel_rfl) (step_load (fun _ _ h => h) (fun _ hb => N6.out.below hb) (fun w hb => H6.out w hb)) ?_
                refine AllStepC.step (by kernel_rfl) (step_call1 (Plain.of Tryd.func19 rfl rfl) (fun _ _ _ hu => (Sign_num (OkAt.num hu) _ rfl).mono (fun _ _ h => ansV h))) ?_
                refine AllStepC.step (by kernel_rfl) (step_gtr (fun _ _ h => h) hgt (fun _ => rfl)) ?_
                refine AllStepC.step (by kernel_rfl) (step_move (fun _ _ h => h)) ?_
                refine AllStepC.skip (by kernel_rfl) (by kernel_rfl) ?_
                refine AllStepC.skip (by kernel_rfl) (by kernel_rfl) ?_
                refine AllStepC.step (by kernel_rfl) (step_pickFk (fun _ _ h => h) (fun _ => rfl)) ?_
                refine AllStepC.step (by kernel_rfl) (step_move (fun _ _ h => h)) ?_
                refine AllStepC.skip (by kernel_rfl) (by kernel_rfl) ?_
                refine AllStepC.skip (by kernel_rfl) (by kernel_rfl) ?_
                refine AllStepC.skip (by kernel_rfl) (by kernel_rfl) ?_
                refine AllStepC.skip (by kernel_rfl) (by kernel_rfl) ?_
                refine AllStepC.step (by kernel_rfl) (step_pickFk (fun _ _ h => h) (fun _ => rfl)) ?_
                refine AllStepC.step (by kernel_rfl) (step_move (fun _ _ h => h)) ?_
                refine AllStepC.step (by kernel_rfl) (step_load (fun _ _ h => h) (fun _ hb => N6.out.below hb) (fun w hb => H6.out w hb)) ?_
                refine AllStepC.step (by kernel_rfl) (step_call1 (Plain.of Tryd.func19 rfl rfl) (fun _ _ _ hu => (Sign_num (OkAt.num hu) _ rfl).mono (fun _ _ h => ansV h))) ?_
                refine AllStepC.step (by kernel_rfl) (step_leq (fun _ _ h => h) hle (fun _ => rfl)) ?_
                refine AllStepC.step (by kernel_rfl) (step_move (fun _ _ h => h)) ?_
                refine AllStepC.step (by kernel_rfl) (step_move (fun _ _ h => h)) ?_
                refine AllStepC.step (by kernel_rfl) (step_eqE (fun _ _ h => h) rfl (fun _ => rfl)) ?_
                refine AllStepC.step (by kernel_rfl) (step_pickT (fun _ _ h => h) (fun _ _ h => h)) ?_
                refine AllStepC.step (by kernel_rfl) (step_pickF (fun _ _ h => h) (fun _ _ h => h)) ?_
                refine AllStepC.step (by kernel_rfl) (step_assign (fun _ _ h => h)) ?_
                exact AllStepC.nil
              · intro a' w' hb hs hd hk
                refine hK a' w' ?_
                refine wp_ret ?_
                exact ret_slot (t := 4) rfl hd (hk 4) ⟨rfl, Below.step R7.out hb⟩
          · have hz := (parse_nought (l := l) (by rw [hk6]; exact hk))
            obtain ⟨z1, z2⟩ := hz
            rw [hk6] at z2
            obtain ⟨rfl, rfl⟩ := valS_inj (s' := false) (l' := []) hK6 rfl (by rw [hZ6, z1]; rfl)
            have h6 := hO6.lim
            have h6' := h6
            obtain ⟨a6, c6, rfl, -⟩ := h6'
            obtain ⟨W6, e6, n6, bw6, -⟩ := box1 w6 (.bool false) (.slice a6 0 c6)
            have R6 := Lib.hid (Below.step R9.out (Below.step hb6 bw6))
            obtain ⟨d1, d2, -, -⟩ := n6
            clear h6 hO6 hK6 hZ6 hb6 hk6 bw6 R9 z1
            rcases z2 with rfl | rfl
            · clear hk
              go_wp2_with fail
              go_ret
              exact ⟨rfl, R6.out⟩
            · clear hk
              go_wp2_with fail
              go_ret
              exact ⟨rfl, R6.out⟩

end Go.Proofs.YtejlhefjphiahaaDoor
