/- Our texts: GvH. -/
import Derived.Test.YtcipkfhpcbddiaaGreatG34
/- Package metaproofkeep: given. -/
namespace Go.Proofs.YtcipkfhpcbddiaaGreat
open Go.RowKit

theorem lit_sizes : (⟨#[32]⟩ : ByteArray).size = 1 ∧ (⟨#[102]⟩ : ByteArray).size = 1 ∧ (⟨#[32, 36, 102, 32]⟩ : ByteArray).size = 4 ∧ (⟨#[99, 32]⟩ : ByteArray).size = 2 ∧ (⟨#[32, 36, 46]⟩ : ByteArray).size = 3 := ⟨rfl, rfl, rfl, rfl, rfl⟩
theorem start_size (T z : ByteArray) (hT : T.size ≤ 1024) (hz : z.size ≤ 6) : (gTx T z 0).size ≤ 1100 ∧ (gEs z (fun _ => true) 0).size ≤ 100 ∧ (gGo z (fun _ => true) 0).size ≤ 100 := by
  unfold gTx gEs gGo
  simp only [ByteArray.size_append]
  rw [show (⟨#[10, 36, 99, 32]⟩ : ByteArray).size = 4 from rfl, show (⟨#[99, 32, 36, 46, 10, 36, 123, 32, 36, 118]⟩ : ByteArray).size = 10 from rfl, show (⟨#[101, 32, 36, 101, 32]⟩ : ByteArray).size = 5 from rfl, show (⟨#[99]⟩ : ByteArray).size = 1 from rfl, show (⟨#[32, 36, 97, 32]⟩ : ByteArray).size = 4 from rfl]
  omega
theorem outLs_mid (T z : ByteArray) (j : Nat) (u : Value) (hj : (strs (plL T))[j]? = some u) : (strs (outLs T z))[(hlL T).length + j]? = some u := by
  have e : strs (outLs T z) = strs (hlL T) ++ (strs (plL T) ++ strs [lastO z]) := by unfold strs outLs; simp
  have hl : (strs (hlL T)).length = (hlL T).length := by unfold strs; simp
  rw [e, List.getElem?_append_right (by omega), hl, Nat.add_sub_cancel_left, List.getElem?_append_left (List.getElem?_eq_some_iff.1 hj).1]
  exact hj
theorem outLs_head (T z : ByteArray) (j : Nat) (u : Value) (hj : (strs (hlL T))[j]? = some u) : (strs (outLs T z))[j]? = some u := by
  have e : strs (outLs T z) = strs (hlL T) ++ strs (plL T ++ [lastO z]) := by unfold strs outLs; simp
  rw [e, List.getElem?_append_left (List.getElem?_eq_some_iff.1 hj).1]
  exact hj
set_option maxHeartbeats 40000000 in
set_option maxRecDepth 100000 in
theorem given_any (b x : Nat) (T : ByteArray) (o : Option Nat) (a c : Int) (fs : List (ByteArray × ByteArray)) (w : World) (hW : WorldAt w b x T o) (hV : SomeAt w x fs) (hM : MOk 0 fs) (hx : x ≠ b) (hT : Fine T) (ha : -9223372036854775808 ≤ a ∧ a ≤ 9223372036854775807) (hc : -9223372036854775808 ≤ c ∧ c ≤ 9223372036854775807) :
    Calls Tryz.prog 10 #[.pointer (some ⟨b, 0, none⟩), .int .i64 a, .int .i64 c] w fun e w' => e = .returned (.bool true) ∧ Kept [x] w w' := by
  have hTs := hT.size
  have hbw := hW.lt
  have hxw := hV.lt
  obtain ⟨i0, hi, hz0, hz1, hz2⟩ := info_parts infoS
  go_enter Tryz.func10, Tryz.ntmps10
  go_wp2_with fail
  refine (fresh_any b x T o w hW hT).mono ?_
  rintro e w1 ⟨zn, hzn, rfl, hzi, k1⟩
  have hZ := zed_of T zn hzn hzi
  have hzs := hZ.size
  generalize zF zn = z at *
  go_wp2_with fail
  refine (outer_any b x T z o fs w1 (hW.still k1) (hV.kept k1 (by simp)) hM hx hT hZ).mono ?_
  rintro e w2 ⟨⟨k2, hW2, fs2, hV2, hM2⟩, rfl | ⟨F, g, ao, cap, rfl, hO⟩⟩
  · go_wp2
    go_ret
    exact ⟨rfl, (k1.mono (by simp)).trans k2⟩
  · go_wp2_with fail
    refine (pick_any a 64 _ ha (by omega)).mono ?_
    rintro e w3 ⟨⟨B, rfl, hB⟩, hw3⟩
    rw [hw3]
    clear hw3
    go_wp2_with fail
    refine (pick_any c 16 _ hc (by omega)).mono ?_
    rintro e w3 ⟨⟨M, rfl, hMo⟩, hw3⟩
    rw [hw3]
    clear hw3
    obtain ⟨c0, c1, -⟩ := hW2.cells
    have hb2 := hW2.lt
    have h1s := k1.size
    have h2s := k2.size
    have hO : OutF w2 w.heap.size F g ao cap T z := ⟨hO.c1, hO.c2, hO.ls, ⟨by have := hO.F.1; omega, hO.F.2⟩, by have := hO.g; omega, hO.len⟩
    have hgw := lt_of_get hO.ls
    have hFw := hO.F.2
    have q1 := hO.c1
    have q2 := hO.c2
    have hLl : (outLs T z).length = (hlL T).length + (plL T).length + 1 := by unfold outLs; simp; omega
    have hLb : (outLs T z).length ≤ 200000000 := hO.len
    have HS0 : Hid (GvS w w2 w2.heap.size b x F g ao cap T z o ⟨none, 0⟩ [] ⟨none, 0⟩ []) := by
      refine ⟨hW2, ⟨fs2, hV2, hM2⟩, hO, World.ownsRow_nil _ _ _ _, World.ownsRow_nil _ _ _ _, (by intro k hk; cases hk), (by intro k hk; cases hk), (by intro k hk; cases hk), ⟨hb2, hV2.lt, hFw, hgw, fun q hq => hW2.rows.lt q hq, Nat.le_refl _⟩, (k1.mono (by simp)).trans k2, by omega⟩
    obtain ⟨nL, HnL⟩ : ∃ nL, Hid ((outLs T z).length = nL) := ⟨_, rfl⟩
    obtain ⟨nh, Hnh⟩ : ∃ nh, Hid ((hlL T).length = nh) := ⟨_, rfl⟩
    rw [HnL.out] at q1 hLl hLb
    rw [Hnh.out] at q2 hLl
    have hnhi : (nh : Int) ≤ nL := by omega
    have hnh0 : (0 : Int) ≤ nh := by omega
    have hnhL : nh < nL := by omega
    have HLl := (show Hid _ from hLl)
    clear hLl
    have s2 : Hid (∀ j u, (strs (hlL T))[j]? = some u → w2.drew.cell? ((⟨g, 0, none⟩ : Addr).add j) = some u) := by
      intro j u hj
      rw [addr_add]
      have hk : w2.drew.heap[g]? = some (.cells (strs (partL (outLs T z) (outLs T z).length)).toArray 9 (0, 0)) := hO.ls
      rw [cell_of hk, List.getElem?_toArray, partL_end]
      exact outLs_head T z j u hj
    have s3 : Hid (∀ u ∈ strs (hlL T), u.oneCell' = true) := strs_one _
    have s1 : Hid ((strs (hlL T)).length = nh * (rowS []).size) := by show _ = _; rw [← Hnh.out]; simp [strs, rowS]
    have s4 : Hid ((rowS []).n + nh ≤ maxLen) := by show _ ≤ _; simp only [rowS]; unfold maxLen; simp; omega
    have s5 : Hid (((rowS []).n + nh) * 16 ≤ 140737488355328) := by show _ ≤ _; simp only [rowS]; simp; omega
    have hD : Hid (Owns w2.drew ⟨none, 0⟩ (rowS [])) := World.ownsRow_nil _ _ _ _
    have HS : Hid (∀ w5, w2.drew.grownBy w5 (⟨none, 0⟩ : Hd).blk → w5.cell? ⟨F, 1, none⟩ = some (.slice (some ⟨g, 0, none⟩) nL nL) ∧ w5.cell? ⟨F, 2, none⟩ = some (.slice ao nh cap)) := by
      intro w5 hgr
      have e : w5.heap[F]? = w2.heap[F]? := hgr.block F hFw (fun e => by cases e)
      exact ⟨by rw [World.cell?_of_block e]; exact q1, by rw [World.cell?_of_block e]; exact q2⟩
    go_upto_region 8 with fail
    go_cut [13] from 60 to 70 (fun s13 wd => ∃ hd : Hd, s13 = .slice hd.ao nh hd.cap ∧ GvS w wd w2.heap.size b x F g ao cap T z o hd (hlL T) ⟨none, 0⟩ [])
    case first =>
      go_region_held3 (fun w' => w'.cell? ⟨F, 1, none⟩ = some (.slice (some ⟨g, 0, none⟩) nL nL) ∧ w'.cell? ⟨F, 2, none⟩ = some (.slice ao nh cap)) (go_keep) ((refine step_append_any (by rfl) (.const (.slice none 0 0)) (.tmp 69) 22 (by rfl) i0 (.string ⟨#[]⟩) 16 ⟨none, 0⟩ (rowS []) Tryz.underlying22 hi hz0 hz1 hz2 rfl Nat.one_pos (by simp [Act.eval] <;> rfl) hD.out ⟨g, 0, none⟩ nh nL (strs (hlL T)) (by simp [Act.eval]) s1.out s2.out s3.out s4.out s5.out ?_; intro ao5 cap5 w5 hw5 hgr5 hfresh5; obtain ⟨y1, y2⟩ := HS.out w5 hgr5))
      have er : (⟨(rowS []).e, (rowS []).size, (rowS []).n + nh, (rowS []).xs ++ strs (hlL T)⟩ : Row) = rowS (hlL T) := by
        rw [← Hnh.out]; simp [rowS, strs]
      rw [er] at hw5
      have e0 : (rowS []).n + nh = nh := by simp [rowS]
      rw [e0]
      have HG : Hid (GvS w w5 w2.heap.size b x F g ao cap T z o ⟨ao5, cap5⟩ (hlL T) ⟨none, 0⟩ []) := (HS0.out.still (Kept.refl [] w2).drew).addW hgr5 hw5 hfresh5
      clear y1 y2 hgr5 hfresh5 hw5 e0 er
      go_wp2_with fail
      go_meet
      case rel => exact ⟨⟨ao5, cap5⟩, rfl, HG.out⟩
    case rest =>
      obtain ⟨hd, rfl, hG⟩ := hcut
      obtain ⟨n0, Hn0⟩ : ∃ n0, Hid (w2.heap.size = n0) := ⟨_, rfl⟩
      rw [Hn0.out] at hG
      clear c0 c1 q1 q2 HS0 s1 s2 s3 s4 s5 hD HS hgw hFw hW2 hV2
      have HG := (show Hid _ from hG)
      clear hG
      have hs0 : (gTx T z 0).size ≤ 1100 ∧ (gEs z (fun _ => true) 0).size ≤ 100 ∧ (gGo z (fun _ => true) 0).size ≤ 100 := start_size T z hTs hzs
      go_wp2
      go_loopg [12, 13, 14, 15, 16, 17, 18] 3 (fun gm t wn ty es go va i wr => ∃ (k : Nat) (tt tyy ess goo : ByteArray) (hw hv : Hd) (Lw Lv : List ByteArray), k ≤ 3 ∧ gm = 3 - k ∧ t = .string tt ∧ wn = .slice hw.ao (nh + Lw.length) hw.cap ∧ ty = .string tyy ∧ es = .string ess ∧ go = .string goo ∧ va = .slice hv.ao Lv.length hv.cap ∧ i = .int .i64 k ∧
        (tt.size ≤ 1100 + 20 * k ∧ tyy.size ≤ 300 * k ∧ ess.size ≤ 100 + 20 * k ∧ goo.size ≤ 100 + 20 * k ∧ Lw.length ≤ 2 * k ∧ Lv.length ≤ k) ∧
        Hid (tt = gTx T z k ∧ tyy = gTy z (hEf M) (eBf B M) k ∧ ess = gEs z (eBf B M) k ∧ goo = gGo z (gBf B) k ∧ Lw = gWa z (hEf M) (eBf B M) (gBf B) k ∧ Lv = gVa z (eBf B M) (gBf B) k) ∧ Hid (GvS w wr n0 b x F g ao cap T z o hw (hlL T ++ Lw) hv Lv))
      case atStart => exact ⟨0, _, ⟨#[]⟩, _, _, hd, ⟨none, 0⟩, [], [], by omega, rfl, rfl, rfl, rfl, rfl, rfl, rfl, rfl, ⟨by have := hs0.1; exact this, Nat.le_refl 0, by have := hs0.2.1; exact this, by have := hs0.2.2; exact this, Nat.le_refl 0, Nat.le_refl 0⟩, ⟨rfl, rfl, rfl, rfl, rfl, rfl⟩, by rw [List.append_nil]; exact HG.out⟩
      case round =>
        obtain ⟨k, tt, tyy, ess, goo, hw, hv, Lw, Lv, hk, hgm, rfl, rfl, rfl, rfl, rfl, rfl, rfl, ⟨z1, z2, z3, z4, z5, z6⟩, HT, HG⟩ := hrel
        by_cases hlt : k < 3
        · have hds := dig_size k (by omega)
          have HDG : Hid (∀ wx : World, Calls Tryz.prog 26 #[.int .i64 k] wx fun e w' => e = .returned (.string (digF k)) ∧ Kept [] wx w') := fun wx => digits_any k wx (by omega)
          obtain ⟨dk, Hdk⟩ : ∃ dk, Hid (digF k = dk) := ⟨_, rfl⟩
          rw [Hdk.out] at HDG hds
          go_upto_region 20 with (go_at_call 26; refine (HDG.out _).mono ?_; rintro e wq ⟨rfl, kq⟩; have HG := (show Hid _ from HG.out.still kq))
          go_cut [21] from 107 to 121 (fun s21 wd => s21 = .bool (eBf B M k) ∧ Hid (GvS w wd n0 b x F g ao cap T z o hw (hlL T ++ Lw) hv Lv))
          case first =>
            by_cases hM8 : (8 : Int) ≤ (M : Int)
            · by_cases hk2 : (k : Int) < 2
              · have HE := (show Hid _ from eBf_yes (B := B) hM8 hk2)
                cases hbt : (bits BinOp.and IntKind.i64 ((B : Int) / 2 ^ (2 * k)) 1 == 1)
                · go_wp2_with fail
                  go_meet
                  case rel => exact ⟨by rw [HE.out, hbt], HG⟩
                · go_wp2_with fail
                  go_meet
                  case rel => exact ⟨by rw [HE.out, hbt], HG⟩
              · have HE := (show Hid _ from eBf_no2 (B := B) (M := M) hk2)
                go_wp2_with fail
                go_meet
                case rel => exact ⟨by rw [HE.out], HG⟩
            · have HE := (show Hid _ from eBf_no1 (B := B) (k := k) hM8)
              by_cases hk2 : (k : Int) < 2
              · go_wp2_with fail
                go_meet
                case rel => exact ⟨by rw [HE.out], HG⟩
              · go_wp2_with fail
                go_meet
                case rel => exact ⟨by rw [HE.out], HG⟩
          case rest =>
            obtain ⟨rfl, HG⟩ := hcut
            obtain ⟨eb, HEB⟩ : ∃ eb, Hid (eBf B M k = eb) := ⟨_, rfl⟩
            rw [HEB.out]
            go_upto_if 122 with fail
            go_cut [15] from 123 to 126 (fun s15 wd => ∃ ess', s15 = .string ess' ∧ ess'.size ≤ 100 + 20 * (k + 1) ∧ Hid (ess' = gEs z (eBf B M) (k + 1)) ∧ Hid (GvS w wd n0 b x F g ao cap T z o hw (hlL T ++ Lw) hv Lv))
            case first =>
              cases eb
              · have HE : Hid (ess = gEs z (eBf B M) (k + 1)) := by
                  show _ = _
                  rw [gEs, if_neg (by rw [HEB.out]; simp)]; exact HT.out.2.2.1
                go_wp2_with fail
                go_meet
                case rel => exact ⟨ess, rfl, by omega, HE, HG⟩
              · have HE : Hid (ess ++ ⟨#[32]⟩ ++ (z ++ dk) = gEs z (eBf B M) (k + 1)) := by
                  show _ = _
                  rw [gEs, if_pos HEB.out, ← HT.out.2.2.1, ← Hdk.out]; rfl
                have hsz : Hid ((ess ++ ⟨#[32]⟩ ++ (z ++ dk)).size ≤ 100 + 20 * (k + 1)) := by
                  show _ ≤ _
                  simp only [ByteArray.size_append]
                  rw [show (⟨#[32]⟩ : ByteArray).size = 1 from rfl]; omega
                go_wp2_with fail
                go_meet
                case rel => exact ⟨_, rfl, hsz.out, HE, HG⟩
            case rest =>
              obtain ⟨ess', rfl, hes', HE', HG⟩ := hcut
              have HB : Hid (gBf B k = (bits BinOp.and IntKind.i64 ((B : Int) / 2 ^ (2 * k + 1)) 1 == 1)) := rfl
              go_upto_if 134 with fail
              go_cut [16, 21] from 134 to 138 (fun s16 s21 wd => ∃ goo', s16 = .string goo' ∧ s21 = .bool (eb || gBf B k) ∧ goo'.size ≤ 100 + 20 * (k + 1) ∧ Hid (goo' = gGo z (gBf B) (k + 1)) ∧ Hid (GvS w wd n0 b x F g ao cap T z o hw (hlL T ++ Lw) hv Lv))
              case first =>
                cases hbt : (bits BinOp.and IntKind.i64 ((B : Int) / 2 ^ (2 * k + 1)) 1 == 1)
                · have HE : Hid (goo = gGo z (gBf B) (k + 1)) := by
                    show _ = _
                    rw [gGo, if_neg (by rw [HB.out, hbt]; simp)]; exact HT.out.2.2.2.1
                  go_wp2_with fail
                  go_meet
                  case rel => exact ⟨goo, rfl, by rw [HB.out, hbt, Bool.or_false], by omega, HE, HG⟩
                · have HE : Hid (goo ++ ⟨#[32]⟩ ++ (z ++ dk) = gGo z (gBf B) (k + 1)) := by
                    show _ = _
                    rw [gGo, if_pos (by rw [HB.out, hbt]), ← HT.out.2.2.2.1, ← Hdk.out]; rfl
                  have hsz : Hid ((goo ++ ⟨#[32]⟩ ++ (z ++ dk)).size ≤ 100 + 20 * (k + 1)) := by
                    show _ ≤ _
                    simp only [ByteArray.size_append]
                    rw [show (⟨#[32]⟩ : ByteArray).size = 1 from rfl]; omega
                  go_wp2_with fail
                  go_meet
                  case rel => exact ⟨_, rfl, by rw [HB.out, hbt, Bool.or_true], hsz.out, HE, HG⟩
              case rest =>
                obtain ⟨goo', rfl, rfl, hgo', HGO', HG⟩ := hcut
                obtain ⟨ib, HIB⟩ : ∃ ib, Hid ((eb || gBf B k) = ib) := ⟨_, rfl⟩
                rw [HIB.out]
                have hlw : nh + Lw.length ≤ 200000010 := by omega
                have HRL : Hid ((rowS (hlL T ++ Lw)).n = nh + Lw.length) := by show _ = _; rw [← Hnh.out]; simp [rowS]
                go_upto_if 139 with fail
                go_cut [13, 17] from 140 to 147 (fun s13 s17 wd => ∃ (hw' hv' : Hd) (Lw' Lv' : List ByteArray), s13 = .slice hw'.ao (nh + Lw'.length) hw'.cap ∧ s17 = .slice hv'.ao Lv'.length hv'.cap ∧ Lw'.length ≤ 2 * k + 1 ∧ Lv'.length ≤ k + 1 ∧ Hid (Lw' = Lw ++ ifL ib [lN z k] ∧ Lv' = Lv ++ ifL ib [vN z k]) ∧ Hid (GvS w wd n0 b x F g ao cap T z o hw' (hlL T ++ Lw') hv' Lv'))
                case first =>
                  cases ib
                  · go_wp2_with fail
                    go_meet
                    case rel => exact ⟨hw, hv, Lw, Lv, rfl, rfl, by omega, by omega, ⟨by simp [ifL], by simp [ifL]⟩, HG⟩
                  · obtain ⟨ln, Hln⟩ : ∃ ln, Hid (z ++ ⟨#[102]⟩ ++ dk ++ ⟨#[32, 36, 102, 32]⟩ ++ z ++ ⟨#[99, 32]⟩ ++ (z ++ dk) = ln) := ⟨_, rfl⟩
                    obtain ⟨vk, Hvk⟩ : ∃ vk, Hid (z ++ dk = vk) := ⟨_, rfl⟩
                    have Hl2 : Hid (ln = lN z k) := by show _ = _; rw [← Hln.out, ← Hdk.out]; rfl
                    have Hv2 : Hid (vk = vN z k) := by show _ = _; rw [← Hvk.out, ← Hdk.out]; rfl
                    have A1 : Hid (GvS w (wc.alloc (.cells #[.string ln] 9)) n0 b x F g ao cap T z o hw (hlL T ++ Lw) hv Lv) := HG.out.still ((Kept.refl [] wc).alloc _)
                    have hO1 := A1.out.want
                    go_wp2_with (at_builtin; rw [Hln.out]; refine wpList_append_row _ rfl (.tmp 140) (.tmp 142) 22 rfl i0 (.string ⟨#[]⟩) 16 hw (rowS (hlL T ++ Lw)) Tryz.underlying22 hi hz0 hz1 hz2 rfl Nat.one_pos (by rw [HRL.out]; rfl) hO1 ⟨wc.heap.size, 0, none⟩ 1 1 [.string ln] rfl rfl ?c1 ?c2 Nat.one_pos ?c3 ?c4 ?_)
                    case c1 => intro j u hj; match j, hj with | 0, hj => simp at hj; subst hj; simp [Addr.add]
                    case c2 => intro u hu; simp at hu; subst hu; rfl
                    case c3 => rw [HRL.out]; unfold maxLen; omega
                    case c4 => rw [HRL.out]; omega
                    · intro g5 cap5 w5 hw5 hgr5 hf5
                      rw [rowS_snoc] at hw5
                      have A2 : Hid (GvS w w5 n0 b x F g ao cap T z o ⟨some ⟨g5, 0, none⟩, cap5⟩ (hlL T ++ Lw ++ [ln]) hv Lv) := A1.out.addW hgr5 hw5 (or_blk (by simpa using hf5))
                      have A3 : Hid (GvS w (w5.alloc (.cells #[.string vk] 9)) n0 b x F g ao cap T z o ⟨some ⟨g5, 0, none⟩, cap5⟩ (hlL T ++ Lw ++ [ln]) hv Lv) := A2.out.still ((Kept.refl [] w5).alloc _)
                      have hO3 := A3.out.vars
                      rw [HRL.out]
                      clear hw5 hgr5 hf5 hO1 A1
                      go_wp2_with (at_builtin; rw [Hvk.out]; refine wpList_append_row _ rfl (.tmp 144) (.tmp 146) 22 rfl i0 (.string ⟨#[]⟩) 16 hv (rowS Lv) Tryz.underlying22 hi hz0 hz1 hz2 rfl Nat.one_pos rfl hO3 ⟨w5.heap.size, 0, none⟩ 1 1 [.string vk] rfl rfl ?d1 ?d2 Nat.one_pos ?d3 ?d4 ?_)
                      case d1 => intro j u hj; match j, hj with | 0, hj => simp at hj; subst hj; simp [Addr.add]
                      case d2 => intro u hu; simp at hu; subst hu; rfl
                      case d3 => simp only [rowS]; unfold maxLen; omega
                      case d4 => simp only [rowS]; omega
                      · intro g6 cap6 w6 hw6 hgr6 hf6
                        rw [rowS_snoc] at hw6
                        have A4 : Hid (GvS w w6 n0 b x F g ao cap T z o ⟨some ⟨g5, 0, none⟩, cap5⟩ (hlL T ++ (Lw ++ [ln])) ⟨some ⟨g6, 0, none⟩, cap6⟩ (Lv ++ [vk])) := by
                          rw [← List.append_assoc]
                          exact A3.out.addV hgr6 hw6 (or_blk (by simpa using hf6))
                        clear hw6 hgr6 hf6 hO3 A3
                        go_wp2_with fail
                        rw [← Hln.out, ← Hvk.out]
                        go_meet
                        case rel => exact ⟨⟨some ⟨g5, 0, none⟩, cap5⟩, ⟨some ⟨g6, 0, none⟩, cap6⟩, Lw ++ [ln], Lv ++ [vk], by simp [Nat.add_assoc], by simp [rowS], by simp; omega, by simp; omega, ⟨by rw [Hl2.out]; rfl, by rw [Hv2.out]; rfl⟩, A4⟩
                case rest =>
                  obtain ⟨hw', hv', Lw', Lv', rfl, rfl, hlw', hlv', HLL, HG⟩ := hcut
                  have H1 : Hid (tt ++ ⟨#[32]⟩ ++ (z ++ dk) = gTx T z (k + 1)) := by show _ = _; rw [gTx, ← HT.out.1, ← Hdk.out]; rfl
                  have hz1t : (tt ++ ⟨#[32]⟩ ++ (z ++ dk)).size ≤ 1100 + 20 * (k + 1) := by
                    simp only [ByteArray.size_append, lit_sizes]; omega
                  have H2 : Hid (Lw ++ ifL ib [lN z k] = Lw ++ ifL (eBf B M k || gBf B k) [lN z k] ∧ Lv' = gVa z (eBf B M) (gBf B) (k + 1)) := by
                    have : (eBf B M k || gBf B k) = ib := by rw [HEB.out]; exact HIB.out
                    refine ⟨by rw [this], ?_⟩
                    rw [gVa, this, ← HT.out.2.2.2.2.2]; exact HLL.out.2
                  obtain ⟨ty1, Hty1⟩ : ∃ ty1, Hid (tyy ++ ⟨#[32]⟩ ++ (z ++ ⟨#[102]⟩ ++ dk ++ ⟨#[32, 36, 102, 32]⟩ ++ z ++ ⟨#[99, 32]⟩ ++ (z ++ dk)) ++ ⟨#[32, 36, 46]⟩ = ty1) := ⟨_, rfl⟩
                  have hty1 : ty1.size ≤ 300 * k + 50 := by
                    rw [← Hty1.out]; simp only [ByteArray.size_append, lit_sizes]; omega
                  have Hty2 : Hid (ty1 = gTy z (hEf M) (eBf B M) k ++ ⟨#[32]⟩ ++ lN z k ++ ⟨#[32, 36, 46]⟩) := by
                    show _ = _; rw [← Hty1.out, ← HT.out.2.1, ← Hdk.out]; rfl
                  obtain ⟨t1, Ht1⟩ : ∃ t1, Hid (tt ++ ⟨#[32]⟩ ++ (z ++ dk) = t1) := ⟨_, rfl⟩
                  rw [Ht1.out] at H1 hz1t
                  rw [Hty1.out, Ht1.out]
                  have HT5 := (show Hid _ from HT.out.2.2.2.2.1)
                  by_cases hc1 : (k : Int) = 1 ∧ (8 : Int) ≤ (M : Int)
                  · obtain ⟨hk1, hM8⟩ := hc1
                    have hkk : k = 1 := by omega
                    subst hkk
                    clear hk1
                    have HC : Hid ((((1 : Nat) == 1) && hEf M) = true) := by
                      show _ = _
                      unfold hEf
                      rw [show decide (8 ≤ M) = true by simp; omega]; rfl
                    have HE2 : Hid (gTx T z (1 + 1) = t1 ∧ gTy z (hEf M) (eBf B M) (1 + 1) = ty1 ++ ⟨#[32]⟩ ++ ess' ++ ⟨#[32, 36, 46]⟩ ∧ gWa z (hEf M) (eBf B M) (gBf B) (1 + 1) = Lw' ++ [ess']) := by
                      refine ⟨H1.out.symm, ?_, ?_⟩
                      · rw [gTy, if_pos HC.out, Hty2.out, HE'.out]
                      · rw [gWa, HC.out, ← HT5.out, HLL.out.1, H2.out.1, HE'.out]; simp [ifL]
                    have hty2 : (ty1 ++ ⟨#[32]⟩ ++ ess' ++ ⟨#[32, 36, 46]⟩).size ≤ 300 * (1 + 1) := by simp only [ByteArray.size_append, lit_sizes]; omega
                    have HRL2 : Hid ((rowS (hlL T ++ Lw')).n = nh + Lw'.length) := by show _ = _; rw [← Hnh.out]; simp [rowS]
                    have A1 : Hid (GvS w (wc.alloc (.cells #[.string ess'] 9)) n0 b x F g ao cap T z o hw' (hlL T ++ Lw') hv' Lv') := HG.out.still ((Kept.refl [] wc).alloc _)
                    have hO1 := A1.out.want
                    go_wp2_with (at_builtin; refine wpList_append_row _ rfl (.tmp 159) (.tmp 161) 22 rfl i0 (.string ⟨#[]⟩) 16 hw' (rowS (hlL T ++ Lw')) Tryz.underlying22 hi hz0 hz1 hz2 rfl Nat.one_pos (by rw [HRL2.out]; rfl) hO1 ⟨wc.heap.size, 0, none⟩ 1 1 [.string ess'] rfl rfl ?c1 ?c2 Nat.one_pos ?c3 ?c4 ?_)
                    case c1 => intro j u hj; match j, hj with | 0, hj => simp at hj; subst hj; simp [Addr.add]
                    case c2 => intro u hu; simp at hu; subst hu; rfl
                    case c3 => rw [HRL2.out]; unfold maxLen; omega
                    case c4 => rw [HRL2.out]; omega
                    · intro g5 cap5 w5 hw5 hgr5 hf5
                      rw [rowS_snoc] at hw5
                      have A2 : Hid (GvS w w5 n0 b x F g ao cap T z o ⟨some ⟨g5, 0, none⟩, cap5⟩ (hlL T ++ (Lw' ++ [ess'])) hv' Lv') := by
                        rw [← List.append_assoc]
                        exact A1.out.addW hgr5 hw5 (or_blk (by simpa using hf5))
                      rw [HRL2.out]
                      clear hw5 hgr5 hf5 hO1 A1
                      go_wp2
                      go_roundg (3 - (1 + 1))
                      case measure => omega
                      case rel => exact ⟨1 + 1, t1, _, ess', goo', ⟨some ⟨g5, 0, none⟩, cap5⟩, hv', Lw' ++ [ess'], Lv', by omega, rfl, rfl, by simp [Nat.add_assoc], rfl, rfl, rfl, rfl, by go_num, ⟨hz1t, hty2, hes', hgo', by simp; omega, hlv'⟩, ⟨HE2.out.1.symm, HE2.out.2.1.symm, HE'.out, HGO'.out, HE2.out.2.2.symm, H2.out.2⟩, A2⟩
                  · have HC : Hid (((k == 1) && hEf M) = false) := by
                      show _ = _
                      unfold hEf
                      by_cases h : k = 1
                      · rw [show decide (8 ≤ M) = false by simp; omega]; simp
                      · rw [show (k == 1) = false by simpa using h]; rfl
                    have HE2 : Hid (gTx T z (k + 1) = t1 ∧ gTy z (hEf M) (eBf B M) (k + 1) = ty1 ∧ gWa z (hEf M) (eBf B M) (gBf B) (k + 1) = Lw') := by
                      refine ⟨H1.out.symm, ?_, ?_⟩
                      · rw [gTy, if_neg (by rw [HC.out]; simp)]; exact Hty2.out.symm
                      · rw [gWa, HC.out, ← HT5.out, HLL.out.1, H2.out.1]; simp [ifL]
                    have hi1 : ¬ ((k : Int) = 1 ∧ (8 : Int) ≤ (M : Int)) := hc1
                    by_cases hk1 : (k : Int) = 1
                    · have hM8 : ¬ (8 : Int) ≤ (M : Int) := fun h => hc1 ⟨hk1, h⟩
                      have hkk : k = 1 := by omega
                      subst hkk
                      clear hc1 hi1 hk1
                      go_wp2
                      go_roundg (3 - (1 + 1))
                      case measure => omega
                      case rel => exact ⟨1 + 1, t1, ty1, ess', goo', hw', hv', Lw', Lv', by omega, rfl, rfl, rfl, rfl, rfl, rfl, rfl, by go_num, ⟨hz1t, by omega, hes', hgo', by omega, hlv'⟩, ⟨HE2.out.1.symm, HE2.out.2.1.symm, HE'.out, HGO'.out, HE2.out.2.2.symm, H2.out.2⟩, HG⟩
                    · have hkb : ((k : Int) == 1) = false := by simpa using hk1
                      clear hc1 hi1
                      go_wp2
                      go_roundg (3 - (k + 1))
                      case measure => omega
                      case rel => exact ⟨k + 1, t1, ty1, ess', goo', hw', hv', Lw', Lv', by omega, rfl, rfl, rfl, rfl, rfl, rfl, rfl, by go_num, ⟨hz1t, by omega, hes', hgo', by omega, hlv'⟩, ⟨HE2.out.1.symm, HE2.out.2.1.symm, HE'.out, HGO'.out, HE2.out.2.2.symm, H2.out.2⟩, HG⟩
        · have e : k = 3 := by omega
          subst e
          have hO := HG.out.O
          have q1 := hO.c1
          have q2 := hO.c2
          rw [HnL.out] at q1
          rw [Hnh.out] at q2
          have hFr := hO.F.2
          have hwr : IntKind.i64.wrap ((nL : Int) - 1) = (nL : Int) - 1 := by rw [IntKind.wrap_i64]; omega
          have htn : ((nL : Int) - 1).toNat = nL - 1 := by omega
          have hb1 : (nh : Int) ≤ (nL : Int) - 1 := by omega
          have hb2 : (nL : Int) - 1 ≤ (nL : Int) := by omega
          have hb3 : (0 : Int) ≤ (nL : Int) - 1 := by omega
          have hLs := hO.ls
          have s2 : Hid (∀ j u, (strs (plL T))[j]? = some u → wr.drew.cell? ((⟨g, nh, none⟩ : Addr).add j) = some u) := by
            intro j u hj
            rw [Addr.add_lit]
            have hk : wr.drew.heap[g]? = some (.cells (strs (partL (outLs T z) (outLs T z).length)).toArray 9 (0, 0)) := hLs
            rw [cell_of hk, List.getElem?_toArray, partL_end, ← Hnh.out]
            exact outLs_mid T z j u hj
          have hnm : Hid (nL - 1 - nh = (plL T).length) := by show _ = _; have := HLl.out; omega
          have s3 : Hid (∀ u ∈ strs (plL T), u.oneCell' = true) := strs_one _
          have s1 : Hid ((strs (plL T)).length = (nL - 1 - nh) * (rowS (hlL T ++ Lw)).size) := by show _ = _; rw [hnm.out]; simp [strs, rowS]
          have HRL : Hid ((rowS (hlL T ++ Lw)).n = nh + Lw.length) := by show _ = _; rw [← Hnh.out]; simp [rowS]
          have s4 : Hid ((rowS (hlL T ++ Lw)).n + (nL - 1 - nh) ≤ maxLen) := by show _ ≤ _; rw [HRL.out]; unfold maxLen; omega
          have s5 : Hid (((rowS (hlL T ++ Lw)).n + (nL - 1 - nh)) * 16 ≤ 140737488355328) := by show _ ≤ _; rw [HRL.out]; omega
          have hD : Hid (GvS w wr.drew n0 b x F g ao cap T z o hw (hlL T ++ Lw) hv Lv) := HG.out.still (Kept.refl [] wr).drew
          have HS : Hid (∀ w5, wr.drew.grownBy w5 hw.blk → w5.cell? ⟨F, 1, none⟩ = some (.slice (some ⟨g, 0, none⟩) nL nL) ∧ w5.cell? ⟨F, 2, none⟩ = some (.slice ao nh cap)) := by
            intro w5 hgr
            have e : w5.heap[F]? = wr.heap[F]? := hgr.block F hFr (fun e => by have := HG.out.farW F e.symm; have := HG.out.low.2.2.1; omega)
            exact ⟨by rw [World.cell?_of_block e]; exact q1, by rw [World.cell?_of_block e]; exact q2⟩
          clear hLs hO
          go_upto_region 33 with fail
          go_cut [13] from 167 to 184 (fun s13 wd => ∃ hw' : Hd, s13 = .slice hw'.ao (nh + Lw.length + (plL T).length) hw'.cap ∧ Hid (GvS w wd n0 b x F g ao cap T z o hw' (hlL T ++ Lw ++ plL T) hv Lv))
          case first =>
            go_region_held3 (fun w' => w'.cell? ⟨F, 1, none⟩ = some (.slice (some ⟨g, 0, none⟩) nL nL) ∧ w'.cell? ⟨F, 2, none⟩ = some (.slice ao nh cap)) (go_keep) ((refine step_append_any (by rfl) (.tmp 167) (.tmp 183) 22 (by rfl) i0 (.string ⟨#[]⟩) 16 hw (rowS (hlL T ++ Lw)) Tryz.underlying22 hi hz0 hz1 hz2 rfl Nat.one_pos (by rw [HRL.out]; simp [Act.eval]) hD.out.want ⟨g, nh, none⟩ (nL - 1 - nh) (nL - nh) (strs (plL T)) (by simp [Act.eval]; intro hh; omega) s1.out s2.out s3.out s4.out s5.out ?_; intro ao5 cap5 w5 hw5 hgr5 hfresh5; obtain ⟨y1, y2⟩ := HS.out w5 hgr5))
            have er : (⟨(rowS (hlL T ++ Lw)).e, (rowS (hlL T ++ Lw)).size, (rowS (hlL T ++ Lw)).n + (nL - 1 - nh), (rowS (hlL T ++ Lw)).xs ++ strs (plL T)⟩ : Row) = rowS (hlL T ++ Lw ++ plL T) := by
              rw [hnm.out]; simp [rowS, strs, Nat.add_assoc]
            rw [er] at hw5
            have e0 : (rowS (hlL T ++ Lw)).n + (nL - 1 - nh) = nh + Lw.length + (plL T).length := by rw [HRL.out, hnm.out]
            rw [e0]
            have A2 : Hid (GvS w w5 n0 b x F g ao cap T z o ⟨ao5, cap5⟩ (hlL T ++ Lw ++ plL T) hv Lv) := hD.out.addW hgr5 hw5 hfresh5
            clear y1 y2 hgr5 hfresh5 hw5 e0 er
            go_wp2_with fail
            go_meet
            case rel => exact ⟨⟨ao5, cap5⟩, rfl, A2⟩
          case rest =>
            obtain ⟨hw2, rfl, HG⟩ := hcut
            have HF : Hid (fullF M = (bits BinOp.and IntKind.i64 (M : Int) 7 == 7)) := rfl
            obtain ⟨tz, Htz⟩ : ∃ tz, Hid (tt ++ ⟨#[32, 36, 46]⟩ ++ tyy = tz) := ⟨_, rfl⟩
            have htz : tz.size ≤ 2200 := by rw [← Htz.out]; simp only [ByteArray.size_append, lit_sizes]; omega
            go_upto_if 187 with fail
            rw [Htz.out]
            go_cut [12] from 187 to 198 (fun s12 wd => ∃ t2, s12 = .string t2 ∧ t2.size ≤ 2300 ∧ Hid (t2 = gFu z tz (fullF M)) ∧ Hid (GvS w wd n0 b x F g ao cap T z o hw2 (hlL T ++ Lw ++ plL T) hv Lv))
            case first =>
              cases hbt : (bits BinOp.and IntKind.i64 (M : Int) 7 == 7)
              · have HE : Hid (tz = gFu z tz (fullF M)) := by show _ = _; unfold gFu; rw [if_neg (by rw [HF.out, hbt]; simp)]
                go_wp2_with fail
                go_meet
                case rel => exact ⟨tz, rfl, by omega, HE, HG⟩
              · have HE : Hid (tz ++ ⟨#[32, 36, 100, 32]⟩ ++ z ++ ⟨#[50, 32]⟩ ++ z ++ ⟨#[48, 32]⟩ ++ z ++ ⟨#[49, 32, 36, 46]⟩ = gFu z tz (fullF M)) := by show _ = _; unfold gFu; rw [if_pos (by rw [HF.out, hbt])]
                have hsz : Hid ((tz ++ ⟨#[32, 36, 100, 32]⟩ ++ z ++ ⟨#[50, 32]⟩ ++ z ++ ⟨#[48, 32]⟩ ++ z ++ ⟨#[49, 32, 36, 46]⟩).size ≤ 2300) := by
                  show _ ≤ _
                  simp only [ByteArray.size_append]
                  rw [show (⟨#[32, 36, 100, 32]⟩ : ByteArray).size = 4 from rfl, show (⟨#[50, 32]⟩ : ByteArray).size = 2 from rfl, show (⟨#[48, 32]⟩ : ByteArray).size = 2 from rfl, show (⟨#[49, 32, 36, 46]⟩ : ByteArray).size = 4 from rfl]; omega
                go_wp2_with fail
                go_meet
                case rel => exact ⟨_, rfl, hsz.out, HE, HG⟩
            case rest =>
              obtain ⟨t2, rfl, ht2, HT2, HG⟩ := hcut
              rename_i K hK
              refine hK _ _ ?_
              exact given_pairs w _ n0 b x F g ao cap T z o hw2 hv (hlL T ++ Lw ++ plL T) Lv t2 goo B M (nh + Lw.length + (plL T).length) Lv.length hT hZ hx hxw hMo ht2 (by omega) (by show _ = _; rw [HT2.out, ← Htz.out, HT.out.1, HT.out.2.1]) HT.out.2.2.2.1 (by show _ = _; rw [HT.out.2.2.2.2.1]) (by show _ = _; rw [List.length_append, List.length_append, Hnh.out]) (by have := HLl.out; omega) HT.out.2.2.2.2.2 rfl (by omega) HG _ _ _ _ _ _ _ _ _ _ _ _ _ _ _ _ _ _ _ _ _ _ _ _ _ _ _ _ _ _ _ _ _ _ _ _ _ _ _ _ _ _ _ _ _ _ _ _ _ _ _ _ _ _ _ _ _ _ _ _ _ _ _ _ _ _ _ _ _ _ _ _ _ _ _ _ _ _ _ _ _ _ _ _ _ _ _ _ _ _ _ _ _ _ _ _ _ _ _ _ _ _ _ _ _ _ _ _ _ _ _ _ _ _ _ _ _ _ _ _ _ _ _ _ _ _ _ _ _ _ _ _ _ _ _ _ _ _ _ _ _ _ _ _ _ _ _ _ _ _ _ _ _ _ _ _ _ _ _ _ _ _ _ _ _ _ _ _ _ _ _ _ _ _ _ _ _ _ _ _ _ _ _ _ _ _ _ _ _ _ _ _ _ _ _ _ _ _ _ _ _ _ _ _ _ _ _ _ _ _ _ _ _ _ _ _ _ _ _ _ _ _ _ _ _ _ _ _ _ _ _ _ _ _ _ _ _ _ _ _ _ _ _ _ _ _ _ _ _ _ _ _ _ _ _ _ _ _ _ _ _ _ _ _ _ _ _ _ _ _ _ _ _ _ _ _ _ _ _ _ _ _ _ _ _ _ _ _ _ _ _ _ _ _ _ _ _ _ _ _ _ _ _ _ _ _ _ _ _ _ _ _ _ _ _ _ _ _ _ _ _ _ _ _ _ _ _ _ _ _ _ _ _ _ _ _ _ _

end Go.Proofs.YtcipkfhpcbddiaaGreat
