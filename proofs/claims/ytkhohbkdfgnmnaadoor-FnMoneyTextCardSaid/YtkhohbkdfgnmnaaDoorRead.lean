/- The contracts of ReadMoney. -/
import Derived.Test.YtkhohbkdfgnmnaaDoorReadPlain
import Derived.Test.YtkhohbkdfgnmnaaDoorShelf2
import Derived.Lib.AtoiErrMem
import Derived.Lib.ConvBytes
namespace Go.Proofs.YtkhohbkdfgnmnaaDoor
open Go.RowKit

theorem var_keep {w w' : World} {n : String} {cs : Array Value} (h : w.var? Tryd.prog n = some cs) (hb : Below w.heap.size w w') : w'.var? Tryd.prog n = some cs := by
  unfold World.var? at *
  cases hg : Tryd.prog.globalNamed n with
  | none => simp [hg] at h
  | some g =>
    simp only [hg, Option.bind_some] at h ⊢
    have hlt : g < w.heap.size := by
      rcases Nat.lt_or_ge g w.heap.size with h' | h'
      · exact h'
      · rw [Array.getElem?_eq_none h'] at h; simp at h
    rw [hb.block g hlt]
    exact h

/-- what the library's variables hold, as far as ReadMoney asks -/
def ReadEnv (w : World) : Prop := Pow10 w ∧ (∃ m, w.cell? ⟨2, 0, none⟩ = some (.int .i64 m)) ∧
  (∃ tp p, w.var? Tryd.prog "strconv.ErrSyntax" = some #[.iface tp p]) ∧ (∃ tp p, w.var? Tryd.prog "strconv.ErrRange" = some #[.iface tp p])
theorem ReadEnv.below {w w' : World} (h : ReadEnv w) (hb : Below w.heap.size w w') : ReadEnv w' := by
  obtain ⟨h1, ⟨m, h2⟩, ⟨t, p, h3⟩, ⟨t2, p2, h4⟩⟩ := h
  exact ⟨h1.below hb, ⟨m, (hb.cell (World.block_lt_of_cell? w _ h2)).trans h2⟩, ⟨t, p, var_keep h3 hb⟩, ⟨t2, p2, var_keep h4 hb⟩⟩

theorem read_two {v w : Int} {b c : Bool} (h : v = w) (g : b = c) : Ending.returned (.tuple #[.int .i64 v, .bool b]) = .returned (.tuple #[.int .i64 w, .bool c]) := by rw [h, g]

theorem replace_len (l : List UInt8) : (Lib.replace l [46] [] 1).length ≤ l.length := by
  unfold Lib.replace
  rw [if_neg (by decide)]
  have hn : Lib.replaceNum l [46] 1 = 0 ∨ Lib.replaceNum l [46] 1 = 1 := by
    unfold Lib.replaceNum
    by_cases h : (1 : Int) < 0 ∨ (Lib.count l [46] : Int) < 1
    · rw [if_pos h]; omega
    · rw [if_neg h]; exact .inr rfl
  rcases hn with h | h
  · rw [h]; exact Nat.le_refl _
  · rw [h]
    simp only [Lib.replaceK]
    split
    · exact Nat.le_refl _
    · simp; omega
theorem iread_ok {l : List UInt8} {cur v : Int} (h : Lib.parseIntB 64 (Lib.replace l [46] [] 1) = .ok v) : implRead l cur = if moneyT v cur = l then some v else none := by
  unfold implRead; rw [h]
theorem iread_syn {l : List UInt8} {cur : Int} (h : Lib.parseIntB 64 (Lib.replace l [46] [] 1) = .«syntax») : implRead l cur = none := by
  unfold implRead; rw [h]
theorem iread_rng {l : List UInt8} {cur : Int} (h : Lib.parseIntB 64 (Lib.replace l [46] [] 1) = .range) : implRead l cur = none := by
  unfold implRead; rw [h]

set_option maxHeartbeats 1000000 in
theorem iRead_any (l : List UInt8) (cur : Int) (w : World) (hl : l.length ≤ 1048576) (hw : (Lit.int .i64 cur).wf = true) (he : ReadEnv w) :
    Calls Tryd.prog 10 #[.string ⟨l.toArray⟩, .int .i64 cur] w fun e w' => e = .returned (.tuple #[.int .i64 ((implRead l cur).getD 0), .bool (implRead l cur).isSome]) ∧ Below w.heap.size w w' := by
  have HE : Hid (ReadEnv w) := he
  obtain ⟨_, ⟨m, hm⟩, _, _⟩ := he
  obtain ⟨r, hr⟩ : ∃ r, Lib.replace l [46] [] 1 = r := ⟨_, rfl⟩
  have hrl : r.length ≤ l.length := hr ▸ replace_len l
  have hsz : (⟨l.toArray⟩ : ByteArray).size = l.length := ba_size l
  have hsr : (⟨r.toArray⟩ : ByteArray).size = r.length := ba_size r
  have HQ : Hid (Lib.replace l [46] [] 1 = r) := hr
  have HSZ : Hid _ := hsz
  have HSR : Hid _ := hsr
  clear hr hsz hsr
  go_enter Tryd.func10, Tryd.ntmps10
  go_wp2_with fail
  refine (Tryd.strings_Replace ⟨l.toArray⟩ ⟨#[46]⟩ ⟨#[]⟩ 1 m _ (by rw [HSZ.out]; omega) hm (by decide) (by rw [HSZ.out]; show l.length + _ * 0 ≤ _; omega)).mono ?_
  rintro e w1 ⟨rfl, b1⟩
  rw [show Lib.replace (⟨l.toArray⟩ : ByteArray).data.toList (⟨#[46]⟩ : ByteArray).data.toList (⟨#[]⟩ : ByteArray).data.toList 1 = r from HQ.out]
  have he1 := HE.out.below b1
  have HE1 : Hid (ReadEnv w1) := he1
  obtain ⟨_, _, ⟨tp, p, hv1⟩, ⟨tp2, p2, hv2⟩⟩ := he1
  clear hm
  cases hpar : Lib.parseIntB 64 r with
  | ok v =>
    go_wp2_with fail
    refine (Tryd.strconv_ParseInt_10_at64_ok ⟨r.toArray⟩ (by rw [HSR.out]; omega) v hpar _).mono ?_
    rintro e w2 ⟨rfl, hw2⟩
    have b2 : Below w1.heap.size w1 w2 := by
      rcases hw2 with rfl | ⟨t, rfl⟩
      · exact Below.refl _ _
      · exact Lib.bytesWorld_below _ _ _
    have HT := Pow10.below HE1.out.1 b2
    have HT2 : Hid _ := HT
    clear hw2 hv1 hv2 HT
    have HI : Hid (implRead l cur = if moneyT v cur = l then some v else none) := iread_ok (by rw [HQ.out, hpar])
    clear hpar
    go_wp2_with fail
    refine (iMoneyText_any v cur _ hw HT2.out).mono ?_
    rintro e w3 ⟨rfl, b3⟩
    have B3 := next (next b1 b2) b3
    clear b1 b2 b3
    by_cases hm : moneyT v cur = l
    · have HN : Hid (implRead l cur = some v) := by rw [Hid, HI.out, if_pos hm]
      rw [hm]
      clear hm HI
      go_wp2
      go_ret2
      exact ⟨read_two (by rw [HN.out]; rfl) (by rw [HN.out]; rfl), B3⟩
    · have HN : Hid (implRead l cur = none) := by rw [Hid, HI.out, if_neg hm]
      generalize moneyT v cur = t at hm
      have hm' : (t == l) = false := by simpa using hm
      clear HI hm
      go_wp2
      go_ret2
      exact ⟨read_two (by rw [HN.out]; rfl) (by rw [HN.out]; rfl), B3⟩
  | «syntax» =>
    have HN : Hid (implRead l cur = none) := iread_syn (by rw [HQ.out, hpar])
    go_wp2_with fail
    refine (Tryd.strconv_ParseInt_10_at64_syntax_var ⟨r.toArray⟩ (by rw [HSR.out]; omega) hpar tp p _ hv1).mono ?_
    rintro e w2 ⟨N, rfl, _, _, b2⟩
    clear hv1 hv2
    go_wp2
    go_ret2
    exact ⟨read_two (by rw [HN.out]; rfl) (by rw [HN.out]; rfl), next b1 b2⟩
  | range =>
    have HN : Hid (implRead l cur = none) := iread_rng (by rw [HQ.out, hpar])
    go_wp2_with fail
    refine (Tryd.strconv_ParseInt_10_at64_range_var ⟨r.toArray⟩ (by rw [HSR.out]; omega) hpar tp2 p2 _ hv2).mono ?_
    rintro e w2 ⟨N, rfl, _, _, b2⟩
    clear hv1 hv2
    go_wp2
    go_ret2
    exact ⟨read_two (by rw [HN.out]; rfl) (by rw [HN.out]; rfl), next b1 b2⟩

theorem sread_long {l : List UInt8} {cur : Int} (h : 20 < l.length) : specRead l cur = none := by unfold specRead; rw [if_pos h]
theorem sread_none {l : List UInt8} {cur : Int} (h : scan 0 l = none) : specRead l cur = none := by
  unfold specRead; split
  · rfl
  · rw [h]
theorem sread_some {l : List UInt8} {cur : Int} {x : Nat} (h : ¬ 20 < l.length) (hs : scan 0 l = some x) : specRead l cur = if l = [] ∨ moneyT (signed l x) cur ≠ l then none else some (signed l x) := by
  unfold specRead; rw [if_neg h, hs]
theorem scan_drop (l : List UInt8) (k x : Nat) (h : k < l.length) (hs : scan 0 l = scan x (l.drop k)) : scan 0 l = if scanStep x (l.getD k 0) ≤ 1000000000000 then scan (scanStep x (l.getD k 0)) (l.drop (k + 1)) else none := by
  rw [hs, List.drop_eq_getElem_cons h, scan]
  simp [List.getD_eq_getElem?_getD, h]

theorem byte_at (l : List UInt8) (k : Nat) (h : k < l.length) : l.getD k 0 = (⟨l.toArray⟩ : ByteArray)[k]'(by rw [ba_size]; exact h) := by
  rw [List.getD_eq_getElem?_getD, List.getElem?_eq_getElem h]
  rfl
theorem wrap_byte (c : UInt8) : wrap64 ((c.toNat : Nat) : Int) = (c.toNat : Int) := by
  have := c.toNat_lt
  unfold wrap64; omega

set_option maxHeartbeats 1000000 in
theorem sRead_any (l : List UInt8) (cur : Int) (w : World) (hl : l.length ≤ 1048576) :
    Calls Tryd.prog 12 #[.string ⟨l.toArray⟩, .int .i64 cur] w fun e w' => e = .returned (.tuple #[.int .i64 ((specRead l cur).getD 0), .bool (specRead l cur).isSome]) ∧ Below w.heap.size w w' := by
  by_cases h20 : 20 < l.length
  · have HN : Hid (specRead l cur = none) := sread_long h20
    have h20' : (20 : Int) < (l.length : Int) := by omega
    go_enter Tryd.func12, Tryd.ntmps12
    go_wp2
    go_ret2
    exact ⟨read_two (by rw [HN.out]; rfl) (by rw [HN.out]; rfl), Below.refl _ _⟩
  · have h20' : ¬ (20 : Int) < (l.length : Int) := by omega
    go_enter Tryd.func12, Tryd.ntmps12
    go_wp2
    go_loop [6, 7] (fun v i => ∃ (k x : Nat), k ≤ l.length ∧ x ≤ 1000000000000 ∧ i = .int .i64 k ∧ v = .int .i64 x ∧ scan 0 l = scan x (l.drop k)) (fun _ i => l.length - (intOf i).toNat)
    case atStart => exact ⟨0, 0, Nat.zero_le _, by omega, rfl, rfl, rfl⟩
    case round =>
      obtain ⟨k, x, hk, hx, rfl, rfl, hs⟩ := hrel
      by_cases hlt : k < l.length
      · have HS : Hid _ := scan_drop l k x hlt hs
        clear hs
        have hki : (k : Int) < (l.length : Int) := by omega
        go_wp2_with fail
        obtain ⟨c, hb⟩ : ∃ c, (⟨l.toArray⟩ : ByteArray)[k]'(by rw [ba_size]; exact hlt) = c := ⟨_, rfl⟩
        have hcl : l.getD k 0 = c := (byte_at l k hlt).trans hb
        have hc : c.toNat ≤ 255 := by have := c.toNat_lt; omega
        have hwc := wrap_byte c
        rw [hcl] at HS
        rw [hb, hwc]
        clear hcl
        refine (in_any _ _ _ _).mono ?_
        rintro e w1 ⟨rfl, hw1⟩
        subst hw1
        by_cases hd : 48 ≤ c.toNat ∧ c.toNat ≤ 57
        · have hin : inB (c.toNat : Int) 48 57 = true := by simp [inB]; omega
          have hst : scanStep x c = x * 10 + (c.toNat - 48) := by simp only [scanStep]; rw [if_pos hd]
          rw [hst] at HS
          have hsi : ((x * 10 + (c.toNat - 48) : Nat) : Int) = 10 * (x : Int) + (c.toNat : Int) - 48 := by omega
          by_cases hm : x * 10 + (c.toNat - 48) ≤ 1000000000000
          · rw [if_pos hm] at HS
            have hm' : ¬ (1000000000000 : Int) < 10 * (x : Int) + (c.toNat : Int) - 48 := by omega
            have HSI : Hid _ := hsi
            clear hsi hst
            go_wp2
            go_round
            case rel => exact ⟨k + 1, x * 10 + (c.toNat - 48), by omega, hm, by go_num, by rw [HSI.out], HS.out⟩
            case measure => simp [intOf]; omega
          · rw [if_neg hm] at HS
            have hm' : (1000000000000 : Int) < 10 * (x : Int) + (c.toNat : Int) - 48 := by omega
            have HN : Hid (specRead l cur = none) := sread_none HS.out
            clear hsi hst
            go_wp2
            go_ret2
            exact ⟨read_two (by rw [HN.out]; rfl) (by rw [HN.out]; rfl), Below.refl _ _⟩
        · have hin : inB (c.toNat : Int) 48 57 = false := by simp [inB]; omega
          have hst : scanStep x c = x := by simp only [scanStep]; rw [if_neg hd]
          rw [hst, if_pos hx] at HS
          have hm' : ¬ (1000000000000 : Int) < (x : Int) := by omega
          clear hst
          go_wp2
          go_round
          case rel => exact ⟨k + 1, x, by omega, hx, by go_num, rfl, HS.out⟩
          case measure => simp [intOf]; omega
      · have hsc : scan 0 l = some x := by rw [hs, List.drop_of_length_le (by omega)]; rfl
        have HR : Hid _ := sread_some (cur := cur) h20 hsc
        clear hs hsc
        have hki : ¬ (k : Int) < (l.length : Int) := by omega
        by_cases hne : l = []
        · subst hne
          have HN : Hid (specRead [] cur = none) := by rw [Hid, HR.out, if_pos (.inl rfl)]
          clear HR
          go_wp2
          go_ret2
          exact ⟨read_two (by rw [HN.out]; rfl) (by rw [HN.out]; rfl), Below.refl _ _⟩
        · have hpos : 0 < l.length := List.length_pos_iff.2 hne
          have hposi : (0 : Int) < (l.length : Int) := by omega
          have hnb : (l == []) = false := by simpa using hne
          obtain ⟨c0, hb0⟩ : ∃ c, (⟨l.toArray⟩ : ByteArray)[0]'(by rw [ba_size]; exact hpos) = c := ⟨_, rfl⟩
          have hh : l.head? = some c0 := by
            rw [← hb0]; cases l with
            | nil => exact absurd rfl hne
            | cons a r => rfl
          by_cases hs45 : c0 = 45
          · subst hs45
            have HSG : Hid (signed l x = -(x : Int)) := by rw [Hid, signed, if_pos hh]
            rw [HSG.out] at HR
            clear hh
            go_wp2_with fail
            refine (sMoneyText_any _ _ _).mono ?_
            rintro e w1 ⟨rfl, b1⟩
            by_cases hm : moneyT (-(x : Int)) cur = l
            · have HN : Hid (specRead l cur = some (-(x : Int))) := by rw [Hid, HR.out, if_neg (by rintro (h | h); exact hne h; exact h hm)]
              rw [hm]
              clear hm HR
              go_wp2
              go_ret2
              exact ⟨read_two (by rw [HN.out]; rfl) (by rw [HN.out]; rfl), b1⟩
            · have HN : Hid (specRead l cur = none) := by rw [Hid, HR.out, if_pos (.inr hm)]
              generalize moneyT (-(x : Int)) cur = t at hm
              have hm' : (t == l) = false := by simpa using hm
              clear hm
              go_wp2
              go_ret2
              exact ⟨read_two (by rw [HN.out]; rfl) (by rw [HN.out]; rfl), b1⟩
          · have HSG : Hid (signed l x = (x : Int)) := by rw [Hid, signed, if_neg (by rw [hh]; simpa using hs45)]
            rw [HSG.out] at HR
            have hs' : ((c0.toNat : Int) == 45) = false := by
              have : c0.toNat ≠ 45 := fun e => hs45 (UInt8.toNat_inj.1 e)
              simp; omega
            clear hh hs45
            go_wp2_with fail
            refine (sMoneyText_any _ _ _).mono ?_
            rintro e w1 ⟨rfl, b1⟩
            by_cases hm : moneyT ((x : Int)) cur = l
            · have HN : Hid (specRead l cur = some ((x : Int))) := by rw [Hid, HR.out, if_neg (by rintro (h | h); exact hne h; exact h hm)]
              rw [hm]
              clear hm HR
              go_wp2
              go_ret2
              exact ⟨read_two (by rw [HN.out]; rfl) (by rw [HN.out]; rfl), b1⟩
            · have HN : Hid (specRead l cur = none) := by rw [Hid, HR.out, if_pos (.inr hm)]
              generalize moneyT ((x : Int)) cur = t at hm
              have hm' : (t == l) = false := by simpa using hm
              clear hm
              go_wp2
              go_ret2
              exact ⟨read_two (by rw [HN.out]; rfl) (by rw [HN.out]; rfl), b1⟩

end Go.Proofs.YtkhohbkdfgnmnaaDoor
