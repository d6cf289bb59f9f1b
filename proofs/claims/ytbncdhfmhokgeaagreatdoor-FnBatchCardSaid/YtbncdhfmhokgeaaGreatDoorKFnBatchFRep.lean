/- The contract of the library's bytes.Repeat, at one byte of filling. -/
import Derived.Test.YtbncdhfmhokgeaaGreatDoorJFnBatch0a
import Derived.Lib.MakeNoZero
import Derived.Deep.RegionLaw
namespace Go.Proofs.YtbncdhfmhokgeaaGreatDoor
open Go.RowKit
set_option maxRecDepth 100000

theorem buf_drewN {w0 wr : World} {h N : Nat} {acc : List UInt8} (hb : Lib.Buf w0 wr h N acc) (q : Nat) : Lib.Buf w0 (wr.drewN q) h N acc :=
  ⟨below_drewN hb.below q, fun j hj => by rw [World.cell?_drewN]; exact hb.there j hj, fun j hj => by rw [World.frozen?_drewN]; exact hb.free j hj, fun j x hx => by rw [World.cell?_drewN]; exact hb.holds j x hx, hb.fits⟩
theorem copy_wr {w0 wr : World} {h N : Nat} {acc l : List UInt8} {a : Addr} {sLen sCap : Nat} (ty : TypeId) (hb : Lib.Buf w0 wr h N acc) (hn : l.length = Nat.min sLen (N - acc.length)) (h0 : 0 < l.length)
    (hsrc : ∀ j x, l[j]? = some x → wr.cell? (a.add j) = some (.int .u8 (x.toNat : Int))) :
    ∃ wr', (Builtin.copy_ #[22, 22] ty #[.slice (some ⟨h, acc.length, none⟩) (N - acc.length) (N - acc.length), .slice (some a) sLen sCap]).run Tryz.prog wr = .ok (.int .i64 (l.length : Int)) wr' ∧ Lib.Buf w0 wr' h N (acc ++ l) := by
  have hfit : acc.length + l.length ≤ N := by have := Nat.min_le_right sLen (N - acc.length); rw [← show Nat.min sLen (N - acc.length) = min sLen (N - acc.length) from rfl] at this; omega
  have hr := run_copy_cells (P := Tryz.prog) wr 22 22 ty 5 h acc.length (N - acc.length) (N - acc.length) a sLen sCap (l.map fun x => Value.int .u8 (x.toNat : Int)) Tryz.underlying22 one8 (by rw [List.length_map]; exact hn)
      (fun j u hj => by
        rw [List.getElem?_map] at hj
        obtain ⟨x, hx, rfl⟩ := Option.map_eq_some_iff.1 hj
        exact hsrc j x hx)
      (fun j hj => by rw [List.length_map] at hj; exact hb.there _ (by omega)) (fun j hj => by rw [List.length_map] at hj; exact hb.free _ (by omega))
      (fun u hu' => by obtain ⟨x, _, rfl⟩ := List.mem_map.1 hu'; rfl)
  rw [List.length_map] at hr
  refine ⟨_, hr, ?_⟩
  have hin := World.cell?_setCells_in h (l.map fun x => Value.int .u8 (x.toNat : Int)) acc.length wr (fun j hj => by rw [List.length_map] at hj; exact hb.there _ (by omega))
  have hout := World.cell?_setCells_out h (l.map fun x => Value.int .u8 (x.toNat : Int)) acc.length wr
  refine ⟨Lib.below_setCells h (Nat.le_refl _) _ _ hb.below, ?_, ?_, ?_, by rw [List.length_append]; exact hfit⟩
  · intro j hj
    by_cases h1 : acc.length ≤ j ∧ j < acc.length + l.length
    · obtain ⟨d, rfl⟩ : ∃ d, j = acc.length + d := ⟨j - acc.length, by omega⟩
      rw [hin d (by rw [List.length_map]; omega)]
      rfl
    · rw [hout ⟨h, j, none⟩ (fun _ _ => by rw [List.length_map]; show j < _ ∨ _ ≤ j; omega)]
      exact hb.there j hj
  · intro j hj
    rw [World.frozen?_setCells]
    exact hb.free j hj
  · intro j x hx
    by_cases h1 : j < acc.length
    · rw [List.getElem?_append_left h1] at hx
      rw [hout ⟨h, j, none⟩ (fun _ _ => Or.inl h1)]
      exact hb.holds j x hx
    · rw [List.getElem?_append_right (by omega)] at hx
      obtain ⟨d, rfl⟩ : ∃ d, j = acc.length + d := ⟨j - acc.length, by omega⟩
      rw [Nat.add_sub_cancel_left] at hx
      have hd : d < l.length := (List.getElem?_eq_some_iff.1 hx).1
      rw [hin d (by rw [List.length_map]; exact hd)]
      simp [List.getElem_map, (List.getElem?_eq_some_iff.1 hx).2]
theorem step_copy_wr {ops : Array Oper} {o : Oper} {a : Act} {w : World} {K : Act → World → Prop} {Q : Exit → Act → World → Prop} {E : Prop} (hgd : o.guard = none) (d s : Operand)
    (ho : o.op = .call { callee := .builtin .copy, args := #[d, s], argTypes := #[22, 22] }) (w0 : World) (h N m : Nat) (acc l : List UInt8) (hm : acc.length = m) (ad : Addr) (sLen sCap : Nat)
    (hd : a.eval d = .slice (some ⟨h, m, none⟩) (N - m) (N - m)) (hs : a.eval s = .slice (some ad) sLen sCap) (hb : Lib.Buf w0 w h N acc) (hn : l.length = Nat.min sLen (N - acc.length)) (h0 : 0 < l.length)
    (hsrc : ∀ j x, l[j]? = some x → w.cell? (ad.add j) = some (.int .u8 (x.toNat : Int)))
    (hK : ∀ w', Lib.Buf w0 w' h N (acc ++ l) → K (a.put o.dst (.int .i64 (l.length : Int))) w') :
    if Region.wanted o (yielded ops a.tmps) = true then Oper.wp Tryz.prog o a w K Q else E := by
  rw [if_pos (by simp [Region.wanted, hgd])]
  subst hm
  obtain ⟨w', hrun, h1⟩ := copy_wr o.type hb hn h0 hsrc (sCap := sCap)
  exact Lib.wp_copy_run w d s _ _ ho _ _ hd hs hrun (hK w' h1)
theorem rep_get {n j : Nat} {x : UInt8} (h : (List.replicate n (64 : UInt8))[j]? = some x) : j < n ∧ x = 64 := by
  rw [List.getElem?_replicate] at h
  split at h
  · exact ⟨by assumption, by simpa using h.symm⟩
  · cases h
theorem buf_row {w0 wr : World} {N : Nat} (hb : Lib.Buf w0 wr w0.heap.size N (List.replicate N 64)) (h0 : 0 < N) : Row wr w0.heap.size (List.replicate N 64) :=
  ⟨hb.holds, fun j hj => hb.free j (by simpa using hj), by
    have := hb.there 0 h0
    obtain ⟨v, hv⟩ := Option.isSome_iff_exists.1 this
    exact World.block_lt_of_cell? wr _ hv⟩

set_option maxRecDepth 100000 in
set_option maxHeartbeats 3200000 in
theorem repeat_any (b n cap : Nat) (w : World) (hc : w.cell? ⟨b, 0, none⟩ = some (.int .u8 64)) (h1 : 0 < n) (hn : n ≤ 1000000) :
    Calls Tryz.prog 142 #[.slice (some ⟨b, 0, none⟩) 1 cap, .int .i64 n] w fun e w' => e = .returned (.slice (some ⟨w.heap.size, 0, none⟩) n n) ∧ Row w' w.heap.size (List.replicate n 64) ∧ Below w.heap.size w w' := by
  have hMul := Tryz.bits_Mul 1 n (by omega) (by omega) w
  rw [Nat.one_mul, Nat.div_eq_of_lt (by omega), Nat.mod_eq_of_lt (by omega)] at hMul
  have hn0 : ((n : Int) == 0) = false := beq_eq_false_iff_ne.2 (by omega)
  have hneg : ¬ (n : Int) < 0 := by omega
  have hsm : ¬ (9223372036854775807 : Int) < (n : Int) := by omega
  have hsd : decide ((9223372036854775807 : Int) < (n : Int)) = false := decide_eq_false hsm
  obtain ⟨cs, hrunM, hle, _⟩ := Lib.run_makeNoZero (P := Tryz.prog) w #[3] 22 5 Tryz.underlying22 n (by omega)
  have hcall : (callFunc 169 #[.int .i64 (n : Int)]).run Tryz.prog w = .ok (.value (.slice (some ⟨w.heap.size, 0, none⟩) n cs.size)) ((w.alloc (.cells cs 5)).drewN 2) := by
    rw [run_callFunc_extern Tryz.func169 (by kernel_rfl) (by kernel_rfl) (by kernel_rfl) (e := Extern.BytealgMakeNoZero.makeNoZero #[3] #[22]) (by kernel_rfl), hrunM]
    rfl
  have B0 := Lib.Buf.start w cs 5 n 2 hle
  have hsl0 := fun W => sl_hm (g := w.heap.size) (o := 0) (n := n) (c := cs.size) (y := (n : Int)) (z := (n : Int)) n n rfl rfl (Nat.le_refl _) hle h1 W
  clear hrunM
  obtain ⟨w1, hr1, B1⟩ := copy_wr (l := [64]) (a := ⟨b, 0, none⟩) (sLen := 1) (sCap := cap) 3 B0 (by show 1 = min 1 (n - 0); omega) (by simp) (fun j x hx => by
    match j with
    | 0 => simp at hx; subst hx; simpa [Addr.add] using Lib.Below.cellOf B0.below hc (Nat.le_refl _)
    | j + 1 => simp at hx)
  rw [List.nil_append] at B1
  simp only [List.length_nil, Nat.sub_zero, List.length_singleton] at hr1
  have HB1 : Hid (Lib.Buf w w1 w.heap.size n (List.replicate 1 64)) := B1
  clear B0 B1
  by_cases h8 : (8192 : Int) < (n : Int)
  all_goals
    go_enter Tryz.func142, Tryz.ntmps142
    go_wp2_with fail
    refine hMul.mono ?_
    rintro e w' ⟨rfl, hw'⟩
    rw [hw']
    clear hMul hw'
    go_wp2_with (at_builtin; refine Lib.wpList_copy_run _ rfl _ _ 22 22 rfl _ _ rfl rfl hr1 ?_)
    go_loopw [10] (fun p wr => ∃ k : Nat, 1 ≤ k ∧ k ≤ n ∧ p = .int .i64 k ∧ Lib.Buf w wr w.heap.size n (List.replicate k 64)) (fun p _ => n - (intOf p).toNat)
    case atStart => exact ⟨1, Nat.le_refl _, by omega, rfl, HB1.out⟩
    case round =>
      obtain ⟨k, hk1, hk, rfl, hbuf⟩ := hrel
      clear HB1
      by_cases hlt : k < n
      · have hki : (k : Int) < (n : Int) := by omega
        obtain ⟨C, hC⟩ : ∃ C : Nat, C = min k (if (8192 : Int) < (n : Int) then 8192 else n) := ⟨_, rfl⟩
        have hC1 : 1 ≤ C ∧ C ≤ k ∧ C ≤ n := by subst hC; split <;> omega
        have hmin : ∀ (ts : Array TypeId) (t : TypeId) (W : World), (Builtin.min_ ts t #[.int .i64 (k : Int), .int .i64 (if (8192 : Int) < (n : Int) then 8192 else (n : Int))]).run Tryz.prog W = .ok (.int .i64 (C : Int)) W := fun ts t W => by
          rw [run_min_int2]
          congr 2
          subst hC
          split <;> split <;> omega
        first | rw [if_pos (by omega)] at hmin | rw [if_neg (by omega)] at hmin
        have hs1 := fun W => sl_l (g := w.heap.size) (o := 0) (n := n) (c := n) (x := (k : Int)) k rfl (by omega) hlt W
        have hs2 := fun W => sl_h (g := w.heap.size) (o := 0) (n := n) (c := n) (x := (C : Int)) C rfl (by omega) h1 W
        rw [Nat.zero_add] at hs1
        have HBUF : Hid (Lib.Buf w wr w.heap.size n (List.replicate k 64)) := hbuf
        obtain ⟨M, hM⟩ : ∃ M : Nat, M = min C (n - k) := ⟨_, rfl⟩
        have hM1 : 1 ≤ M ∧ M ≤ k ∧ k + M ≤ n := by omega
        have HM : Hid (M = min C (n - k)) := hM
        have HM1 : Hid (1 ≤ M ∧ M ≤ k ∧ k + M ≤ n) := hM1
        have hwr : IntKind.i64.wrap ((k : Int) + (M : Int)) = ((k + M : Nat) : Int) := by simp [IntKind.wrap, IntKind.bits, IntKind.signed]; omega
        clear hbuf hC hM
        go_wp2
        go_region_law (refine step_copy_wr rfl (.tmp 70) (.tmp 73) rfl w w.heap.size n k (List.replicate k 64) (List.replicate M 64) (List.length_replicate ..) ⟨w.heap.size, 0, none⟩ C n (by kernel_rfl) (by kernel_rfl) (by first | exact HBUF.out | exact buf_drewN HBUF.out _) (by rw [List.length_replicate, List.length_replicate]; exact HM.out) (by rw [List.length_replicate]; omega) (fun j x hx => by obtain ⟨hj, rfl⟩ := rep_get hx; rw [add_at, Nat.zero_add]; exact (buf_drewN HBUF.out 1).holds j 64 (by rw [List.getElem?_replicate, if_pos (by omega)])) ?_; intro w2 hb2; rw [List.replicate_append_replicate] at hb2; rw [List.length_replicate]; have HB2 : Hid (Lib.Buf w w2 w.heap.size n (List.replicate (k + M) 64)) := hb2; clear hb2)
        all_goals
          go_simp
          go_wp2
          go_roundw
          case rel => exact ⟨k + M, by have := HM1.out; omega, by have := HM1.out; omega, by go_num, HB2.out⟩
          case measure => have := HM1.out; simp [intOf]; omega
      · have hkn : k = n := by omega
        subst hkn
        go_wp2
        go_ret
        exact ⟨rfl, buf_row hbuf h1, hbuf.below⟩

end Go.Proofs.YtbncdhfmhokgeaaGreatDoor
