/- The contract of the program's balances.ledger: a map gone through in whatever order, its lines sorted. -/
import Derived.Test.YtnimlgdackgcoaaGreatDoorFSort
import Derived.Test.YtnimlgdackgcoaaGreatDoorSAddL
import Derived.Test.YtnimlgdackgcoaaGreatDoorFBal
namespace Go.Proofs.YtnimlgdackgcoaaGreatDoor
open Go.RowKit Go.Maps
set_option maxRecDepth 100000

theorem wpList_next_kF {ops : Array Oper} {rest : List Oper} {o : Oper} {a : Act} {Q : Exit → Act → World → Prop} (w : World) (hg : o.guard = none) (it : Operand) (hop : o.op = Op.next it false)
    (b r n : Nat) (D : DataW Unit) (left : Lit → Bool) (cnt : Nat) (hit : a.eval it = .pointer (some ⟨r, 0, none⟩)) (h : w.ranges Tryz.prog 56 (plainElem (H := Unit) Tryz.prog 3) b r n D left cnt)
    (hDone : cnt = 0 → (∀ kl, left kl = false) → wpList Tryz.prog ops Q rest (a.put o.dst (.tuple #[.bool false])) w)
    (hMore : ∀ (x c v : Int) (w' : World) (cnt' : Nat), wf64 x → wf64 c → left (keyL x c) = true → (∀ zd, D.atKey (keyL x c) zd = .lit (.int .i64 v)) → w'.ranges Tryz.prog 56 (plainElem (H := Unit) Tryz.prog 3) b r n D (fun z => left z && !z.sameKey (keyL x c)) cnt' → cnt' < cnt →
      w.grownBy w' (some r) → w'.heap.size = w.heap.size → (Instr.entry (.pointer (some ⟨r, 0, none⟩))).run Tryz.prog w' = .ok (.tuple #[.agg #[.int .i64 x, .int .i64 c], .int .i64 v]) w' → wpList Tryz.prog ops Q rest (a.put o.dst (.tuple #[.bool true, .agg #[.int .i64 x, .int .i64 c], .int .i64 v])) w') :
    wpList Tryz.prog ops Q (o :: rest) a w :=
  wpList_next_ranges (α := Int × Int) (β := Int) w hg it hop 56 lawK (plainElem (H := Unit) Tryz.prog 3) (fun p => .agg #[.int .i64 p.1, .int .i64 p.2]) (Value.int .i64)
    (fun key kl hkey => by obtain ⟨x, c, rfl, _⟩ := keyOf_inv hkey; exact ⟨(x, c), rfl⟩) (fun v y hv => by obtain ⟨c, rfl, _⟩ := plainElem_int_inv Tryz.underlying3 hv; exact ⟨c, rfl⟩)
    b r n D left cnt hit h hDone (fun ⟨x, c⟩ v kl y w' cnt' hkey hlk hv hat hrg hlt hgr hsz hen => by
      obtain ⟨x', c', ex, rfl, hx, hc⟩ := keyOf_inv hkey
      obtain ⟨rfl, rfl⟩ : x = x' ∧ c = c' := by simpa using ex
      obtain ⟨v', ev, rfl, hwv⟩ := plainElem_int_inv Tryz.underlying3 hv
      cases ev
      exact hMore x c v w' cnt' hx hc hlk hat hrg hlt hgr hsz hen)

/-- the lines met so far -/
structure Met (f : Int → Int → Option Int) (left : Lit → Bool) (acc : List Ln) : Prop where
  apart : Apart acc
  from_ : ∀ x ∈ acc, f x.1 x.2.1 = some x.2.2 ∧ left (keyL x.1 x.2.1) = false ∧ wf64 x.1 ∧ wf64 x.2.1
  into : ∀ a c v, f a c = some v → left (keyL a c) = false → (a, c, v) ∈ acc
theorem Met.step {f : Int → Int → Option Int} {left : Lit → Bool} {acc : List Ln} (h : Met f left acc) (hwf : ∀ a c, f a c ≠ none → wf64 a ∧ wf64 c) {x c v : Int} (hx : wf64 x) (hc : wf64 c) (hl : left (keyL x c) = true) (hf : f x c = some v) :
    Met f (fun z => left z && !z.sameKey (keyL x c)) (acc ++ [(x, c, v)]) := by
  have hsame : (keyL x c).sameKey (keyL x c) = true := WideAt.sameKey_self (keyL_is _ _)
  refine ⟨?_, ?_, ?_⟩
  · refine List.pairwise_append.2 ⟨h.apart, List.pairwise_singleton _ _, fun y hy z hz he => ?_⟩
    simp only [List.mem_singleton] at hz
    subst hz
    have := (h.from_ y hy).2.1
    simp only at he
    rw [he.1, he.2, hl] at this
    cases this
  · intro y hy
    rcases List.mem_append.1 hy with hy | hy
    · obtain ⟨a1, a2, a3, a4⟩ := h.from_ y hy
      exact ⟨a1, by rw [a2]; rfl, a3, a4⟩
    · simp only [List.mem_singleton] at hy
      subst hy
      exact ⟨hf, by simp only [hsame]; simp, hx, hc⟩
  · intro a' c' v' hf' hl'
    by_cases he : a' = x ∧ c' = c
    · obtain ⟨rfl, rfl⟩ := he
      rw [hf] at hf'
      injection hf' with hf'
      subst hf'
      exact List.mem_append.2 (.inr (List.mem_singleton.2 rfl))
    · obtain ⟨w1, w2⟩ := hwf a' c' (by rw [hf']; simp)
      have hne : (keyL a' c').sameKey (keyL x c) = false := Maps.sameKey_ne fun e => he (keyL_inj w1 w2 hx hc e)
      rw [hne] at hl'
      exact List.mem_append.2 (.inl (h.into a' c' v' hf' (by simpa using hl')))
theorem Met.all {f : Int → Int → Option Int} {left : Lit → Bool} {acc ds : List Ln} (h : Met f left acc) (hl : ∀ k, left k = false) (hp : ds.Perm acc) (hs : ds.Pairwise (fun x y => lnLt y x = false)) : Srt ds ∧ look ds = f := by
  have hap : Apart ds := (hp.symm.pairwise_iff (R := fun x y : Ln => ¬ (x.1 = y.1 ∧ x.2.1 = y.2.1)) (fun hxy he => hxy ⟨he.1.symm, he.2.symm⟩)).1 h.apart
  have hmem : ∀ a c v, (a, c, v) ∈ ds ↔ f a c = some v := fun a c v => by
    rw [hp.mem_iff]
    exact ⟨fun hm => (h.from_ _ hm).1, fun hf => h.into a c v hf (hl _)⟩
  constructor
  · refine (hs.and hap).imp fun {x y} ⟨h1, h2⟩ => ?_
    rw [lnLt_iff]
    simp [lnLt] at h1
    omega
  · funext a c
    cases hf : f a c with
    | some v => exact (mem_look hap).1 ((hmem a c v).2 hf)
    | none =>
      cases hk : look ds a c with
      | none => rfl
      | some v =>
        have := (hmem a c v).1 (look_mem hk)
        rw [hf] at this; cases this

theorem keepG {w w' : World} {base n size : Nat} {t : TypeId} {v : Value} {xs : List Value} {row : Option Nat} (h : w.ownsRow base t size v n xs) (hg : w.grownBy w' row) (hne : ∀ g, v.ownBlock = some g → some g ≠ row) : w'.ownsRow base t size v n xs := by
  obtain ⟨h1, h2⟩ := h
  refine ⟨h1, ?_⟩
  rcases h2 with h | ⟨g, cap, cur, hv, hg', hh, a1, a2, a3, a4⟩
  · exact .inl h
  · have hlt : g < w.heap.size := (Array.getElem?_eq_some_iff.1 hh).1
    exact .inr ⟨g, cap, cur, hv, hg', (hg.block g hlt (hne g (by rw [hv]; rfl))).trans hh, a1, a2, a3, a4⟩

set_option maxHeartbeats 3200000 in
theorem ledger_any (b n : Nat) (f : Int → Int → Option Int) (w : World) (hM : MapF w b n f) (hn : n ≤ 1000) :
    Calls Tryz.prog 27 #[.map (some b)] w fun e w' => ∃ ao cap L, e = .returned (.agg #[.slice ao (List.length L) cap]) ∧ Srt L ∧ look L = f ∧ L.length ≤ n ∧ w'.ownsRow w.heap.size 49 3 (.slice ao L.length cap) L.length (lcells L) ∧ Below w.heap.size w w' := by
  obtain ⟨i0, hi, hz0, hz1, hz2⟩ := info_parts infoL
  have hbl := hM.lt
  obtain ⟨W, hW⟩ : ∃ W, W = w.alloc (.cells #[.slice none 0 0] 26) := ⟨_, rfl⟩
  have bW : Below w.heap.size w W := by rw [hW]; go_grown
  have hWs : W.heap.size = w.heap.size + 1 := by rw [hW]; simp
  have r0 : W.cell? ⟨w.heap.size, 0, none⟩ = some (.slice none 0 0) := by rw [hW]; simp
  have rf : W.frozen? ⟨w.heap.size, 0, none⟩ = false := by rw [hW]; simp [go_sem]
  obtain ⟨D, hown, hview, hwf⟩ := hM.below bW
  have HO : Hid (W.ownsMap Tryz.prog 56 (plainElem (H := Unit) Tryz.prog 3) b n D) := hown
  have HVW : Hid _ := hview
  have HWF : Hid (∀ a c, f a c ≠ none → wf64 a ∧ wf64 c) := hwf
  have HBW : Hid (Below w.heap.size w W) := bW
  have HR0 : Hid _ := r0
  have HRF : Hid _ := rf
  have HWS : Hid (W.heap.size = w.heap.size + 1) := hWs
  clear hM hown hview hwf bW r0 rf hWs
  go_enter Tryz.func27, Tryz.ntmps27
  go_wp2_with (first
    | (at_range; rw [← hW]; clear hW; refine wpList_range_own _ rfl _ 52 rfl 56 3 lawK Tryz.underlying52 _ b n D rfl HO.out ?_; intro w0 hrg0 hg0 hs0)
    | go_in)
  try go_frame
  have HRG0 : Hid (w0.ranges Tryz.prog 56 (plainElem (H := Unit) Tryz.prog 3) b W.heap.size n D (Maps.has D) (Maps.size D)) := hrg0
  have q0 : Below w.heap.size w w0 := HBW.out.grown hg0 HBW.out.size (fun j hj => by cases hj)
  have HC0 : Hid (w0.cell? ⟨w.heap.size, 0, none⟩ = some (.slice none 0 0) ∧ w0.frozen? ⟨w.heap.size, 0, none⟩ = false) := ⟨(hg0.cell_far ⟨w.heap.size, 0, none⟩ (by have := HWS.out; show w.heap.size < W.heap.size; omega) (by simp)).trans HR0.out, (hg0.frozen_far ⟨w.heap.size, 0, none⟩ (by have := HWS.out; show w.heap.size < W.heap.size; omega) (by simp)).trans HRF.out⟩
  have hszD := HO.out.size_le
  clear hrg0 hg0
  go_loopw [3] (fun v3 wr => ∃ (left : Lit → Bool) (cnt : Nat) (acc : List Ln), wr.ranges Tryz.prog 56 (plainElem (H := Unit) Tryz.prog 3) b W.heap.size n D left cnt ∧ acc.length + cnt ≤ n ∧ Met f left acc ∧
      wr.ownsRow (w.heap.size + 2) 49 3 v3 acc.length (lcells acc) ∧ (wr.cell? ⟨w.heap.size, 0, none⟩ = some (.slice none 0 0) ∧ wr.frozen? ⟨w.heap.size, 0, none⟩ = false) ∧ Below w.heap.size w wr ∧ w.heap.size + 2 ≤ wr.heap.size) (fun _ wr => wr.rangeLeft b W.heap.size)
  case atStart =>
    refine ⟨_, _, [], HRG0.out, by simpa using hszD, ⟨List.Pairwise.nil, (fun x hx => by cases hx), fun a c v hf hl => ?_⟩, World.ownsRow_nil _ _ _ _, HC0.out, q0, by have := HWS.out; omega⟩
    have hwx := HWF.out a c (by rw [hf]; simp)
    rw [(HVW.out a c hwx.1 hwx.2).1, hf] at hl
    cases hl
  case round =>
    obtain ⟨left, cnt, acc, hrg, hcnt, hmet, hacc, hcell, hbr, hs2⟩ := hrel
    have HRG : Hid (wr.ranges Tryz.prog 56 (plainElem (H := Unit) Tryz.prog 3) b W.heap.size n D left cnt) := hrg
    have HMET : Hid (Met f left acc) := hmet
    have HACC : Hid (wr.ownsRow (w.heap.size + 2) 49 3 u3 acc.length (lcells acc)) := hacc
    have HCELL : Hid _ := hcell
    clear hrg hmet hacc hcell HRG0 q0 HC0 hszD hs0
    go_wp2_with (first
      | (at_next; refine wpList_next_kF _ rfl _ rfl b W.heap.size n D left cnt rfl HRG.out ?_ ?_)
      | go_in)
    · intro _ hl0
      obtain ⟨ao, cap, hv3, -, -⟩ := lines_of_own HACC.out
      subst hv3
      have HL0 : Hid (∀ kl, left kl = false) := hl0
      clear hl0
      go_wp2_with fail
      refine (sort_any ao acc.length cap (w.heap.size + 2) acc wr HACC.out (by omega) hs2).mono ?_
      rintro e w2 ⟨rfl, ds, hp, hs, o2, b2⟩
      have d0 := (b2.cell (p := ⟨w.heap.size, 0, none⟩) (by show w.heap.size < w.heap.size + 2; omega)).trans HCELL.out.1
      have d1 := (b2.frozen (p := ⟨w.heap.size, 0, none⟩) (by show w.heap.size < w.heap.size + 2; omega)).trans HCELL.out.2
      have hlen : ds.length = acc.length := hp.length_eq
      have HALL : Hid (Srt ds ∧ look ds = f) := HMET.out.all HL0.out hp hs
      have HO2 : Hid (w2.ownsRow (w.heap.size + 2) 49 3 (.slice ao acc.length cap) acc.length (lcells ds)) := o2
      have HQ2 : Hid (Below w.heap.size w w2) := hbr.trans (b2.mono (by omega))
      have HLEN : Hid _ := hlen
      clear hp hs o2 b2 hlen HCELL
      go_wp2
      refine bodyPost_ret (by simp [results, Tryz.results27, go_sem, d0]; try rfl) rfl ?_
      have hlen := HLEN.out
      refine ⟨ao, cap, ds, by rw [hlen], HALL.out.1, HALL.out.2, by omega, ?_, HQ2.out.setCell (Nat.le_refl _) _⟩
      have h := lowerL (keepSetL HO2.out ⟨w.heap.size, 0, none⟩ (.slice ao acc.length cap) (fun g hg => by have := (HO2.out.lt g hg).1; simp only; omega)) (base' := w.heap.size) (by omega)
      rw [hlen]; exact h
    · intro x c v w1 cnt1 hwx hwc hlx hat hrg1 hlt hg1 hs1 hen
      have hfx : f x c = some v := by
        have h1 := HVW.out x c hwx hwc
        have h2 := Maps.has_true_of_atKey hat
        rw [h1.1] at h2
        have h3 := (hat (.lit (.int .i64 0))).symm.trans h1.2
        cases hf : f x c with
        | none => rw [hf] at h2; cases h2
        | some v' =>
          rw [hf] at h3
          injection h3 with e1; injection e1 with _ e2
          simp at e2
          rw [e2]
      have HMET2 : Hid (Met f (fun z => left z && !z.sameKey (keyL x c)) (acc ++ [(x, c, v)])) := HMET.out.step HWF.out hwx hwc hlx hfx
      have hown3 : ∀ g, u3.ownBlock = some g → w.heap.size + 2 ≤ g := fun g hg => (HACC.out.lt g hg).1
      have HACC1 : Hid (w1.ownsRow (w.heap.size + 2) 49 3 u3 acc.length (lcells acc)) := keepG HACC.out hg1 (fun g hg e => by have := hown3 g hg; have := HWS.out; cases e; omega)
      have q1 : Below w.heap.size w w1 := hbr.grown hg1 hbr.size (fun j hj => by have := HWS.out; cases hj; omega)
      have HRG1 : Hid (w1.ranges Tryz.prog 56 (plainElem (H := Unit) Tryz.prog 3) b W.heap.size n D (fun z => left z && !z.sameKey (keyL x c)) cnt1) := hrg1
      have HC1 : Hid (w1.cell? ⟨w.heap.size, 0, none⟩ = some (.slice none 0 0) ∧ w1.frozen? ⟨w.heap.size, 0, none⟩ = false) := ⟨(hg1.cell_far ⟨w.heap.size, 0, none⟩ (by show w.heap.size < wr.heap.size; omega) (by have := HWS.out; simp; omega)).trans HCELL.out.1, (hg1.frozen_far ⟨w.heap.size, 0, none⟩ (by show w.heap.size < wr.heap.size; omega) (by have := HWS.out; simp; omega)).trans HCELL.out.2⟩
      obtain ⟨V, hV⟩ : ∃ V, V = w1.alloc (.cells #[.int .i64 x, .int .i64 c] 56) := ⟨_, rfl⟩
      have hVs : V.heap.size = w1.heap.size + 1 := by rw [hV]; simp
      have v0 : V.cell? ⟨w1.heap.size, 0, none⟩ = some (.int .i64 x) := by rw [hV]; simp
      have v1 : V.cell? ⟨w1.heap.size, 1, none⟩ = some (.int .i64 c) := by rw [hV]; simp
      have HAV : Hid (V.ownsRow (w.heap.size + 2) 49 3 u3 acc.length (lcells acc)) := by rw [Hid, hV]; exact HACC1.out.alloc _
      have HRV : Hid (V.ranges Tryz.prog 56 (plainElem (H := Unit) Tryz.prog 3) b W.heap.size n D (fun z => left z && !z.sameKey (keyL x c)) cnt1) := by rw [Hid, hV]; exact HRG1.out.alloc _
      have HCV : Hid (V.cell? ⟨w.heap.size, 0, none⟩ = some (.slice none 0 0) ∧ V.frozen? ⟨w.heap.size, 0, none⟩ = false) := by
        have g := World.grownBy_alloc w1 (.cells #[.int .i64 x, .int .i64 c] 56) none
        rw [Hid, hV]
        exact ⟨(g.cell_far ⟨w.heap.size, 0, none⟩ (by show w.heap.size < w1.heap.size; omega) (by simp)).trans HC1.out.1, (g.frozen_far ⟨w.heap.size, 0, none⟩ (by show w.heap.size < w1.heap.size; omega) (by simp)).trans HC1.out.2⟩
      have qV : Below w.heap.size w V := by rw [hV]; exact q1.alloc q1.size _
      have HOWN3 : Hid _ := hown3
      have HLT : Hid _ := hlt
      have HVS : Hid (V.heap.size = wr.heap.size + 1) := by rw [Hid, hVs, hs1]
      clear hVs hs1 hat hrg1 hlt hg1 hfx hwx hwc hlx HMET HACC HACC1 HRG1 HC1 HCELL q1 hown3 hbr
      go_upto_region 5 with fail
      rw [← hV]
      clear hV hen
      go_wp2_with (at_builtin; refine wpList_append_own _ rfl (.tmp 13) (.tmp 20) 24 rfl (w.heap.size + 2) 49 i0 _ 3 24 Tryz.underlying24 hi hz0 hz1 hz2 rfl (by decide) _ _ _ rfl (HAV.out.alloc _) ⟨V.heap.size, 0, none⟩ 1 1 [.int .i64 x, .int .i64 c, .int .i64 v] rfl rfl (World.news_of_block (heap_alloc_new V _)) (one3 x c v) (by unfold maxLen; omega) (by omega) (by have := HVS.out; simp; omega) ?_; intro v5 w5 o5 g5 _)
      have gA := World.grownBy_alloc V (.cells #[.int .i64 x, .int .i64 c, .int .i64 v] 49) none
      have HR5 : Hid (w5.ownsRow (w.heap.size + 2) 49 3 v5 (acc ++ [(x, c, v)]).length (lcells (acc ++ [(x, c, v)]))) := by rw [Hid, List.length_append]; exact own3 o5
      have hb5 : some b ≠ u3.ownBlock := fun e => by have := HOWN3.out b e.symm; omega
      have hr5 : some W.heap.size ≠ u3.ownBlock := fun e => by have := HOWN3.out _ e.symm; have := HWS.out; omega
      have hx5 : some w.heap.size ≠ u3.ownBlock := fun e => by have := HOWN3.out _ e.symm; omega
      have HRG5 : Hid (w5.ranges Tryz.prog 56 (plainElem (H := Unit) Tryz.prog 3) b W.heap.size n D (fun z => left z && !z.sameKey (keyL x c)) cnt1) := (HRV.out.alloc _).kept g5 hb5 hr5
      have HC5 : Hid (w5.cell? ⟨w.heap.size, 0, none⟩ = some (.slice none 0 0) ∧ w5.frozen? ⟨w.heap.size, 0, none⟩ = false) := ⟨(g5.cell_far ⟨w.heap.size, 0, none⟩ (by have := HVS.out; simp; omega) hx5).trans ((gA.cell_far ⟨w.heap.size, 0, none⟩ (by have := HVS.out; show w.heap.size < V.heap.size; omega) (by simp)).trans HCV.out.1), (g5.frozen_far ⟨w.heap.size, 0, none⟩ (by have := HVS.out; simp; omega) hx5).trans ((gA.frozen_far ⟨w.heap.size, 0, none⟩ (by have := HVS.out; show w.heap.size < V.heap.size; omega) (by simp)).trans HCV.out.2)⟩
      have q5 : Below w.heap.size w w5 := (qV.alloc qV.size _).grown g5 (by have := HVS.out; simp; omega) (fun j hj => by have := HOWN3.out j hj; omega)
      have hs5 : w.heap.size + 2 ≤ w5.heap.size := by have := g5.size; have := HVS.out; simp at *; omega
      clear o5 g5 gA HAV HRV HCV qV
      go_wp2
      go_roundw
      case rel => exact ⟨_, cnt1, _, HRG5.out, by have := HLT.out; simp; omega, HMET2.out, HR5.out, HC5.out, q5, hs5⟩
      case measure => rw [HRG5.out.left_eq, HRG.out.left_eq]; exact HLT.out

end Go.Proofs.YtnimlgdackgcoaaGreatDoor
