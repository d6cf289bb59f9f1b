/- The contract of the program's reader of one field: it answers, or it panics with a fault. -/
import Derived.Test.YtjnekdihmchlpaaGreatDoorJT2a
namespace Go.Proofs.YtjnekdihmchlpaaGreatDoor
open Go.RowKit

def fieldE (l : List UInt8) (a n : Int) : Ending := if fldAt l a n = true then .returned (.tuple #[.agg #[.int .i64 n, .string ⟨(rawL l a n).toArray⟩], .int .i64 (rawI l a n)]) else faultE 3 n
theorem fieldE_no {l : List UInt8} {a n : Int} (h : fldAt l a n = false) : fieldE l a n = faultE 3 n := by unfold fieldE; rw [h]; rfl
theorem fieldE_yes {l : List UInt8} {a n : Int} (h : fldAt l a n = true) : fieldE l a n = .returned (.tuple #[.agg #[.int .i64 n, .string ⟨(rawL l a n).toArray⟩], .int .i64 (rawI l a n)]) := by unfold fieldE; rw [h]; rfl

theorem form_meth {n : Int} (h : n ∈ knowns) : ∃ t v f, formV n = .iface t v ∧ (f = 197 ∨ f = 196 ∨ f = 199 ∨ f = 198) ∧ (∀ w, (method 362 t v "loop.example/g00126/impl.fits").run Tryz.prog w = .ok (f, v) w) ∧ (∀ (d : List UInt8) (w : World), d.length ≤ 1099511627776 → Calls Tryz.prog f #[v, .string ⟨d.toArray⟩] w fun e w' => e = .returned (.bool (fieldOk n d)) ∧ Below w.heap.size w w') := by
  rcases (known_K h).1 with hk | hk | hk | hk | hk
  · refine ⟨_, _, _, formV1 hk, .inl rfl, method1 _, fun d w hl => ?_⟩
    rw [fieldOk, hk]; exact formFits1 _ d w hl
  · refine ⟨_, _, _, formV2 hk, .inr (.inl rfl), method2 _, fun d w hl => ?_⟩
    rw [fieldOk, hk]; exact formFits2 _ d w hl
  · refine ⟨_, _, _, formV3 hk, .inr (.inr (.inl rfl)), method3 _, fun d w hl => ?_⟩
    rw [fieldOk, hk]; exact formFits3 _ d w hl
  · refine ⟨_, _, _, formV4 hk, .inr (.inr (.inr rfl)), method4 _, fun d w hl => ?_⟩
    rw [fieldOk, hk]; exact formFits4 _ _ d w hl
  · refine ⟨_, _, _, formV5 hk, .inr (.inr (.inr rfl)), method4 _, fun d w hl => ?_⟩
    rw [fieldOk, hk, ks54]; exact formFits4 _ _ d w hl

set_option maxRecDepth 100000 in
set_option maxHeartbeats 800000 in
theorem readField_any (l : List UInt8) (i : Nat) (n : Int) (w : World) (hl : l.length ≤ 1048576) :
    Calls Tryz.prog 75 #[.string ⟨l.toArray⟩, .int .i64 i, .int .i64 n] w fun e w' => e = fieldE l i n ∧ Below w.heap.size w w' := by
  by_cases h : n ∈ knowns
  · have HB : Hid _ := knB_yes h
    obtain ⟨t, v, f, HF0, hfs, hm, hc⟩ := form_meth h
    have hg := fun w => getData_any l i n w hl h
    have hrl := rawL_len l i n hl
    have HF : Hid _ := HF0
    rw [HF0] at hg
    have HE : Hid (∀ b, fieldOk n (rawL l i n) = b → 0 ≤ rawI l i n → fldAt l i n = b) := fun b hb h0 => by simp [fldAt, hb, h0]
    have HN : Hid (rawI l i n < 0 → fldAt l i n = false) := fun h0 => by simp [fldAt]; omega
    have HY : Hid _ := fieldE_yes (l := l) (a := i) (n := n)
    have HZ : Hid _ := fieldE_no (l := l) (a := i) (n := n)
    clear h HF0
    obtain ⟨r, hr⟩ : ∃ r, rawL l i n = r := ⟨_, rfl⟩
    obtain ⟨p, hp⟩ : ∃ p, rawI l i n = p := ⟨_, rfl⟩
    obtain ⟨E, hE⟩ : ∃ E, fieldE l i n = E := ⟨_, rfl⟩
    rw [hr, hp] at HE
    rw [hp] at HN
    rw [hr, hp, hE] at HY
    rw [hE] at HZ
    rw [hE]
    simp only [hr, hp] at hg
    rw [hr] at hrl
    clear hr hp hE
    by_cases hneg : p < 0
    · have HT : Hid _ := HZ.out (HN.out hneg)
      clear HE HN HY HZ
      go_enter Tryz.func75, Tryz.ntmps75
      go_wp2_with fail
      refine (formOf_any _ _).mono ?_
      rintro e w1 ⟨rfl, hw⟩
      subst hw
      rw [HF.out, HB.out]
      go_wp2_with fail
      refine (hg _).mono ?_
      rintro e w2 ⟨rfl, b2⟩
      go_wp2
      exact ⟨rfl, HT.out.symm, Below.trans (by go_grown) (b2.mono (by simp))⟩
    · have hpos : 0 ≤ p := by omega
      cases ho : fieldOk n r
      · have HT : Hid _ := HZ.out (HE.out _ ho hpos)
        clear HE HN HY HZ hneg
        rcases hfs with rfl | rfl | rfl | rfl <;>
        · go_enter Tryz.func75, Tryz.ntmps75
          go_wp2_with fail
          refine (formOf_any _ _).mono ?_
          rintro e w1 ⟨rfl, hw⟩
          subst hw
          rw [HF.out, HB.out]
          go_wp2_with fail
          refine (hg _).mono ?_
          rintro e w2 ⟨rfl, b2⟩
          go_wp2_with fail
          refine (hc _ _ hrl).mono ?_
          rintro e w3 ⟨rfl, b3⟩
          rw [ho]
          go_wp2
          exact ⟨rfl, HT.out.symm, Below.trans (by go_grown) ((b2.trans (b3.mono b2.size)).mono (by simp))⟩
      · have HT : Hid _ := HY.out (HE.out _ ho hpos)
        clear HE HN HY HZ hneg
        rcases hfs with rfl | rfl | rfl | rfl <;>
        · go_enter Tryz.func75, Tryz.ntmps75
          go_wp2_with fail
          refine (formOf_any _ _).mono ?_
          rintro e w1 ⟨rfl, hw⟩
          subst hw
          rw [HF.out, HB.out]
          go_wp2_with fail
          refine (hg _).mono ?_
          rintro e w2 ⟨rfl, b2⟩
          go_wp2_with fail
          refine (hc _ _ hrl).mono ?_
          rintro e w3 ⟨rfl, b3⟩
          have B3 := b2.trans (b3.mono b2.size)
          have x0 : w3.cell? ⟨w.heap.size, 0, none⟩ = some (.int .i64 0) := (B3.cell (p := ⟨w.heap.size, 0, none⟩) (by simp)).trans (by simp)
          have x1 : w3.cell? ⟨w.heap.size, 1, none⟩ = some (.string ⟨#[]⟩) := (B3.cell (p := ⟨w.heap.size, 1, none⟩) (by simp)).trans (by simp)
          have f0 : w3.frozen? ⟨w.heap.size, 0, none⟩ = false := (B3.frozen (p := ⟨w.heap.size, 0, none⟩) (by simp)).trans (by simp)
          have f1 : w3.frozen? ⟨w.heap.size, 1, none⟩ = false := (B3.frozen (p := ⟨w.heap.size, 1, none⟩) (by simp)).trans (by simp)
          have HB3 : Hid (Below w.heap.size w w3) := Below.trans (by go_grown) (B3.mono (by simp))
          rw [ho]
          clear B3 b2 b3
          go_wp2
          refine bodyPost_ret (by simp [results, Tryz.results75, go_sem, x0, x1]; try rfl) rfl ?_
          exact ⟨HT.out.symm, (HB3.out.setCell (Nat.le_refl _) _).setCell (Nat.le_refl _) _⟩
  · have HB : Hid _ := knB_no h
    have HT : Hid _ := fieldE_no (l := l) (a := i) (n := n) (by simp [fldAt, fieldOk_no h])
    clear h
    obtain ⟨E, hE⟩ : ∃ E, fieldE l i n = E := ⟨_, rfl⟩
    rw [hE] at HT ⊢
    go_enter Tryz.func75, Tryz.ntmps75
    go_wp2_with fail
    refine (formOf_any _ _).mono ?_
    rintro e w1 ⟨rfl, hw⟩
    subst hw
    rw [HB.out]
    go_wp2
    exact ⟨rfl, HT.out.symm, by go_grown⟩

end Go.Proofs.YtjnekdihmchlpaaGreatDoor
