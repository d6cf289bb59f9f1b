/- A drawn region of the law on CaseDo, by itself: whatever the order, the case lies in its box and the entries in a row of one's own. -/
import Derived.Test.YtpjfigjgamlcdaaDoorJFnExactCaseDo10a
import Derived.Test.YtpjfigjgamlcdaaDoorKFnExactCaseDoSDo6
import Derived.Test.YtpjfigjgamlcdaaDoorKFnExactCaseDoICaseDo
import Derived.Test.YtpjfigjgamlcdaaDoorKFnExactCaseDoCLaw
import Derived.Test.YtpjfigjgamlcdaaDoorJFnExactCaseDo0a
import Derived.Deep.RegionWith
import Derived.Deep.DeepCutAuto
namespace Go.Proofs.YtpjfigjgamlcdaaDoor
open Go.RowKit
set_option maxRecDepth 100000

theorem act3_5 {P1 P2 P3 P4 P5 P6 P7 P8 P9 P10 P11 P12 A B C : Prop} (h : P1 ∧ P2 ∧ P3 ∧ P4 ∧ P5 ∧ P6 ∧ P7 ∧ P8 ∧ P9 ∧ P10 ∧ P11 ∧ P12 ∧ A ∧ B ∧ C) : A ∧ B ∧ C := h.2.2.2.2.2.2.2.2.2.2.2.2
set_option maxHeartbeats 40000000 in
theorem rDoReg5 {u22 u23 u24 u25 u26 u27 u28 u29 u30 u31 u32 u33 u34 u35 u36 u39 u40 u41 u42 u43 u44 u45 u46 u47 u48 u49 u50 u51 u52 u53 u54 u55 u56 u57 u58 u59 u60 u61 u62 u63 u64 u65 u66 u67 u68 u69 u70 u71 u72 u73 u74 u75 u76 u77 u78 u79 u80 u81 u82 u83 u84 u85 u86 u87 u88 u89 u90 u91 u92 u93 u94 u95 u96 u97 u98 u99 u100 u101 u102 u103 u104 u105 u106 u107 u108 u109 u110 u111 u112 u113 u114 u115 u116 u117 u118 u119 u120 u121 u122 u123 u124 u125 u126 u127 u128 u129 u130 u131 u132 u133 u134 u135 u136 u137 : Value} {iss acq cur am st rsn cl bk fee : Int} {cop : Bool} {sta due k m r t rr n0 n1 n2 n3 n4 n5 n6 n7 n8 : Int} {n9 : Bool} {n10 n11 : Int} {a3 : Option Addr} {cap3 : Nat} {zs : List Int} {E : List En} {w W : World} {u3 : World} {g3 : Nat} {B2 : Nat} {a2 : Option Addr} {k2 : Nat} (HTC : Hid (∀ u, Calls Tryd.prog 26 #[.agg #[.int .i64 iss, .int .i64 acq, .int .i64 cur, .int .i64 am, .int .i64 st, .int .i64 rsn, .int .i64 cl, .int .i64 bk, .int .i64 fee, .bool cop, .int .i64 sta, .int .i64 due]] u fun e w' => e = .returned (.agg #[.int .i64 iss, .int .i64 acq, .int .i64 cur, .int .i64 am, .int .i64 st, .int .i64 rsn, .int .i64 cl, .int .i64 bk, .int .i64 fee, .bool cop, .int .i64 sta, .int .i64 due]) ∧ Below u.heap.size u w')) (HTA : Hid (∀ u, Calls Tryd.prog 27 #[.agg #[.int .i64 k, .int .i64 m, .int .i64 r]] u fun e w' => e = .returned (.agg #[.int .i64 k, .int .i64 m, .int .i64 r]) ∧ Below u.heap.size u w')) (HTW : Hid (StepTab W)) (HW2 : Hid (Below W.heap.size W u3)) (HID : Hid (∀ (u : World) (g : Nat), IntsAt u (some ⟨g, 0, none⟩) zs → StepTab u → Calls Tryd.prog 12 #[.agg #[.int .i64 iss, .int .i64 acq, .int .i64 cur, .int .i64 am, .int .i64 st, .int .i64 rsn, .int .i64 cl, .int .i64 bk, .int .i64 fee, .bool cop, .int .i64 sta, .int .i64 due], .agg #[.int .i64 k, .int .i64 m, .int .i64 r], .int .i64 t, .slice (some ⟨g, 0, none⟩) zs.length zs.length] u (DoR u ⟨n0, n1, n2, n3, n4, n5, n6, n7, n8, n9, n10, n11⟩ E rr))) (HALL3 : Hid (∀ u, Below u3.heap.size u3 u → u.cell? ⟨w.heap.size, 0, none⟩ = some (.int .i64 iss) ∧ u.cell? ⟨w.heap.size, 1, none⟩ = some (.int .i64 acq) ∧ u.cell? ⟨w.heap.size, 2, none⟩ = some (.int .i64 cur) ∧ u.cell? ⟨w.heap.size, 3, none⟩ = some (.int .i64 am) ∧ u.cell? ⟨w.heap.size, 4, none⟩ = some (.int .i64 st) ∧ u.cell? ⟨w.heap.size, 5, none⟩ = some (.int .i64 rsn) ∧ u.cell? ⟨w.heap.size, 6, none⟩ = some (.int .i64 cl) ∧ u.cell? ⟨w.heap.size, 7, none⟩ = some (.int .i64 bk) ∧ u.cell? ⟨w.heap.size, 8, none⟩ = some (.int .i64 fee) ∧ u.cell? ⟨w.heap.size, 9, none⟩ = some (.bool cop) ∧ u.cell? ⟨w.heap.size, 10, none⟩ = some (.int .i64 sta) ∧ u.cell? ⟨w.heap.size, 11, none⟩ = some (.int .i64 due) ∧ u.cell? ⟨w.heap.size + 1, 0, none⟩ = some (.int .i64 k) ∧ u.cell? ⟨w.heap.size + 1, 1, none⟩ = some (.int .i64 m) ∧ u.cell? ⟨w.heap.size + 1, 2, none⟩ = some (.int .i64 r))) (b0 : Below u3.heap.size u3 u3) (z : ZC u3 u3 none (fun v => IntsAt v (some ⟨g3, 0, none⟩) zs)) : ∀ (J K' : Act → World → Prop),
    (∀ (a' : Act) (w' : World),
    (∃ u13 u14 u15 u22 u23 u24 u25 u26 u27 u28 u29 u30 u31 u32 u33 u34 u35 u36 u37 u38 u39 u40 u41 u42 u43 u44 u45 u46
        u47 u48 u49 u50 u51 u52 u53 u54 u55 u56 u57 u58 u59 u60 u61 u62 u63 u64 u65 u66 u67 u68 u69 u70 u71 u72 u73 u74
        u75 u76 u77 u78 u79 u80 u81 u82 u83 u84 u85 u86 u87 u88 u89 u90 u91 u92 u93 u94 u95 u96 u97 u98 u99 u100 u101
        u102 u103 u104 u105 u106 u107 u108 u109 u110 u111 u112 u113 u114 u115 u116 u117 u118 u119 u120 u121 u122 u123
        u124 u125 u126 u127 u128 u129 u130 u131 u132 u133 u134 u135 u136 u137,
        (∃ B ao k,
            u13 = Value.pointer (some { block := B, off := 0 }) ∧
              u14 = Value.slice ao E.length k ∧
                u15 = Value.int IntKind.i64 rr ∧
                  LX u3
                    { iss := n0, acq := n1, cur := n2, am := n3, st := n4, rsn := n5, cl := n6, bk := n7, fee := n8,
                      cop := n9, sta := n10, due := n11 }
                    E B ao k w') ∧
          a' =
            {
              tmps :=
                #[Value.agg
                    #[Value.int IntKind.i64 iss, Value.int IntKind.i64 acq, Value.int IntKind.i64 cur,
                      Value.int IntKind.i64 am, Value.int IntKind.i64 st, Value.int IntKind.i64 rsn,
                      Value.int IntKind.i64 cl, Value.int IntKind.i64 bk, Value.int IntKind.i64 fee, Value.bool cop,
                      Value.int IntKind.i64 sta, Value.int IntKind.i64 due],
                  Value.agg #[Value.int IntKind.i64 k, Value.int IntKind.i64 m, Value.int IntKind.i64 r],
                  Value.int IntKind.i64 t, Value.slice a3 zs.length cap3,
                  Value.pointer (some { block := w.heap.size, off := 0 }),
                  Value.pointer (some { block := w.heap.size + 1, off := 0 }), undef, undef, Value.bool false,
                  Value.pointer (some { block := B2, off := 0 }), Value.slice a2 E.length k2, Value.int IntKind.i64 rr,
                  Value.slice (some { block := g3, off := 0 }) zs.length zs.length, u13, u14, u15, undef, undef, undef,
                  undef, undef, undef, u22, u23, u24, u25, u26, u27, u28, u29, u30, u31, u32, u33, u34, u35, u36, u37,
                  u38, u39, u40, u41, u42, u43, u44, u45, u46, u47, u48, u49, u50, u51, u52, u53, u54, u55, u56, u57,
                  u58, u59, u60, u61, u62, u63, u64, u65, u66, u67, u68, u69, u70, u71, u72, u73, u74, u75, u76, u77,
                  u78, u79, u80, u81, u82, u83, u84, u85, u86, u87, u88, u89, u90, u91, u92, u93, u94, u95, u96, u97,
                  u98, u99, u100, u101, u102, u103, u104, u105, u106, u107, u108, u109, u110, u111, u112, u113, u114,
                  u115, u116, u117, u118, u119, u120, u121, u122, u123, u124, u125, u126, u127, u128, u129, u130, u131,
                  u132, u133, u134, u135, u136, u137],
              defers := [] }) →
      J a' w') →
    (∀ (a' : Act) (w' : World), Met J a' w' → K' a' w') →
    Code.wp Tryd.prog
    (Code.region 5
      #[{ dst := some 40, op := Op.load 46 (Operand.tmp 4), type := 46, pos := "exact.go:2586", after := #[],
          guard := none },
        { dst := some 41,
          op := Op.call { callee := Callee.value (Operand.func 26), args := #[Operand.tmp 40], argTypes := #[46] },
          type := 25, pos := "exact.go:2586", after := #[{ on := 0, ground := Ground.data }], guard := none },
        { dst := some 42, op := Op.load 47 (Operand.tmp 5), type := 47, pos := "exact.go:2586", after := #[],
          guard := none },
        { dst := some 43,
          op := Op.call { callee := Callee.value (Operand.func 27), args := #[Operand.tmp 42], argTypes := #[47] },
          type := 27, pos := "exact.go:2586",
          after := #[{ on := 2, ground := Ground.data }, { on := 1, ground := Ground.chain }], guard := none },
        { dst := some 44, op := Op.move (Operand.tmp 2), type := 3, pos := "exact.go:2586", after := #[],
          guard := none },
        { dst := some 45, op := Op.move (Operand.tmp 12), type := 28, pos := "exact.go:2586", after := #[],
          guard := none },
        { dst := some 46,
          op :=
            Op.call
              { callee := Callee.value (Operand.func 12),
                args := #[Operand.tmp 41, Operand.tmp 43, Operand.tmp 44, Operand.tmp 45],
                argTypes := #[25, 27, 3, 28] },
          type := 32, pos := "exact.go:2586",
          after :=
            #[{ on := 1, ground := Ground.data }, { on := 3, ground := Ground.data },
              { on := 4, ground := Ground.data }, { on := 5, ground := Ground.data },
              { on := 3, ground := Ground.chain }],
          guard := none },
        { dst := some 39, op := Op.move (Operand.tmp 46), type := 32, pos := "exact.go:2586",
          after := #[{ on := 6, ground := Ground.data }], guard := none },
        { dst := some 47, op := Op.extract (Operand.tmp 39) 0, type := 25, pos := "exact.go:2586",
          after := #[{ on := 7, ground := Ground.data }], guard := none },
        { dst := some 48, op := Op.extract (Operand.tmp 39) 1, type := 31, pos := "exact.go:2586",
          after := #[{ on := 7, ground := Ground.data }, { on := 12, ground := Ground.gcOnly Departure.lateStores }],
          guard := none },
        { dst := some 49, op := Op.extract (Operand.tmp 39) 2, type := 3, pos := "exact.go:2586",
          after := #[{ on := 7, ground := Ground.data }, { on := 13, ground := Ground.gcOnly Departure.lateStores }],
          guard := none },
        { dst := some 13, op := Op.alloc 25, type := 0, pos := "exact.go:2586", after := #[], guard := none },
        { dst := none, op := Op.store 25 (Operand.tmp 13) (Operand.tmp 47), type := 0, pos := "exact.go:2586",
          after :=
            #[{ on := 11, ground := Ground.data }, { on := 8, ground := Ground.data },
              { on := 6, ground := Ground.chain }, { on := 0, ground := Ground.phase },
              { on := 1, ground := Ground.phase }, { on := 2, ground := Ground.phase },
              { on := 3, ground := Ground.phase }, { on := 4, ground := Ground.phase },
              { on := 5, ground := Ground.phase }, { on := 6, ground := Ground.phase },
              { on := 7, ground := Ground.phase }, { on := 8, ground := Ground.phase },
              { on := 9, ground := Ground.textOnly Departure.lateStores },
              { on := 10, ground := Ground.textOnly Departure.lateStores }, { on := 11, ground := Ground.phase }],
          guard := none },
        { dst := some 14, op := Op.assign (Operand.tmp 48), type := 31, pos := "exact.go:2586",
          after :=
            #[{ on := 9, ground := Ground.data }, { on := 12, ground := Ground.chain },
              { on := 0, ground := Ground.phase }, { on := 1, ground := Ground.phase },
              { on := 2, ground := Ground.phase }, { on := 3, ground := Ground.phase },
              { on := 4, ground := Ground.phase }, { on := 5, ground := Ground.phase },
              { on := 6, ground := Ground.phase }, { on := 7, ground := Ground.phase },
              { on := 8, ground := Ground.phase }, { on := 9, ground := Ground.phase },
              { on := 10, ground := Ground.textOnly Departure.lateStores }, { on := 11, ground := Ground.phase },
              { on := 12, ground := Ground.phase }],
          guard := none },
        { dst := some 15, op := Op.assign (Operand.tmp 49), type := 3, pos := "exact.go:2586",
          after :=
            #[{ on := 10, ground := Ground.data }, { on := 13, ground := Ground.chain },
              { on := 0, ground := Ground.phase }, { on := 1, ground := Ground.phase },
              { on := 2, ground := Ground.phase }, { on := 3, ground := Ground.phase },
              { on := 4, ground := Ground.phase }, { on := 5, ground := Ground.phase },
              { on := 6, ground := Ground.phase }, { on := 7, ground := Ground.phase },
              { on := 8, ground := Ground.phase }, { on := 9, ground := Ground.phase },
              { on := 10, ground := Ground.phase }, { on := 11, ground := Ground.phase },
              { on := 12, ground := Ground.phase }, { on := 13, ground := Ground.phase }],
          guard := none }]
      true)
    (Exit.then K' (bodyPost Tryd.prog Tryd.f8 fun e w' => e = Ending.returned (Value.bool true) ∧ Below w.heap.size w w'))
    {
      tmps :=
        #[Value.agg
            #[Value.int IntKind.i64 iss, Value.int IntKind.i64 acq, Value.int IntKind.i64 cur, Value.int IntKind.i64 am,
              Value.int IntKind.i64 st, Value.int IntKind.i64 rsn, Value.int IntKind.i64 cl, Value.int IntKind.i64 bk,
              Value.int IntKind.i64 fee, Value.bool cop, Value.int IntKind.i64 sta, Value.int IntKind.i64 due],
          Value.agg #[Value.int IntKind.i64 k, Value.int IntKind.i64 m, Value.int IntKind.i64 r],
          Value.int IntKind.i64 t, Value.slice a3 zs.length cap3,
          Value.pointer (some { block := w.heap.size, off := 0 }),
          Value.pointer (some { block := w.heap.size + 1, off := 0 }), undef, undef, Value.bool false,
          Value.pointer (some { block := B2, off := 0 }), Value.slice a2 E.length k2, Value.int IntKind.i64 rr,
          Value.slice (some { block := g3, off := 0 }) zs.length zs.length, undef, undef, undef, undef, undef, undef,
          undef, undef, undef, u22, u23, u24, u25, u26, u27, u28, u29, u30, u31, u32, u33, u34, u35, u36,
          Value.slice a3 zs.length cap3, Value.slice (some { block := g3, off := 0 }) zs.length zs.length, u39, u40,
          u41, u42, u43, u44, u45, u46, u47, u48, u49, u50, u51, u52, u53, u54, u55, u56, u57, u58, u59, u60, u61, u62,
          u63, u64, u65, u66, u67, u68, u69, u70, u71, u72, u73, u74, u75, u76, u77, u78, u79, u80, u81, u82, u83, u84,
          u85, u86, u87, u88, u89, u90, u91, u92, u93, u94, u95, u96, u97, u98, u99, u100, u101, u102, u103, u104, u105,
          u106, u107, u108, u109, u110, u111, u112, u113, u114, u115, u116, u117, u118, u119, u120, u121, u122, u123,
          u124, u125, u126, u127, u128, u129, u130, u131, u132, u133, u134, u135, u136, u137],
      defers := [] }
    u3 := by
  intro _ _ _ _
  have HAA : Hid (∀ o, (u3.alloc o).cell? ⟨w.heap.size, 0, none⟩ = some (.int .i64 iss) ∧ (u3.alloc o).cell? ⟨w.heap.size, 1, none⟩ = some (.int .i64 acq) ∧ (u3.alloc o).cell? ⟨w.heap.size, 2, none⟩ = some (.int .i64 cur) ∧ (u3.alloc o).cell? ⟨w.heap.size, 3, none⟩ = some (.int .i64 am) ∧ (u3.alloc o).cell? ⟨w.heap.size, 4, none⟩ = some (.int .i64 st) ∧ (u3.alloc o).cell? ⟨w.heap.size, 5, none⟩ = some (.int .i64 rsn) ∧ (u3.alloc o).cell? ⟨w.heap.size, 6, none⟩ = some (.int .i64 cl) ∧ (u3.alloc o).cell? ⟨w.heap.size, 7, none⟩ = some (.int .i64 bk) ∧ (u3.alloc o).cell? ⟨w.heap.size, 8, none⟩ = some (.int .i64 fee) ∧ (u3.alloc o).cell? ⟨w.heap.size, 9, none⟩ = some (.bool cop) ∧ (u3.alloc o).cell? ⟨w.heap.size, 10, none⟩ = some (.int .i64 sta) ∧ (u3.alloc o).cell? ⟨w.heap.size, 11, none⟩ = some (.int .i64 due) ∧ (u3.alloc o).cell? ⟨w.heap.size + 1, 0, none⟩ = some (.int .i64 k) ∧ (u3.alloc o).cell? ⟨w.heap.size + 1, 1, none⟩ = some (.int .i64 m) ∧ (u3.alloc o).cell? ⟨w.heap.size + 1, 2, none⟩ = some (.int .i64 r)) := fun o => HALL3.out _ ((Below.refl _ _).alloc (Nat.le_refl _) o)
  obtain ⟨c0, c1, c2, c3, c4, c5, c6, c7, c8, c9, c10, c11, c12, c13, c14⟩ := HALL3.out _ b0
  have d0 : ∀ o, (u3.alloc o).cell? ⟨w.heap.size, 0, none⟩ = some (.int .i64 iss) := fun o => (HAA.out o).1
  have d1 : ∀ o, (u3.alloc o).cell? ⟨w.heap.size, 1, none⟩ = some (.int .i64 acq) := fun o => (HAA.out o).2.1
  have d2 : ∀ o, (u3.alloc o).cell? ⟨w.heap.size, 2, none⟩ = some (.int .i64 cur) := fun o => (HAA.out o).2.2.1
  have d3 : ∀ o, (u3.alloc o).cell? ⟨w.heap.size, 3, none⟩ = some (.int .i64 am) := fun o => (HAA.out o).2.2.2.1
  have d4 : ∀ o, (u3.alloc o).cell? ⟨w.heap.size, 4, none⟩ = some (.int .i64 st) := fun o => (HAA.out o).2.2.2.2.1
  have d5 : ∀ o, (u3.alloc o).cell? ⟨w.heap.size, 5, none⟩ = some (.int .i64 rsn) := fun o => (HAA.out o).2.2.2.2.2.1
  have d6 : ∀ o, (u3.alloc o).cell? ⟨w.heap.size, 6, none⟩ = some (.int .i64 cl) := fun o => (HAA.out o).2.2.2.2.2.2.1
  have d7 : ∀ o, (u3.alloc o).cell? ⟨w.heap.size, 7, none⟩ = some (.int .i64 bk) := fun o => (HAA.out o).2.2.2.2.2.2.2.1
  have d8 : ∀ o, (u3.alloc o).cell? ⟨w.heap.size, 8, none⟩ = some (.int .i64 fee) := fun o => (HAA.out o).2.2.2.2.2.2.2.2.1
  have d9 : ∀ o, (u3.alloc o).cell? ⟨w.heap.size, 9, none⟩ = some (.bool cop) := fun o => (HAA.out o).2.2.2.2.2.2.2.2.2.1
  have d10 : ∀ o, (u3.alloc o).cell? ⟨w.heap.size, 10, none⟩ = some (.int .i64 sta) := fun o => (HAA.out o).2.2.2.2.2.2.2.2.2.2.1
  have d11 : ∀ o, (u3.alloc o).cell? ⟨w.heap.size, 11, none⟩ = some (.int .i64 due) := fun o => (HAA.out o).2.2.2.2.2.2.2.2.2.2.2.1
  have d12 : ∀ o, (u3.alloc o).cell? ⟨w.heap.size + 1, 0, none⟩ = some (.int .i64 k) := fun o => (HAA.out o).2.2.2.2.2.2.2.2.2.2.2.2.1
  have d13 : ∀ o, (u3.alloc o).cell? ⟨w.heap.size + 1, 1, none⟩ = some (.int .i64 m) := fun o => (HAA.out o).2.2.2.2.2.2.2.2.2.2.2.2.2.1
  have d14 : ∀ o, (u3.alloc o).cell? ⟨w.heap.size + 1, 2, none⟩ = some (.int .i64 r) := fun o => (HAA.out o).2.2.2.2.2.2.2.2.2.2.2.2.2.2
  go_region_with (first
      | (go_at_call 26; (first | with_reducible refine (zCall z (HTC.out _)).mono ?_ | with_reducible refine (zCall z.drew (HTC.out _)).mono ?_ | with_reducible refine (zCall (z.al _) (HTC.out _)).mono ?_ | with_reducible refine (zCall (z.al _).drew (HTC.out _)).mono ?_ | with_reducible refine (zCall (z.drew.al _) (HTC.out _)).mono ?_); rintro e v1 ⟨rfl, z⟩; obtain ⟨-, -, -, -, -, -, -, -, -, -, -, -, q0, q1, q2⟩ := HALL3.out _ z.bel; have p0 : ∀ o, (v1.alloc o).cell? ⟨w.heap.size + 1, 0, none⟩ = some (.int .i64 k) := (fun o => (act3_5 (HALL3.out _ (z.bel.alloc z.bel.size o))).1); have p1 : ∀ o, (v1.alloc o).cell? ⟨w.heap.size + 1, 1, none⟩ = some (.int .i64 m) := (fun o => (act3_5 (HALL3.out _ (z.bel.alloc z.bel.size o))).2.1); have p2 : ∀ o, (v1.alloc o).cell? ⟨w.heap.size + 1, 2, none⟩ = some (.int .i64 r) := (fun o => (act3_5 (HALL3.out _ (z.bel.alloc z.bel.size o))).2.2))
      | (go_at_call 27; (first | with_reducible refine (zCall z (HTA.out _)).mono ?_ | with_reducible refine (zCall z.drew (HTA.out _)).mono ?_ | with_reducible refine (zCall (z.al _) (HTA.out _)).mono ?_ | with_reducible refine (zCall (z.al _).drew (HTA.out _)).mono ?_ | with_reducible refine (zCall (z.drew.al _) (HTA.out _)).mono ?_); rintro e v2 ⟨rfl, z⟩)
      | (go_at_call 12; (first | with_reducible refine (zDo z (HID.out _ _ z.now ((HTW.out.below HW2.out).below z.bel))).mono ?_ | with_reducible refine (zDo z.drew (HID.out _ _ z.drew.now ((HTW.out.below HW2.out).below z.drew.bel))).mono ?_ | with_reducible refine (zDo (z.al _) (HID.out _ _ (z.al _).now ((HTW.out.below HW2.out).below (z.al _).bel))).mono ?_ | with_reducible refine (zDo (z.al _).drew (HID.out _ _ (z.al _).drew.now ((HTW.out.below HW2.out).below (z.al _).drew.bel))).mono ?_ | with_reducible refine (zDo (z.drew.al _) (HID.out _ _ (z.drew.al _).now ((HTW.out.below HW2.out).below (z.drew.al _).bel))).mono ?_); rintro e v4 ⟨a4, k4, rfl, o4, z0, z⟩; simp only [cv]; (first | (have HF : Hid (∀ t, LX u3 ⟨n0, n1, n2, n3, n4, n5, n6, n7, n8, n9, n10, n11⟩ E v4.heap.size a4 k4 (v4.alloc (.cells #[.int .i64 n0, .int .i64 n1, .int .i64 n2, .int .i64 n3, .int .i64 n4, .int .i64 n5, .int .i64 n6, .int .i64 n7, .int .i64 n8, .bool n9, .int .i64 n10, .int .i64 n11] t))) := (fun t => LX.new o4 z0 z)) | (have HF : Hid _ := LX.set (n := ⟨n0, n1, n2, n3, n4, n5, n6, n7, n8, n9, n10, n11⟩) o4 z0 z; obtain ⟨_, ⟨bg0, bg1, bg2, bg3, bg4, bg5, bg6, bg7, bg8, bg9, bg10, bg11⟩, ⟨by0, by1, by2, by3, by4, by5, by6, by7, by8, by9, by10, by11⟩⟩ := z.box _ rfl; simp only [Nat.zero_add, zeroC] at bg0 bg1 bg2 bg3 bg4 bg5 bg6 bg7 bg8 bg9 bg10 bg11 by0 by1 by2 by3 by4 by5 by6 by7 by8 by9 by10 by11)); clear o4 z0))
  all_goals
    go_wp2_with fail
    go_meet
    first
      | exact ⟨_, _, _, rfl, rfl, rfl, HF.out _⟩
      | exact ⟨_, _, _, rfl, rfl, rfl, HF.out⟩
      | exact ⟨_, _, _, rfl, rfl, rfl, (HF.out _).drew⟩
      | exact ⟨_, _, _, rfl, rfl, rfl, HF.out.drew⟩

end Go.Proofs.YtpjfigjgamlcdaaDoor
