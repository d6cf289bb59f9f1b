/- A drawn region of the law on CaseDo, by itself: whatever the order, the case lies in its box and the entries in a row of one's own. -/
import Derived.Test.YtpjfigjgamlcdaaDoorJFnExactCaseDo10a
import Derived.Test.YtpjfigjgamlcdaaDoorKFnExactCaseDoSDo6
import Derived.Test.YtpjfigjgamlcdaaDoorKFnExactCaseDoICaseDo
import Derived.Test.YtpjfigjgamlcdaaDoorKFnExactCaseDoCLaw
import Derived.Test.YtpjfigjgamlcdaaDoorJFnExactCaseDo0a
import Derived.Deep.RegionWith
import Derived.Deep.DeepCutAuto
namespace Go.Proofs.YtpjfigjgamlcdaaDoor
open Go.RowKit
set_option maxRecDepth 100000

theorem act3_22 {P1 P2 P3 P4 P5 P6 P7 P8 P9 P10 P11 P12 A B C : Prop} (h : P1 ∧ P2 ∧ P3 ∧ P4 ∧ P5 ∧ P6 ∧ P7 ∧ P8 ∧ P9 ∧ P10 ∧ P11 ∧ P12 ∧ A ∧ B ∧ C) : A ∧ B ∧ C := h.2.2.2.2.2.2.2.2.2.2.2.2
set_option maxHeartbeats 40000000 in
theorem rDoReg22 {u22 u23 u24 u25 u26 u27 u28 u29 u30 u31 u32 u33 u34 u35 u36 u37 u38 u39 u40 u41 u42 u43 u44 u45 u46 u47 u48 u49 u103 u104 u105 u106 u107 u108 u109 u110 u111 u112 u113 u114 u115 u116 u117 u118 u119 u120 u121 u122 u123 u124 u125 u126 u127 u128 u129 u130 u131 u132 u133 u134 u135 u136 u137 : Value} {u6 : World} {iss acq cur am st rsn cl bk fee : Int} {cop : Bool} {sta due k m r t rr n0 n1 n2 n3 n4 n5 n6 n7 n8 : Int} {n9 : Bool} {n10 n11 : Int} {a3 : Option Addr} {cap3 : Nat} {zs : List Int} {E : List En} {w W : World} {u13 : World} {g3 : Nat} {B2 B4 : Nat} {a2 a4 : Option Addr} {k2 k4 : Nat} {mm mk : Int} (hn : zs.length ≤ 1048576) (HTC : Hid (∀ u, Calls Tryd.prog 26 #[.agg #[.int .i64 iss, .int .i64 acq, .int .i64 cur, .int .i64 am, .int .i64 st, .int .i64 rsn, .int .i64 cl, .int .i64 bk, .int .i64 fee, .bool cop, .int .i64 sta, .int .i64 due]] u fun e w' => e = .returned (.agg #[.int .i64 iss, .int .i64 acq, .int .i64 cur, .int .i64 am, .int .i64 st, .int .i64 rsn, .int .i64 cl, .int .i64 bk, .int .i64 fee, .bool cop, .int .i64 sta, .int .i64 due]) ∧ Below u.heap.size u w')) (HTA : Hid (∀ u, Calls Tryd.prog 27 #[.agg #[.int .i64 k, .int .i64 m, .int .i64 r]] u fun e w' => e = .returned (.agg #[.int .i64 k, .int .i64 m, .int .i64 r]) ∧ Below u.heap.size u w')) (HTW : Hid (StepTab W)) (HW2 : Hid (Below W.heap.size W u13)) (HZ13 : Hid (IntsAt u13 a3 zs)) (HID : Hid (∀ (u : World) (g : Nat), IntsAt u (some ⟨g, 0, none⟩) zs → StepTab u → Calls Tryd.prog 12 #[.agg #[.int .i64 iss, .int .i64 acq, .int .i64 cur, .int .i64 am, .int .i64 st, .int .i64 rsn, .int .i64 cl, .int .i64 bk, .int .i64 fee, .bool cop, .int .i64 sta, .int .i64 due], .agg #[.int .i64 k, .int .i64 m, .int .i64 r], .int .i64 t, .slice (some ⟨g, 0, none⟩) zs.length zs.length] u (DoR u ⟨n0, n1, n2, n3, n4, n5, n6, n7, n8, n9, n10, n11⟩ E rr))) (HALL13 : Hid (∀ u, Below u13.heap.size u13 u → u.cell? ⟨w.heap.size, 0, none⟩ = some (.int .i64 iss) ∧ u.cell? ⟨w.heap.size, 1, none⟩ = some (.int .i64 acq) ∧ u.cell? ⟨w.heap.size, 2, none⟩ = some (.int .i64 cur) ∧ u.cell? ⟨w.heap.size, 3, none⟩ = some (.int .i64 am) ∧ u.cell? ⟨w.heap.size, 4, none⟩ = some (.int .i64 st) ∧ u.cell? ⟨w.heap.size, 5, none⟩ = some (.int .i64 rsn) ∧ u.cell? ⟨w.heap.size, 6, none⟩ = some (.int .i64 cl) ∧ u.cell? ⟨w.heap.size, 7, none⟩ = some (.int .i64 bk) ∧ u.cell? ⟨w.heap.size, 8, none⟩ = some (.int .i64 fee) ∧ u.cell? ⟨w.heap.size, 9, none⟩ = some (.bool cop) ∧ u.cell? ⟨w.heap.size, 10, none⟩ = some (.int .i64 sta) ∧ u.cell? ⟨w.heap.size, 11, none⟩ = some (.int .i64 due) ∧ u.cell? ⟨w.heap.size + 1, 0, none⟩ = some (.int .i64 k) ∧ u.cell? ⟨w.heap.size + 1, 1, none⟩ = some (.int .i64 m) ∧ u.cell? ⟨w.heap.size + 1, 2, none⟩ = some (.int .i64 r))) (b0 : Below u13.heap.size u13 u13) (z : ZC u13 u13 none (fun _ => True)) : ∀ (J K' : Act → World → Prop),
    (∀ (a' : Act) (w' : World),
    (∃ u19 u20 u21 u22 u23 u24 u25 u26 u27 u28 u29 u30 u31 u32 u33 u34 u35 u36 u37 u38 u39 u40 u41 u42 u43 u44 u45 u46
        u47 u48 u49 u50 u51 u52 u53 u54 u55 u56 u57 u58 u59 u60 u61 u62 u63 u64 u65 u66 u67 u68 u69 u70 u71 u72 u73 u74
        u75 u76 u77 u78 u79 u80 u81 u82 u83 u84 u85 u86 u87 u88 u89 u90 u91 u92 u93 u94 u95 u96 u97 u98 u99 u100 u101
        u102 u103 u104 u105 u106 u107 u108 u109 u110 u111 u112 u113 u114 u115 u116 u117 u118 u119 u120 u121 u122 u123
        u124 u125 u126 u127 u128 u129 u130 u131 u132 u133 u134 u135 u136 u137,
        (∃ B ao k,
            u19 = Value.pointer (some { block := B, off := 0 }) ∧
              u20 = Value.slice ao E.length k ∧
                u21 = Value.int IntKind.i64 rr ∧
                  LX u13
                    { iss := n0, acq := n1, cur := n2, am := n3, st := n4, rsn := n5, cl := n6, bk := n7, fee := n8,
                      cop := n9, sta := n10, due := n11 }
                    E B ao k w') ∧
          a' =
            {
              tmps :=
                #[Value.agg
                    #[Value.int IntKind.i64 iss, Value.int IntKind.i64 acq, Value.int IntKind.i64 cur,
                      Value.int IntKind.i64 am, Value.int IntKind.i64 st, Value.int IntKind.i64 rsn,
                      Value.int IntKind.i64 cl, Value.int IntKind.i64 bk, Value.int IntKind.i64 fee, Value.bool cop,
                      Value.int IntKind.i64 sta, Value.int IntKind.i64 due],
                  Value.agg #[Value.int IntKind.i64 k, Value.int IntKind.i64 m, Value.int IntKind.i64 r],
                  Value.int IntKind.i64 t, Value.slice a3 zs.length cap3,
                  Value.pointer (some { block := w.heap.size, off := 0 }),
                  Value.pointer (some { block := w.heap.size + 1, off := 0 }), undef, undef, Value.bool false,
                  Value.pointer (some { block := B2, off := 0 }), Value.slice a2 E.length k2, Value.int IntKind.i64 rr,
                  Value.slice (some { block := g3, off := 0 }) zs.length zs.length,
                  Value.pointer (some { block := B4, off := 0 }), Value.slice a4 E.length k4, Value.int IntKind.i64 rr,
                  Value.int IntKind.i64 mm, Value.int IntKind.i64 mk, Value.int IntKind.i64 mk, u19, u20, u21, u22, u23,
                  u24, u25, u26, u27, u28, u29, u30, u31, u32, u33, u34, u35, u36, u37, u38, u39, u40, u41, u42, u43,
                  u44, u45, u46, u47, u48, u49, u50, u51, u52, u53, u54, u55, u56, u57, u58, u59, u60, u61, u62, u63,
                  u64, u65, u66, u67, u68, u69, u70, u71, u72, u73, u74, u75, u76, u77, u78, u79, u80, u81, u82, u83,
                  u84, u85, u86, u87, u88, u89, u90, u91, u92, u93, u94, u95, u96, u97, u98, u99, u100, u101, u102,
                  u103, u104, u105, u106, u107, u108, u109, u110, u111, u112, u113, u114, u115, u116, u117, u118, u119,
                  u120, u121, u122, u123, u124, u125, u126, u127, u128, u129, u130, u131, u132, u133, u134, u135, u136,
                  u137],
              defers := [] }) →
      J a' w') →
    (∀ (a' : Act) (w' : World), Met J a' w' → K' a' w') →
    Code.wp Tryd.prog
    (Code.region 22
      #[{ dst := some 104, op := Op.load 46 (Operand.tmp 4), type := 46, pos := "exact.go:2608", after := #[],
          guard := none },
        { dst := some 105,
          op := Op.call { callee := Callee.value (Operand.func 26), args := #[Operand.tmp 104], argTypes := #[46] },
          type := 25, pos := "exact.go:2608", after := #[{ on := 0, ground := Ground.data }], guard := none },
        { dst := some 106, op := Op.load 47 (Operand.tmp 5), type := 47, pos := "exact.go:2608", after := #[],
          guard := none },
        { dst := some 107,
          op := Op.call { callee := Callee.value (Operand.func 27), args := #[Operand.tmp 106], argTypes := #[47] },
          type := 27, pos := "exact.go:2608",
          after := #[{ on := 2, ground := Ground.data }, { on := 1, ground := Ground.chain }], guard := none },
        { dst := some 108, op := Op.move (Operand.tmp 2), type := 3, pos := "exact.go:2608", after := #[],
          guard := none },
        { dst := some 109, op := Op.move (Operand.tmp 3), type := 28, pos := "exact.go:2608", after := #[],
          guard := none },
        { dst := some 110,
          op := Op.call { callee := Callee.value (Operand.func 28), args := #[Operand.tmp 109], argTypes := #[28] },
          type := 28, pos := "exact.go:2608",
          after := #[{ on := 5, ground := Ground.data }, { on := 3, ground := Ground.chain }], guard := none },
        { dst := some 111,
          op :=
            Op.call
              { callee := Callee.value (Operand.func 12),
                args := #[Operand.tmp 105, Operand.tmp 107, Operand.tmp 108, Operand.tmp 110],
                argTypes := #[25, 27, 3, 28] },
          type := 32, pos := "exact.go:2608",
          after :=
            #[{ on := 1, ground := Ground.data }, { on := 3, ground := Ground.data },
              { on := 4, ground := Ground.data }, { on := 6, ground := Ground.data },
              { on := 6, ground := Ground.chain }],
          guard := none },
        { dst := some 103, op := Op.move (Operand.tmp 111), type := 32, pos := "exact.go:2608",
          after := #[{ on := 7, ground := Ground.data }], guard := none },
        { dst := some 112, op := Op.extract (Operand.tmp 103) 0, type := 25, pos := "exact.go:2608",
          after := #[{ on := 8, ground := Ground.data }], guard := none },
        { dst := some 113, op := Op.extract (Operand.tmp 103) 1, type := 31, pos := "exact.go:2608",
          after := #[{ on := 8, ground := Ground.data }, { on := 13, ground := Ground.gcOnly Departure.lateStores }],
          guard := none },
        { dst := some 114, op := Op.extract (Operand.tmp 103) 2, type := 3, pos := "exact.go:2608",
          after := #[{ on := 8, ground := Ground.data }, { on := 14, ground := Ground.gcOnly Departure.lateStores }],
          guard := none },
        { dst := some 19, op := Op.alloc 25, type := 0, pos := "exact.go:2608", after := #[], guard := none },
        { dst := none, op := Op.store 25 (Operand.tmp 19) (Operand.tmp 112), type := 0, pos := "exact.go:2608",
          after :=
            #[{ on := 12, ground := Ground.data }, { on := 9, ground := Ground.data },
              { on := 7, ground := Ground.chain }, { on := 0, ground := Ground.phase },
              { on := 1, ground := Ground.phase }, { on := 2, ground := Ground.phase },
              { on := 3, ground := Ground.phase }, { on := 4, ground := Ground.phase },
              { on := 5, ground := Ground.phase }, { on := 6, ground := Ground.phase },
              { on := 7, ground := Ground.phase }, { on := 8, ground := Ground.phase },
              { on := 9, ground := Ground.phase }, { on := 10, ground := Ground.textOnly Departure.lateStores },
              { on := 11, ground := Ground.textOnly Departure.lateStores }, { on := 12, ground := Ground.phase }],
          guard := none },
        { dst := some 20, op := Op.assign (Operand.tmp 113), type := 31, pos := "exact.go:2608",
          after :=
            #[{ on := 10, ground := Ground.data }, { on := 13, ground := Ground.chain },
              { on := 0, ground := Ground.phase }, { on := 1, ground := Ground.phase },
              { on := 2, ground := Ground.phase }, { on := 3, ground := Ground.phase },
              { on := 4, ground := Ground.phase }, { on := 5, ground := Ground.phase },
              { on := 6, ground := Ground.phase }, { on := 7, ground := Ground.phase },
              { on := 8, ground := Ground.phase }, { on := 9, ground := Ground.phase },
              { on := 10, ground := Ground.phase }, { on := 11, ground := Ground.textOnly Departure.lateStores },
              { on := 12, ground := Ground.phase }, { on := 13, ground := Ground.phase }],
          guard := none },
        { dst := some 21, op := Op.assign (Operand.tmp 114), type := 3, pos := "exact.go:2608",
          after :=
            #[{ on := 11, ground := Ground.data }, { on := 14, ground := Ground.chain },
              { on := 0, ground := Ground.phase }, { on := 1, ground := Ground.phase },
              { on := 2, ground := Ground.phase }, { on := 3, ground := Ground.phase },
              { on := 4, ground := Ground.phase }, { on := 5, ground := Ground.phase },
              { on := 6, ground := Ground.phase }, { on := 7, ground := Ground.phase },
              { on := 8, ground := Ground.phase }, { on := 9, ground := Ground.phase },
              { on := 10, ground := Ground.phase }, { on := 11, ground := Ground.phase },
              { on := 12, ground := Ground.phase }, { on := 13, ground := Ground.phase },
              { on := 14, ground := Ground.phase }],
          guard := none }]
      true)
    (Exit.then K' (bodyPost Tryd.prog Tryd.f8 fun e w' => e = Ending.returned (Value.bool true) ∧ Below w.heap.size w w'))
    {
      tmps :=
        #[Value.agg
            #[Value.int IntKind.i64 iss, Value.int IntKind.i64 acq, Value.int IntKind.i64 cur, Value.int IntKind.i64 am,
              Value.int IntKind.i64 st, Value.int IntKind.i64 rsn, Value.int IntKind.i64 cl, Value.int IntKind.i64 bk,
              Value.int IntKind.i64 fee, Value.bool cop, Value.int IntKind.i64 sta, Value.int IntKind.i64 due],
          Value.agg #[Value.int IntKind.i64 k, Value.int IntKind.i64 m, Value.int IntKind.i64 r],
          Value.int IntKind.i64 t, Value.slice a3 zs.length cap3,
          Value.pointer (some { block := w.heap.size, off := 0 }),
          Value.pointer (some { block := w.heap.size + 1, off := 0 }), undef, undef, Value.bool false,
          Value.pointer (some { block := B2, off := 0 }), Value.slice a2 E.length k2, Value.int IntKind.i64 rr,
          Value.slice (some { block := g3, off := 0 }) zs.length zs.length,
          Value.pointer (some { block := B4, off := 0 }), Value.slice a4 E.length k4, Value.int IntKind.i64 rr,
          Value.int IntKind.i64 mm, Value.int IntKind.i64 mk, Value.int IntKind.i64 mk, undef, undef, undef, u22, u23,
          u24, u25, u26, u27, u28, u29, u30, u31, u32, u33, u34, u35, u36, u37, u38, u39, u40, u41, u42, u43, u44, u45,
          u46, u47, u48, u49,
          Value.agg
            #[Value.int IntKind.i64 n0, Value.int IntKind.i64 n1, Value.int IntKind.i64 n2, Value.int IntKind.i64 n3,
              Value.int IntKind.i64 n4, Value.int IntKind.i64 n5, Value.int IntKind.i64 n6, Value.int IntKind.i64 n7,
              Value.int IntKind.i64 n8, Value.bool n9, Value.int IntKind.i64 n10, Value.int IntKind.i64 n11],
          Value.agg
            #[Value.int IntKind.i64 n0, Value.int IntKind.i64 n1, Value.int IntKind.i64 n2, Value.int IntKind.i64 n3,
              Value.int IntKind.i64 n4, Value.int IntKind.i64 n5, Value.int IntKind.i64 n6, Value.int IntKind.i64 n7,
              Value.int IntKind.i64 n8, Value.bool n9, Value.int IntKind.i64 n10, Value.int IntKind.i64 n11],
          Value.bool true, Value.bool false, Value.bool false, Value.slice a4 E.length k4, Value.slice a2 E.length k2,
          Value.bool true, Value.bool false, Value.bool false, Value.bool false, Value.int IntKind.i64 rr,
          Value.int IntKind.i64 rr, Value.bool false, Value.bool false,
          Value.slice (some { block := g3, off := 0 }) zs.length zs.length, Value.slice a3 zs.length cap3,
          Value.slice (some { block := u6.heap.size, off := 0 }) zs.length zs.length, Value.bool true, Value.bool false,
          Value.slice (some { block := g3, off := 0 }) zs.length zs.length, Value.int IntKind.i64 1,
          Value.int IntKind.i64 mm, Value.int IntKind.i64 mm, Value.bool (decide (mm < 0)),
          Value.bool (decide (mm < 0)),
          Value.agg
            #[Value.int IntKind.i64 n0, Value.int IntKind.i64 n1, Value.int IntKind.i64 n2, Value.int IntKind.i64 n3,
              Value.int IntKind.i64 n4, Value.int IntKind.i64 n5, Value.int IntKind.i64 n6, Value.int IntKind.i64 n7,
              Value.int IntKind.i64 n8, Value.bool n9, Value.int IntKind.i64 n10, Value.int IntKind.i64 n11],
          Value.agg
            #[Value.int IntKind.i64 n0, Value.int IntKind.i64 n1, Value.int IntKind.i64 n2, Value.int IntKind.i64 n3,
              Value.int IntKind.i64 n4, Value.int IntKind.i64 n5, Value.int IntKind.i64 n6, Value.int IntKind.i64 n7,
              Value.int IntKind.i64 n8, Value.bool n9, Value.int IntKind.i64 n10, Value.int IntKind.i64 n11],
          Value.bool true, Value.bool false, Value.bool (decide (mm < 0)), Value.bool (decide (mm < 0)),
          Value.slice a4 E.length k4, Value.slice a2 E.length k2, Value.bool true, Value.bool false,
          Value.bool (decide (mm < 0)), Value.bool (decide (mm < 0)), Value.int IntKind.i64 rr,
          Value.int IntKind.i64 rr, Value.bool false, Value.bool (decide (mm < 0)), Value.slice a4 E.length k4,
          Value.int IntKind.i64 1, Value.int IntKind.i64 mk, Value.slice a4 E.length k4, Value.int IntKind.i64 1,
          Value.int IntKind.i64 mk, Value.int IntKind.i64 mk, Value.bool (decide (mk < 0)), Value.int IntKind.i64 mk,
          Value.int IntKind.i64 mk, Value.bool false, u103, u104, u105, u106, u107, u108, u109, u110, u111, u112, u113,
          u114, u115, u116, u117, u118, u119, u120, u121, u122, u123, u124, u125, u126, u127, u128, u129, u130, u131,
          u132, u133, u134, u135, u136, u137],
      defers := [] }
    u13 := by
  intro _ _ _ _
  have HAA : Hid (∀ o, (u13.alloc o).cell? ⟨w.heap.size, 0, none⟩ = some (.int .i64 iss) ∧ (u13.alloc o).cell? ⟨w.heap.size, 1, none⟩ = some (.int .i64 acq) ∧ (u13.alloc o).cell? ⟨w.heap.size, 2, none⟩ = some (.int .i64 cur) ∧ (u13.alloc o).cell? ⟨w.heap.size, 3, none⟩ = some (.int .i64 am) ∧ (u13.alloc o).cell? ⟨w.heap.size, 4, none⟩ = some (.int .i64 st) ∧ (u13.alloc o).cell? ⟨w.heap.size, 5, none⟩ = some (.int .i64 rsn) ∧ (u13.alloc o).cell? ⟨w.heap.size, 6, none⟩ = some (.int .i64 cl) ∧ (u13.alloc o).cell? ⟨w.heap.size, 7, none⟩ = some (.int .i64 bk) ∧ (u13.alloc o).cell? ⟨w.heap.size, 8, none⟩ = some (.int .i64 fee) ∧ (u13.alloc o).cell? ⟨w.heap.size, 9, none⟩ = some (.bool cop) ∧ (u13.alloc o).cell? ⟨w.heap.size, 10, none⟩ = some (.int .i64 sta) ∧ (u13.alloc o).cell? ⟨w.heap.size, 11, none⟩ = some (.int .i64 due) ∧ (u13.alloc o).cell? ⟨w.heap.size + 1, 0, none⟩ = some (.int .i64 k) ∧ (u13.alloc o).cell? ⟨w.heap.size + 1, 1, none⟩ = some (.int .i64 m) ∧ (u13.alloc o).cell? ⟨w.heap.size + 1, 2, none⟩ = some (.int .i64 r)) := fun o => HALL13.out _ ((Below.refl _ _).alloc (Nat.le_refl _) o)
  obtain ⟨c0, c1, c2, c3, c4, c5, c6, c7, c8, c9, c10, c11, c12, c13, c14⟩ := HALL13.out _ b0
  have d0 : ∀ o, (u13.alloc o).cell? ⟨w.heap.size, 0, none⟩ = some (.int .i64 iss) := fun o => (HAA.out o).1
  have d1 : ∀ o, (u13.alloc o).cell? ⟨w.heap.size, 1, none⟩ = some (.int .i64 acq) := fun o => (HAA.out o).2.1
  have d2 : ∀ o, (u13.alloc o).cell? ⟨w.heap.size, 2, none⟩ = some (.int .i64 cur) := fun o => (HAA.out o).2.2.1
  have d3 : ∀ o, (u13.alloc o).cell? ⟨w.heap.size, 3, none⟩ = some (.int .i64 am) := fun o => (HAA.out o).2.2.2.1
  have d4 : ∀ o, (u13.alloc o).cell? ⟨w.heap.size, 4, none⟩ = some (.int .i64 st) := fun o => (HAA.out o).2.2.2.2.1
  have d5 : ∀ o, (u13.alloc o).cell? ⟨w.heap.size, 5, none⟩ = some (.int .i64 rsn) := fun o => (HAA.out o).2.2.2.2.2.1
  have d6 : ∀ o, (u13.alloc o).cell? ⟨w.heap.size, 6, none⟩ = some (.int .i64 cl) := fun o => (HAA.out o).2.2.2.2.2.2.1
  have d7 : ∀ o, (u13.alloc o).cell? ⟨w.heap.size, 7, none⟩ = some (.int .i64 bk) := fun o => (HAA.out o).2.2.2.2.2.2.2.1
  have d8 : ∀ o, (u13.alloc o).cell? ⟨w.heap.size, 8, none⟩ = some (.int .i64 fee) := fun o => (HAA.out o).2.2.2.2.2.2.2.2.1
  have d9 : ∀ o, (u13.alloc o).cell? ⟨w.heap.size, 9, none⟩ = some (.bool cop) := fun o => (HAA.out o).2.2.2.2.2.2.2.2.2.1
  have d10 : ∀ o, (u13.alloc o).cell? ⟨w.heap.size, 10, none⟩ = some (.int .i64 sta) := fun o => (HAA.out o).2.2.2.2.2.2.2.2.2.2.1
  have d11 : ∀ o, (u13.alloc o).cell? ⟨w.heap.size, 11, none⟩ = some (.int .i64 due) := fun o => (HAA.out o).2.2.2.2.2.2.2.2.2.2.2.1
  have d12 : ∀ o, (u13.alloc o).cell? ⟨w.heap.size + 1, 0, none⟩ = some (.int .i64 k) := fun o => (HAA.out o).2.2.2.2.2.2.2.2.2.2.2.2.1
  have d13 : ∀ o, (u13.alloc o).cell? ⟨w.heap.size + 1, 1, none⟩ = some (.int .i64 m) := fun o => (HAA.out o).2.2.2.2.2.2.2.2.2.2.2.2.2.1
  have d14 : ∀ o, (u13.alloc o).cell? ⟨w.heap.size + 1, 2, none⟩ = some (.int .i64 r) := fun o => (HAA.out o).2.2.2.2.2.2.2.2.2.2.2.2.2.2
  go_region_with (first
      | (go_at_call 26; (first | with_reducible refine (zCall z (HTC.out _)).mono ?_ | with_reducible refine (zCall z.drew (HTC.out _)).mono ?_ | with_reducible refine (zCall (z.al _) (HTC.out _)).mono ?_ | with_reducible refine (zCall (z.al _).drew (HTC.out _)).mono ?_ | with_reducible refine (zCall (z.drew.al _) (HTC.out _)).mono ?_); rintro e v1 ⟨rfl, z⟩; obtain ⟨-, -, -, -, -, -, -, -, -, -, -, -, q0, q1, q2⟩ := HALL13.out _ z.bel; have p0 : ∀ o, (v1.alloc o).cell? ⟨w.heap.size + 1, 0, none⟩ = some (.int .i64 k) := (fun o => (act3_22 (HALL13.out _ (z.bel.alloc z.bel.size o))).1); have p1 : ∀ o, (v1.alloc o).cell? ⟨w.heap.size + 1, 1, none⟩ = some (.int .i64 m) := (fun o => (act3_22 (HALL13.out _ (z.bel.alloc z.bel.size o))).2.1); have p2 : ∀ o, (v1.alloc o).cell? ⟨w.heap.size + 1, 2, none⟩ = some (.int .i64 r) := (fun o => (act3_22 (HALL13.out _ (z.bel.alloc z.bel.size o))).2.2))
      | (go_at_call 27; (first | with_reducible refine (zCall z (HTA.out _)).mono ?_ | with_reducible refine (zCall z.drew (HTA.out _)).mono ?_ | with_reducible refine (zCall (z.al _) (HTA.out _)).mono ?_ | with_reducible refine (zCall (z.al _).drew (HTA.out _)).mono ?_ | with_reducible refine (zCall (z.drew.al _) (HTA.out _)).mono ?_); rintro e v2 ⟨rfl, z⟩)
      | (go_at_call 28; (first | with_reducible refine (zInts HZ13.out hn z).mono ?_ | with_reducible refine (zInts HZ13.out hn z.drew).mono ?_ | with_reducible refine (zInts HZ13.out hn (z.al _)).mono ?_ | with_reducible refine (zInts HZ13.out hn (z.al _).drew).mono ?_ | with_reducible refine (zInts HZ13.out hn (z.drew.al _)).mono ?_); rintro e v3 ⟨g1, rfl, z⟩)
      | (go_at_call 12; (first | with_reducible refine (zDo z (HID.out _ _ z.now.2 ((HTW.out.below HW2.out).below z.bel))).mono ?_ | with_reducible refine (zDo z.drew (HID.out _ _ z.drew.now.2 ((HTW.out.below HW2.out).below z.drew.bel))).mono ?_ | with_reducible refine (zDo (z.al _) (HID.out _ _ (z.al _).now.2 ((HTW.out.below HW2.out).below (z.al _).bel))).mono ?_ | with_reducible refine (zDo (z.al _).drew (HID.out _ _ (z.al _).drew.now.2 ((HTW.out.below HW2.out).below (z.al _).drew.bel))).mono ?_ | with_reducible refine (zDo (z.drew.al _) (HID.out _ _ (z.drew.al _).now.2 ((HTW.out.below HW2.out).below (z.drew.al _).bel))).mono ?_); rintro e v4 ⟨a4, k4, rfl, o4, z0, z⟩; simp only [cv]; (first | (have HF : Hid (∀ t, LX u13 ⟨n0, n1, n2, n3, n4, n5, n6, n7, n8, n9, n10, n11⟩ E v4.heap.size a4 k4 (v4.alloc (.cells #[.int .i64 n0, .int .i64 n1, .int .i64 n2, .int .i64 n3, .int .i64 n4, .int .i64 n5, .int .i64 n6, .int .i64 n7, .int .i64 n8, .bool n9, .int .i64 n10, .int .i64 n11] t))) := (fun t => LX.new o4 z0 z)) | (have HF : Hid _ := LX.set (n := ⟨n0, n1, n2, n3, n4, n5, n6, n7, n8, n9, n10, n11⟩) o4 z0 z; obtain ⟨_, ⟨bg0, bg1, bg2, bg3, bg4, bg5, bg6, bg7, bg8, bg9, bg10, bg11⟩, ⟨by0, by1, by2, by3, by4, by5, by6, by7, by8, by9, by10, by11⟩⟩ := z.box _ rfl; simp only [Nat.zero_add, zeroC] at bg0 bg1 bg2 bg3 bg4 bg5 bg6 bg7 bg8 bg9 bg10 bg11 by0 by1 by2 by3 by4 by5 by6 by7 by8 by9 by10 by11)); clear o4 z0))
  all_goals
    go_wp2_with fail
    go_meet
    first
      | exact ⟨_, _, _, rfl, rfl, rfl, HF.out _⟩
      | exact ⟨_, _, _, rfl, rfl, rfl, HF.out⟩
      | exact ⟨_, _, _, rfl, rfl, rfl, (HF.out _).drew⟩
      | exact ⟨_, _, _, rfl, rfl, rfl, HF.out.drew⟩

end Go.Proofs.YtpjfigjgamlcdaaDoor
