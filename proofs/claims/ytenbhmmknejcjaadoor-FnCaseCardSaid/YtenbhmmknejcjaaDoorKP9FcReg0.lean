/- The last statement of the law on what an act does, by itself: whatever the order, it is true. -/
import Derived.Test.YtenbhmmknejcjaaDoorJP913a
import Derived.Test.YtenbhmmknejcjaaDoorJP90a
import Derived.Deep.DeepCutAuto
namespace Go.Proofs.YtenbhmmknejcjaaDoor
open Go.RowKit
set_option maxRecDepth 100000

set_option maxHeartbeats 40000000 in
theorem rFcReg0 {u2 u15 u16 u18 u19 u20 u21 u22 u23 u24 u25 u26 u27 u28 u29 u30 u31 u32 u33 u34 u35 u36 u37 u38 u39 u40 u41 u42 u43 u44 u45 u46 u47 u48 u49 u50 u51 u52 u53 u54 u55 u56 u57 u58 u59 u60 u61 u62 u63 u64 u65 u66 u67 u68 u69 u70 u71 u72 u73 u74 u75 u76 u77 u78 u79 u80 u81 u82 u83 u84 u85 u86 u87 u88 u89 u90 u91 u92 u93 u94 u95 u96 u97 u98 u99 u100 u101 u102 u103 u104 u105 u106 u107 u108 u109 u110 u111 u112 u113 u114 u115 u116 u117 u118 u119 u120 u121 u122 u123 u124 u125 u126 u127 u128 u129 u130 u131 u132 u133 u134 u135 u136 u137 u138 u139 u140 u141 u142 u143 u144 u145 u146 u147 u148 u149 u150 u151 u152 u153 u154 u155 u156 u157 u158 u159 u160 u161 u162 u163 u164 u165 u166 u167 u168 u169 u170 u171 u172 u173 u174 u175 u176 u177 u178 u179 u180 u181 u182 u183 u184 u185 u186 u187 u188 u189 u190 u191 u192 u193 u194 u195 u196 u197 u198 u199 u200 u201 u202 u203 u204 u205 u206 u207 u208 u209 u210 u211 u212 u213 u214 u215 u216 u217 u218 u219 u220 u221 u222 : Value} {a0 ao eo eo2 : Option Addr} {len0 cap0 cp ec ec2 R b7 b10 : Nat} {d iss acq cur am bk fee n4 n5 n6 n7 n8 : Int} {n9 : Bool} {sta n11 : Int} {xs : List Int} {E : List En} {w wc : World}
    (q4 : 1 ≤ am) (q5 : am ≤ 100000000000) (q8 : 0 ≤ bk) (q8' : bk ≤ am) (q9 : 0 ≤ fee) (q9' : fee ≤ 500000) (_r6 : 0 ≤ n6) (r6' : n6 ≤ am) (r7 : 0 ≤ n7) (r7' : n7 ≤ am) (r8 : 0 ≤ n8) (r8' : n8 ≤ 500000)
    (HB : Hid (Below w.heap.size w wc)) (hne : Nonempty (Over wc))
    (og0 : ∀ z : Over wc, z.x.cell? ⟨R, 0, none⟩ = some (.int .i64 iss))
    (og1 : ∀ z : Over wc, z.x.cell? ⟨R, 1, none⟩ = some (.int .i64 acq))
    (og3 : ∀ z : Over wc, z.x.cell? ⟨R, 3, none⟩ = some (.int .i64 am))
    (og7 : ∀ z : Over wc, z.x.cell? ⟨R, 7, none⟩ = some (.int .i64 bk))
    (og8 : ∀ z : Over wc, z.x.cell? ⟨R, 8, none⟩ = some (.int .i64 fee))
    (og10 : ∀ z : Over wc, z.x.cell? ⟨R, 10, none⟩ = some (.int .i64 sta))
    (os0 : ∀ z : Over wc, z.x.cell? ⟨b7, 0, none⟩ = some (.int .i64 iss))
    (os1 : ∀ z : Over wc, z.x.cell? ⟨b7, 1, none⟩ = some (.int .i64 acq))
    (os2 : ∀ z : Over wc, z.x.cell? ⟨b7, 2, none⟩ = some (.int .i64 cur))
    (os3 : ∀ z : Over wc, z.x.cell? ⟨b7, 3, none⟩ = some (.int .i64 am))
    (os4 : ∀ z : Over wc, z.x.cell? ⟨b7, 4, none⟩ = some (.int .i64 n4))
    (os5 : ∀ z : Over wc, z.x.cell? ⟨b7, 5, none⟩ = some (.int .i64 n5))
    (os6 : ∀ z : Over wc, z.x.cell? ⟨b7, 6, none⟩ = some (.int .i64 n6))
    (os7 : ∀ z : Over wc, z.x.cell? ⟨b7, 7, none⟩ = some (.int .i64 n7))
    (os8 : ∀ z : Over wc, z.x.cell? ⟨b7, 8, none⟩ = some (.int .i64 n8))
    (os9 : ∀ z : Over wc, z.x.cell? ⟨b7, 9, none⟩ = some (.bool n9))
    (os10 : ∀ z : Over wc, z.x.cell? ⟨b7, 10, none⟩ = some (.int .i64 sta))
    (os11 : ∀ z : Over wc, z.x.cell? ⟨b7, 11, none⟩ = some (.int .i64 n11))
    (HIO : Hid (∀ z : Over wc, Calls Tryd.prog 12 #[.agg #[.int .i64 iss, .int .i64 acq, .int .i64 cur, .int .i64 am, .int .i64 n4, .int .i64 n5, .int .i64 n6, .int .i64 n7, .int .i64 n8, .bool n9, .int .i64 sta, .int .i64 n11]] z.x fun e w' => e = .returned (.bool true) ∧ Below z.x.heap.size z.x w'))
    (HNT : Hid (∀ z : Over wc, Calls Tryd.prog 15 #[.agg #[.int .i64 iss, .int .i64 acq, .int .i64 cur, .int .i64 am, .int .i64 n4, .int .i64 n5, .int .i64 n6, .int .i64 n7, .int .i64 n8, .bool n9, .int .i64 sta, .int .i64 n11]] z.x fun e w' => e = .returned (.int .i64 (am - n7)) ∧ Below z.x.heap.size z.x w')) : ∀ (J K' : Act → World → Prop),
    (∀ (a' : Act) (w' : World),
    (∃ u2 u18 u19 u20 u21 u22 u23 u24 u25 u26 u27 u28 u29 u30 u31 u32 u33 u34 u35 u36 u37 u38 u39 u40 u41 u42 u43 u44
        u45 u46 u47 u48 u49 u50 u51 u52 u53 u54 u55 u56 u57 u58 u59 u60 u61 u62 u63 u64 u65 u66 u67 u68 u69 u70 u71 u72
        u73 u74 u75 u76 u77 u78 u79 u80 u81 u82 u83 u84 u85 u86 u87 u88 u89 u90 u91 u92 u93 u94 u95 u96 u97 u98 u99 u100
        u101 u102 u103 u104 u106 u107 u108 u109 u110 u111 u112 u114 u115 u116 u117 u118 u119 u120 u121 u122 u123 u124
        u125 u126 u127 u128 u129 u131 u132 u133 u134 u135 u136 u137 u138 u139 u140 u141 u142 u143 u144 u145 u146 u147
        u148 u149 u150 u151 u152 u153 u154 u155 u156 u157 u158 u159 u160 u161 u162 u163 u164 u165 u166 u167 u168 u169
        u170 u171 u172 u173 u174 u175 u176 u177 u178 u179 u180 u181 u182 u183 u184 u185 u186 u187 u188 u189 u190 u191
        u192 u193 u194 u195 u196 u197 u198 u199 u200 u201 u202 u203 u204 u205 u206 u207 u208 u209 u210 u211 u212 u213
        u214 u215 u216 u217 u218 u219 u220 u221 u222,
        (u2 = Value.bool true ∧ Below w.heap.size w w') ∧
          a' =
            {
              tmps :=
                #[Value.slice a0 len0 cap0, undef, u2, Value.pointer (some { block := R, off := 0 }),
                  Value.pointer (some { block := R + 1, off := 0 }), Value.int IntKind.i64 d,
                  Value.slice ao xs.length cp, Value.pointer (some { block := b7, off := 0 }),
                  Value.slice eo E.length ec, Value.int IntKind.i64 0, Value.pointer (some { block := b10, off := 0 }),
                  Value.slice eo2 E.length ec2, Value.int IntKind.i64 0, Value.int IntKind.i64 (n7 - bk),
                  Value.int IntKind.i64 (n8 - fee), u15, u16, Value.bool false, u18, u19, u20, u21, u22, u23, u24, u25,
                  u26, u27, u28, u29, u30, u31, u32, u33, u34, u35, u36, u37, u38, u39, u40, u41, u42, u43, u44, u45,
                  u46, u47, u48, u49, u50, u51, u52, u53, u54, u55, u56, u57, u58, u59, u60, u61, u62, u63, u64, u65,
                  u66, u67, u68, u69, u70, u71, u72, u73, u74, u75, u76, u77, u78, u79, u80, u81, u82, u83, u84, u85,
                  u86, u87, u88, u89, u90, u91, u92, u93, u94, u95, u96, u97, u98, u99, u100, u101, u102, u103, u104,
                  u105, u106, u107, u108, u109, u110, u111, u112, u113, u114, u115, u116, u117, u118, u119, u120, u121,
                  u122, u123, u124, u125, u126, u127, u128, u129, u130, u131, u132, u133, u134, u135, u136, u137, u138,
                  u139, u140, u141, u142, u143, u144, u145, u146, u147, u148, u149, u150, u151, u152, u153, u154, u155,
                  u156, u157, u158, u159, u160, u161, u162, u163, u164, u165, u166, u167, u168, u169, u170, u171, u172,
                  u173, u174, u175, u176, u177, u178, u179, u180, u181, u182, u183, u184, u185, u186, u187, u188, u189,
                  u190, u191, u192, u193, u194, u195, u196, u197, u198, u199, u200, u201, u202, u203, u204, u205, u206,
                  u207, u208, u209, u210, u211, u212, u213, u214, u215, u216, u217, u218, u219, u220, u221, u222],
              defers := [] }) →
      J a' w') →
    (∀ (a' : Act) (w' : World), Met J a' w' → K' a' w') →
    Code.wp Tryd.prog
    (Code.region 25
      ([{ dst := some 155, op := Op.load 25 (Operand.tmp 7), type := 25, pos := "laws.go:680", after := #[],
                guard := none },
              { dst := some 156,
                op :=
                  Op.call { callee := Callee.value (Operand.func 12), args := #[Operand.tmp 155], argTypes := #[25] },
                type := 4, pos := "laws.go:680", after := #[{ on := 0, ground := Ground.data }], guard := none },
              { dst := some 157, op := Op.move (Operand.tmp 156), type := 4, pos := "laws.go:680",
                after := #[{ on := 1, ground := Ground.data }, { on := 1, ground := Ground.chain }], guard := none },
              { dst := some 158, op := Op.fieldAddr 25 (Operand.tmp 7) 0, type := 0, pos := "laws.go:680",
                after := #[{ on := 2, ground := Ground.guard }], guard := some (2, true) },
              { dst := some 159, op := Op.load 3 (Operand.tmp 158), type := 3, pos := "laws.go:680",
                after := #[{ on := 3, ground := Ground.data }, { on := 2, ground := Ground.guard }],
                guard := some (2, true) },
              { dst := some 160, op := Op.fieldAddr 25 (Operand.tmp 3) 0, type := 0, pos := "laws.go:680",
                after := #[{ on := 2, ground := Ground.guard }], guard := some (2, true) },
              { dst := some 161, op := Op.load 3 (Operand.tmp 160), type := 3, pos := "laws.go:680",
                after := #[{ on := 5, ground := Ground.data }, { on := 2, ground := Ground.guard }],
                guard := some (2, true) },
              { dst := some 162, op := Op.binOp BinOp.eql 3 (Operand.tmp 159) (Operand.tmp 161) 3, type := 4,
                pos := "laws.go:680",
                after :=
                  #[{ on := 4, ground := Ground.data }, { on := 6, ground := Ground.data },
                    { on := 2, ground := Ground.guard }],
                guard := some (2, true) },
              { dst := some 163, op := Op.pick (Operand.tmp 157) (Operand.tmp 162) (Operand.const (Value.bool false)),
                type := 4, pos := "laws.go:680",
                after := #[{ on := 2, ground := Ground.data }, { on := 7, ground := Ground.data }], guard := none },
              { dst := some 164, op := Op.move (Operand.tmp 163), type := 4, pos := "laws.go:680",
                after := #[{ on := 8, ground := Ground.data }, { on := 2, ground := Ground.chain }], guard := none },
              { dst := some 165, op := Op.fieldAddr 25 (Operand.tmp 7) 1, type := 0, pos := "laws.go:680",
                after := #[{ on := 9, ground := Ground.guard }], guard := some (9, true) },
              { dst := some 166, op := Op.load 3 (Operand.tmp 165), type := 3, pos := "laws.go:680",
                after := #[{ on := 10, ground := Ground.data }, { on := 9, ground := Ground.guard }],
                guard := some (9, true) },
              { dst := some 167, op := Op.fieldAddr 25 (Operand.tmp 3) 1, type := 0, pos := "laws.go:680",
                after := #[{ on := 9, ground := Ground.guard }], guard := some (9, true) },
              { dst := some 168, op := Op.load 3 (Operand.tmp 167), type := 3, pos := "laws.go:680",
                after := #[{ on := 12, ground := Ground.data }, { on := 9, ground := Ground.guard }],
                guard := some (9, true) },
              { dst := some 169, op := Op.binOp BinOp.eql 3 (Operand.tmp 166) (Operand.tmp 168) 3, type := 4,
                pos := "laws.go:680",
                after :=
                  #[{ on := 11, ground := Ground.data }, { on := 13, ground := Ground.data },
                    { on := 9, ground := Ground.guard }],
                guard := some (9, true) },
              { dst := some 170, op := Op.pick (Operand.tmp 164) (Operand.tmp 169) (Operand.const (Value.bool false)),
                type := 4, pos := "laws.go:680",
                after := #[{ on := 9, ground := Ground.data }, { on := 14, ground := Ground.data }], guard := none },
              { dst := some 171, op := Op.move (Operand.tmp 170), type := 4, pos := "laws.go:680",
                after := #[{ on := 15, ground := Ground.data }, { on := 9, ground := Ground.chain }], guard := none },
              { dst := some 172, op := Op.fieldAddr 25 (Operand.tmp 7) 3, type := 0, pos := "laws.go:680",
                after := #[{ on := 16, ground := Ground.guard }], guard := some (16, true) },
              { dst := some 173, op := Op.load 3 (Operand.tmp 172), type := 3, pos := "laws.go:680",
                after := #[{ on := 17, ground := Ground.data }, { on := 16, ground := Ground.guard }],
                guard := some (16, true) },
              { dst := some 174, op := Op.fieldAddr 25 (Operand.tmp 3) 3, type := 0, pos := "laws.go:680",
                after := #[{ on := 16, ground := Ground.guard }], guard := some (16, true) },
              { dst := some 175, op := Op.load 3 (Operand.tmp 174), type := 3, pos := "laws.go:680",
                after := #[{ on := 19, ground := Ground.data }, { on := 16, ground := Ground.guard }],
                guard := some (16, true) },
              { dst := some 176, op := Op.binOp BinOp.eql 3 (Operand.tmp 173) (Operand.tmp 175) 3, type := 4,
                pos := "laws.go:680",
                after :=
                  #[{ on := 18, ground := Ground.data }, { on := 20, ground := Ground.data },
                    { on := 16, ground := Ground.guard }],
                guard := some (16, true) },
              { dst := some 177, op := Op.pick (Operand.tmp 171) (Operand.tmp 176) (Operand.const (Value.bool false)),
                type := 4, pos := "laws.go:680",
                after := #[{ on := 16, ground := Ground.data }, { on := 21, ground := Ground.data }], guard := none },
              { dst := some 178, op := Op.move (Operand.tmp 177), type := 4, pos := "laws.go:680",
                after := #[{ on := 22, ground := Ground.data }, { on := 16, ground := Ground.chain }], guard := none },
              { dst := some 179, op := Op.fieldAddr 25 (Operand.tmp 7) 10, type := 0, pos := "laws.go:680",
                after := #[{ on := 23, ground := Ground.guard }], guard := some (23, true) },
              { dst := some 180, op := Op.load 3 (Operand.tmp 179), type := 3, pos := "laws.go:680",
                after := #[{ on := 24, ground := Ground.data }, { on := 23, ground := Ground.guard }],
                guard := some (23, true) },
              { dst := some 181, op := Op.fieldAddr 25 (Operand.tmp 3) 10, type := 0, pos := "laws.go:680",
                after := #[{ on := 23, ground := Ground.guard }], guard := some (23, true) },
              { dst := some 182, op := Op.load 3 (Operand.tmp 181), type := 3, pos := "laws.go:680",
                after := #[{ on := 26, ground := Ground.data }, { on := 23, ground := Ground.guard }],
                guard := some (23, true) },
              { dst := some 183, op := Op.binOp BinOp.eql 3 (Operand.tmp 180) (Operand.tmp 182) 3, type := 4,
                pos := "laws.go:680",
                after :=
                  #[{ on := 25, ground := Ground.data }, { on := 27, ground := Ground.data },
                    { on := 23, ground := Ground.guard }],
                guard := some (23, true) },
              { dst := some 184, op := Op.pick (Operand.tmp 178) (Operand.tmp 183) (Operand.const (Value.bool false)),
                type := 4, pos := "laws.go:680",
                after := #[{ on := 23, ground := Ground.data }, { on := 28, ground := Ground.data }], guard := none },
              { dst := some 185, op := Op.move (Operand.tmp 184), type := 4, pos := "laws.go:680",
                after := #[{ on := 29, ground := Ground.data }, { on := 23, ground := Ground.chain }], guard := none },
              { dst := some 186, op := Op.move (Operand.tmp 17), type := 4, pos := "laws.go:680",
                after := #[{ on := 30, ground := Ground.guard }], guard := some (30, true) },
              { dst := some 187, op := Op.move (Operand.tmp 186), type := 4, pos := "laws.go:680",
                after :=
                  #[{ on := 31, ground := Ground.data }, { on := 30, ground := Ground.chain },
                    { on := 30, ground := Ground.guard }],
                guard := some (30, true) },
              { dst := some 188, op := Op.move (Operand.tmp 13), type := 3, pos := "laws.go:680",
                after := #[{ on := 32, ground := Ground.guard }], guard := some (32, false) }].append
          [{ dst := some 189, op := Op.fieldAddr 25 (Operand.tmp 7) 7, type := 0, pos := "laws.go:680",
              after := #[{ on := 32, ground := Ground.guard }], guard := some (32, false) },
            { dst := some 190, op := Op.load 3 (Operand.tmp 189), type := 3, pos := "laws.go:680",
              after := #[{ on := 34, ground := Ground.data }, { on := 32, ground := Ground.guard }],
              guard := some (32, false) },
            { dst := some 191, op := Op.fieldAddr 25 (Operand.tmp 3) 7, type := 0, pos := "laws.go:680",
              after := #[{ on := 32, ground := Ground.guard }], guard := some (32, false) },
            { dst := some 192, op := Op.load 3 (Operand.tmp 191), type := 3, pos := "laws.go:680",
              after := #[{ on := 36, ground := Ground.data }, { on := 32, ground := Ground.guard }],
              guard := some (32, false) },
            { dst := some 193, op := Op.binOp BinOp.sub 3 (Operand.tmp 190) (Operand.tmp 192) 3, type := 3,
              pos := "laws.go:680",
              after :=
                #[{ on := 35, ground := Ground.data }, { on := 37, ground := Ground.data },
                  { on := 32, ground := Ground.guard }],
              guard := some (32, false) },
            { dst := some 194, op := Op.binOp BinOp.eql 3 (Operand.tmp 188) (Operand.tmp 193) 3, type := 4,
              pos := "laws.go:680",
              after :=
                #[{ on := 33, ground := Ground.data }, { on := 38, ground := Ground.data },
                  { on := 32, ground := Ground.guard }],
              guard := some (32, false) },
            { dst := some 195, op := Op.pick (Operand.tmp 187) (Operand.const (Value.bool true)) (Operand.tmp 194),
              type := 4, pos := "laws.go:680",
              after :=
                #[{ on := 32, ground := Ground.data }, { on := 39, ground := Ground.data },
                  { on := 30, ground := Ground.guard }],
              guard := some (30, true) },
            { dst := some 196, op := Op.pick (Operand.tmp 185) (Operand.tmp 195) (Operand.const (Value.bool false)),
              type := 4, pos := "laws.go:680",
              after := #[{ on := 30, ground := Ground.data }, { on := 40, ground := Ground.data }], guard := none },
            { dst := some 197, op := Op.move (Operand.tmp 196), type := 4, pos := "laws.go:680",
              after := #[{ on := 41, ground := Ground.data }, { on := 32, ground := Ground.chain }], guard := none },
            { dst := some 198, op := Op.move (Operand.tmp 14), type := 3, pos := "laws.go:680",
              after := #[{ on := 42, ground := Ground.guard }], guard := some (42, true) },
            { dst := some 199, op := Op.fieldAddr 25 (Operand.tmp 7) 8, type := 0, pos := "laws.go:680",
              after := #[{ on := 42, ground := Ground.guard }], guard := some (42, true) },
            { dst := some 200, op := Op.load 3 (Operand.tmp 199), type := 3, pos := "laws.go:680",
              after := #[{ on := 44, ground := Ground.data }, { on := 42, ground := Ground.guard }],
              guard := some (42, true) },
            { dst := some 201, op := Op.fieldAddr 25 (Operand.tmp 3) 8, type := 0, pos := "laws.go:680",
              after := #[{ on := 42, ground := Ground.guard }], guard := some (42, true) },
            { dst := some 202, op := Op.load 3 (Operand.tmp 201), type := 3, pos := "laws.go:680",
              after := #[{ on := 46, ground := Ground.data }, { on := 42, ground := Ground.guard }],
              guard := some (42, true) },
            { dst := some 203, op := Op.binOp BinOp.sub 3 (Operand.tmp 200) (Operand.tmp 202) 3, type := 3,
              pos := "laws.go:680",
              after :=
                #[{ on := 45, ground := Ground.data }, { on := 47, ground := Ground.data },
                  { on := 42, ground := Ground.guard }],
              guard := some (42, true) },
            { dst := some 204, op := Op.binOp BinOp.eql 3 (Operand.tmp 198) (Operand.tmp 203) 3, type := 4,
              pos := "laws.go:680",
              after :=
                #[{ on := 43, ground := Ground.data }, { on := 48, ground := Ground.data },
                  { on := 42, ground := Ground.guard }],
              guard := some (42, true) },
            { dst := some 205, op := Op.pick (Operand.tmp 197) (Operand.tmp 204) (Operand.const (Value.bool false)),
              type := 4, pos := "laws.go:680",
              after := #[{ on := 42, ground := Ground.data }, { on := 49, ground := Ground.data }], guard := none },
            { dst := some 206, op := Op.move (Operand.tmp 205), type := 4, pos := "laws.go:680",
              after := #[{ on := 50, ground := Ground.data }, { on := 42, ground := Ground.chain }], guard := none },
            { dst := some 207, op := Op.load 25 (Operand.tmp 7), type := 25, pos := "laws.go:680",
              after := #[{ on := 51, ground := Ground.guard }], guard := some (51, true) },
            { dst := some 208,
              op := Op.call { callee := Callee.value (Operand.func 15), args := #[Operand.tmp 207], argTypes := #[25] },
              type := 3, pos := "laws.go:680",
              after :=
                #[{ on := 52, ground := Ground.data }, { on := 51, ground := Ground.chain },
                  { on := 51, ground := Ground.guard }],
              guard := some (51, true) },
            { dst := some 209, op := Op.fieldAddr 25 (Operand.tmp 7) 3, type := 0, pos := "laws.go:680",
              after := #[{ on := 51, ground := Ground.guard }], guard := some (51, true) },
            { dst := some 210, op := Op.load 3 (Operand.tmp 209), type := 3, pos := "laws.go:680",
              after := #[{ on := 54, ground := Ground.data }, { on := 51, ground := Ground.guard }],
              guard := some (51, true) },
            { dst := some 211, op := Op.fieldAddr 25 (Operand.tmp 7) 7, type := 0, pos := "laws.go:680",
              after := #[{ on := 51, ground := Ground.guard }], guard := some (51, true) },
            { dst := some 212, op := Op.load 3 (Operand.tmp 211), type := 3, pos := "laws.go:680",
              after := #[{ on := 56, ground := Ground.data }, { on := 51, ground := Ground.guard }],
              guard := some (51, true) },
            { dst := some 213, op := Op.binOp BinOp.sub 3 (Operand.tmp 210) (Operand.tmp 212) 3, type := 3,
              pos := "laws.go:680",
              after :=
                #[{ on := 55, ground := Ground.data }, { on := 57, ground := Ground.data },
                  { on := 51, ground := Ground.guard }],
              guard := some (51, true) },
            { dst := some 214, op := Op.binOp BinOp.eql 3 (Operand.tmp 208) (Operand.tmp 213) 3, type := 4,
              pos := "laws.go:680",
              after :=
                #[{ on := 53, ground := Ground.data }, { on := 58, ground := Ground.data },
                  { on := 51, ground := Ground.guard }],
              guard := some (51, true) },
            { dst := some 215, op := Op.pick (Operand.tmp 206) (Operand.tmp 214) (Operand.const (Value.bool false)),
              type := 4, pos := "laws.go:680",
              after := #[{ on := 51, ground := Ground.data }, { on := 59, ground := Ground.data }], guard := none },
            { dst := some 216, op := Op.move (Operand.tmp 215), type := 4, pos := "laws.go:680",
              after := #[{ on := 60, ground := Ground.data }, { on := 53, ground := Ground.chain }], guard := none },
            { dst := some 217, op := Op.fieldAddr 25 (Operand.tmp 7) 6, type := 0, pos := "laws.go:680",
              after := #[{ on := 61, ground := Ground.guard }], guard := some (61, true) },
            { dst := some 218, op := Op.load 3 (Operand.tmp 217), type := 3, pos := "laws.go:680",
              after := #[{ on := 62, ground := Ground.data }, { on := 61, ground := Ground.guard }],
              guard := some (61, true) },
            { dst := some 219, op := Op.fieldAddr 25 (Operand.tmp 7) 3, type := 0, pos := "laws.go:680",
              after := #[{ on := 61, ground := Ground.guard }], guard := some (61, true) },
            { dst := some 220, op := Op.load 3 (Operand.tmp 219), type := 3, pos := "laws.go:680",
              after := #[{ on := 64, ground := Ground.data }, { on := 61, ground := Ground.guard }],
              guard := some (61, true) },
            { dst := some 221, op := Op.binOp BinOp.leq 3 (Operand.tmp 218) (Operand.tmp 220) 3, type := 4,
              pos := "laws.go:680",
              after :=
                #[{ on := 63, ground := Ground.data }, { on := 65, ground := Ground.data },
                  { on := 61, ground := Ground.guard }],
              guard := some (61, true) },
            { dst := some 222, op := Op.pick (Operand.tmp 216) (Operand.tmp 221) (Operand.const (Value.bool false)),
              type := 4, pos := "laws.go:680",
              after := #[{ on := 61, ground := Ground.data }, { on := 66, ground := Ground.data }], guard := none },
            { dst := some 2, op := Op.assign (Operand.tmp 222), type := 4, pos := "laws.go:680",
              after :=
                ([{ on := 67, ground := Ground.data }, { on := 61, ground := Ground.chain },
                        { on := 0, ground := Ground.phase }, { on := 1, ground := Ground.phase },
                        { on := 2, ground := Ground.phase }, { on := 3, ground := Ground.phase },
                        { on := 4, ground := Ground.phase }, { on := 5, ground := Ground.phase },
                        { on := 6, ground := Ground.phase }, { on := 7, ground := Ground.phase },
                        { on := 8, ground := Ground.phase }, { on := 9, ground := Ground.phase },
                        { on := 10, ground := Ground.phase }, { on := 11, ground := Ground.phase },
                        { on := 12, ground := Ground.phase }, { on := 13, ground := Ground.phase },
                        { on := 14, ground := Ground.phase }, { on := 15, ground := Ground.phase },
                        { on := 16, ground := Ground.phase }, { on := 17, ground := Ground.phase },
                        { on := 18, ground := Ground.phase }, { on := 19, ground := Ground.phase },
                        { on := 20, ground := Ground.phase }, { on := 21, ground := Ground.phase },
                        { on := 22, ground := Ground.phase }, { on := 23, ground := Ground.phase },
                        { on := 24, ground := Ground.phase }, { on := 25, ground := Ground.phase },
                        { on := 26, ground := Ground.phase }, { on := 27, ground := Ground.phase },
                        { on := 28, ground := Ground.phase }, { on := 29, ground := Ground.phase },
                        { on := 30, ground := Ground.phase }, { on := 31, ground := Ground.phase },
                        { on := 32, ground := Ground.phase }].append
                    [{ on := 33, ground := Ground.phase }, { on := 34, ground := Ground.phase },
                      { on := 35, ground := Ground.phase }, { on := 36, ground := Ground.phase },
                      { on := 37, ground := Ground.phase }, { on := 38, ground := Ground.phase },
                      { on := 39, ground := Ground.phase }, { on := 40, ground := Ground.phase },
                      { on := 41, ground := Ground.phase }, { on := 42, ground := Ground.phase },
                      { on := 43, ground := Ground.phase }, { on := 44, ground := Ground.phase },
                      { on := 45, ground := Ground.phase }, { on := 46, ground := Ground.phase },
                      { on := 47, ground := Ground.phase }, { on := 48, ground := Ground.phase },
                      { on := 49, ground := Ground.phase }, { on := 50, ground := Ground.phase },
                      { on := 51, ground := Ground.phase }, { on := 52, ground := Ground.phase },
                      { on := 53, ground := Ground.phase }, { on := 54, ground := Ground.phase },
                      { on := 55, ground := Ground.phase }, { on := 56, ground := Ground.phase },
                      { on := 57, ground := Ground.phase }, { on := 58, ground := Ground.phase },
                      { on := 59, ground := Ground.phase }, { on := 60, ground := Ground.phase },
                      { on := 61, ground := Ground.phase }, { on := 62, ground := Ground.phase },
                      { on := 63, ground := Ground.phase }, { on := 64, ground := Ground.phase },
                      { on := 65, ground := Ground.phase }, { on := 66, ground := Ground.phase },
                      { on := 67, ground := Ground.phase }]).toArray,
              guard := none }]).toArray
      true)
    (Exit.then K' (bodyPost Tryd.prog Tryd.f3 fun e w' => e = Ending.returned (Value.bool true) ∧ Below w.heap.size w w'))
    {
      tmps :=
        #[Value.slice a0 len0 cap0, undef, u2, Value.pointer (some { block := R, off := 0 }),
          Value.pointer (some { block := R + 1, off := 0 }), Value.int IntKind.i64 d, Value.slice ao xs.length cp,
          Value.pointer (some { block := b7, off := 0 }), Value.slice eo E.length ec, Value.int IntKind.i64 0,
          Value.pointer (some { block := b10, off := 0 }), Value.slice eo2 E.length ec2, Value.int IntKind.i64 0,
          Value.int IntKind.i64 (n7 - bk), Value.int IntKind.i64 (n8 - fee), u15, u16, Value.bool false, u18, u19, u20, u21, u22,
          u23, u24, u25, u26, u27, u28, u29, u30, u31, u32, u33, u34, u35, u36, u37, u38, u39, u40, u41, u42, u43, u44,
          u45, u46, u47, u48, u49, u50, u51, u52, u53, u54, u55, u56, u57, u58, u59, u60, u61, u62, u63, u64, u65, u66,
          u67, u68, u69, u70, u71, u72, u73, u74, u75, u76, u77, u78, u79, u80, u81, u82, u83, u84, u85, u86, u87, u88,
          u89, u90, u91, u92, u93, u94, u95, u96, u97, u98, u99, u100, u101, u102, u103, u104, u105, u106, u107, u108,
          u109, u110, u111, u112, u113, u114, u115, u116, u117, u118, u119, u120, u121, u122, u123, u124, u125, u126,
          u127, u128, u129, u130, u131, u132, u133, u134, u135, u136, u137, u138, u139, u140, u141, u142, u143, u144,
          u145, u146, u147, u148, u149, u150, u151, u152, u153, u154, u155, u156, u157, u158, u159, u160, u161, u162,
          u163, u164, u165, u166, u167, u168, u169, u170, u171, u172, u173, u174, u175, u176, u177, u178, u179, u180,
          u181, u182, u183, u184, u185, u186, u187, u188, u189, u190, u191, u192, u193, u194, u195, u196, u197, u198,
          u199, u200, u201, u202, u203, u204, u205, u206, u207, u208, u209, u210, u211, u212, u213, u214, u215, u216,
          u217, u218, u219, u220, u221, u222],
      defers := [] }
    wc := by
  intro _ _ _ _
  refine wp_region_over (by kernel_rfl) (by kernel_rfl) ?_
  simp only [List.append_eq, List.cons_append, List.nil_append]
  repeat (go_big_quiet_step (first | exact over_of (HIO.out _) | exact over_of (HNT.out _)))
  refine wpQuiet_nil ?_
  rintro w16 ⟨⟨wz, b16⟩, hw16⟩
  subst hw16
  have HB16 : Hid (Below w.heap.size w w16) := next HB.out b16
  clear og0 og1 og3 og7 og8 og10 os0 os1 os2 os3 os4 os5 os6 os7 os8 os9 os10 os11 hne HIO HNT b16
  go_wp2_with fail
  go_meet
  exact ⟨rfl, HB16.out⟩

end Go.Proofs.YtenbhmmknejcjaaDoor
