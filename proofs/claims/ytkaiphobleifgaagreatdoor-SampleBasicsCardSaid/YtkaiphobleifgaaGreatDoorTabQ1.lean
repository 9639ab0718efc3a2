/- Functions of the program, as the plain interpreter has them. -/
import Derived.Test.YtkaiphobleifgaaGreatDoorTabQ0
set_option linter.all false
namespace Go.Tidy
open Go
namespace Tab
def r117_0 : List TOper := [⟨(some 4), .assign (.const (.int .i64 0)), 30, none, [], 0⟩]
def r117_1 : List TOper := [⟨(some 5), .assign (.const (.int .i64 (-1))), 3, none, [], 0⟩]
def r117_2 : List TOper := [⟨(some 9), .move (.tmp 0), 44, none, [], 0⟩,
  ⟨(some 10), .call ⟨.builtin .len, #[(.tmp 9)], #[44]⟩, 3, none, [], 1⟩,
  ⟨(some 11), .move (.const (.int .i64 0)), 3, none, [], 2⟩]
def r117_3 : List TOper := [⟨(some 12), .binOp .lss 3 (.tmp 11) (.tmp 10) 3, 0, none, [], 0⟩]
def r117_4 : List TOper := [⟨(some 13), .indexAddr 44 (.tmp 9) (.tmp 11), 0, none, [], 0⟩,
  ⟨(some 14), .load 48 (.tmp 13), 48, none, [], 1⟩,
  ⟨(some 7), .alloc 48, 0, none, [], 2⟩,
  ⟨none, .store 48 (.tmp 7) (.tmp 14), 0, none, [], 3⟩]
def r117_5 : List TOper := [⟨(some 15), .fieldAddr 48 (.tmp 7) 0, 0, none, [], 0⟩,
  ⟨(some 16), .load 3 (.tmp 15), 3, none, [], 1⟩,
  ⟨(some 17), .binOp .lss 3 (.tmp 16) (.const (.int .i64 0)) 3, 4, none, [], 2⟩,
  ⟨(some 18), .move (.tmp 17), 4, none, [], 3⟩,
  ⟨(some 19), .fieldAddr 48 (.tmp 7) 0, 0, (some (18, false)), [], 4⟩,
  ⟨(some 20), .load 3 (.tmp 19), 3, (some (18, false)), [], 5⟩,
  ⟨(some 21), .fieldAddr 48 (.tmp 7) 1, 0, (some (18, false)), [], 6⟩,
  ⟨(some 22), .load 3 (.tmp 21), 3, (some (18, false)), [], 7⟩,
  ⟨(some 23), .binOp .geq 3 (.tmp 20) (.tmp 22) 3, 4, (some (18, false)), [], 8⟩,
  ⟨(some 24), .pick (.tmp 18) (.const (.bool true)) (.tmp 23), 4, none, [], 9⟩,
  ⟨(some 25), .move (.tmp 24), 4, none, [], 10⟩,
  ⟨(some 26), .fieldAddr 48 (.tmp 7) 1, 0, (some (25, false)), [], 11⟩,
  ⟨(some 27), .load 3 (.tmp 26), 3, (some (25, false)), [], 12⟩,
  ⟨(some 28), .move (.tmp 1), 3, (some (25, false)), [], 13⟩,
  ⟨(some 29), .binOp .gtr 3 (.tmp 27) (.tmp 28) 3, 4, (some (25, false)), [], 14⟩,
  ⟨(some 30), .pick (.tmp 25) (.const (.bool true)) (.tmp 29), 4, none, [], 15⟩,
  ⟨(some 32), .fieldAddr 48 (.tmp 7) 0, 0, none, [], 17⟩,
  ⟨(some 33), .load 3 (.tmp 32), 3, none, [], 18⟩,
  ⟨(some 34), .move (.tmp 5), 3, none, [], 19⟩,
  ⟨(some 35), .binOp .leq 3 (.tmp 33) (.tmp 34) 3, 4, none, [], 20⟩,
  ⟨(some 31), .call ⟨.value (.func 95), #[(.tmp 30), (.const (.int .i64 14))], #[4, 30]⟩, 30, none, [(.tmp 32)], 16⟩,
  ⟨(some 36), .call ⟨.value (.func 95), #[(.tmp 35), (.const (.int .i64 11))], #[4, 30]⟩, 30, none, [], 21⟩,
  ⟨(some 37), .buildSlice 195 2 #[(0, (.tmp 31)), (1, (.tmp 36))], 195, none, [], 22⟩,
  ⟨(some 38), .call ⟨.value (.func 89), #[(.tmp 37)], #[195]⟩, 30, none, [], 23⟩,
  ⟨(some 8), .assign (.tmp 38), 30, none, [], 24⟩]
def r117_6 : List TOper := [⟨(some 39), .move (.tmp 8), 30, none, [], 0⟩,
  ⟨(some 40), .binOp .neq 30 (.tmp 39) (.const (.int .i64 0)) 30, 4, none, [], 1⟩]
def r117_7 : List TOper := [⟨(some 41), .move (.tmp 8), 30, none, [], 0⟩,
  ⟨(some 4), .assign (.tmp 41), 30, none, [], 1⟩]
def r117_8 : List TOper := [⟨(some 42), .fieldAddr 48 (.tmp 7) 1, 0, none, [], 0⟩,
  ⟨(some 43), .load 3 (.tmp 42), 3, none, [], 1⟩,
  ⟨(some 5), .assign (.tmp 43), 3, none, [], 2⟩]
def r117_9 : List TOper := [⟨(some 44), .binOp .add 3 (.tmp 11) (.const (.int .i64 1)) 3, 3, none, [], 0⟩,
  ⟨(some 11), .move (.tmp 44), 3, none, [], 1⟩]
def r117_10 : List TOper := [⟨(some 4), .assign (.const (.int .i64 0)), 30, none, [], 0⟩]
def c117 : TCode := (.seq (.reg r117_0) (.seq (.reg r117_1) (.seq (.seq (.reg r117_2) (.block 0 (.loop (.seq (.reg r117_3) (.seq (.cond (.tmp 12) .skip (.exit 0)) (.seq (.block 1 (.seq (.reg r117_4) (.seq (.reg r117_5) (.seq (.seq (.reg r117_6) (.cond (.tmp 40) (.seq (.reg r117_7) .ret) .skip)) (.reg r117_8))))) (.reg r117_9))))))) (.seq (.reg r117_10) .ret))))
def f117 : TFun := ⟨c117, 45, [.tmp 4]⟩
def r118_0 : List TOper := [⟨(some 1), .box 52 (.tmp 0), 0, none, [], 0⟩,
  ⟨(some 2), .assign (.const (.int .i64 0)), 30, none, [], 1⟩]
def r118_1 : List TOper := [⟨(some 7), .fieldAddr 52 (.tmp 1) 3, 0, none, [], 0⟩,
  ⟨(some 8), .load 44 (.tmp 7), 44, none, [], 1⟩,
  ⟨(some 9), .call ⟨.builtin .len, #[(.tmp 8)], #[44]⟩, 3, none, [], 2⟩,
  ⟨(some 10), .move (.const (.int .i64 0)), 3, none, [], 3⟩]
def r118_2 : List TOper := [⟨(some 11), .binOp .lss 3 (.tmp 10) (.tmp 9) 3, 0, none, [], 0⟩]
def r118_3 : List TOper := [⟨(some 12), .indexAddr 44 (.tmp 8) (.tmp 10), 0, none, [], 0⟩,
  ⟨(some 13), .load 48 (.tmp 12), 48, none, [], 1⟩,
  ⟨(some 4), .alloc 48, 0, none, [], 2⟩,
  ⟨none, .store 48 (.tmp 4) (.tmp 13), 0, none, [], 3⟩]
def r118_4 : List TOper := [⟨(some 14), .fieldAddr 52 (.tmp 1) 2, 0, none, [], 0⟩,
  ⟨(some 15), .load 43 (.tmp 14), 43, none, [], 1⟩,
  ⟨(some 16), .fieldAddr 48 (.tmp 4) 0, 0, none, [], 2⟩,
  ⟨(some 17), .load 3 (.tmp 16), 3, none, [], 3⟩,
  ⟨(some 18), .fieldAddr 48 (.tmp 4) 1, 0, none, [], 4⟩,
  ⟨(some 19), .load 3 (.tmp 18), 3, none, [], 5⟩,
  ⟨(some 20), .slice 43 (.tmp 15) (some (.tmp 17)) (some (.tmp 19)) none, 43, none, [], 6⟩,
  ⟨(some 21), .call ⟨.builtin .len, #[(.tmp 20)], #[43]⟩, 3, none, [], 7⟩,
  ⟨(some 22), .move (.const (.int .i64 0)), 3, none, [], 8⟩]
def r118_5 : List TOper := [⟨(some 23), .binOp .lss 3 (.tmp 22) (.tmp 21) 3, 0, none, [], 0⟩]
def r118_6 : List TOper := [⟨(some 24), .indexAddr 43 (.tmp 20) (.tmp 22), 0, none, [], 0⟩,
  ⟨(some 25), .load 25 (.tmp 24), 25, none, [], 1⟩,
  ⟨(some 6), .assign (.tmp 25), 25, none, [], 2⟩]
def r118_7 : List TOper := [⟨(some 26), .move (.tmp 6), 25, none, [], 0⟩,
  ⟨(some 27), .binOp .neq 25 (.tmp 26) (.const (.float .f32 0)) 25, 4, none, [], 1⟩]
def r118_8 : List TOper := [⟨(some 2), .assign (.const (.int .i64 1)), 30, none, [], 0⟩]
def r118_9 : List TOper := [⟨(some 28), .binOp .add 3 (.tmp 22) (.const (.int .i64 1)) 3, 3, none, [], 0⟩,
  ⟨(some 22), .move (.tmp 28), 3, none, [], 1⟩]
def r118_10 : List TOper := [⟨(some 29), .binOp .add 3 (.tmp 10) (.const (.int .i64 1)) 3, 3, none, [], 0⟩,
  ⟨(some 10), .move (.tmp 29), 3, none, [], 1⟩]
def r118_11 : List TOper := [⟨(some 2), .assign (.const (.int .i64 0)), 30, none, [], 0⟩]
def c118 : TCode := (.seq (.reg r118_0) (.seq (.seq (.reg r118_1) (.block 0 (.loop (.seq (.reg r118_2) (.seq (.cond (.tmp 11) .skip (.exit 0)) (.seq (.block 1 (.seq (.reg r118_3) (.seq (.reg r118_4) (.block 2 (.loop (.seq (.reg r118_5) (.seq (.cond (.tmp 23) .skip (.exit 2)) (.seq (.block 3 (.seq (.reg r118_6) (.seq (.reg r118_7) (.cond (.tmp 27) (.seq (.reg r118_8) .ret) .skip)))) (.reg r118_9))))))))) (.reg r118_10))))))) (.seq (.reg r118_11) .ret)))
def f118 : TFun := ⟨c118, 30, [.tmp 2]⟩
def r119_0 : List TOper := [⟨(some 4), .assign (.const (.slice none 0 0)), 164, none, [], 0⟩]
def r119_1 : List TOper := [⟨(some 8), .move (.tmp 0), 164, none, [], 0⟩,
  ⟨(some 9), .call ⟨.builtin .len, #[(.tmp 8)], #[164]⟩, 3, none, [], 1⟩,
  ⟨(some 10), .makeSlice 164 (.tmp 9) (.tmp 9), 164, none, [], 2⟩,
  ⟨(some 5), .assign (.tmp 10), 164, none, [], 3⟩]
def r119_2 : List TOper := [⟨(some 11), .move (.tmp 0), 164, none, [], 0⟩,
  ⟨(some 12), .call ⟨.builtin .len, #[(.tmp 11)], #[164]⟩, 3, none, [], 1⟩,
  ⟨(some 13), .move (.const (.int .i64 0)), 3, none, [], 2⟩]
def r119_3 : List TOper := [⟨(some 14), .binOp .lss 3 (.tmp 13) (.tmp 12) 3, 0, none, [], 0⟩]
def r119_4 : List TOper := [⟨(some 15), .move (.tmp 13), 3, none, [], 0⟩,
  ⟨(some 16), .indexAddr 164 (.tmp 11) (.tmp 13), 0, none, [], 1⟩,
  ⟨(some 17), .load 163 (.tmp 16), 163, none, [], 2⟩,
  ⟨(some 7), .alloc 163, 0, none, [], 3⟩,
  ⟨(some 6), .assign (.tmp 15), 3, none, [], 4⟩,
  ⟨none, .store 163 (.tmp 7) (.tmp 17), 0, none, [], 5⟩]
def r119_5 : List TOper := [⟨(some 18), .move (.tmp 5), 164, none, [], 0⟩,
  ⟨(some 19), .move (.tmp 6), 3, none, [], 1⟩,
  ⟨(some 20), .move (.tmp 1), 181, none, [], 2⟩,
  ⟨(some 21), .load 163 (.tmp 7), 163, none, [], 3⟩,
  ⟨(some 22), .call ⟨.value (.tmp 20), #[(.tmp 21)], #[163]⟩, 163, none, [], 4⟩,
  ⟨(some 23), .indexAddr 164 (.tmp 18) (.tmp 19), 0, none, [], 5⟩,
  ⟨none, .store 163 (.tmp 23) (.tmp 22), 0, none, [], 6⟩]
def r119_6 : List TOper := [⟨(some 24), .binOp .add 3 (.tmp 13) (.const (.int .i64 1)) 3, 3, none, [], 0⟩,
  ⟨(some 13), .move (.tmp 24), 3, none, [], 1⟩]
def r119_7 : List TOper := [⟨(some 25), .move (.tmp 5), 164, none, [], 0⟩,
  ⟨(some 4), .assign (.tmp 25), 164, none, [], 1⟩]
def c119 : TCode := (.seq (.reg r119_0) (.seq (.reg r119_1) (.seq (.seq (.reg r119_2) (.block 0 (.loop (.seq (.reg r119_3) (.seq (.cond (.tmp 14) .skip (.exit 0)) (.seq (.block 1 (.seq (.reg r119_4) (.reg r119_5))) (.reg r119_6))))))) (.seq (.reg r119_7) .ret))))
def f119 : TFun := ⟨c119, 26, [.tmp 4]⟩
def r120_0 : List TOper := [⟨(some 3), .box 163 (.tmp 0), 0, none, [], 0⟩,
  ⟨(some 4), .alloc 163, 0, none, [], 1⟩]
def r120_1 : List TOper := [⟨(some 5), .fieldAddr 163 (.tmp 3) 0, 0, none, [], 0⟩,
  ⟨(some 6), .load 3 (.tmp 5), 3, none, [], 1⟩,
  ⟨(some 7), .load 3 (.tmp 1), 3, none, [], 2⟩,
  ⟨(some 8), .binOp .mul 3 (.tmp 6) (.tmp 7) 3, 3, none, [], 3⟩,
  ⟨(some 9), .load 3 (.tmp 2), 3, none, [], 4⟩,
  ⟨(some 11), .fieldAddr 163 (.tmp 3) 1, 0, none, [], 6⟩,
  ⟨(some 12), .load 4 (.tmp 11), 4, none, [], 7⟩,
  ⟨(some 10), .call ⟨.value (.func 121), #[(.tmp 8), (.tmp 9)], #[3, 3]⟩, 3, none, [(.tmp 11)], 5⟩,
  ⟨(some 13), .build 163 #[(0, (.tmp 10)), (1, (.tmp 12))], 163, none, [], 8⟩,
  ⟨none, .store 163 (.tmp 4) (.tmp 13), 0, none, [], 9⟩]
def c120 : TCode := (.seq (.reg r120_0) (.seq (.reg r120_1) .ret))
def f120 : TFun := ⟨c120, 14, [.cell 4 163]⟩
def r121_0 : List TOper := [⟨(some 4), .assign (.const (.int .i64 0)), 3, none, [], 0⟩]
def r121_1 : List TOper := [⟨(some 5), .move (.tmp 0), 3, none, [], 0⟩,
  ⟨(some 6), .binOp .mul 3 (.const (.int .i64 2)) (.tmp 5) 3, 3, none, [], 1⟩,
  ⟨(some 7), .move (.tmp 1), 3, none, [], 2⟩,
  ⟨(some 8), .binOp .add 3 (.tmp 6) (.tmp 7) 3, 3, none, [], 3⟩,
  ⟨(some 9), .move (.tmp 1), 3, none, [], 4⟩,
  ⟨(some 10), .binOp .mul 3 (.const (.int .i64 2)) (.tmp 9) 3, 3, none, [], 5⟩,
  ⟨(some 0), .assign (.tmp 8), 3, none, [], 6⟩,
  ⟨(some 1), .assign (.tmp 10), 3, none, [], 7⟩]
def r121_2 : List TOper := [⟨(some 11), .move (.tmp 0), 3, none, [], 0⟩,
  ⟨(some 12), .binOp .lss 3 (.tmp 11) (.const (.int .i64 0)) 3, 4, none, [], 1⟩]
def r121_3 : List TOper := [⟨(some 13), .move (.tmp 1), 3, none, [], 0⟩,
  ⟨(some 14), .binOp .sub 3 (.tmp 13) (.const (.int .i64 1)) 3, 3, none, [], 1⟩,
  ⟨(some 15), .move (.tmp 0), 3, none, [], 2⟩,
  ⟨(some 16), .binOp .sub 3 (.tmp 14) (.tmp 15) 3, 3, none, [], 3⟩,
  ⟨(some 17), .move (.tmp 1), 3, none, [], 4⟩,
  ⟨(some 18), .binOp .quo 3 (.tmp 16) (.tmp 17) 3, 3, none, [], 5⟩,
  ⟨(some 19), .unOp .neg 3 (.tmp 18), 3, none, [], 6⟩,
  ⟨(some 4), .assign (.tmp 19), 3, none, [], 7⟩]
def r121_4 : List TOper := [⟨(some 20), .move (.tmp 0), 3, none, [], 0⟩,
  ⟨(some 21), .move (.tmp 1), 3, none, [], 1⟩,
  ⟨(some 22), .binOp .quo 3 (.tmp 20) (.tmp 21) 3, 3, none, [], 2⟩,
  ⟨(some 4), .assign (.tmp 22), 3, none, [], 3⟩]
def c121 : TCode := (.seq (.reg r121_0) (.seq (.reg r121_1) (.seq (.seq (.reg r121_2) (.cond (.tmp 12) (.seq (.reg r121_3) .ret) .skip)) (.seq (.reg r121_4) .ret))))
def f121 : TFun := ⟨c121, 23, [.tmp 4]⟩
def r122_0 : List TOper := [⟨(some 2), .assign (.const (.bool false)), 4, none, [], 0⟩]
def r122_1 : List TOper := [⟨(some 3), .move (.tmp 0), 164, none, [], 0⟩,
  ⟨(some 4), .call ⟨.value (.func 181), #[(.tmp 3), (.func 182)], #[164, 252]⟩, 4, none, [], 1⟩,
  ⟨(some 5), .unOp .not 4 (.tmp 4), 4, none, [], 2⟩,
  ⟨(some 2), .assign (.tmp 5), 4, none, [], 3⟩]
def c122 : TCode := (.seq (.reg r122_0) (.seq (.reg r122_1) .ret))
def f122 : TFun := ⟨c122, 6, [.tmp 2]⟩
def r123_0 : List TOper := [⟨(some 8), .move (.tmp 0), 164, none, [], 0⟩,
  ⟨(some 9), .call ⟨.builtin .len, #[(.tmp 8)], #[164]⟩, 3, none, [], 1⟩,
  ⟨(some 10), .binOp .add 3 (.tmp 9) (.const (.int .i64 1)) 3, 3, none, [], 2⟩,
  ⟨(some 6), .assign (.tmp 10), 3, none, [], 3⟩]
def r123_1 : List TOper := [⟨(some 11), .move (.tmp 0), 164, none, [], 0⟩,
  ⟨(some 12), .call ⟨.builtin .len, #[(.tmp 11)], #[164]⟩, 3, none, [], 1⟩,
  ⟨(some 13), .move (.const (.int .i64 0)), 3, none, [], 2⟩]
def r123_2 : List TOper := [⟨(some 14), .binOp .lss 3 (.tmp 13) (.tmp 12) 3, 0, none, [], 0⟩]
def r123_3 : List TOper := [⟨(some 15), .move (.tmp 13), 3, none, [], 0⟩,
  ⟨(some 7), .assign (.tmp 15), 3, none, [], 1⟩]
def r123_4 : List TOper := [⟨(some 16), .move (.tmp 0), 164, none, [], 0⟩,
  ⟨(some 17), .move (.tmp 7), 3, none, [], 1⟩,
  ⟨(some 18), .move (.tmp 1), 3, none, [], 2⟩,
  ⟨(some 19), .move (.tmp 6), 3, none, [], 3⟩,
  ⟨(some 20), .binOp .mul 3 (.tmp 18) (.tmp 19) 3, 3, none, [], 4⟩,
  ⟨(some 21), .move (.tmp 2), 3, none, [], 5⟩,
  ⟨(some 22), .move (.tmp 1), 3, none, [], 6⟩,
  ⟨(some 23), .binOp .sub 3 (.tmp 21) (.tmp 22) 3, 3, none, [], 7⟩,
  ⟨(some 24), .move (.tmp 7), 3, none, [], 8⟩,
  ⟨(some 25), .binOp .add 3 (.tmp 24) (.const (.int .i64 1)) 3, 3, none, [], 9⟩,
  ⟨(some 26), .binOp .mul 3 (.tmp 23) (.tmp 25) 3, 3, none, [], 10⟩,
  ⟨(some 27), .binOp .add 3 (.tmp 20) (.tmp 26) 3, 3, none, [], 11⟩,
  ⟨(some 28), .move (.tmp 6), 3, none, [], 12⟩,
  ⟨(some 29), .call ⟨.value (.func 121), #[(.tmp 27), (.tmp 28)], #[3, 3]⟩, 3, none, [], 13⟩,
  ⟨(some 30), .build 163 #[(0, (.tmp 29)), (1, (.const (.bool true)))], 163, none, [], 14⟩,
  ⟨(some 31), .indexAddr 164 (.tmp 16) (.tmp 17), 0, none, [], 15⟩,
  ⟨none, .store 163 (.tmp 31) (.tmp 30), 0, none, [], 16⟩]
def r123_5 : List TOper := [⟨(some 32), .binOp .add 3 (.tmp 13) (.const (.int .i64 1)) 3, 3, none, [], 0⟩,
  ⟨(some 13), .move (.tmp 32), 3, none, [], 1⟩]
def c123 : TCode := (.seq (.reg r123_0) (.seq (.reg r123_1) (.block 0 (.loop (.seq (.reg r123_2) (.seq (.cond (.tmp 14) .skip (.exit 0)) (.seq (.block 1 (.seq (.reg r123_3) (.reg r123_4))) (.reg r123_5))))))))
def f123 : TFun := ⟨c123, 33, []⟩
def r124_0 : List TOper := [⟨(some 4), .assign (.const (.int .i64 0)), 3, none, [], 0⟩]
def r124_1 : List TOper := [⟨(some 5), .move (.tmp 0), 3, none, [], 0⟩,
  ⟨(some 6), .binOp .mul 3 (.const (.int .i64 2)) (.tmp 5) 3, 3, none, [], 1⟩,
  ⟨(some 7), .move (.tmp 1), 3, none, [], 2⟩,
  ⟨(some 8), .binOp .add 3 (.tmp 6) (.tmp 7) 3, 3, none, [], 3⟩,
  ⟨(some 9), .move (.tmp 1), 3, none, [], 4⟩,
  ⟨(some 10), .binOp .mul 3 (.const (.int .i64 2)) (.tmp 9) 3, 3, none, [], 5⟩,
  ⟨(some 11), .call ⟨.value (.func 183), #[(.tmp 8), (.tmp 10)], #[3, 3]⟩, 3, none, [], 6⟩,
  ⟨(some 4), .assign (.tmp 11), 3, none, [], 7⟩]
def c124 : TCode := (.seq (.reg r124_0) (.seq (.reg r124_1) .ret))
def f124 : TFun := ⟨c124, 12, [.tmp 4]⟩
def r125_0 : List TOper := [⟨(some 2), .assign (.const (.bool false)), 4, none, [], 0⟩]
def r125_1 : List TOper := [⟨(some 3), .move (.tmp 0), 3, none, [], 0⟩,
  ⟨(some 4), .binOp .gtr 3 (.tmp 3) (.const (.int .i64 16384)) 3, 4, none, [], 1⟩,
  ⟨(some 5), .move (.tmp 4), 4, none, [], 2⟩,
  ⟨(some 6), .move (.tmp 0), 3, (some (5, false)), [], 3⟩,
  ⟨(some 7), .binOp .lss 3 (.tmp 6) (.const (.int .i64 (-16384))) 3, 4, (some (5, false)), [], 4⟩,
  ⟨(some 8), .pick (.tmp 5) (.const (.bool true)) (.tmp 7), 4, none, [], 5⟩,
  ⟨(some 2), .assign (.tmp 8), 4, none, [], 6⟩]
def c125 : TCode := (.seq (.reg r125_0) (.seq (.reg r125_1) .ret))
def f125 : TFun := ⟨c125, 9, [.tmp 2]⟩
def r126_0 : List TOper := [⟨(some 2), .assign (.const (.slice none 0 0)), 164, none, [], 0⟩]
def r126_1 : List TOper := [⟨(some 3), .assign (.const (.int .i64 0)), 3, none, [], 0⟩]
def r126_2 : List TOper := [⟨(some 9), .move (.tmp 0), 253, none, [], 0⟩,
  ⟨(some 10), .call ⟨.builtin .len, #[(.tmp 9)], #[253]⟩, 3, none, [], 1⟩,
  ⟨(some 11), .move (.const (.int .i64 0)), 3, none, [], 2⟩]
def r126_3 : List TOper := [⟨(some 12), .binOp .lss 3 (.tmp 11) (.tmp 10) 3, 0, none, [], 0⟩]
def r126_4 : List TOper := [⟨(some 13), .indexAddr 253 (.tmp 9) (.tmp 11), 0, none, [], 0⟩,
  ⟨(some 14), .load 164 (.tmp 13), 164, none, [], 1⟩,
  ⟨(some 5), .assign (.tmp 14), 164, none, [], 2⟩]
def r126_5 : List TOper := [⟨(some 15), .move (.tmp 3), 3, none, [], 0⟩,
  ⟨(some 16), .move (.tmp 5), 164, none, [], 1⟩,
  ⟨(some 17), .call ⟨.builtin .len, #[(.tmp 16)], #[164]⟩, 3, none, [], 2⟩,
  ⟨(some 18), .binOp .add 3 (.tmp 15) (.tmp 17) 3, 3, none, [], 3⟩,
  ⟨(some 3), .assign (.tmp 18), 3, none, [], 4⟩]
def r126_6 : List TOper := [⟨(some 19), .move (.tmp 3), 3, none, [], 0⟩,
  ⟨(some 20), .binOp .lss 3 (.tmp 19) (.const (.int .i64 0)) 3, 4, none, [], 1⟩]
def r126_7 : List TOper := [⟨(some 21), .makeInterface 9 (.const (.string ⟨#[108, 101, 110, 32, 111, 117, 116, 32, 111, 102, 32, 114, 97, 110, 103, 101]⟩)), 20, none, [], 0⟩,
  ⟨none, .panic (.tmp 21), 0, none, [], 1⟩]
def r126_8 : List TOper := [⟨(some 22), .binOp .add 3 (.tmp 11) (.const (.int .i64 1)) 3, 3, none, [], 0⟩,
  ⟨(some 11), .move (.tmp 22), 3, none, [], 1⟩]
def r126_9 : List TOper := [⟨(some 23), .move (.tmp 3), 3, none, [], 0⟩,
  ⟨(some 24), .call ⟨.value (.func 184), #[(.const (.slice none 0 0)), (.tmp 23)], #[164, 3]⟩, 164, none, [], 1⟩,
  ⟨(some 6), .assign (.tmp 24), 164, none, [], 2⟩]
def r126_10 : List TOper := [⟨(some 25), .move (.tmp 0), 253, none, [], 0⟩,
  ⟨(some 26), .call ⟨.builtin .len, #[(.tmp 25)], #[253]⟩, 3, none, [], 1⟩,
  ⟨(some 27), .move (.const (.int .i64 0)), 3, none, [], 2⟩]
def r126_11 : List TOper := [⟨(some 28), .binOp .lss 3 (.tmp 27) (.tmp 26) 3, 0, none, [], 0⟩]
def r126_12 : List TOper := [⟨(some 29), .indexAddr 253 (.tmp 25) (.tmp 27), 0, none, [], 0⟩,
  ⟨(some 30), .load 164 (.tmp 29), 164, none, [], 1⟩,
  ⟨(some 8), .assign (.tmp 30), 164, none, [], 2⟩]
def r126_13 : List TOper := [⟨(some 31), .move (.tmp 6), 164, none, [], 0⟩,
  ⟨(some 32), .move (.tmp 8), 164, none, [], 1⟩,
  ⟨(some 33), .call ⟨.builtin .append, #[(.tmp 31), (.tmp 32)], #[164, 164]⟩, 164, none, [], 2⟩,
  ⟨(some 6), .assign (.tmp 33), 164, none, [], 3⟩]
def r126_14 : List TOper := [⟨(some 34), .binOp .add 3 (.tmp 27) (.const (.int .i64 1)) 3, 3, none, [], 0⟩,
  ⟨(some 27), .move (.tmp 34), 3, none, [], 1⟩]
def r126_15 : List TOper := [⟨(some 35), .move (.tmp 6), 164, none, [], 0⟩,
  ⟨(some 2), .assign (.tmp 35), 164, none, [], 1⟩]
def c126 : TCode := (.seq (.reg r126_0) (.seq (.reg r126_1) (.seq (.seq (.reg r126_2) (.block 0 (.loop (.seq (.reg r126_3) (.seq (.cond (.tmp 12) .skip (.exit 0)) (.seq (.block 1 (.seq (.reg r126_4) (.seq (.reg r126_5) (.seq (.reg r126_6) (.cond (.tmp 20) (.reg r126_7) .skip))))) (.reg r126_8))))))) (.seq (.reg r126_9) (.seq (.seq (.reg r126_10) (.block 2 (.loop (.seq (.reg r126_11) (.seq (.cond (.tmp 28) .skip (.exit 2)) (.seq (.block 3 (.seq (.reg r126_12) (.reg r126_13))) (.reg r126_14))))))) (.seq (.reg r126_15) .ret))))))
def f126 : TFun := ⟨c126, 36, [.tmp 2]⟩
def r127_0 : List TOper := [⟨(some 2), .box 52 (.tmp 0), 0, none, [], 0⟩,
  ⟨(some 3), .box 52 (.tmp 1), 0, none, [], 1⟩,
  ⟨(some 4), .assign (.const (.bool false)), 4, none, [], 2⟩]
def r127_1 : List TOper := [⟨(some 5), .fieldAddr 52 (.tmp 2) 1, 0, none, [], 0⟩,
  ⟨(some 6), .load 3 (.tmp 5), 3, none, [], 1⟩,
  ⟨(some 7), .fieldAddr 52 (.tmp 3) 1, 0, none, [], 2⟩,
  ⟨(some 8), .load 3 (.tmp 7), 3, none, [], 3⟩,
  ⟨(some 9), .binOp .eql 3 (.tmp 6) (.tmp 8) 3, 4, none, [], 4⟩,
  ⟨(some 10), .move (.tmp 9), 4, none, [], 5⟩,
  ⟨(some 11), .fieldAddr 52 (.tmp 2) 2, 0, (some (10, true)), [], 6⟩,
  ⟨(some 12), .load 43 (.tmp 11), 43, (some (10, true)), [], 7⟩,
  ⟨(some 13), .call ⟨.builtin .len, #[(.tmp 12)], #[43]⟩, 3, (some (10, true)), [], 8⟩,
  ⟨(some 14), .fieldAddr 52 (.tmp 3) 2, 0, (some (10, true)), [], 9⟩,
  ⟨(some 15), .load 43 (.tmp 14), 43, (some (10, true)), [], 10⟩,
  ⟨(some 16), .call ⟨.builtin .len, #[(.tmp 15)], #[43]⟩, 3, (some (10, true)), [], 11⟩,
  ⟨(some 17), .binOp .eql 3 (.tmp 13) (.tmp 16) 3, 4, (some (10, true)), [], 12⟩,
  ⟨(some 18), .pick (.tmp 10) (.tmp 17) (.const (.bool false)), 4, none, [], 13⟩,
  ⟨(some 4), .assign (.tmp 18), 4, none, [], 14⟩]
def c127 : TCode := (.seq (.reg r127_0) (.seq (.reg r127_1) .ret))
def f127 : TFun := ⟨c127, 19, [.tmp 4]⟩
def r129_0 : List TOper := [⟨(some 2), .assign (.const (.int .i64 0)), 3, none, [], 0⟩]
def r129_1 : List TOper := [⟨(some 3), .move (.tmp 0), 25, none, [], 0⟩,
  ⟨(some 4), .binOp .mul 25 (.const (.float .f32 1098907648)) (.tmp 3) 25, 25, none, [], 1⟩,
  ⟨(some 5), .convert 25 3 (.tmp 4), 3, none, [], 2⟩,
  ⟨(some 2), .assign (.tmp 5), 3, none, [], 3⟩]
def c129 : TCode := (.seq (.reg r129_0) (.seq (.reg r129_1) .ret))
def f129 : TFun := ⟨c129, 6, [.tmp 2]⟩
def r130_0 : List TOper := [⟨(some 4), .alloc 163, 0, none, [], 0⟩]
def r130_1 : List TOper := [⟨(some 6), .move (.tmp 1), 164, none, [], 0⟩,
  ⟨(some 7), .call ⟨.value (.func 106), #[(.tmp 6)], #[164]⟩, 29, none, [], 1⟩,
  ⟨(some 5), .assign (.tmp 7), 29, none, [], 2⟩]
def r130_2 : List TOper := [⟨(some 8), .move (.tmp 5), 29, none, [], 0⟩,
  ⟨(some 9), .call ⟨.value (.func 185), #[(.tmp 8)], #[29]⟩, 0, none, [], 1⟩]
def r130_3 : List TOper := [⟨(some 11), .move (.tmp 5), 29, none, [], 0⟩,
  ⟨(some 12), .call ⟨.builtin .len, #[(.tmp 11)], #[29]⟩, 3, none, [], 1⟩,
  ⟨(some 13), .binOp .eql 3 (.tmp 12) (.const (.int .i64 3)) 3, 4, none, [], 2⟩,
  ⟨(some 14), .move (.tmp 13), 4, none, [], 3⟩,
  ⟨(some 15), .move (.tmp 5), 29, (some (14, true)), [], 4⟩,
  ⟨(some 16), .indexAddr 29 (.tmp 15) (.const (.int .i64 1)), 0, (some (14, true)), [], 5⟩,
  ⟨(some 17), .load 3 (.tmp 16), 3, (some (14, true)), [], 6⟩,
  ⟨(some 18), .move (.tmp 5), 29, (some (14, true)), [], 7⟩,
  ⟨(some 19), .indexAddr 29 (.tmp 18) (.const (.int .i64 0)), 0, (some (14, true)), [], 8⟩,
  ⟨(some 20), .load 3 (.tmp 19), 3, (some (14, true)), [], 9⟩,
  ⟨(some 21), .binOp .sub 3 (.tmp 17) (.tmp 20) 3, 3, (some (14, true)), [], 10⟩,
  ⟨(some 22), .move (.tmp 5), 29, (some (14, true)), [], 11⟩,
  ⟨(some 23), .indexAddr 29 (.tmp 22) (.const (.int .i64 2)), 0, (some (14, true)), [], 12⟩,
  ⟨(some 24), .load 3 (.tmp 23), 3, (some (14, true)), [], 13⟩,
  ⟨(some 25), .move (.tmp 5), 29, (some (14, true)), [], 14⟩,
  ⟨(some 26), .indexAddr 29 (.tmp 25) (.const (.int .i64 1)), 0, (some (14, true)), [], 15⟩,
  ⟨(some 27), .load 3 (.tmp 26), 3, (some (14, true)), [], 16⟩,
  ⟨(some 28), .binOp .sub 3 (.tmp 24) (.tmp 27) 3, 3, (some (14, true)), [], 17⟩,
  ⟨(some 29), .call ⟨.builtin .min, #[(.tmp 21), (.tmp 28)], #[3, 3]⟩, 3, (some (14, true)), [], 18⟩,
  ⟨(some 30), .move (.tmp 0), 3, (some (14, true)), [], 19⟩,
  ⟨(some 31), .binOp .leq 3 (.tmp 29) (.tmp 30) 3, 4, (some (14, true)), [], 20⟩,
  ⟨(some 32), .pick (.tmp 14) (.tmp 31) (.const (.bool false)), 4, none, [], 21⟩,
  ⟨(some 10), .assign (.tmp 32), 4, none, [], 22⟩]
def r130_4 : List TOper := [⟨(some 33), .move (.tmp 5), 29, none, [], 0⟩,
  ⟨(some 34), .indexAddr 29 (.tmp 33) (.const (.int .i64 1)), 0, none, [], 1⟩,
  ⟨(some 35), .load 3 (.tmp 34), 3, none, [], 2⟩,
  ⟨(some 36), .build 163 #[(0, (.tmp 35)), (1, (.const (.bool true)))], 163, none, [], 3⟩,
  ⟨none, .store 163 (.tmp 4) (.tmp 36), 0, none, [], 4⟩]
def r130_5 : List TOper := [⟨(some 38), .move (.tmp 5), 29, none, [], 0⟩,
  ⟨(some 39), .call ⟨.builtin .len, #[(.tmp 38)], #[29]⟩, 3, none, [], 1⟩,
  ⟨(some 40), .binOp .eql 3 (.tmp 39) (.const (.int .i64 2)) 3, 4, none, [], 2⟩,
  ⟨(some 41), .move (.tmp 40), 4, none, [], 3⟩,
  ⟨(some 42), .move (.tmp 5), 29, (some (41, true)), [], 4⟩,
  ⟨(some 43), .indexAddr 29 (.tmp 42) (.const (.int .i64 1)), 0, (some (41, true)), [], 5⟩,
  ⟨(some 44), .load 3 (.tmp 43), 3, (some (41, true)), [], 6⟩,
  ⟨(some 45), .move (.tmp 5), 29, (some (41, true)), [], 7⟩,
  ⟨(some 46), .indexAddr 29 (.tmp 45) (.const (.int .i64 0)), 0, (some (41, true)), [], 8⟩,
  ⟨(some 47), .load 3 (.tmp 46), 3, (some (41, true)), [], 9⟩,
  ⟨(some 48), .binOp .sub 3 (.tmp 44) (.tmp 47) 3, 3, (some (41, true)), [], 10⟩,
  ⟨(some 49), .move (.tmp 0), 3, (some (41, true)), [], 11⟩,
  ⟨(some 50), .binOp .leq 3 (.tmp 48) (.tmp 49) 3, 4, (some (41, true)), [], 12⟩,
  ⟨(some 51), .pick (.tmp 41) (.tmp 50) (.const (.bool false)), 4, none, [], 13⟩,
  ⟨(some 37), .assign (.tmp 51), 4, none, [], 14⟩]
def r130_6 : List TOper := [⟨(some 52), .move (.tmp 5), 29, none, [], 0⟩,
  ⟨(some 53), .indexAddr 29 (.tmp 52) (.const (.int .i64 0)), 0, none, [], 1⟩,
  ⟨(some 54), .load 3 (.tmp 53), 3, none, [], 2⟩,
  ⟨(some 55), .move (.tmp 5), 29, none, [], 3⟩,
  ⟨(some 56), .indexAddr 29 (.tmp 55) (.const (.int .i64 1)), 0, none, [], 4⟩,
  ⟨(some 57), .load 3 (.tmp 56), 3, none, [], 5⟩,
  ⟨(some 58), .binOp .add 3 (.tmp 54) (.tmp 57) 3, 3, none, [], 6⟩,
  ⟨(some 59), .call ⟨.value (.func 121), #[(.tmp 58), (.const (.int .i64 2))], #[3, 3]⟩, 3, none, [], 7⟩,
  ⟨(some 60), .build 163 #[(0, (.tmp 59)), (1, (.const (.bool true)))], 163, none, [], 8⟩,
  ⟨none, .store 163 (.tmp 4) (.tmp 60), 0, none, [], 9⟩]
def r130_7 : List TOper := [⟨(some 61), .build 163 #[], 163, none, [], 0⟩,
  ⟨none, .store 163 (.tmp 4) (.tmp 61), 0, none, [], 1⟩]
def c130 : TCode := (.seq (.reg r130_0) (.seq (.reg r130_1) (.seq (.reg r130_2) (.seq (.block 0 (.seq (.reg r130_3) (.cond (.tmp 10) (.seq (.reg r130_4) .ret) (.seq (.reg r130_5) (.cond (.tmp 37) (.seq (.reg r130_6) .ret) .skip))))) (.seq (.reg r130_7) .ret)))))
def f130 : TFun := ⟨c130, 62, [.cell 4 163]⟩
def r131_0 : List TOper := [⟨(some 3), .box 163 (.tmp 0), 0, none, [], 0⟩,
  ⟨(some 4), .box 163 (.tmp 1), 0, none, [], 1⟩,
  ⟨(some 6), .assign (.const (.bool false)), 4, none, [], 2⟩]
def r131_1 : List TOper := [⟨(some 7), .fieldAddr 163 (.tmp 3) 1, 0, none, [], 0⟩,
  ⟨(some 8), .load 4 (.tmp 7), 4, none, [], 1⟩,
  ⟨(some 9), .move (.tmp 8), 4, none, [], 2⟩,
  ⟨(some 10), .fieldAddr 163 (.tmp 4) 1, 0, (some (9, true)), [], 3⟩,
  ⟨(some 11), .load 4 (.tmp 10), 4, (some (9, true)), [], 4⟩,
  ⟨(some 12), .pick (.tmp 9) (.tmp 11) (.const (.bool false)), 4, none, [], 5⟩,
  ⟨(some 13), .move (.tmp 12), 4, none, [], 6⟩,
  ⟨(some 14), .fieldAddr 163 (.tmp 3) 0, 0, (some (13, true)), [], 7⟩,
  ⟨(some 15), .load 3 (.tmp 14), 3, (some (13, true)), [], 8⟩,
  ⟨(some 16), .fieldAddr 163 (.tmp 4) 0, 0, (some (13, true)), [], 9⟩,
  ⟨(some 17), .load 3 (.tmp 16), 3, (some (13, true)), [], 10⟩,
  ⟨(some 18), .binOp .sub 3 (.tmp 15) (.tmp 17) 3, 3, (some (13, true)), [], 11⟩,
  ⟨(some 19), .fieldAddr 163 (.tmp 4) 0, 0, (some (13, true)), [], 12⟩,
  ⟨(some 20), .load 3 (.tmp 19), 3, (some (13, true)), [], 13⟩,
  ⟨(some 21), .fieldAddr 163 (.tmp 3) 0, 0, (some (13, true)), [], 14⟩,
  ⟨(some 22), .load 3 (.tmp 21), 3, (some (13, true)), [], 15⟩,
  ⟨(some 23), .binOp .sub 3 (.tmp 20) (.tmp 22) 3, 3, (some (13, true)), [], 16⟩,
  ⟨(some 24), .call ⟨.builtin .max, #[(.tmp 18), (.tmp 23)], #[3, 3]⟩, 3, (some (13, true)), [], 17⟩,
  ⟨(some 25), .move (.tmp 2), 3, (some (13, true)), [], 18⟩,
  ⟨(some 26), .binOp .gtr 3 (.tmp 24) (.tmp 25) 3, 4, (some (13, true)), [], 19⟩,
  ⟨(some 27), .pick (.tmp 13) (.tmp 26) (.const (.bool false)), 4, none, [], 20⟩,
  ⟨(some 6), .assign (.tmp 27), 4, none, [], 21⟩]
def c131 : TCode := (.seq (.reg r131_0) (.seq (.reg r131_1) .ret))
def f131 : TFun := ⟨c131, 28, [.tmp 6]⟩
def r133_0 : List TOper := [⟨(some 1), .box 101 (.tmp 0), 0, none, [], 0⟩,
  ⟨(some 2), .assign (.const (.int .i64 0)), 30, none, [], 1⟩]
def r133_1 : List TOper := [⟨(some 3), .fieldAddr 101 (.tmp 1) 0, 0, none, [], 0⟩,
  ⟨(some 4), .load 3 (.tmp 3), 3, none, [], 1⟩,
  ⟨(some 6), .fieldAddr 101 (.tmp 1) 1, 0, none, [], 3⟩,
  ⟨(some 7), .load 3 (.tmp 6), 3, none, [], 4⟩,
  ⟨(some 9), .fieldAddr 101 (.tmp 1) 2, 0, none, [], 6⟩,
  ⟨(some 10), .slice 91 (.tmp 9) none none none, 43, none, [], 7⟩,
  ⟨(some 5), .call ⟨.value (.func 90), #[(.tmp 4), (.const (.int .i64 0)), (.const (.int .i64 255))], #[3, 3, 3]⟩, 30, none, [(.tmp 9), (.tmp 6)], 2⟩,
  ⟨(some 8), .call ⟨.value (.func 90), #[(.tmp 7), (.const (.int .i64 0)), (.const (.int .i64 65535))], #[3, 3, 3]⟩, 30, none, [(.tmp 9)], 5⟩,
  ⟨(some 11), .call ⟨.value (.func 116), #[(.tmp 10)], #[43]⟩, 30, none, [], 8⟩,
  ⟨(some 12), .buildSlice 195 3 #[(0, (.tmp 5)), (1, (.tmp 8)), (2, (.tmp 11))], 195, none, [], 9⟩,
  ⟨(some 13), .call ⟨.value (.func 89), #[(.tmp 12)], #[195]⟩, 30, none, [], 10⟩,
  ⟨(some 2), .assign (.tmp 13), 30, none, [], 11⟩]
def c133 : TCode := (.seq (.reg r133_0) (.seq (.reg r133_1) .ret))
def f133 : TFun := ⟨c133, 14, [.tmp 2]⟩
def r134_0 : List TOper := [⟨(some 1), .box 101 (.tmp 0), 0, none, [], 0⟩,
  ⟨(some 2), .alloc 94, 0, none, [], 1⟩]
def r134_1 : List TOper := [⟨(some 6), .fieldAddr 101 (.tmp 1) 0, 0, none, [], 0⟩,
  ⟨(some 7), .load 3 (.tmp 6), 3, none, [], 1⟩,
  ⟨(some 8), .convert 3 5 (.tmp 7), 5, none, [], 2⟩,
  ⟨(some 9), .buildSlice 115 2 #[(0, (.const (.int .u8 90))), (1, (.tmp 8))], 115, none, [], 3⟩,
  ⟨(some 10), .fieldAddr 101 (.tmp 1) 1, 0, none, [], 4⟩,
  ⟨(some 11), .load 3 (.tmp 10), 3, none, [], 5⟩,
  ⟨(some 12), .call ⟨.value (.func 147), #[(.tmp 9), (.tmp 11), (.const (.int .i64 2))], #[115, 3, 3]⟩, 115, none, [], 6⟩,
  ⟨(some 3), .assign (.tmp 12), 115, none, [], 7⟩]
def r134_2 : List TOper := [⟨(some 13), .fieldAddr 101 (.tmp 1) 2, 0, none, [], 0⟩,
  ⟨(some 14), .load 91 (.tmp 13), 91, none, [], 1⟩,
  ⟨(some 15), .move (.const (.int .i64 0)), 3, none, [], 2⟩]
def r134_3 : List TOper := [⟨(some 16), .binOp .lss 3 (.tmp 15) (.const (.int .i64 3)) 3, 0, none, [], 0⟩]
def r134_4 : List TOper := [⟨(some 17), .index 91 (.tmp 14) (.tmp 15), 25, none, [], 0⟩,
  ⟨(some 5), .assign (.tmp 17), 25, none, [], 1⟩]
def r134_5 : List TOper := [⟨(some 18), .move (.tmp 3), 115, none, [], 0⟩,
  ⟨(some 19), .move (.tmp 5), 25, none, [], 1⟩,
  ⟨(some 20), .call ⟨.value (.func 148), #[(.tmp 18), (.tmp 19)], #[115, 25]⟩, 115, none, [], 2⟩,
  ⟨(some 3), .assign (.tmp 20), 115, none, [], 3⟩]
def r134_6 : List TOper := [⟨(some 21), .binOp .add 3 (.tmp 15) (.const (.int .i64 1)) 3, 3, none, [], 0⟩,
  ⟨(some 15), .move (.tmp 21), 3, none, [], 1⟩]
def r134_7 : List TOper := [⟨(some 22), .move (.tmp 3), 115, none, [], 0⟩,
  ⟨(some 23), .move (.tmp 3), 115, none, [], 1⟩,
  ⟨(some 24), .call ⟨.value (.func 137), #[(.tmp 23)], #[115]⟩, 3, none, [], 2⟩,
  ⟨(some 25), .call ⟨.value (.func 147), #[(.tmp 22), (.tmp 24), (.const (.int .i64 4))], #[115, 3, 3]⟩, 115, none, [], 3⟩,
  ⟨(some 26), .sliceToArrayPointer 94 (.tmp 25), 0, none, [], 4⟩,
  ⟨(some 27), .load 94 (.tmp 26), 94, none, [], 5⟩,
  ⟨none, .store 94 (.tmp 2) (.tmp 27), 0, none, [], 6⟩]
def c134 : TCode := (.seq (.reg r134_0) (.seq (.reg r134_1) (.seq (.seq (.reg r134_2) (.block 0 (.loop (.seq (.reg r134_3) (.seq (.cond (.tmp 16) .skip (.exit 0)) (.seq (.block 1 (.seq (.reg r134_4) (.reg r134_5))) (.reg r134_6))))))) (.seq (.reg r134_7) .ret))))
def f134 : TFun := ⟨c134, 28, [.cell 2 94]⟩
def r135_0 : List TOper := [⟨(some 2), .assign (.const (.int .i64 0)), 3, none, [], 0⟩]
def r135_1 : List TOper := [⟨(some 3), .alloc 3, 0, none, [], 0⟩,
  ⟨none, .store 3 (.tmp 3) (.const (.int .i64 0)), 0, none, [], 1⟩]
def r135_2 : List TOper := [⟨(some 5), .move (.tmp 0), 115, none, [], 0⟩,
  ⟨(some 6), .call ⟨.value (.func 186), #[(.tmp 5)], #[115]⟩, 257, none, [], 1⟩]
def r135_3 : List TOper := [⟨(some 4), .assign (.tmp 7), 5, none, [], 0⟩]
def r135_4 : List TOper := [⟨(some 8), .load 3 (.tmp 3), 3, none, [], 0⟩,
  ⟨(some 9), .binOp .shl 3 (.tmp 8) (.const (.int .u64 8)) 259, 3, none, [], 1⟩,
  ⟨(some 10), .move (.tmp 4), 5, none, [], 2⟩,
  ⟨(some 11), .convert 5 3 (.tmp 10), 3, none, [], 3⟩,
  ⟨(some 12), .binOp .or 3 (.tmp 9) (.tmp 11) 3, 3, none, [], 4⟩,
  ⟨none, .store 3 (.tmp 3) (.tmp 12), 0, none, [], 5⟩]
def r135_5 : List TOper := [⟨(some 13), .load 3 (.tmp 3), 3, none, [], 0⟩,
  ⟨(some 2), .assign (.tmp 13), 3, none, [], 1⟩]
def c135 : TCode := (.seq (.reg r135_0) (.seq (.reg r135_1) (.seq (.seq (.reg r135_2) (.block 0 (.rangeFunc (.tmp 6) #[7] (.reg r135_3) (.block 1 (.reg r135_4))))) (.seq (.reg r135_5) .ret))))
def f135 : TFun := ⟨c135, 14, [.tmp 2]⟩
def r136_0 : List TOper := [⟨(some 2), .assign (.const (.float .f32 0)), 25, none, [], 0⟩]
def r136_1 : List TOper := [⟨(some 3), .move (.tmp 0), 115, none, [], 0⟩,
  ⟨(some 4), .call ⟨.value (.func 135), #[(.tmp 3)], #[115]⟩, 3, none, [], 1⟩,
  ⟨(some 5), .convert 3 202 (.tmp 4), 202, none, [], 2⟩,
  ⟨(some 6), .call ⟨.value (.func 144), #[(.tmp 5)], #[202]⟩, 25, none, [], 3⟩,
  ⟨(some 2), .assign (.tmp 6), 25, none, [], 4⟩]
def c136 : TCode := (.seq (.reg r136_0) (.seq (.reg r136_1) .ret))
def f136 : TFun := ⟨c136, 7, [.tmp 2]⟩
def r137_0 : List TOper := [⟨(some 2), .assign (.const (.int .i64 0)), 3, none, [], 0⟩]
def r137_1 : List TOper := [⟨(some 3), .alloc 3, 0, none, [], 0⟩,
  ⟨none, .store 3 (.tmp 3) (.const (.int .i64 1)), 0, none, [], 1⟩]
def r137_2 : List TOper := [⟨(some 5), .move (.tmp 0), 115, none, [], 0⟩,
  ⟨(some 6), .call ⟨.value (.func 186), #[(.tmp 5)], #[115]⟩, 257, none, [], 1⟩]
def r137_3 : List TOper := [⟨(some 4), .assign (.tmp 7), 5, none, [], 0⟩]
def r137_4 : List TOper := [⟨(some 8), .load 3 (.tmp 3), 3, none, [], 0⟩,
  ⟨(some 9), .binOp .mul 3 (.const (.int .i64 271)) (.tmp 8) 3, 3, none, [], 1⟩,
  ⟨(some 10), .move (.tmp 4), 5, none, [], 2⟩,
  ⟨(some 11), .convert 5 3 (.tmp 10), 3, none, [], 3⟩,
  ⟨(some 12), .binOp .add 3 (.tmp 9) (.tmp 11) 3, 3, none, [], 4⟩,
  ⟨(some 13), .binOp .rem 3 (.tmp 12) (.const (.int .i64 16777213)) 3, 3, none, [], 5⟩,
  ⟨none, .store 3 (.tmp 3) (.tmp 13), 0, none, [], 6⟩]
def r137_5 : List TOper := [⟨(some 14), .load 3 (.tmp 3), 3, none, [], 0⟩,
  ⟨(some 2), .assign (.tmp 14), 3, none, [], 1⟩]
def c137 : TCode := (.seq (.reg r137_0) (.seq (.reg r137_1) (.seq (.seq (.reg r137_2) (.block 0 (.rangeFunc (.tmp 6) #[7] (.reg r137_3) (.block 1 (.reg r137_4))))) (.seq (.reg r137_5) .ret))))
def f137 : TFun := ⟨c137, 15, [.tmp 2]⟩
def r138_0 : List TOper := [⟨(some 4), .assign (.const (.slice none 0 0)), 195, none, [], 0⟩]
def r138_1 : List TOper := [⟨(some 8), .move (.tmp 0), 105, none, [], 0⟩,
  ⟨(some 9), .call ⟨.builtin .len, #[(.tmp 8)], #[105]⟩, 3, none, [], 1⟩,
  ⟨(some 10), .makeSlice 195 (.tmp 9) (.tmp 9), 195, none, [], 2⟩,
  ⟨(some 5), .assign (.tmp 10), 195, none, [], 3⟩]
def r138_2 : List TOper := [⟨(some 11), .move (.tmp 0), 105, none, [], 0⟩,
  ⟨(some 12), .call ⟨.builtin .len, #[(.tmp 11)], #[105]⟩, 3, none, [], 1⟩,
  ⟨(some 13), .move (.const (.int .i64 0)), 3, none, [], 2⟩]
def r138_3 : List TOper := [⟨(some 14), .binOp .lss 3 (.tmp 13) (.tmp 12) 3, 0, none, [], 0⟩]
def r138_4 : List TOper := [⟨(some 15), .move (.tmp 13), 3, none, [], 0⟩,
  ⟨(some 16), .indexAddr 105 (.tmp 11) (.tmp 13), 0, none, [], 1⟩,
  ⟨(some 17), .load 101 (.tmp 16), 101, none, [], 2⟩,
  ⟨(some 7), .alloc 101, 0, none, [], 3⟩,
  ⟨(some 6), .assign (.tmp 15), 3, none, [], 4⟩,
  ⟨none, .store 101 (.tmp 7) (.tmp 17), 0, none, [], 5⟩]
def r138_5 : List TOper := [⟨(some 18), .move (.tmp 5), 195, none, [], 0⟩,
  ⟨(some 19), .move (.tmp 6), 3, none, [], 1⟩,
  ⟨(some 20), .move (.tmp 1), 192, none, [], 2⟩,
  ⟨(some 21), .load 101 (.tmp 7), 101, none, [], 3⟩,
  ⟨(some 22), .call ⟨.value (.tmp 20), #[(.tmp 21)], #[101]⟩, 30, none, [], 4⟩,
  ⟨(some 23), .indexAddr 195 (.tmp 18) (.tmp 19), 0, none, [], 5⟩,
  ⟨none, .store 30 (.tmp 23) (.tmp 22), 0, none, [], 6⟩]
def r138_6 : List TOper := [⟨(some 24), .binOp .add 3 (.tmp 13) (.const (.int .i64 1)) 3, 3, none, [], 0⟩,
  ⟨(some 13), .move (.tmp 24), 3, none, [], 1⟩]
def r138_7 : List TOper := [⟨(some 25), .move (.tmp 5), 195, none, [], 0⟩,
  ⟨(some 4), .assign (.tmp 25), 195, none, [], 1⟩]
def c138 : TCode := (.seq (.reg r138_0) (.seq (.reg r138_1) (.seq (.seq (.reg r138_2) (.block 0 (.loop (.seq (.reg r138_3) (.seq (.cond (.tmp 14) .skip (.exit 0)) (.seq (.block 1 (.seq (.reg r138_4) (.reg r138_5))) (.reg r138_6))))))) (.seq (.reg r138_7) .ret))))
def f138 : TFun := ⟨c138, 26, [.tmp 4]⟩
def r139_0 : List TOper := [⟨(some 4), .assign (.const (.slice none 0 0)), 29, none, [], 0⟩,
  ⟨(some 5), .assign (.const (.bool false)), 4, none, [], 1⟩]
def r139_1 : List TOper := [⟨(some 6), .assign (.const (.slice none 0 0)), 29, none, [], 0⟩]
def r139_2 : List TOper := [⟨(some 7), .assign (.const (.bool true)), 4, none, [], 0⟩]
def r139_3 : List TOper := [⟨(some 13), .build 101 #[(0, (.const (.int .i64 (-1))))], 101, none, [], 0⟩,
  ⟨(some 8), .alloc 101, 0, none, [], 1⟩,
  ⟨none, .store 101 (.tmp 8) (.tmp 13), 0, none, [], 2⟩]
def r139_4 : List TOper := [⟨(some 14), .load 101 (.tmp 8), 101, none, [], 0⟩,
  ⟨(some 9), .alloc 101, 0, none, [], 1⟩,
  ⟨none, .store 101 (.tmp 9) (.tmp 14), 0, none, [], 2⟩]
def r139_5 : List TOper := [⟨(some 15), .move (.tmp 0), 105, none, [], 0⟩,
  ⟨(some 16), .call ⟨.builtin .len, #[(.tmp 15)], #[105]⟩, 3, none, [], 1⟩,
  ⟨(some 17), .move (.const (.int .i64 0)), 3, none, [], 2⟩]
def r139_6 : List TOper := [⟨(some 18), .binOp .lss 3 (.tmp 17) (.tmp 16) 3, 0, none, [], 0⟩]
def r139_7 : List TOper := [⟨(some 19), .indexAddr 105 (.tmp 15) (.tmp 17), 0, none, [], 0⟩,
  ⟨(some 20), .load 101 (.tmp 19), 101, none, [], 1⟩,
  ⟨(some 11), .alloc 101, 0, none, [], 2⟩,
  ⟨none, .store 101 (.tmp 11) (.tmp 20), 0, none, [], 3⟩]
def r139_8 : List TOper := [⟨(some 21), .fieldAddr 101 (.tmp 11) 0, 0, none, [], 0⟩,
  ⟨(some 22), .load 3 (.tmp 21), 3, none, [], 1⟩,
  ⟨(some 23), .move (.tmp 1), 3, none, [], 2⟩,
  ⟨(some 24), .binOp .neq 3 (.tmp 22) (.tmp 23) 3, 4, none, [], 3⟩]
def r139_9 : List TOper := [⟨(some 25), .load 101 (.tmp 9), 101, none, [], 0⟩,
  ⟨(some 26), .load 101 (.tmp 8), 101, none, [], 1⟩,
  ⟨(some 27), .binOp .eql 101 (.tmp 25) (.tmp 26) 101, 4, none, [], 2⟩]
def r139_10 : List TOper := [⟨(some 28), .load 101 (.tmp 11), 101, none, [], 0⟩,
  ⟨none, .store 101 (.tmp 9) (.tmp 28), 0, none, [], 1⟩]
def r139_11 : List TOper := [⟨(some 29), .fieldAddr 101 (.tmp 9) 1, 0, none, [], 0⟩,
  ⟨(some 30), .load 3 (.tmp 29), 3, none, [], 1⟩,
  ⟨(some 31), .call ⟨.value (.func 187), #[(.tmp 30)], #[3]⟩, 3, none, [], 2⟩,
  ⟨(some 12), .assign (.tmp 31), 3, none, [], 3⟩]
def r139_12 : List TOper := [⟨(some 32), .move (.tmp 12), 3, none, [], 0⟩,
  ⟨(some 33), .fieldAddr 101 (.tmp 11) 1, 0, none, [], 1⟩,
  ⟨(some 34), .load 3 (.tmp 33), 3, none, [], 2⟩,
  ⟨(some 35), .binOp .neq 3 (.tmp 32) (.tmp 34) 3, 4, none, [], 3⟩]
def r139_13 : List TOper := [⟨(some 38), .move (.tmp 6), 29, none, [], 0⟩,
  ⟨(some 39), .call ⟨.builtin .len, #[(.tmp 38)], #[29]⟩, 3, none, [], 1⟩,
  ⟨(some 40), .binOp .eql 3 (.tmp 39) (.const (.int .i64 256)) 3, 4, none, [], 2⟩]
def r139_14 : List TOper := [⟨(some 7), .assign (.const (.bool false)), 4, none, [], 0⟩]
def r139_15 : List TOper := [⟨(some 41), .move (.tmp 6), 29, none, [], 0⟩,
  ⟨(some 42), .move (.tmp 12), 3, none, [], 1⟩,
  ⟨(some 43), .buildSlice 29 1 #[(0, (.tmp 42))], 29, none, [], 2⟩,
  ⟨(some 44), .call ⟨.builtin .append, #[(.tmp 41), (.tmp 43)], #[29, 29]⟩, 29, none, [], 3⟩,
  ⟨(some 6), .assign (.tmp 44), 29, none, [], 4⟩]
def r139_16 : List TOper := [⟨(some 36), .move (.tmp 12), 3, none, [], 0⟩,
  ⟨(some 37), .call ⟨.value (.func 187), #[(.tmp 36)], #[3]⟩, 3, none, [], 1⟩,
  ⟨(some 12), .assign (.tmp 37), 3, none, [], 2⟩]
def r139_17 : List TOper := [⟨(some 45), .load 101 (.tmp 11), 101, none, [], 0⟩,
  ⟨none, .store 101 (.tmp 9) (.tmp 45), 0, none, [], 1⟩]
def r139_18 : List TOper := [⟨(some 46), .binOp .add 3 (.tmp 17) (.const (.int .i64 1)) 3, 3, none, [], 0⟩,
  ⟨(some 17), .move (.tmp 46), 3, none, [], 1⟩]
def r139_19 : List TOper := [⟨(some 47), .move (.tmp 6), 29, none, [], 0⟩,
  ⟨(some 48), .move (.tmp 7), 4, none, [], 1⟩,
  ⟨(some 4), .assign (.tmp 47), 29, none, [], 2⟩,
  ⟨(some 5), .assign (.tmp 48), 4, none, [], 3⟩]
def c139 : TCode := (.seq (.reg r139_0) (.seq (.reg r139_1) (.seq (.reg r139_2) (.seq (.reg r139_3) (.seq (.reg r139_4) (.seq .skip (.seq (.seq (.reg r139_5) (.block 0 (.loop (.seq (.reg r139_6) (.seq (.cond (.tmp 18) .skip (.exit 0)) (.seq (.block 1 (.seq (.reg r139_7) (.seq (.seq (.reg r139_8) (.cond (.tmp 24) (.exit 1) .skip)) (.seq (.seq (.reg r139_9) (.cond (.tmp 27) (.seq (.reg r139_10) (.exit 1)) .skip)) (.seq (.seq (.reg r139_11) (.block 2 (.loop (.seq (.seq (.reg r139_12) (.cond (.tmp 35) .skip (.exit 2))) (.seq (.block 3 (.seq (.seq (.reg r139_13) (.cond (.tmp 40) (.seq (.reg r139_14) (.exit 0)) .skip)) (.reg r139_15))) (.reg r139_16)))))) (.reg r139_17)))))) (.reg r139_18))))))) (.seq (.reg r139_19) .ret))))))))
def f139 : TFun := ⟨c139, 49, [.tmp 4, .tmp 5]⟩
def r145_0 : List TOper := [⟨(some 1), .box 115 (.tmp 0), 0, none, [], 0⟩,
  ⟨(some 2), .assign (.const .nilFunc), 204, none, [], 1⟩]
def r145_1 : List TOper := [⟨(some 3), .makeFunc (.func 189) #[] #[(.tmp 1)], 203, none, [], 0⟩,
  ⟨(some 2), .assign (.tmp 3), 204, none, [], 1⟩]
def c145 : TCode := (.seq (.reg r145_0) (.seq (.reg r145_1) .ret))
def f145 : TFun := ⟨c145, 4, [.tmp 2]⟩
def r146_0 : List TOper := [⟨(some 6), .assign (.const (.slice none 0 0)), 44, none, [], 0⟩]
def r146_1 : List TOper := [⟨(some 7), .move (.tmp 1), 3, none, [], 0⟩,
  ⟨(some 8), .move (.tmp 2), 3, none, [], 1⟩,
  ⟨(some 9), .binOp .eql 3 (.tmp 7) (.tmp 8) 3, 4, none, [], 2⟩]
def r146_2 : List TOper := [⟨(some 10), .move (.tmp 0), 44, none, [], 0⟩,
  ⟨(some 6), .assign (.tmp 10), 44, none, [], 1⟩]
def r146_3 : List TOper := [⟨(some 11), .move (.tmp 0), 44, none, [], 0⟩,
  ⟨(some 12), .move (.tmp 1), 3, none, [], 1⟩,
  ⟨(some 13), .move (.tmp 2), 3, none, [], 2⟩,
  ⟨(some 14), .build 48 #[(0, (.tmp 12)), (1, (.tmp 13))], 48, none, [], 3⟩,
  ⟨(some 15), .buildSlice 44 1 #[(0, (.tmp 14))], 44, none, [], 4⟩,
  ⟨(some 16), .call ⟨.builtin .append, #[(.tmp 11), (.tmp 15)], #[44, 44]⟩, 44, none, [], 5⟩,
  ⟨(some 6), .assign (.tmp 16), 44, none, [], 6⟩]
def c146 : TCode := (.seq (.reg r146_0) (.seq (.seq (.reg r146_1) (.cond (.tmp 9) (.seq (.reg r146_2) .ret) .skip)) (.seq (.reg r146_3) .ret)))
def f146 : TFun := ⟨c146, 17, [.tmp 6]⟩
def r147_0 : List TOper := [⟨(some 6), .assign (.const (.slice none 0 0)), 115, none, [], 0⟩]
def r147_1 : List TOper := [⟨(some 8), .move (.tmp 2), 3, none, [], 0⟩,
  ⟨(some 9), .move (.const (.int .i64 0)), 3, none, [], 1⟩]
def r147_2 : List TOper := [⟨(some 10), .binOp .lss 3 (.tmp 9) (.tmp 8) 3, 4, none, [], 0⟩]
def r147_3 : List TOper := [⟨(some 11), .move (.tmp 9), 3, none, [], 0⟩,
  ⟨(some 7), .assign (.tmp 11), 3, none, [], 1⟩]
def r147_4 : List TOper := [⟨(some 12), .move (.tmp 0), 115, none, [], 0⟩,
  ⟨(some 13), .move (.tmp 1), 3, none, [], 1⟩,
  ⟨(some 14), .move (.tmp 2), 3, none, [], 2⟩,
  ⟨(some 15), .binOp .sub 3 (.tmp 14) (.const (.int .i64 1)) 3, 3, none, [], 3⟩,
  ⟨(some 16), .move (.tmp 7), 3, none, [], 4⟩,
  ⟨(some 17), .binOp .sub 3 (.tmp 15) (.tmp 16) 3, 3, none, [], 5⟩,
  ⟨(some 18), .binOp .mul 3 (.const (.int .i64 8)) (.tmp 17) 3, 3, none, [], 6⟩,
  ⟨(some 19), .binOp .shr 3 (.tmp 13) (.tmp 18) 3, 3, none, [], 7⟩,
  ⟨(some 20), .convert 3 5 (.tmp 19), 5, none, [], 8⟩,
  ⟨(some 21), .buildSlice 115 1 #[(0, (.tmp 20))], 115, none, [], 9⟩,
  ⟨(some 22), .call ⟨.builtin .append, #[(.tmp 12), (.tmp 21)], #[115, 115]⟩, 115, none, [], 10⟩,
  ⟨(some 0), .assign (.tmp 22), 115, none, [], 11⟩]
def r147_5 : List TOper := [⟨(some 23), .binOp .add 3 (.tmp 9) (.const (.int .i64 1)) 3, 3, none, [], 0⟩,
  ⟨(some 9), .move (.tmp 23), 3, none, [], 1⟩]
def r147_6 : List TOper := [⟨(some 24), .move (.tmp 0), 115, none, [], 0⟩,
  ⟨(some 6), .assign (.tmp 24), 115, none, [], 1⟩]
def c147 : TCode := (.seq (.reg r147_0) (.seq (.seq (.reg r147_1) (.block 0 (.loop (.seq (.reg r147_2) (.seq (.cond (.tmp 10) .skip (.exit 0)) (.seq (.block 1 (.seq (.reg r147_3) (.reg r147_4))) (.reg r147_5))))))) (.seq (.reg r147_6) .ret)))
def f147 : TFun := ⟨c147, 25, [.tmp 6]⟩
def r148_0 : List TOper := [⟨(some 4), .assign (.const (.slice none 0 0)), 115, none, [], 0⟩]
def r148_1 : List TOper := [⟨(some 5), .move (.tmp 1), 25, none, [], 0⟩,
  ⟨(some 6), .binOp .eql 25 (.tmp 5) (.const (.float .f32 0)) 25, 4, none, [], 1⟩]
def r148_2 : List TOper := [⟨(some 1), .assign (.const (.float .f32 0)), 25, none, [], 0⟩]
def r148_3 : List TOper := [⟨(some 7), .move (.tmp 0), 115, none, [], 0⟩,
  ⟨(some 8), .move (.tmp 1), 25, none, [], 1⟩,
  ⟨(some 9), .call ⟨.value (.func 188), #[(.tmp 8)], #[25]⟩, 202, none, [], 2⟩,
  ⟨(some 10), .convert 202 3 (.tmp 9), 3, none, [], 3⟩,
  ⟨(some 11), .call ⟨.value (.func 147), #[(.tmp 7), (.tmp 10), (.const (.int .i64 4))], #[115, 3, 3]⟩, 115, none, [], 4⟩,
  ⟨(some 4), .assign (.tmp 11), 115, none, [], 5⟩]
def c148 : TCode := (.seq (.reg r148_0) (.seq (.seq (.reg r148_1) (.cond (.tmp 6) (.reg r148_2) .skip)) (.seq (.reg r148_3) .ret)))
def f148 : TFun := ⟨c148, 12, [.tmp 4]⟩
def r154_0 : List TOper := [⟨(some 4), .assign (.const (.int .i64 0)), 3, none, [], 0⟩,
  ⟨(some 5), .assign (.const .nilIface), 218, none, [], 1⟩]
def r154_1 : List TOper := [⟨(some 6), .move (.tmp 0), 214, none, [], 0⟩,
  ⟨(some 7), .call ⟨.value (.func 192), #[(.tmp 6)], #[214]⟩, 0, none, [], 1⟩]
def r154_2 : List TOper := [⟨(some 8), .move (.tmp 0), 214, none, [], 0⟩,
  ⟨(some 9), .move (.tmp 0), 214, none, [], 1⟩,
  ⟨(some 10), .nilCheck (.tmp 9), 0, none, [], 2⟩,
  ⟨(some 11), .fieldAddr 216 (.tmp 10) 1, 0, none, [], 3⟩,
  ⟨(some 12), .load 115 (.tmp 11), 115, none, [], 4⟩,
  ⟨(some 13), .move (.tmp 1), 9, none, [], 5⟩,
  ⟨(some 14), .call ⟨.builtin .append, #[(.tmp 12), (.tmp 13)], #[115, 9]⟩, 115, none, [], 6⟩,
  ⟨(some 15), .nilCheck (.tmp 8), 0, none, [], 7⟩,
  ⟨(some 16), .fieldAddr 216 (.tmp 15) 1, 0, none, [], 8⟩,
  ⟨none, .store 115 (.tmp 16) (.tmp 14), 0, none, [], 9⟩]
def r154_3 : List TOper := [⟨(some 17), .move (.tmp 1), 9, none, [], 0⟩,
  ⟨(some 18), .call ⟨.builtin .len, #[(.tmp 17)], #[9]⟩, 3, none, [], 1⟩,
  ⟨(some 4), .assign (.tmp 18), 3, none, [], 2⟩,
  ⟨(some 5), .assign (.const .nilIface), 218, none, [], 3⟩]
def c154 : TCode := (.seq (.reg r154_0) (.seq (.reg r154_1) (.seq (.reg r154_2) (.seq (.reg r154_3) .ret))))
def f154 : TFun := ⟨c154, 19, [.tmp 4, .tmp 5]⟩
def r155_0 : List TOper := [⟨(some 2), .assign (.const (.string ⟨#[]⟩)), 9, none, [], 0⟩]
def r155_1 : List TOper := [⟨(some 3), .move (.tmp 0), 225, none, [], 0⟩,
  ⟨(some 4), .call ⟨.value (.func 193), #[(.tmp 3), (.const (.string ⟨#[32]⟩))], #[225, 9]⟩, 9, none, [], 1⟩,
  ⟨(some 5), .binOp .add 9 (.tmp 4) (.const (.string ⟨#[10]⟩)) 9, 9, none, [], 2⟩,
  ⟨(some 2), .assign (.tmp 5), 9, none, [], 3⟩]
def c155 : TCode := (.seq (.reg r155_0) (.seq (.reg r155_1) .ret))
def f155 : TFun := ⟨c155, 6, [.tmp 2]⟩
def r156_0 : List TOper := [⟨(some 2), .assign (.const (.string ⟨#[]⟩)), 9, none, [], 0⟩]
def r156_1 : List TOper := [⟨(some 3), .move (.tmp 0), 3, none, [], 0⟩,
  ⟨(some 4), .call ⟨.value (.func 194), #[(.tmp 3)], #[3]⟩, 9, none, [], 1⟩,
  ⟨(some 2), .assign (.tmp 4), 9, none, [], 2⟩]
def c156 : TCode := (.seq (.reg r156_0) (.seq (.reg r156_1) .ret))
def f156 : TFun := ⟨c156, 5, [.tmp 2]⟩
def r157_0 : List TOper := [⟨(some 2), .assign (.const (.string ⟨#[]⟩)), 9, none, [], 0⟩]
def r157_1 : List TOper := [⟨(some 4), .move (.tmp 0), 43, none, [], 0⟩,
  ⟨(some 5), .call ⟨.builtin .len, #[(.tmp 4)], #[43]⟩, 3, none, [], 1⟩,
  ⟨(some 6), .binOp .eql 3 (.tmp 5) (.const (.int .i64 0)) 3, 4, none, [], 2⟩]
def r157_2 : List TOper := [⟨(some 2), .assign (.const (.string ⟨#[]⟩)), 9, none, [], 0⟩]
def r157_3 : List TOper := [⟨(some 7), .move (.tmp 0), 43, none, [], 0⟩,
  ⟨(some 8), .call ⟨.value (.func 195), #[(.tmp 7), (.func 196)], #[43, 266]⟩, 225, none, [], 1⟩,
  ⟨(some 3), .assign (.tmp 8), 225, none, [], 2⟩]
def r157_4 : List TOper := [⟨(some 9), .move (.tmp 3), 225, none, [], 0⟩,
  ⟨(some 10), .call ⟨.value (.func 193), #[(.tmp 9), (.const (.string ⟨#[32]⟩))], #[225, 9]⟩, 9, none, [], 1⟩,
  ⟨(some 11), .buildSlice 225 2 #[(0, (.const (.string ⟨#[115, 97, 109, 112, 108, 101, 115]⟩))), (1, (.tmp 10))], 225, none, [], 2⟩,
  ⟨(some 12), .call ⟨.value (.func 155), #[(.tmp 11)], #[225]⟩, 9, none, [], 3⟩,
  ⟨(some 2), .assign (.tmp 12), 9, none, [], 4⟩]
def c157 : TCode := (.seq (.reg r157_0) (.seq (.seq (.reg r157_1) (.cond (.tmp 6) (.seq (.reg r157_2) .ret) .skip)) (.seq (.reg r157_3) (.seq (.reg r157_4) .ret))))
def f157 : TFun := ⟨c157, 13, [.tmp 2]⟩
def r158_0 : List TOper := [⟨(some 2), .assign (.const (.string ⟨#[]⟩)), 9, none, [], 0⟩]
def r158_1 : List TOper := [⟨(some 3), .move (.tmp 0), 214, none, [], 0⟩,
  ⟨(some 4), .nilCheck (.tmp 3), 0, none, [], 1⟩,
  ⟨(some 5), .fieldAddr 216 (.tmp 4) 1, 0, none, [], 2⟩,
  ⟨(some 6), .load 115 (.tmp 5), 115, none, [], 3⟩,
  ⟨(some 8), .move (.tmp 0), 214, none, [], 5⟩,
  ⟨(some 9), .nilCheck (.tmp 8), 0, none, [], 6⟩,
  ⟨(some 10), .fieldAddr 216 (.tmp 9) 1, 0, none, [], 7⟩,
  ⟨(some 11), .load 115 (.tmp 10), 115, none, [], 8⟩,
  ⟨(some 12), .call ⟨.builtin .len, #[(.tmp 11)], #[115]⟩, 3, none, [], 9⟩,
  ⟨(some 7), .call ⟨.builtin .unsafeSliceData, #[(.tmp 6)], #[115]⟩, 267, none, [(.tmp 10)], 4⟩,
  ⟨(some 13), .call ⟨.builtin .unsafeString, #[(.tmp 7), (.tmp 12)], #[267, 3]⟩, 9, none, [], 10⟩,
  ⟨(some 2), .assign (.tmp 13), 9, none, [], 11⟩]
def c158 : TCode := (.seq (.reg r158_0) (.seq (.reg r158_1) .ret))
def f158 : TFun := ⟨c158, 14, [.tmp 2]⟩
def r167_0 : List TOper := [⟨(some 4), .assign (.const (.bool false)), 4, none, [], 0⟩]
def r167_1 : List TOper := [⟨(some 6), .move (.tmp 0), 43, none, [], 0⟩,
  ⟨(some 7), .call ⟨.builtin .len, #[(.tmp 6)], #[43]⟩, 3, none, [], 1⟩,
  ⟨(some 8), .move (.tmp 1), 43, none, [], 2⟩,
  ⟨(some 9), .call ⟨.builtin .len, #[(.tmp 8)], #[43]⟩, 3, none, [], 3⟩,
  ⟨(some 10), .binOp .neq 3 (.tmp 7) (.tmp 9) 3, 4, none, [], 4⟩]
def r167_2 : List TOper := [⟨(some 4), .assign (.const (.bool false)), 4, none, [], 0⟩]
def r167_3 : List TOper := [⟨(some 5), .assign (.const (.int .i64 0)), 3, none, [], 0⟩]
def r167_4 : List TOper := [⟨(some 11), .move (.tmp 5), 3, none, [], 0⟩,
  ⟨(some 12), .move (.tmp 0), 43, none, [], 1⟩,
  ⟨(some 13), .call ⟨.builtin .len, #[(.tmp 12)], #[43]⟩, 3, none, [], 2⟩,
  ⟨(some 14), .binOp .lss 3 (.tmp 11) (.tmp 13) 3, 4, none, [], 3⟩]
def r167_5 : List TOper := [⟨(some 17), .move (.tmp 0), 43, none, [], 0⟩,
  ⟨(some 18), .move (.tmp 5), 3, none, [], 1⟩,
  ⟨(some 19), .indexAddr 43 (.tmp 17) (.tmp 18), 0, none, [], 2⟩,
  ⟨(some 20), .load 25 (.tmp 19), 25, none, [], 3⟩,
  ⟨(some 21), .move (.tmp 1), 43, none, [], 4⟩,
  ⟨(some 22), .move (.tmp 5), 3, none, [], 5⟩,
  ⟨(some 23), .indexAddr 43 (.tmp 21) (.tmp 22), 0, none, [], 6⟩,
  ⟨(some 24), .load 25 (.tmp 23), 25, none, [], 7⟩,
  ⟨(some 25), .binOp .neq 25 (.tmp 20) (.tmp 24) 25, 4, none, [], 8⟩]
def r167_6 : List TOper := [⟨(some 4), .assign (.const (.bool false)), 4, none, [], 0⟩]
def r167_7 : List TOper := [⟨(some 15), .move (.tmp 5), 3, none, [], 0⟩,
  ⟨(some 16), .binOp .add 3 (.tmp 15) (.const (.int .i64 1)) 3, 3, none, [], 1⟩,
  ⟨(some 5), .assign (.tmp 16), 3, none, [], 2⟩]
def r167_8 : List TOper := [⟨(some 4), .assign (.const (.bool true)), 4, none, [], 0⟩]
def c167 : TCode := (.seq (.reg r167_0) (.seq (.seq (.reg r167_1) (.cond (.tmp 10) (.seq (.reg r167_2) .ret) .skip)) (.seq (.seq (.reg r167_3) (.block 0 (.loop (.seq (.seq (.reg r167_4) (.cond (.tmp 14) .skip (.exit 0))) (.seq (.block 1 (.seq (.reg r167_5) (.cond (.tmp 25) (.seq (.reg r167_6) .ret) .skip))) (.reg r167_7)))))) (.seq (.reg r167_8) .ret))))
def f167 : TFun := ⟨c167, 26, [.tmp 4]⟩
def r168_0 : List TOper := [⟨(some 2), .assign (.const (.complex .f32 0 0)), 145, none, [], 0⟩]
def r168_1 : List TOper := [⟨(some 4), .move (.tmp 0), 3, none, [], 0⟩,
  ⟨(some 5), .binOp .rem 3 (.tmp 4) (.const (.int .i64 4)) 3, 3, none, [], 1⟩,
  ⟨(some 6), .indexAddr 289 (.global 1) (.tmp 5), 0, none, [], 2⟩,
  ⟨(some 7), .load 288 (.tmp 6), 288, none, [], 3⟩,
  ⟨(some 3), .alloc 288, 0, none, [], 4⟩,
  ⟨none, .store 288 (.tmp 3) (.tmp 7), 0, none, [], 5⟩]
def r168_2 : List TOper := [⟨(some 8), .fieldAddr 288 (.tmp 3) 0, 0, none, [], 0⟩,
  ⟨(some 9), .load 3 (.tmp 8), 3, none, [], 1⟩,
  ⟨(some 10), .convert 3 25 (.tmp 9), 25, none, [], 2⟩,
  ⟨(some 11), .fieldAddr 288 (.tmp 3) 1, 0, none, [], 3⟩,
  ⟨(some 12), .load 3 (.tmp 11), 3, none, [], 4⟩,
  ⟨(some 13), .convert 3 25 (.tmp 12), 25, none, [], 5⟩,
  ⟨(some 14), .call ⟨.builtin .complex, #[(.tmp 10), (.tmp 13)], #[25, 25]⟩, 145, none, [], 6⟩,
  ⟨(some 2), .assign (.tmp 14), 145, none, [], 7⟩]
def c168 : TCode := (.seq (.reg r168_0) (.seq (.reg r168_1) (.seq (.reg r168_2) .ret)))
def f168 : TFun := ⟨c168, 15, [.tmp 2]⟩
def r169_0 : List TOper := [⟨(some 2), .assign (.const (.bool false)), 4, none, [], 0⟩]
def r169_1 : List TOper := [⟨(some 3), .move (.tmp 0), 241, none, [], 0⟩,
  ⟨(some 4), .move (.tmp 0), 241, none, [], 1⟩,
  ⟨(some 5), .binOp .neq 241 (.tmp 3) (.tmp 4) 241, 4, none, [], 2⟩,
  ⟨(some 2), .assign (.tmp 5), 4, none, [], 3⟩]
def c169 : TCode := (.seq (.reg r169_0) (.seq (.reg r169_1) .ret))
def f169 : TFun := ⟨c169, 6, [.tmp 2]⟩
def r170_0 : List TOper := [⟨(some 4), .assign (.const (.bool false)), 4, none, [], 0⟩]
def r170_1 : List TOper := [⟨(some 5), .move (.tmp 1), 3, none, [], 0⟩,
  ⟨(some 6), .binOp .eql 3 (.tmp 5) (.const (.int .i64 0)) 3, 4, none, [], 1⟩]
def r170_2 : List TOper := [⟨(some 7), .move (.tmp 0), 241, none, [], 0⟩,
  ⟨(some 8), .call ⟨.value (.func 171), #[(.tmp 7)], #[241]⟩, 241, none, [], 1⟩,
  ⟨(some 0), .assign (.tmp 8), 241, none, [], 2⟩]
def r170_3 : List TOper := [⟨(some 9), .move (.tmp 1), 3, none, [], 0⟩,
  ⟨(some 10), .binOp .lss 3 (.tmp 9) (.const (.int .i64 0)) 3, 4, none, [], 1⟩]
def r170_4 : List TOper := [⟨(some 11), .move (.tmp 0), 241, none, [], 0⟩,
  ⟨(some 12), .unOp .neg 241 (.tmp 11), 241, none, [], 1⟩,
  ⟨(some 0), .assign (.tmp 12), 241, none, [], 2⟩]
def r170_5 : List TOper := [⟨(some 13), .move (.tmp 0), 241, none, [], 0⟩,
  ⟨(some 14), .binOp .gtr 241 (.tmp 13) (.const (.float .f64 9218868437227405311)) 241, 4, none, [], 1⟩,
  ⟨(some 4), .assign (.tmp 14), 4, none, [], 2⟩]
def c170 : TCode := (.seq (.reg r170_0) (.seq (.seq (.reg r170_1) (.cond (.tmp 6) (.reg r170_2) (.seq (.reg r170_3) (.cond (.tmp 10) (.reg r170_4) .skip)))) (.seq (.reg r170_5) .ret)))
def f170 : TFun := ⟨c170, 15, [.tmp 4]⟩
def r171_0 : List TOper := [⟨(some 2), .assign (.const (.float .f64 0)), 241, none, [], 0⟩]
def r171_1 : List TOper := [⟨(some 3), .move (.tmp 0), 241, none, [], 0⟩,
  ⟨(some 4), .call ⟨.value (.func 210), #[(.tmp 3)], #[241]⟩, 291, none, [], 1⟩,
  ⟨(some 5), .binOp .andNot 291 (.tmp 4) (.const (.int .u64 9223372036854775808)) 291, 291, none, [], 2⟩,
  ⟨(some 6), .call ⟨.value (.func 209), #[(.tmp 5)], #[291]⟩, 241, none, [], 3⟩,
  ⟨(some 2), .assign (.tmp 6), 241, none, [], 4⟩]
def c171 : TCode := (.seq (.reg r171_0) (.seq (.reg r171_1) .ret))
def f171 : TFun := ⟨c171, 7, [.tmp 2]⟩
def r172_0 : List TOper := [⟨(some 2), .assign (.const (.float .f64 0)), 241, none, [], 0⟩]
def r172_1 : List TOper := [⟨(some 3), .move (.tmp 0), 241, none, [], 0⟩,
  ⟨(some 4), .call ⟨.value (.func 211), #[(.tmp 3)], #[241]⟩, 241, none, [], 1⟩,
  ⟨(some 2), .assign (.tmp 4), 241, none, [], 2⟩]
def r172_2 : List TOper := [⟨(some 5), .move (.tmp 0), 241, none, [], 0⟩,
  ⟨(some 6), .call ⟨.value (.func 212), #[(.tmp 5)], #[241]⟩, 241, none, [], 1⟩,
  ⟨(some 2), .assign (.tmp 6), 241, none, [], 2⟩]
def c172 : TCode := (.seq (.reg r172_0) (.seq (.cond (.const (.bool true)) (.seq (.reg r172_1) .ret) .skip) (.seq (.reg r172_2) .ret)))
def f172 : TFun := ⟨c172, 7, [.tmp 2]⟩
def r173_0 : List TOper := [⟨(some 4), .assign (.const (.slice none 0 0)), 164, none, [], 0⟩]
def r173_1 : List TOper := [⟨(some 8), .move (.tmp 0), 43, none, [], 0⟩,
  ⟨(some 9), .call ⟨.builtin .len, #[(.tmp 8)], #[43]⟩, 3, none, [], 1⟩,
  ⟨(some 10), .makeSlice 164 (.tmp 9) (.tmp 9), 164, none, [], 2⟩,
  ⟨(some 5), .assign (.tmp 10), 164, none, [], 3⟩]
def r173_2 : List TOper := [⟨(some 11), .move (.tmp 0), 43, none, [], 0⟩,
  ⟨(some 12), .call ⟨.builtin .len, #[(.tmp 11)], #[43]⟩, 3, none, [], 1⟩,
  ⟨(some 13), .move (.const (.int .i64 0)), 3, none, [], 2⟩]
def r173_3 : List TOper := [⟨(some 14), .binOp .lss 3 (.tmp 13) (.tmp 12) 3, 0, none, [], 0⟩]
def r173_4 : List TOper := [⟨(some 15), .move (.tmp 13), 3, none, [], 0⟩,
  ⟨(some 16), .indexAddr 43 (.tmp 11) (.tmp 13), 0, none, [], 1⟩,
  ⟨(some 17), .load 25 (.tmp 16), 25, none, [], 2⟩,
  ⟨(some 6), .assign (.tmp 15), 3, none, [], 3⟩,
  ⟨(some 7), .assign (.tmp 17), 25, none, [], 4⟩]
def r173_5 : List TOper := [⟨(some 18), .move (.tmp 5), 164, none, [], 0⟩,
  ⟨(some 19), .move (.tmp 6), 3, none, [], 1⟩,
  ⟨(some 20), .move (.tmp 1), 245, none, [], 2⟩,
  ⟨(some 21), .move (.tmp 7), 25, none, [], 3⟩,
  ⟨(some 22), .call ⟨.value (.tmp 20), #[(.tmp 21)], #[25]⟩, 163, none, [], 4⟩,
  ⟨(some 23), .indexAddr 164 (.tmp 18) (.tmp 19), 0, none, [], 5⟩,
  ⟨none, .store 163 (.tmp 23) (.tmp 22), 0, none, [], 6⟩]
def r173_6 : List TOper := [⟨(some 24), .binOp .add 3 (.tmp 13) (.const (.int .i64 1)) 3, 3, none, [], 0⟩,
  ⟨(some 13), .move (.tmp 24), 3, none, [], 1⟩]
def r173_7 : List TOper := [⟨(some 25), .move (.tmp 5), 164, none, [], 0⟩,
  ⟨(some 4), .assign (.tmp 25), 164, none, [], 1⟩]
def c173 : TCode := (.seq (.reg r173_0) (.seq (.reg r173_1) (.seq (.seq (.reg r173_2) (.block 0 (.loop (.seq (.reg r173_3) (.seq (.cond (.tmp 14) .skip (.exit 0)) (.seq (.block 1 (.seq (.reg r173_4) (.reg r173_5))) (.reg r173_6))))))) (.seq (.reg r173_7) .ret))))
def f173 : TFun := ⟨c173, 26, [.tmp 4]⟩
def r174_0 : List TOper := [⟨(some 2), .alloc 163, 0, none, [], 0⟩]
def r174_1 : List TOper := [⟨(some 3), .move (.tmp 0), 25, none, [], 0⟩,
  ⟨(some 4), .call ⟨.value (.func 129), #[(.tmp 3)], #[25]⟩, 3, none, [], 1⟩,
  ⟨(some 5), .build 163 #[(0, (.tmp 4)), (1, (.const (.bool true)))], 163, none, [], 2⟩,
  ⟨none, .store 163 (.tmp 2) (.tmp 5), 0, none, [], 3⟩]
def c174 : TCode := (.seq (.reg r174_0) (.seq (.reg r174_1) .ret))
def f174 : TFun := ⟨c174, 6, [.cell 2 163]⟩
def r175_0 : List TOper := [⟨(some 4), .assign (.const (.slice none 0 0)), 43, none, [], 0⟩]
def r175_1 : List TOper := [⟨(some 8), .move (.tmp 0), 164, none, [], 0⟩,
  ⟨(some 9), .call ⟨.builtin .len, #[(.tmp 8)], #[164]⟩, 3, none, [], 1⟩,
  ⟨(some 10), .makeSlice 43 (.tmp 9) (.tmp 9), 43, none, [], 2⟩,
  ⟨(some 5), .assign (.tmp 10), 43, none, [], 3⟩]
def r175_2 : List TOper := [⟨(some 11), .move (.tmp 0), 164, none, [], 0⟩,
  ⟨(some 12), .call ⟨.builtin .len, #[(.tmp 11)], #[164]⟩, 3, none, [], 1⟩,
  ⟨(some 13), .move (.const (.int .i64 0)), 3, none, [], 2⟩]
def r175_3 : List TOper := [⟨(some 14), .binOp .lss 3 (.tmp 13) (.tmp 12) 3, 0, none, [], 0⟩]
def r175_4 : List TOper := [⟨(some 15), .move (.tmp 13), 3, none, [], 0⟩,
  ⟨(some 16), .indexAddr 164 (.tmp 11) (.tmp 13), 0, none, [], 1⟩,
  ⟨(some 17), .load 163 (.tmp 16), 163, none, [], 2⟩,
  ⟨(some 7), .alloc 163, 0, none, [], 3⟩,
  ⟨(some 6), .assign (.tmp 15), 3, none, [], 4⟩,
  ⟨none, .store 163 (.tmp 7) (.tmp 17), 0, none, [], 5⟩]
def r175_5 : List TOper := [⟨(some 18), .move (.tmp 5), 43, none, [], 0⟩,
  ⟨(some 19), .move (.tmp 6), 3, none, [], 1⟩,
  ⟨(some 20), .move (.tmp 1), 247, none, [], 2⟩,
  ⟨(some 21), .load 163 (.tmp 7), 163, none, [], 3⟩,
  ⟨(some 22), .call ⟨.value (.tmp 20), #[(.tmp 21)], #[163]⟩, 25, none, [], 4⟩,
  ⟨(some 23), .indexAddr 43 (.tmp 18) (.tmp 19), 0, none, [], 5⟩,
  ⟨none, .store 25 (.tmp 23) (.tmp 22), 0, none, [], 6⟩]
def r175_6 : List TOper := [⟨(some 24), .binOp .add 3 (.tmp 13) (.const (.int .i64 1)) 3, 3, none, [], 0⟩,
  ⟨(some 13), .move (.tmp 24), 3, none, [], 1⟩]
def r175_7 : List TOper := [⟨(some 25), .move (.tmp 5), 43, none, [], 0⟩,
  ⟨(some 4), .assign (.tmp 25), 43, none, [], 1⟩]
def c175 : TCode := (.seq (.reg r175_0) (.seq (.reg r175_1) (.seq (.seq (.reg r175_2) (.block 0 (.loop (.seq (.reg r175_3) (.seq (.cond (.tmp 14) .skip (.exit 0)) (.seq (.block 1 (.seq (.reg r175_4) (.reg r175_5))) (.reg r175_6))))))) (.seq (.reg r175_7) .ret))))
def f175 : TFun := ⟨c175, 26, [.tmp 4]⟩
def r176_0 : List TOper := [⟨(some 1), .box 163 (.tmp 0), 0, none, [], 0⟩,
  ⟨(some 2), .assign (.const (.float .f32 0)), 25, none, [], 1⟩]
def r176_1 : List TOper := [⟨(some 3), .fieldAddr 163 (.tmp 1) 0, 0, none, [], 0⟩,
  ⟨(some 4), .load 3 (.tmp 3), 3, none, [], 1⟩,
  ⟨(some 5), .call ⟨.value (.func 104), #[(.tmp 4)], #[3]⟩, 25, none, [], 2⟩,
  ⟨(some 2), .assign (.tmp 5), 25, none, [], 3⟩]
def c176 : TCode := (.seq (.reg r176_0) (.seq (.reg r176_1) .ret))
def f176 : TFun := ⟨c176, 6, [.tmp 2]⟩
def r177_0 : List TOper := [⟨(some 2), .assign (.const (.slice none 0 0)), 44, none, [], 0⟩]
def r177_1 : List TOper := [⟨(some 3), .assign (.const (.slice none 0 0)), 44, none, [], 0⟩]
def r177_2 : List TOper := [⟨(some 6), .move (.tmp 0), 164, none, [], 0⟩,
  ⟨(some 7), .call ⟨.builtin .len, #[(.tmp 6)], #[164]⟩, 3, none, [], 1⟩,
  ⟨(some 8), .move (.const (.int .i64 0)), 3, none, [], 2⟩]
def r177_3 : List TOper := [⟨(some 9), .binOp .lss 3 (.tmp 8) (.tmp 7) 3, 0, none, [], 0⟩]
def r177_4 : List TOper := [⟨(some 10), .move (.tmp 8), 3, none, [], 0⟩,
  ⟨(some 11), .indexAddr 164 (.tmp 6) (.tmp 8), 0, none, [], 1⟩,
  ⟨(some 12), .load 163 (.tmp 11), 163, none, [], 2⟩,
  ⟨(some 5), .alloc 163, 0, none, [], 3⟩,
  ⟨(some 4), .assign (.tmp 10), 3, none, [], 4⟩,
  ⟨none, .store 163 (.tmp 5) (.tmp 12), 0, none, [], 5⟩]
def r177_5 : List TOper := [⟨(some 21), .fieldAddr 163 (.tmp 5) 1, 0, none, [], 0⟩,
  ⟨(some 22), .load 4 (.tmp 21), 4, none, [], 1⟩,
  ⟨(some 20), .assign (.tmp 22), 4, none, [], 2⟩]
def r177_6 : List TOper := [⟨(some 24), .move (.tmp 4), 3, none, [], 0⟩,
  ⟨(some 25), .binOp .gtr 3 (.tmp 24) (.const (.int .i64 0)) 3, 4, none, [], 1⟩,
  ⟨(some 26), .move (.tmp 25), 4, none, [], 2⟩,
  ⟨(some 27), .move (.tmp 0), 164, (some (26, true)), [], 3⟩,
  ⟨(some 28), .move (.tmp 4), 3, (some (26, true)), [], 4⟩,
  ⟨(some 29), .binOp .sub 3 (.tmp 28) (.const (.int .i64 1)) 3, 3, (some (26, true)), [], 5⟩,
  ⟨(some 30), .indexAddr 164 (.tmp 27) (.tmp 29), 0, (some (26, true)), [], 6⟩,
  ⟨(some 31), .fieldAddr 163 (.tmp 30) 1, 0, (some (26, true)), [], 7⟩,
  ⟨(some 32), .load 4 (.tmp 31), 4, (some (26, true)), [], 8⟩,
  ⟨(some 33), .unOp .not 4 (.tmp 32), 4, (some (26, true)), [], 9⟩,
  ⟨(some 34), .pick (.tmp 26) (.tmp 33) (.const (.bool false)), 4, none, [], 10⟩,
  ⟨(some 23), .assign (.tmp 34), 4, none, [], 11⟩]
def r177_7 : List TOper := [⟨(some 35), .move (.tmp 3), 44, none, [], 0⟩,
  ⟨(some 36), .move (.tmp 3), 44, none, [], 1⟩,
  ⟨(some 37), .call ⟨.builtin .len, #[(.tmp 36)], #[44]⟩, 3, none, [], 2⟩,
  ⟨(some 38), .binOp .sub 3 (.tmp 37) (.const (.int .i64 1)) 3, 3, none, [], 3⟩,
  ⟨(some 39), .move (.tmp 4), 3, none, [], 4⟩,
  ⟨(some 40), .binOp .add 3 (.tmp 39) (.const (.int .i64 1)) 3, 3, none, [], 5⟩,
  ⟨(some 41), .indexAddr 44 (.tmp 35) (.tmp 38), 0, none, [], 6⟩,
  ⟨(some 42), .fieldAddr 48 (.tmp 41) 1, 0, none, [], 7⟩,
  ⟨none, .store 3 (.tmp 42) (.tmp 40), 0, none, [], 8⟩]
def r177_8 : List TOper := [⟨(some 13), .move (.tmp 3), 44, none, [], 0⟩,
  ⟨(some 14), .move (.tmp 4), 3, none, [], 1⟩,
  ⟨(some 15), .move (.tmp 4), 3, none, [], 2⟩,
  ⟨(some 16), .binOp .add 3 (.tmp 15) (.const (.int .i64 1)) 3, 3, none, [], 3⟩,
  ⟨(some 17), .build 48 #[(0, (.tmp 14)), (1, (.tmp 16))], 48, none, [], 4⟩,
  ⟨(some 18), .buildSlice 44 1 #[(0, (.tmp 17))], 44, none, [], 5⟩,
  ⟨(some 19), .call ⟨.builtin .append, #[(.tmp 13), (.tmp 18)], #[44, 44]⟩, 44, none, [], 6⟩,
  ⟨(some 3), .assign (.tmp 19), 44, none, [], 7⟩]
def r177_9 : List TOper := [⟨(some 43), .binOp .add 3 (.tmp 8) (.const (.int .i64 1)) 3, 3, none, [], 0⟩,
  ⟨(some 8), .move (.tmp 43), 3, none, [], 1⟩]
def r177_10 : List TOper := [⟨(some 44), .move (.tmp 3), 44, none, [], 0⟩,
  ⟨(some 2), .assign (.tmp 44), 44, none, [], 1⟩]
def c177 : TCode := (.seq (.reg r177_0) (.seq (.reg r177_1) (.seq (.seq (.reg r177_2) (.block 0 (.loop (.seq (.reg r177_3) (.seq (.cond (.tmp 9) .skip (.exit 0)) (.seq (.block 1 (.seq (.reg r177_4) (.block 2 (.seq (.reg r177_5) (.cond (.tmp 20) .skip (.seq (.reg r177_6) (.cond (.tmp 23) (.reg r177_7) (.reg r177_8)))))))) (.reg r177_9))))))) (.seq (.reg r177_10) .ret))))
def f177 : TFun := ⟨c177, 45, [.tmp 2]⟩
def r179_0 : List TOper := [⟨(some 2), .assign (.const (.float .f32 0)), 25, none, [], 0⟩]
def r179_1 : List TOper := [⟨(some 3), .move (.tmp 0), 3, none, [], 0⟩,
  ⟨(some 4), .convert 3 25 (.tmp 3), 25, none, [], 1⟩,
  ⟨(some 5), .binOp .quo 25 (.tmp 4) (.const (.float .f32 1098907648)) 25, 25, none, [], 2⟩,
  ⟨(some 2), .assign (.tmp 5), 25, none, [], 3⟩]
def c179 : TCode := (.seq (.reg r179_0) (.seq (.reg r179_1) .ret))
def f179 : TFun := ⟨c179, 6, [.tmp 2]⟩
def r180_0 : List TOper := [⟨(some 4), .assign (.const (.int .i64 0)), 30, none, [], 0⟩]
def r180_1 : List TOper := [⟨(some 8), .move (.tmp 0), 43, none, [], 0⟩,
  ⟨(some 9), .call ⟨.builtin .len, #[(.tmp 8)], #[43]⟩, 3, none, [], 1⟩,
  ⟨(some 10), .move (.const (.int .i64 0)), 3, none, [], 2⟩]
def r180_2 : List TOper := [⟨(some 11), .binOp .lss 3 (.tmp 10) (.tmp 9) 3, 0, none, [], 0⟩]
def r180_3 : List TOper := [⟨(some 12), .indexAddr 43 (.tmp 8) (.tmp 10), 0, none, [], 0⟩,
  ⟨(some 13), .load 25 (.tmp 12), 25, none, [], 1⟩,
  ⟨(some 6), .assign (.tmp 13), 25, none, [], 2⟩]
def r180_4 : List TOper := [⟨(some 14), .move (.tmp 1), 40, none, [], 0⟩,
  ⟨(some 15), .move (.tmp 6), 25, none, [], 1⟩,
  ⟨(some 16), .call ⟨.value (.tmp 14), #[(.tmp 15)], #[25]⟩, 30, none, [], 2⟩,
  ⟨(some 7), .assign (.tmp 16), 30, none, [], 3⟩]
def r180_5 : List TOper := [⟨(some 17), .move (.tmp 7), 30, none, [], 0⟩,
  ⟨(some 18), .binOp .neq 30 (.tmp 17) (.const (.int .i64 0)) 30, 4, none, [], 1⟩]
def r180_6 : List TOper := [⟨(some 19), .move (.tmp 7), 30, none, [], 0⟩,
  ⟨(some 4), .assign (.tmp 19), 30, none, [], 1⟩]
def r180_7 : List TOper := [⟨(some 20), .binOp .add 3 (.tmp 10) (.const (.int .i64 1)) 3, 3, none, [], 0⟩,
  ⟨(some 10), .move (.tmp 20), 3, none, [], 1⟩]
def r180_8 : List TOper := [⟨(some 4), .assign (.const (.int .i64 0)), 30, none, [], 0⟩]
def c180 : TCode := (.seq (.reg r180_0) (.seq (.seq (.reg r180_1) (.block 0 (.loop (.seq (.reg r180_2) (.seq (.cond (.tmp 11) .skip (.exit 0)) (.seq (.block 1 (.seq (.reg r180_3) (.seq (.reg r180_4) (.seq (.reg r180_5) (.cond (.tmp 18) (.seq (.reg r180_6) .ret) .skip))))) (.reg r180_7))))))) (.seq (.reg r180_8) .ret)))
def f180 : TFun := ⟨c180, 21, [.tmp 4]⟩
def r181_0 : List TOper := [⟨(some 4), .assign (.const (.bool false)), 4, none, [], 0⟩]
def r181_1 : List TOper := [⟨(some 5), .move (.tmp 0), 164, none, [], 0⟩,
  ⟨(some 6), .move (.tmp 1), 252, none, [], 1⟩,
  ⟨(some 7), .call ⟨.value (.func 214), #[(.tmp 5), (.tmp 6)], #[164, 252]⟩, 3, none, [], 2⟩,
  ⟨(some 8), .binOp .geq 3 (.tmp 7) (.const (.int .i64 0)) 3, 4, none, [], 3⟩,
  ⟨(some 4), .assign (.tmp 8), 4, none, [], 4⟩]
def c181 : TCode := (.seq (.reg r181_0) (.seq (.reg r181_1) .ret))
def f181 : TFun := ⟨c181, 9, [.tmp 4]⟩
def r182_0 : List TOper := [⟨(some 1), .box 163 (.tmp 0), 0, none, [], 0⟩,
  ⟨(some 2), .assign (.const (.bool false)), 4, none, [], 1⟩]
def r182_1 : List TOper := [⟨(some 3), .fieldAddr 163 (.tmp 1) 0, 0, none, [], 0⟩,
  ⟨(some 4), .load 3 (.tmp 3), 3, none, [], 1⟩,
  ⟨(some 5), .binOp .lss 3 (.tmp 4) (.const (.int .i64 (-16384))) 3, 4, none, [], 2⟩,
  ⟨(some 6), .move (.tmp 5), 4, none, [], 3⟩,
  ⟨(some 7), .fieldAddr 163 (.tmp 1) 0, 0, (some (6, false)), [], 4⟩,
  ⟨(some 8), .load 3 (.tmp 7), 3, (some (6, false)), [], 5⟩,
  ⟨(some 9), .binOp .gtr 3 (.tmp 8) (.const (.int .i64 16384)) 3, 4, (some (6, false)), [], 6⟩,
  ⟨(some 10), .pick (.tmp 6) (.const (.bool true)) (.tmp 9), 4, none, [], 7⟩,
  ⟨(some 2), .assign (.tmp 10), 4, none, [], 8⟩]
def c182 : TCode := (.seq (.reg r182_0) (.seq (.reg r182_1) .ret))
def f182 : TFun := ⟨c182, 11, [.tmp 2]⟩
def r183_0 : List TOper := [⟨(some 4), .assign (.const (.int .i64 0)), 3, none, [], 0⟩]
def r183_1 : List TOper := [⟨(some 6), .move (.tmp 0), 3, none, [], 0⟩,
  ⟨(some 7), .move (.tmp 1), 3, none, [], 1⟩,
  ⟨(some 8), .binOp .quo 3 (.tmp 6) (.tmp 7) 3, 3, none, [], 2⟩,
  ⟨(some 5), .assign (.tmp 8), 3, none, [], 3⟩]
def r183_2 : List TOper := [⟨(some 9), .move (.tmp 5), 3, none, [], 0⟩,
  ⟨(some 10), .move (.tmp 1), 3, none, [], 1⟩,
  ⟨(some 11), .binOp .mul 3 (.tmp 9) (.tmp 10) 3, 3, none, [], 2⟩,
  ⟨(some 12), .move (.tmp 0), 3, none, [], 3⟩,
  ⟨(some 13), .binOp .gtr 3 (.tmp 11) (.tmp 12) 3, 4, none, [], 4⟩]
def r183_3 : List TOper := [⟨(some 14), .move (.tmp 5), 3, none, [], 0⟩,
  ⟨(some 15), .binOp .sub 3 (.tmp 14) (.const (.int .i64 1)) 3, 3, none, [], 1⟩,
  ⟨(some 4), .assign (.tmp 15), 3, none, [], 2⟩]
def r183_4 : List TOper := [⟨(some 16), .move (.tmp 5), 3, none, [], 0⟩,
  ⟨(some 4), .assign (.tmp 16), 3, none, [], 1⟩]
def c183 : TCode := (.seq (.reg r183_0) (.seq (.reg r183_1) (.seq (.seq (.reg r183_2) (.cond (.tmp 13) (.seq (.reg r183_3) .ret) .skip)) (.seq (.reg r183_4) .ret))))
def f183 : TFun := ⟨c183, 17, [.tmp 4]⟩
def r184_0 : List TOper := [⟨(some 4), .assign (.const (.slice none 0 0)), 164, none, [], 0⟩]
def r184_1 : List TOper := [⟨(some 5), .move (.tmp 1), 3, none, [], 0⟩,
  ⟨(some 6), .binOp .lss 3 (.tmp 5) (.const (.int .i64 0)) 3, 4, none, [], 1⟩]
def r184_2 : List TOper := [⟨(some 7), .makeInterface 9 (.const (.string ⟨#[99, 97, 110, 110, 111, 116, 32, 98, 101, 32, 110, 101, 103, 97, 116, 105, 118, 101]⟩)), 20, none, [], 0⟩,
  ⟨none, .panic (.tmp 7), 0, none, [], 1⟩]
def r184_3 : List TOper := [⟨(some 8), .move (.tmp 1), 3, none, [], 0⟩,
  ⟨(some 9), .move (.tmp 0), 164, none, [], 1⟩,
  ⟨(some 10), .call ⟨.builtin .cap, #[(.tmp 9)], #[164]⟩, 3, none, [], 2⟩,
  ⟨(some 11), .move (.tmp 0), 164, none, [], 3⟩,
  ⟨(some 12), .call ⟨.builtin .len, #[(.tmp 11)], #[164]⟩, 3, none, [], 4⟩,
  ⟨(some 13), .binOp .sub 3 (.tmp 10) (.tmp 12) 3, 3, none, [], 5⟩,
  ⟨(some 14), .binOp .sub 3 (.tmp 8) (.tmp 13) 3, 3, none, [], 6⟩,
  ⟨(some 1), .assign (.tmp 14), 3, none, [], 7⟩]
def r184_4 : List TOper := [⟨(some 15), .move (.tmp 1), 3, none, [], 0⟩,
  ⟨(some 16), .binOp .gtr 3 (.tmp 15) (.const (.int .i64 0)) 3, 4, none, [], 1⟩]
def r184_5 : List TOper := [⟨(some 17), .move (.tmp 0), 164, none, [], 0⟩,
  ⟨(some 18), .move (.tmp 0), 164, none, [], 1⟩,
  ⟨(some 19), .call ⟨.builtin .cap, #[(.tmp 18)], #[164]⟩, 3, none, [], 2⟩,
  ⟨(some 20), .slice 164 (.tmp 17) none (some (.tmp 19)) none, 164, none, [], 3⟩,
  ⟨(some 21), .move (.tmp 1), 3, none, [], 4⟩,
  ⟨(some 22), .call ⟨.builtin .append, #[(.tmp 20), (.tmp 21)], #[164, 3]⟩, 164, none, [], 5⟩,
  ⟨(some 23), .move (.tmp 0), 164, none, [], 6⟩,
  ⟨(some 24), .call ⟨.builtin .len, #[(.tmp 23)], #[164]⟩, 3, none, [], 7⟩,
  ⟨(some 25), .slice 164 (.tmp 22) none (some (.tmp 24)) none, 164, none, [], 8⟩,
  ⟨(some 0), .assign (.tmp 25), 164, none, [], 9⟩]
def r184_6 : List TOper := [⟨(some 26), .move (.tmp 0), 164, none, [], 0⟩,
  ⟨(some 4), .assign (.tmp 26), 164, none, [], 1⟩]
def c184 : TCode := (.seq (.reg r184_0) (.seq (.seq (.reg r184_1) (.cond (.tmp 6) (.reg r184_2) .skip)) (.seq (.seq (.reg r184_3) (.seq (.reg r184_4) (.cond (.tmp 16) (.reg r184_5) .skip))) (.seq (.reg r184_6) .ret))))
def f184 : TFun := ⟨c184, 27, [.tmp 4]⟩
def r185_0 : List TOper := [⟨(some 3), .move (.tmp 0), 29, none, [], 0⟩,
  ⟨(some 4), .call ⟨.builtin .len, #[(.tmp 3)], #[29]⟩, 3, none, [], 1⟩,
  ⟨(some 2), .assign (.tmp 4), 3, none, [], 2⟩]
def r185_1 : List TOper := [⟨(some 5), .move (.tmp 0), 29, none, [], 0⟩,
  ⟨(some 6), .move (.tmp 2), 3, none, [], 1⟩,
  ⟨(some 7), .move (.tmp 2), 3, none, [], 2⟩,
  ⟨(some 8), .convert 3 259 (.tmp 7), 259, none, [], 3⟩,
  ⟨(some 9), .call ⟨.value (.func 216), #[(.tmp 8)], #[259]⟩, 3, none, [], 4⟩,
  ⟨(some 10), .call ⟨.value (.func 215), #[(.tmp 5), (.const (.int .i64 0)), (.tmp 6), (.tmp 9)], #[29, 3, 3, 3]⟩, 0, none, [], 5⟩]
def c185 : TCode := (.seq (.reg r185_0) (.reg r185_1))
def f185 : TFun := ⟨c185, 11, []⟩
def r186_0 : List TOper := [⟨(some 1), .box 115 (.tmp 0), 0, none, [], 0⟩,
  ⟨(some 2), .assign (.const .nilFunc), 257, none, [], 1⟩]
def r186_1 : List TOper := [⟨(some 3), .makeFunc (.func 217) #[] #[(.tmp 1)], 256, none, [], 0⟩,
  ⟨(some 2), .assign (.tmp 3), 257, none, [], 1⟩]
def c186 : TCode := (.seq (.reg r186_0) (.seq (.reg r186_1) .ret))
def f186 : TFun := ⟨c186, 4, [.tmp 2]⟩
def r187_0 : List TOper := [⟨(some 2), .assign (.const (.int .i64 0)), 3, none, [], 0⟩]
def r187_1 : List TOper := [⟨(some 3), .move (.tmp 0), 3, none, [], 0⟩,
  ⟨(some 4), .binOp .add 3 (.tmp 3) (.const (.int .i64 1)) 3, 3, none, [], 1⟩,
  ⟨(some 5), .binOp .rem 3 (.tmp 4) (.const (.int .i64 65536)) 3, 3, none, [], 2⟩,
  ⟨(some 2), .assign (.tmp 5), 3, none, [], 3⟩]
def c187 : TCode := (.seq (.reg r187_0) (.seq (.reg r187_1) .ret))
def f187 : TFun := ⟨c187, 6, [.tmp 2]⟩
def r189_0 : List TOper := [⟨(some 3), .assign (.const (.int .i64 0)), 3, none, [], 0⟩]
def r189_1 : List TOper := [⟨(some 6), .move (.tmp 3), 3, none, [], 0⟩,
  ⟨(some 7), .binOp .add 3 (.tmp 6) (.const (.int .i64 20)) 3, 3, none, [], 1⟩,
  ⟨(some 8), .load 115 (.tmp 1), 115, none, [], 2⟩,
  ⟨(some 9), .call ⟨.builtin .len, #[(.tmp 8)], #[115]⟩, 3, none, [], 3⟩,
  ⟨(some 10), .binOp .leq 3 (.tmp 7) (.tmp 9) 3, 4, none, [], 4⟩]
def r189_2 : List TOper := [⟨(some 12), .load 115 (.tmp 1), 115, none, [], 0⟩,
  ⟨(some 13), .move (.tmp 3), 3, none, [], 1⟩,
  ⟨(some 14), .move (.tmp 3), 3, none, [], 2⟩,
  ⟨(some 15), .binOp .add 3 (.tmp 14) (.const (.int .i64 20)) 3, 3, none, [], 3⟩,
  ⟨(some 16), .slice 115 (.tmp 12) (some (.tmp 13)) (some (.tmp 15)) none, 115, none, [], 4⟩,
  ⟨(some 17), .sliceToArrayPointer 94 (.tmp 16), 0, none, [], 5⟩,
  ⟨(some 18), .load 94 (.tmp 17), 94, none, [], 6⟩,
  ⟨(some 19), .call ⟨.value (.func 62), #[(.tmp 18)], #[94]⟩, 102, none, [], 7⟩,
  ⟨(some 11), .move (.tmp 19), 102, none, [], 8⟩,
  ⟨(some 20), .extract (.tmp 11) 0, 101, none, [], 9⟩,
  ⟨(some 21), .extract (.tmp 11) 1, 30, none, [], 10⟩,
  ⟨(some 4), .alloc 101, 0, none, [], 11⟩,
  ⟨none, .store 101 (.tmp 4) (.tmp 20), 0, none, [], 12⟩,
  ⟨(some 5), .assign (.tmp 21), 30, none, [], 13⟩]
def r189_3 : List TOper := [⟨(some 22), .move (.tmp 5), 30, none, [], 0⟩,
  ⟨(some 23), .binOp .neq 30 (.tmp 22) (.const (.int .i64 0)) 30, 4, none, [], 1⟩]
def r189_4 : List TOper := [⟨(some 24), .move (.tmp 3), 3, none, [], 0⟩,
  ⟨(some 25), .binOp .add 3 (.tmp 24) (.const (.int .i64 1)) 3, 3, none, [], 1⟩,
  ⟨(some 3), .assign (.tmp 25), 3, none, [], 2⟩]
def r189_5 : List TOper := [⟨(some 26), .move (.tmp 0), 261, none, [], 0⟩,
  ⟨(some 27), .move (.tmp 3), 3, none, [], 1⟩,
  ⟨(some 28), .load 101 (.tmp 4), 101, none, [], 2⟩,
  ⟨(some 29), .call ⟨.value (.tmp 26), #[(.tmp 27), (.tmp 28)], #[3, 101]⟩, 4, none, [], 3⟩,
  ⟨(some 30), .unOp .not 4 (.tmp 29), 4, none, [], 4⟩]
def r189_6 : List TOper := [⟨(some 31), .move (.tmp 3), 3, none, [], 0⟩,
  ⟨(some 32), .binOp .add 3 (.tmp 31) (.const (.int .i64 20)) 3, 3, none, [], 1⟩,
  ⟨(some 3), .assign (.tmp 32), 3, none, [], 2⟩]
def c189 : TCode := (.seq (.reg r189_0) (.block 0 (.loop (.seq (.seq (.reg r189_1) (.cond (.tmp 10) .skip (.exit 0))) (.block 1 (.seq (.reg r189_2) (.seq (.seq (.reg r189_3) (.cond (.tmp 23) (.seq (.reg r189_4) (.exit 1)) .skip)) (.seq (.seq (.reg r189_5) (.cond (.tmp 30) .ret .skip)) (.reg r189_6)))))))))
def f189 : TFun := ⟨c189, 33, []⟩
def r192_0 : List TOper := [⟨(some 2), .move (.tmp 0), 214, none, [], 0⟩,
  ⟨(some 3), .nilCheck (.tmp 2), 0, none, [], 1⟩,
  ⟨(some 4), .fieldAddr 216 (.tmp 3) 0, 0, none, [], 2⟩,
  ⟨(some 5), .load 214 (.tmp 4), 214, none, [], 3⟩,
  ⟨(some 6), .binOp .eql 214 (.tmp 5) (.const (.pointer none)) 214, 4, none, [], 4⟩]
def r192_1 : List TOper := [⟨(some 7), .move (.tmp 0), 214, none, [], 0⟩,
  ⟨(some 8), .move (.tmp 0), 214, none, [], 1⟩,
  ⟨(some 9), .convert 214 296 (.tmp 8), 296, none, [], 2⟩,
  ⟨(some 10), .call ⟨.value (.func 218), #[(.tmp 9)], #[296]⟩, 296, none, [], 3⟩,
  ⟨(some 11), .convert 296 214 (.tmp 10), 214, none, [], 4⟩,
  ⟨(some 12), .nilCheck (.tmp 7), 0, none, [], 5⟩,
  ⟨(some 13), .fieldAddr 216 (.tmp 12) 0, 0, none, [], 6⟩,
  ⟨none, .store 214 (.tmp 13) (.tmp 11), 0, none, [], 7⟩]
def r192_2 : List TOper := [⟨(some 14), .move (.tmp 0), 214, none, [], 0⟩,
  ⟨(some 15), .nilCheck (.tmp 14), 0, none, [], 1⟩,
  ⟨(some 16), .fieldAddr 216 (.tmp 15) 0, 0, none, [], 2⟩,
  ⟨(some 17), .load 214 (.tmp 16), 214, none, [], 3⟩,
  ⟨(some 18), .move (.tmp 0), 214, none, [], 4⟩,
  ⟨(some 19), .binOp .neq 214 (.tmp 17) (.tmp 18) 214, 4, none, [], 5⟩]
def c192 : TCode := (.seq (.reg r192_0) (.cond (.tmp 6) (.reg r192_1) (.seq (.reg r192_2) (.cond (.tmp 19) .bad .skip))))
def f192 : TFun := ⟨c192, 20, []⟩
def r193_0 : List TOper := [⟨(some 4), .assign (.const (.string ⟨#[]⟩)), 9, none, [], 0⟩]
def r193_1 : List TOper := [⟨(some 11), .move (.tmp 0), 225, none, [], 0⟩,
  ⟨(some 12), .call ⟨.builtin .len, #[(.tmp 11)], #[225]⟩, 3, none, [], 1⟩]
def r193_2 : List TOper := [⟨(some 14), .binOp .eql 3 (.tmp 12) (.const (.int .i64 0)) 3, 4, none, [], 0⟩,
  ⟨(some 13), .assign (.tmp 14), 4, none, [], 1⟩]
def r193_3 : List TOper := [⟨(some 4), .assign (.const (.string ⟨#[]⟩)), 9, none, [], 0⟩]
def r193_4 : List TOper := [⟨(some 16), .binOp .eql 3 (.tmp 12) (.const (.int .i64 1)) 3, 4, none, [], 0⟩,
  ⟨(some 15), .assign (.tmp 16), 4, none, [], 1⟩]
def r193_5 : List TOper := [⟨(some 17), .move (.tmp 0), 225, none, [], 0⟩,
  ⟨(some 18), .indexAddr 225 (.tmp 17) (.const (.int .i64 0)), 0, none, [], 1⟩,
  ⟨(some 19), .load 9 (.tmp 18), 9, none, [], 2⟩,
  ⟨(some 4), .assign (.tmp 19), 9, none, [], 3⟩]
def r193_6 : List TOper := [⟨(some 5), .assign (.const (.int .i64 0)), 3, none, [], 0⟩]
def r193_7 : List TOper := [⟨(some 20), .move (.tmp 1), 9, none, [], 0⟩,
  ⟨(some 21), .call ⟨.builtin .len, #[(.tmp 20)], #[9]⟩, 3, none, [], 1⟩,
  ⟨(some 22), .binOp .gtr 3 (.tmp 21) (.const (.int .i64 0)) 3, 4, none, [], 2⟩]
def r193_8 : List TOper := [⟨(some 23), .move (.tmp 1), 9, none, [], 0⟩,
  ⟨(some 24), .call ⟨.builtin .len, #[(.tmp 23)], #[9]⟩, 3, none, [], 1⟩,
  ⟨(some 25), .move (.tmp 0), 225, none, [], 2⟩,
  ⟨(some 26), .call ⟨.builtin .len, #[(.tmp 25)], #[225]⟩, 3, none, [], 3⟩,
  ⟨(some 27), .binOp .sub 3 (.tmp 26) (.const (.int .i64 1)) 3, 3, none, [], 4⟩,
  ⟨(some 28), .binOp .quo 3 (.const (.int .i64 9223372036854775807)) (.tmp 27) 3, 3, none, [], 5⟩,
  ⟨(some 29), .binOp .geq 3 (.tmp 24) (.tmp 28) 3, 4, none, [], 6⟩]
def r193_9 : List TOper := [⟨(some 30), .makeInterface 9 (.const (.string ⟨#[115, 116, 114, 105, 110, 103, 115, 58, 32, 74, 111, 105, 110, 32, 111, 117, 116, 112, 117, 116, 32, 108, 101, 110, 103, 116, 104, 32, 111, 118, 101, 114, 102, 108, 111, 119]⟩)), 20, none, [], 0⟩,
  ⟨none, .panic (.tmp 30), 0, none, [], 1⟩]
def r193_10 : List TOper := [⟨(some 31), .move (.tmp 5), 3, none, [], 0⟩,
  ⟨(some 32), .move (.tmp 1), 9, none, [], 1⟩,
  ⟨(some 33), .call ⟨.builtin .len, #[(.tmp 32)], #[9]⟩, 3, none, [], 2⟩,
  ⟨(some 34), .move (.tmp 0), 225, none, [], 3⟩,
  ⟨(some 35), .call ⟨.builtin .len, #[(.tmp 34)], #[225]⟩, 3, none, [], 4⟩,
  ⟨(some 36), .binOp .sub 3 (.tmp 35) (.const (.int .i64 1)) 3, 3, none, [], 5⟩,
  ⟨(some 37), .binOp .mul 3 (.tmp 33) (.tmp 36) 3, 3, none, [], 6⟩,
  ⟨(some 38), .binOp .add 3 (.tmp 31) (.tmp 37) 3, 3, none, [], 7⟩,
  ⟨(some 5), .assign (.tmp 38), 3, none, [], 8⟩]
def r193_11 : List TOper := [⟨(some 39), .move (.tmp 0), 225, none, [], 0⟩,
  ⟨(some 40), .call ⟨.builtin .len, #[(.tmp 39)], #[225]⟩, 3, none, [], 1⟩,
  ⟨(some 41), .move (.const (.int .i64 0)), 3, none, [], 2⟩]
def r193_12 : List TOper := [⟨(some 42), .binOp .lss 3 (.tmp 41) (.tmp 40) 3, 0, none, [], 0⟩]
def r193_13 : List TOper := [⟨(some 43), .indexAddr 225 (.tmp 39) (.tmp 41), 0, none, [], 0⟩,
  ⟨(some 44), .load 9 (.tmp 43), 9, none, [], 1⟩,
  ⟨(some 7), .assign (.tmp 44), 9, none, [], 2⟩]
def r193_14 : List TOper := [⟨(some 45), .move (.tmp 7), 9, none, [], 0⟩,
  ⟨(some 46), .call ⟨.builtin .len, #[(.tmp 45)], #[9]⟩, 3, none, [], 1⟩,
  ⟨(some 47), .move (.tmp 5), 3, none, [], 2⟩,
  ⟨(some 48), .binOp .sub 3 (.const (.int .i64 9223372036854775807)) (.tmp 47) 3, 3, none, [], 3⟩,
  ⟨(some 49), .binOp .gtr 3 (.tmp 46) (.tmp 48) 3, 4, none, [], 4⟩]
def r193_15 : List TOper := [⟨(some 50), .makeInterface 9 (.const (.string ⟨#[115, 116, 114, 105, 110, 103, 115, 58, 32, 74, 111, 105, 110, 32, 111, 117, 116, 112, 117, 116, 32, 108, 101, 110, 103, 116, 104, 32, 111, 118, 101, 114, 102, 108, 111, 119]⟩)), 20, none, [], 0⟩,
  ⟨none, .panic (.tmp 50), 0, none, [], 1⟩]
def r193_16 : List TOper := [⟨(some 51), .move (.tmp 5), 3, none, [], 0⟩,
  ⟨(some 52), .move (.tmp 7), 9, none, [], 1⟩,
  ⟨(some 53), .call ⟨.builtin .len, #[(.tmp 52)], #[9]⟩, 3, none, [], 2⟩,
  ⟨(some 54), .binOp .add 3 (.tmp 51) (.tmp 53) 3, 3, none, [], 3⟩,
  ⟨(some 5), .assign (.tmp 54), 3, none, [], 4⟩]
def r193_17 : List TOper := [⟨(some 55), .binOp .add 3 (.tmp 41) (.const (.int .i64 1)) 3, 3, none, [], 0⟩,
  ⟨(some 41), .move (.tmp 55), 3, none, [], 1⟩]
def r193_18 : List TOper := [⟨(some 8), .alloc 216, 0, none, [], 0⟩]
def r193_19 : List TOper := [⟨(some 56), .move (.tmp 5), 3, none, [], 0⟩,
  ⟨(some 57), .call ⟨.value (.func 219), #[(.tmp 8), (.tmp 56)], #[216, 3]⟩, 0, none, [], 1⟩]
def r193_20 : List TOper := [⟨(some 58), .move (.tmp 0), 225, none, [], 0⟩,
  ⟨(some 59), .indexAddr 225 (.tmp 58) (.const (.int .i64 0)), 0, none, [], 1⟩,
  ⟨(some 60), .load 9 (.tmp 59), 9, none, [], 2⟩,
  ⟨(some 61), .call ⟨.value (.func 154), #[(.tmp 8), (.tmp 60)], #[216, 9]⟩, 219, none, [], 3⟩]
def r193_21 : List TOper := [⟨(some 62), .move (.tmp 0), 225, none, [], 0⟩,
  ⟨(some 63), .slice 225 (.tmp 62) (some (.const (.int .i64 1))) none none, 225, none, [], 1⟩,
  ⟨(some 64), .call ⟨.builtin .len, #[(.tmp 63)], #[225]⟩, 3, none, [], 2⟩,
  ⟨(some 65), .move (.const (.int .i64 0)), 3, none, [], 3⟩]
def r193_22 : List TOper := [⟨(some 66), .binOp .lss 3 (.tmp 65) (.tmp 64) 3, 0, none, [], 0⟩]
def r193_23 : List TOper := [⟨(some 67), .indexAddr 225 (.tmp 63) (.tmp 65), 0, none, [], 0⟩,
  ⟨(some 68), .load 9 (.tmp 67), 9, none, [], 1⟩,
  ⟨(some 10), .assign (.tmp 68), 9, none, [], 2⟩]
def r193_24 : List TOper := [⟨(some 69), .move (.tmp 1), 9, none, [], 0⟩,
  ⟨(some 70), .call ⟨.value (.func 154), #[(.tmp 8), (.tmp 69)], #[216, 9]⟩, 219, none, [], 1⟩]
def r193_25 : List TOper := [⟨(some 71), .move (.tmp 10), 9, none, [], 0⟩,
  ⟨(some 72), .call ⟨.value (.func 154), #[(.tmp 8), (.tmp 71)], #[216, 9]⟩, 219, none, [], 1⟩]
def r193_26 : List TOper := [⟨(some 73), .binOp .add 3 (.tmp 65) (.const (.int .i64 1)) 3, 3, none, [], 0⟩,
  ⟨(some 65), .move (.tmp 73), 3, none, [], 1⟩]
def r193_27 : List TOper := [⟨(some 74), .call ⟨.value (.func 158), #[(.tmp 8)], #[216]⟩, 9, none, [], 0⟩,
  ⟨(some 4), .assign (.tmp 74), 9, none, [], 1⟩]
def c193 : TCode := (.seq (.reg r193_0) (.seq (.seq (.reg r193_1) (.block 0 (.seq (.reg r193_2) (.cond (.tmp 13) (.seq (.reg r193_3) .ret) (.seq (.reg r193_4) (.cond (.tmp 15) (.seq (.reg r193_5) .ret) .skip)))))) (.seq (.reg r193_6) (.seq (.seq (.reg r193_7) (.cond (.tmp 22) (.seq (.seq (.reg r193_8) (.cond (.tmp 29) (.reg r193_9) .skip)) (.reg r193_10)) .skip)) (.seq (.seq (.reg r193_11) (.block 1 (.loop (.seq (.reg r193_12) (.seq (.cond (.tmp 42) .skip (.exit 1)) (.seq (.block 2 (.seq (.reg r193_13) (.seq (.seq (.reg r193_14) (.cond (.tmp 49) (.reg r193_15) .skip)) (.reg r193_16)))) (.reg r193_17))))))) (.seq (.reg r193_18) (.seq (.reg r193_19) (.seq (.reg r193_20) (.seq (.seq (.reg r193_21) (.block 3 (.loop (.seq (.reg r193_22) (.seq (.cond (.tmp 66) .skip (.exit 3)) (.seq (.block 4 (.seq (.reg r193_23) (.seq (.reg r193_24) (.reg r193_25)))) (.reg r193_26))))))) (.seq (.reg r193_27) .ret))))))))))
def f193 : TFun := ⟨c193, 75, [.tmp 4]⟩
def r194_0 : List TOper := [⟨(some 2), .assign (.const (.string ⟨#[]⟩)), 9, none, [], 0⟩]
def r194_1 : List TOper := [⟨(some 3), .move (.tmp 0), 3, none, [], 0⟩,
  ⟨(some 4), .call ⟨.value (.func 220), #[(.tmp 3), (.const (.int .i64 10))], #[2, 3]⟩, 9, none, [], 1⟩,
  ⟨(some 2), .assign (.tmp 4), 9, none, [], 2⟩]
def c194 : TCode := (.seq (.reg r194_0) (.seq (.reg r194_1) .ret))
def f194 : TFun := ⟨c194, 5, [.tmp 2]⟩
def r195_0 : List TOper := [⟨(some 4), .assign (.const (.slice none 0 0)), 225, none, [], 0⟩]
def r195_1 : List TOper := [⟨(some 8), .move (.tmp 0), 43, none, [], 0⟩,
  ⟨(some 9), .call ⟨.builtin .len, #[(.tmp 8)], #[43]⟩, 3, none, [], 1⟩,
  ⟨(some 10), .makeSlice 225 (.tmp 9) (.tmp 9), 225, none, [], 2⟩,
  ⟨(some 5), .assign (.tmp 10), 225, none, [], 3⟩]
def r195_2 : List TOper := [⟨(some 11), .move (.tmp 0), 43, none, [], 0⟩,
  ⟨(some 12), .call ⟨.builtin .len, #[(.tmp 11)], #[43]⟩, 3, none, [], 1⟩,
  ⟨(some 13), .move (.const (.int .i64 0)), 3, none, [], 2⟩]
def r195_3 : List TOper := [⟨(some 14), .binOp .lss 3 (.tmp 13) (.tmp 12) 3, 0, none, [], 0⟩]
def r195_4 : List TOper := [⟨(some 15), .move (.tmp 13), 3, none, [], 0⟩,
  ⟨(some 16), .indexAddr 43 (.tmp 11) (.tmp 13), 0, none, [], 1⟩,
  ⟨(some 17), .load 25 (.tmp 16), 25, none, [], 2⟩,
  ⟨(some 6), .assign (.tmp 15), 3, none, [], 3⟩,
  ⟨(some 7), .assign (.tmp 17), 25, none, [], 4⟩]
def r195_5 : List TOper := [⟨(some 18), .move (.tmp 5), 225, none, [], 0⟩,
  ⟨(some 19), .move (.tmp 6), 3, none, [], 1⟩,
  ⟨(some 20), .move (.tmp 1), 266, none, [], 2⟩,
  ⟨(some 21), .move (.tmp 7), 25, none, [], 3⟩,
  ⟨(some 22), .call ⟨.value (.tmp 20), #[(.tmp 21)], #[25]⟩, 9, none, [], 4⟩,
  ⟨(some 23), .indexAddr 225 (.tmp 18) (.tmp 19), 0, none, [], 5⟩,
  ⟨none, .store 9 (.tmp 23) (.tmp 22), 0, none, [], 6⟩]
def r195_6 : List TOper := [⟨(some 24), .binOp .add 3 (.tmp 13) (.const (.int .i64 1)) 3, 3, none, [], 0⟩,
  ⟨(some 13), .move (.tmp 24), 3, none, [], 1⟩]
def r195_7 : List TOper := [⟨(some 25), .move (.tmp 5), 225, none, [], 0⟩,
  ⟨(some 4), .assign (.tmp 25), 225, none, [], 1⟩]
def c195 : TCode := (.seq (.reg r195_0) (.seq (.reg r195_1) (.seq (.seq (.reg r195_2) (.block 0 (.loop (.seq (.reg r195_3) (.seq (.cond (.tmp 14) .skip (.exit 0)) (.seq (.block 1 (.seq (.reg r195_4) (.reg r195_5))) (.reg r195_6))))))) (.seq (.reg r195_7) .ret))))
def f195 : TFun := ⟨c195, 26, [.tmp 4]⟩
def r196_0 : List TOper := [⟨(some 2), .assign (.const (.string ⟨#[]⟩)), 9, none, [], 0⟩]
def r196_1 : List TOper := [⟨(some 3), .move (.tmp 0), 25, none, [], 0⟩,
  ⟨(some 4), .call ⟨.value (.func 129), #[(.tmp 3)], #[25]⟩, 3, none, [], 1⟩,
  ⟨(some 5), .call ⟨.value (.func 156), #[(.tmp 4)], #[3]⟩, 9, none, [], 2⟩,
  ⟨(some 2), .assign (.tmp 5), 9, none, [], 3⟩]
def c196 : TCode := (.seq (.reg r196_0) (.seq (.reg r196_1) .ret))
def f196 : TFun := ⟨c196, 6, [.tmp 2]⟩
def r214_0 : List TOper := [⟨(some 4), .assign (.const (.int .i64 0)), 3, none, [], 0⟩]
def r214_1 : List TOper := [⟨(some 6), .move (.tmp 0), 164, none, [], 0⟩,
  ⟨(some 7), .call ⟨.builtin .len, #[(.tmp 6)], #[164]⟩, 3, none, [], 1⟩,
  ⟨(some 8), .move (.const (.int .i64 0)), 3, none, [], 2⟩]
def r214_2 : List TOper := [⟨(some 9), .binOp .lss 3 (.tmp 8) (.tmp 7) 3, 0, none, [], 0⟩]
def r214_3 : List TOper := [⟨(some 10), .move (.tmp 8), 3, none, [], 0⟩,
  ⟨(some 5), .assign (.tmp 10), 3, none, [], 1⟩]
def r214_4 : List TOper := [⟨(some 11), .move (.tmp 1), 252, none, [], 0⟩,
  ⟨(some 12), .move (.tmp 0), 164, none, [], 1⟩,
  ⟨(some 13), .move (.tmp 5), 3, none, [], 2⟩,
  ⟨(some 14), .indexAddr 164 (.tmp 12) (.tmp 13), 0, none, [], 3⟩,
  ⟨(some 15), .load 163 (.tmp 14), 163, none, [], 4⟩,
  ⟨(some 16), .call ⟨.value (.tmp 11), #[(.tmp 15)], #[163]⟩, 4, none, [], 5⟩]
def r214_5 : List TOper := [⟨(some 17), .move (.tmp 5), 3, none, [], 0⟩,
  ⟨(some 4), .assign (.tmp 17), 3, none, [], 1⟩]
def r214_6 : List TOper := [⟨(some 18), .binOp .add 3 (.tmp 8) (.const (.int .i64 1)) 3, 3, none, [], 0⟩,
  ⟨(some 8), .move (.tmp 18), 3, none, [], 1⟩]
def r214_7 : List TOper := [⟨(some 4), .assign (.const (.int .i64 (-1))), 3, none, [], 0⟩]
def c214 : TCode := (.seq (.reg r214_0) (.seq (.seq (.reg r214_1) (.block 0 (.loop (.seq (.reg r214_2) (.seq (.cond (.tmp 9) .skip (.exit 0)) (.seq (.block 1 (.seq (.reg r214_3) (.seq (.reg r214_4) (.cond (.tmp 16) (.seq (.reg r214_5) .ret) .skip)))) (.reg r214_6))))))) (.seq (.reg r214_7) .ret)))
def f214 : TFun := ⟨c214, 19, [.tmp 4]⟩
def r215_0 : List TOper := [⟨(some 8), .assign (.const (.bool true)), 4, none, [], 0⟩]
def r215_1 : List TOper := [⟨(some 9), .assign (.const (.bool true)), 4, none, [], 0⟩]
def r215_2 : List TOper := [⟨(some 19), .move (.tmp 2), 3, none, [], 0⟩,
  ⟨(some 20), .move (.tmp 1), 3, none, [], 1⟩,
  ⟨(some 21), .binOp .sub 3 (.tmp 19) (.tmp 20) 3, 3, none, [], 2⟩,
  ⟨(some 10), .assign (.tmp 21), 3, none, [], 3⟩]
def r215_3 : List TOper := [⟨(some 22), .move (.tmp 10), 3, none, [], 0⟩,
  ⟨(some 23), .binOp .leq 3 (.tmp 22) (.const (.int .i64 12)) 3, 4, none, [], 1⟩]
def r215_4 : List TOper := [⟨(some 24), .move (.tmp 0), 29, none, [], 0⟩,
  ⟨(some 25), .move (.tmp 1), 3, none, [], 1⟩,
  ⟨(some 26), .move (.tmp 2), 3, none, [], 2⟩,
  ⟨(some 27), .call ⟨.value (.func 229), #[(.tmp 24), (.tmp 25), (.tmp 26)], #[29, 3, 3]⟩, 0, none, [], 3⟩]
def r215_5 : List TOper := [⟨(some 28), .move (.tmp 3), 3, none, [], 0⟩,
  ⟨(some 29), .binOp .eql 3 (.tmp 28) (.const (.int .i64 0)) 3, 4, none, [], 1⟩]
def r215_6 : List TOper := [⟨(some 30), .move (.tmp 0), 29, none, [], 0⟩,
  ⟨(some 31), .move (.tmp 1), 3, none, [], 1⟩,
  ⟨(some 32), .move (.tmp 2), 3, none, [], 2⟩,
  ⟨(some 33), .call ⟨.value (.func 230), #[(.tmp 30), (.tmp 31), (.tmp 32)], #[29, 3, 3]⟩, 0, none, [], 3⟩]
def r215_7 : List TOper := [⟨(some 34), .move (.tmp 8), 4, none, [], 0⟩,
  ⟨(some 35), .unOp .not 4 (.tmp 34), 4, none, [], 1⟩]
def r215_8 : List TOper := [⟨(some 36), .move (.tmp 0), 29, none, [], 0⟩,
  ⟨(some 37), .move (.tmp 1), 3, none, [], 1⟩,
  ⟨(some 38), .move (.tmp 2), 3, none, [], 2⟩,
  ⟨(some 39), .call ⟨.value (.func 231), #[(.tmp 36), (.tmp 37), (.tmp 38)], #[29, 3, 3]⟩, 0, none, [], 3⟩]
def r215_9 : List TOper := [⟨(some 40), .move (.tmp 3), 3, none, [], 0⟩,
  ⟨(some 41), .binOp .sub 3 (.tmp 40) (.const (.int .i64 1)) 3, 3, none, [], 1⟩,
  ⟨(some 3), .assign (.tmp 41), 3, none, [], 2⟩]
def r215_10 : List TOper := [⟨(some 43), .move (.tmp 0), 29, none, [], 0⟩,
  ⟨(some 44), .move (.tmp 1), 3, none, [], 1⟩,
  ⟨(some 45), .move (.tmp 2), 3, none, [], 2⟩,
  ⟨(some 46), .call ⟨.value (.func 232), #[(.tmp 43), (.tmp 44), (.tmp 45)], #[29, 3, 3]⟩, 308, none, [], 3⟩,
  ⟨(some 42), .move (.tmp 46), 308, none, [], 4⟩,
  ⟨(some 47), .extract (.tmp 42) 0, 3, none, [], 5⟩,
  ⟨(some 48), .extract (.tmp 42) 1, 307, none, [], 6⟩,
  ⟨(some 11), .assign (.tmp 47), 3, none, [], 7⟩,
  ⟨(some 12), .assign (.tmp 48), 307, none, [], 8⟩]
def r215_11 : List TOper := [⟨(some 49), .move (.tmp 12), 307, none, [], 0⟩,
  ⟨(some 50), .binOp .eql 307 (.tmp 49) (.const (.int .i64 2)) 307, 4, none, [], 1⟩]
def r215_12 : List TOper := [⟨(some 51), .move (.tmp 0), 29, none, [], 0⟩,
  ⟨(some 52), .move (.tmp 1), 3, none, [], 1⟩,
  ⟨(some 53), .move (.tmp 2), 3, none, [], 2⟩,
  ⟨(some 54), .call ⟨.value (.func 233), #[(.tmp 51), (.tmp 52), (.tmp 53)], #[29, 3, 3]⟩, 0, none, [], 3⟩]
def r215_13 : List TOper := [⟨(some 55), .move (.tmp 2), 3, none, [], 0⟩,
  ⟨(some 56), .binOp .sub 3 (.tmp 55) (.const (.int .i64 1)) 3, 3, none, [], 1⟩,
  ⟨(some 57), .move (.tmp 11), 3, none, [], 2⟩,
  ⟨(some 58), .move (.tmp 1), 3, none, [], 3⟩,
  ⟨(some 59), .binOp .sub 3 (.tmp 57) (.tmp 58) 3, 3, none, [], 4⟩,
  ⟨(some 60), .binOp .sub 3 (.tmp 56) (.tmp 59) 3, 3, none, [], 5⟩,
  ⟨(some 11), .assign (.tmp 60), 3, none, [], 6⟩]
def r215_14 : List TOper := [⟨(some 12), .assign (.const (.int .i64 1)), 307, none, [], 0⟩]
def r215_15 : List TOper := [⟨(some 61), .move (.tmp 8), 4, none, [], 0⟩,
  ⟨(some 62), .move (.tmp 61), 4, none, [], 1⟩,
  ⟨(some 63), .move (.tmp 9), 4, (some (62, true)), [], 2⟩,
  ⟨(some 64), .pick (.tmp 62) (.tmp 63) (.const (.bool false)), 4, none, [], 3⟩,
  ⟨(some 65), .move (.tmp 64), 4, none, [], 4⟩,
  ⟨(some 66), .move (.tmp 12), 307, (some (65, true)), [], 5⟩,
  ⟨(some 67), .binOp .eql 307 (.tmp 66) (.const (.int .i64 1)) 307, 4, (some (65, true)), [], 6⟩,
  ⟨(some 68), .pick (.tmp 65) (.tmp 67) (.const (.bool false)), 4, none, [], 7⟩]
def r215_16 : List TOper := [⟨(some 69), .move (.tmp 0), 29, none, [], 0⟩,
  ⟨(some 70), .move (.tmp 1), 3, none, [], 1⟩,
  ⟨(some 71), .move (.tmp 2), 3, none, [], 2⟩,
  ⟨(some 72), .call ⟨.value (.func 234), #[(.tmp 69), (.tmp 70), (.tmp 71)], #[29, 3, 3]⟩, 4, none, [], 3⟩]
def r215_17 : List TOper := [⟨(some 73), .move (.tmp 1), 3, none, [], 0⟩,
  ⟨(some 74), .binOp .gtr 3 (.tmp 73) (.const (.int .i64 0)) 3, 4, none, [], 1⟩,
  ⟨(some 75), .move (.tmp 74), 4, none, [], 2⟩,
  ⟨(some 76), .move (.tmp 0), 29, (some (75, true)), [], 3⟩,
  ⟨(some 77), .move (.tmp 1), 3, (some (75, true)), [], 4⟩,
  ⟨(some 78), .binOp .sub 3 (.tmp 77) (.const (.int .i64 1)) 3, 3, (some (75, true)), [], 5⟩,
  ⟨(some 79), .indexAddr 29 (.tmp 76) (.tmp 78), 0, (some (75, true)), [], 6⟩,
  ⟨(some 80), .load 3 (.tmp 79), 3, (some (75, true)), [], 7⟩,
  ⟨(some 81), .move (.tmp 0), 29, (some (75, true)), [], 8⟩,
  ⟨(some 82), .move (.tmp 11), 3, (some (75, true)), [], 9⟩,
  ⟨(some 83), .indexAddr 29 (.tmp 81) (.tmp 82), 0, (some (75, true)), [], 10⟩,
  ⟨(some 84), .load 3 (.tmp 83), 3, (some (75, true)), [], 11⟩,
  ⟨(some 85), .call ⟨.value (.func 235), #[(.tmp 80), (.tmp 84)], #[3, 3]⟩, 4, (some (75, true)), [], 12⟩,
  ⟨(some 86), .unOp .not 4 (.tmp 85), 4, (some (75, true)), [], 13⟩,
  ⟨(some 87), .pick (.tmp 75) (.tmp 86) (.const (.bool false)), 4, none, [], 14⟩]
def r215_18 : List TOper := [⟨(some 88), .move (.tmp 0), 29, none, [], 0⟩,
  ⟨(some 89), .move (.tmp 1), 3, none, [], 1⟩,
  ⟨(some 90), .move (.tmp 2), 3, none, [], 2⟩,
  ⟨(some 91), .move (.tmp 11), 3, none, [], 3⟩,
  ⟨(some 92), .call ⟨.value (.func 236), #[(.tmp 88), (.tmp 89), (.tmp 90), (.tmp 91)], #[29, 3, 3, 3]⟩, 3, none, [], 4⟩,
  ⟨(some 13), .assign (.tmp 92), 3, none, [], 5⟩]
def r215_19 : List TOper := [⟨(some 93), .move (.tmp 13), 3, none, [], 0⟩,
  ⟨(some 1), .assign (.tmp 93), 3, none, [], 1⟩]
def r215_20 : List TOper := [⟨(some 95), .move (.tmp 0), 29, none, [], 0⟩,
  ⟨(some 96), .move (.tmp 1), 3, none, [], 1⟩,
  ⟨(some 97), .move (.tmp 2), 3, none, [], 2⟩,
  ⟨(some 98), .move (.tmp 11), 3, none, [], 3⟩,
  ⟨(some 99), .call ⟨.value (.func 237), #[(.tmp 95), (.tmp 96), (.tmp 97), (.tmp 98)], #[29, 3, 3, 3]⟩, 190, none, [], 4⟩,
  ⟨(some 94), .move (.tmp 99), 190, none, [], 5⟩,
  ⟨(some 100), .extract (.tmp 94) 0, 3, none, [], 6⟩,
  ⟨(some 101), .extract (.tmp 94) 1, 4, none, [], 7⟩,
  ⟨(some 14), .assign (.tmp 100), 3, none, [], 8⟩,
  ⟨(some 15), .assign (.tmp 101), 4, none, [], 9⟩]
def r215_21 : List TOper := [⟨(some 102), .move (.tmp 15), 4, none, [], 0⟩,
  ⟨(some 9), .assign (.tmp 102), 4, none, [], 1⟩]
def r215_22 : List TOper := [⟨(some 103), .move (.tmp 14), 3, none, [], 0⟩,
  ⟨(some 104), .move (.tmp 1), 3, none, [], 1⟩,
  ⟨(some 105), .binOp .sub 3 (.tmp 103) (.tmp 104) 3, 3, none, [], 2⟩,
  ⟨(some 106), .move (.tmp 2), 3, none, [], 3⟩,
  ⟨(some 107), .move (.tmp 14), 3, none, [], 4⟩,
  ⟨(some 108), .binOp .sub 3 (.tmp 106) (.tmp 107) 3, 3, none, [], 5⟩,
  ⟨(some 16), .assign (.tmp 105), 3, none, [], 6⟩,
  ⟨(some 17), .assign (.tmp 108), 3, none, [], 7⟩]
def r215_23 : List TOper := [⟨(some 109), .move (.tmp 10), 3, none, [], 0⟩,
  ⟨(some 110), .binOp .quo 3 (.tmp 109) (.const (.int .i64 8)) 3, 3, none, [], 1⟩,
  ⟨(some 18), .assign (.tmp 110), 3, none, [], 2⟩]
def r215_24 : List TOper := [⟨(some 111), .move (.tmp 16), 3, none, [], 0⟩,
  ⟨(some 112), .move (.tmp 17), 3, none, [], 1⟩,
  ⟨(some 113), .binOp .lss 3 (.tmp 111) (.tmp 112) 3, 4, none, [], 2⟩]
def r215_25 : List TOper := [⟨(some 114), .move (.tmp 16), 3, none, [], 0⟩,
  ⟨(some 115), .move (.tmp 18), 3, none, [], 1⟩,
  ⟨(some 116), .binOp .geq 3 (.tmp 114) (.tmp 115) 3, 4, none, [], 2⟩,
  ⟨(some 8), .assign (.tmp 116), 4, none, [], 3⟩]
def r215_26 : List TOper := [⟨(some 117), .move (.tmp 0), 29, none, [], 0⟩,
  ⟨(some 118), .move (.tmp 1), 3, none, [], 1⟩,
  ⟨(some 119), .move (.tmp 14), 3, none, [], 2⟩,
  ⟨(some 120), .move (.tmp 3), 3, none, [], 3⟩,
  ⟨(some 121), .call ⟨.value (.func 215), #[(.tmp 117), (.tmp 118), (.tmp 119), (.tmp 120)], #[29, 3, 3, 3]⟩, 0, none, [], 4⟩]
def r215_27 : List TOper := [⟨(some 122), .move (.tmp 14), 3, none, [], 0⟩,
  ⟨(some 123), .binOp .add 3 (.tmp 122) (.const (.int .i64 1)) 3, 3, none, [], 1⟩,
  ⟨(some 1), .assign (.tmp 123), 3, none, [], 2⟩]
def r215_28 : List TOper := [⟨(some 124), .move (.tmp 17), 3, none, [], 0⟩,
  ⟨(some 125), .move (.tmp 18), 3, none, [], 1⟩,
  ⟨(some 126), .binOp .geq 3 (.tmp 124) (.tmp 125) 3, 4, none, [], 2⟩,
  ⟨(some 8), .assign (.tmp 126), 4, none, [], 3⟩]
def r215_29 : List TOper := [⟨(some 127), .move (.tmp 0), 29, none, [], 0⟩,
  ⟨(some 128), .move (.tmp 14), 3, none, [], 1⟩,
  ⟨(some 129), .binOp .add 3 (.tmp 128) (.const (.int .i64 1)) 3, 3, none, [], 2⟩,
  ⟨(some 130), .move (.tmp 2), 3, none, [], 3⟩,
  ⟨(some 131), .move (.tmp 3), 3, none, [], 4⟩,
  ⟨(some 132), .call ⟨.value (.func 215), #[(.tmp 127), (.tmp 129), (.tmp 130), (.tmp 131)], #[29, 3, 3, 3]⟩, 0, none, [], 5⟩]
def r215_30 : List TOper := [⟨(some 133), .move (.tmp 14), 3, none, [], 0⟩,
  ⟨(some 2), .assign (.tmp 133), 3, none, [], 1⟩]
def c215 : TCode := (.seq (.reg r215_0) (.seq (.reg r215_1) (.block 0 (.loop (.block 1 (.seq (.reg r215_2) (.seq (.seq (.reg r215_3) (.cond (.tmp 23) (.seq (.reg r215_4) .ret) .skip)) (.seq (.seq (.reg r215_5) (.cond (.tmp 29) (.seq (.reg r215_6) .ret) .skip)) (.seq (.seq (.reg r215_7) (.cond (.tmp 35) (.seq (.reg r215_8) (.reg r215_9)) .skip)) (.seq (.reg r215_10) (.seq (.seq (.reg r215_11) (.cond (.tmp 50) (.seq (.reg r215_12) (.seq (.reg r215_13) (.reg r215_14))) .skip)) (.seq (.seq (.reg r215_15) (.cond (.tmp 68) (.seq (.reg r215_16) (.cond (.tmp 72) .ret .skip)) .skip)) (.seq (.seq (.reg r215_17) (.cond (.tmp 87) (.seq (.reg r215_18) (.seq (.reg r215_19) (.exit 1))) .skip)) (.seq (.reg r215_20) (.seq (.reg r215_21) (.seq (.reg r215_22) (.seq (.reg r215_23) (.seq (.reg r215_24) (.cond (.tmp 113) (.seq (.reg r215_25) (.seq (.reg r215_26) (.reg r215_27))) (.seq (.reg r215_28) (.seq (.reg r215_29) (.reg r215_30))))))))))))))))))))))
def f215 : TFun := ⟨c215, 134, []⟩
def r216_0 : List TOper := [⟨(some 2), .assign (.const (.int .i64 0)), 3, none, [], 0⟩]
def r216_1 : List TOper := [⟨(some 3), .move (.tmp 0), 259, none, [], 0⟩,
  ⟨(some 4), .convert 259 202 (.tmp 3), 202, none, [], 1⟩,
  ⟨(some 5), .call ⟨.value (.func 238), #[(.tmp 4)], #[202]⟩, 3, none, [], 2⟩,
  ⟨(some 2), .assign (.tmp 5), 3, none, [], 3⟩]
def r216_2 : List TOper := [⟨(some 6), .move (.tmp 0), 259, none, [], 0⟩,
  ⟨(some 7), .call ⟨.value (.func 239), #[(.tmp 6)], #[291]⟩, 3, none, [], 1⟩,
  ⟨(some 2), .assign (.tmp 7), 3, none, [], 2⟩]
def c216 : TCode := (.seq (.reg r216_0) (.seq (.cond (.const (.bool false)) (.seq (.reg r216_1) .ret) .skip) (.seq (.reg r216_2) .ret)))
def f216 : TFun := ⟨c216, 8, [.tmp 2]⟩
def r217_0 : List TOper := [⟨(some 5), .load 115 (.tmp 1), 115, none, [], 0⟩,
  ⟨(some 6), .call ⟨.builtin .len, #[(.tmp 5)], #[115]⟩, 3, none, [], 1⟩,
  ⟨(some 7), .move (.const (.int .i64 0)), 3, none, [], 2⟩]
def r217_1 : List TOper := [⟨(some 8), .binOp .lss 3 (.tmp 7) (.tmp 6) 3, 0, none, [], 0⟩]
def r217_2 : List TOper := [⟨(some 9), .indexAddr 115 (.tmp 5) (.tmp 7), 0, none, [], 0⟩,
  ⟨(some 10), .load 5 (.tmp 9), 5, none, [], 1⟩,
  ⟨(some 4), .assign (.tmp 10), 5, none, [], 2⟩]
def r217_3 : List TOper := [⟨(some 11), .move (.tmp 0), 154, none, [], 0⟩,
  ⟨(some 12), .move (.tmp 4), 5, none, [], 1⟩,
  ⟨(some 13), .call ⟨.value (.tmp 11), #[(.tmp 12)], #[5]⟩, 4, none, [], 2⟩,
  ⟨(some 14), .unOp .not 4 (.tmp 13), 4, none, [], 3⟩]
def r217_4 : List TOper := [⟨(some 15), .binOp .add 3 (.tmp 7) (.const (.int .i64 1)) 3, 3, none, [], 0⟩,
  ⟨(some 7), .move (.tmp 15), 3, none, [], 1⟩]
def c217 : TCode := (.seq (.reg r217_0) (.block 0 (.loop (.seq (.reg r217_1) (.seq (.cond (.tmp 8) .skip (.exit 0)) (.seq (.block 1 (.seq (.reg r217_2) (.seq (.reg r217_3) (.cond (.tmp 14) .ret .skip)))) (.reg r217_4)))))))
def f217 : TFun := ⟨c217, 16, []⟩
def r219_0 : List TOper := [⟨(some 4), .move (.tmp 0), 214, none, [], 0⟩,
  ⟨(some 5), .call ⟨.value (.func 192), #[(.tmp 4)], #[214]⟩, 0, none, [], 1⟩]
def r219_1 : List TOper := [⟨(some 6), .move (.tmp 1), 3, none, [], 0⟩,
  ⟨(some 7), .binOp .lss 3 (.tmp 6) (.const (.int .i64 0)) 3, 4, none, [], 1⟩]
def r219_2 : List TOper := [⟨(some 8), .makeInterface 9 (.const (.string ⟨#[115, 116, 114, 105, 110, 103, 115, 46, 66, 117, 105, 108, 100, 101, 114, 46, 71, 114, 111, 119, 58, 32, 110, 101, 103, 97, 116, 105, 118, 101, 32, 99, 111, 117, 110, 116]⟩)), 20, none, [], 0⟩,
  ⟨none, .panic (.tmp 8), 0, none, [], 1⟩]
def r219_3 : List TOper := [⟨(some 9), .move (.tmp 0), 214, none, [], 0⟩,
  ⟨(some 10), .nilCheck (.tmp 9), 0, none, [], 1⟩,
  ⟨(some 11), .fieldAddr 216 (.tmp 10) 1, 0, none, [], 2⟩,
  ⟨(some 12), .load 115 (.tmp 11), 115, none, [], 3⟩,
  ⟨(some 14), .move (.tmp 0), 214, none, [], 5⟩,
  ⟨(some 15), .nilCheck (.tmp 14), 0, none, [], 6⟩,
  ⟨(some 16), .fieldAddr 216 (.tmp 15) 1, 0, none, [], 7⟩,
  ⟨(some 17), .load 115 (.tmp 16), 115, none, [], 8⟩,
  ⟨(some 18), .call ⟨.builtin .len, #[(.tmp 17)], #[115]⟩, 3, none, [], 9⟩,
  ⟨(some 20), .move (.tmp 1), 3, none, [], 11⟩,
  ⟨(some 13), .call ⟨.builtin .cap, #[(.tmp 12)], #[115]⟩, 3, none, [(.tmp 16)], 4⟩,
  ⟨(some 19), .binOp .sub 3 (.tmp 13) (.tmp 18) 3, 3, none, [], 10⟩,
  ⟨(some 21), .binOp .lss 3 (.tmp 19) (.tmp 20) 3, 4, none, [], 12⟩]
def r219_4 : List TOper := [⟨(some 22), .move (.tmp 0), 214, none, [], 0⟩,
  ⟨(some 23), .move (.tmp 1), 3, none, [], 1⟩,
  ⟨(some 24), .call ⟨.value (.func 240), #[(.tmp 22), (.tmp 23)], #[214, 3]⟩, 0, none, [], 2⟩]
def c219 : TCode := (.seq (.reg r219_0) (.seq (.seq (.reg r219_1) (.cond (.tmp 7) (.reg r219_2) .skip)) (.seq (.reg r219_3) (.cond (.tmp 21) (.reg r219_4) .skip))))
def f219 : TFun := ⟨c219, 25, []⟩
def r220_0 : List TOper := [⟨(some 4), .assign (.const (.string ⟨#[]⟩)), 9, none, [], 0⟩]
def r220_1 : List TOper := [⟨(some 10), .move (.tmp 1), 3, none, [], 0⟩,
  ⟨(some 11), .binOp .eql 3 (.tmp 10) (.const (.int .i64 10)) 3, 4, none, [], 1⟩]
def r220_2 : List TOper := [⟨(some 12), .move (.tmp 0), 2, none, [], 0⟩,
  ⟨(some 13), .binOp .leq 2 (.const (.int .i64 0)) (.tmp 12) 2, 4, none, [], 1⟩,
  ⟨(some 14), .move (.tmp 13), 4, none, [], 2⟩,
  ⟨(some 15), .move (.tmp 0), 2, (some (14, true)), [], 3⟩,
  ⟨(some 16), .binOp .lss 2 (.tmp 15) (.const (.int .i64 100)) 2, 4, (some (14, true)), [], 4⟩,
  ⟨(some 17), .pick (.tmp 14) (.tmp 16) (.const (.bool false)), 4, none, [], 5⟩]
def r220_3 : List TOper := [⟨(some 18), .move (.tmp 0), 2, none, [], 0⟩,
  ⟨(some 19), .call ⟨.value (.func 241), #[(.tmp 18)], #[3]⟩, 9, none, [], 1⟩,
  ⟨(some 4), .assign (.tmp 19), 9, none, [], 2⟩]
def r220_4 : List TOper := [⟨(some 5), .alloc 316, 0, none, [], 0⟩]
def r220_5 : List TOper := [⟨(some 20), .move (.tmp 0), 2, none, [], 0⟩,
  ⟨(some 21), .convert 2 291 (.tmp 20), 291, none, [], 1⟩,
  ⟨(some 6), .assign (.tmp 21), 291, none, [], 2⟩]
def r220_6 : List TOper := [⟨(some 22), .move (.tmp 0), 2, none, [], 0⟩,
  ⟨(some 23), .binOp .lss 2 (.tmp 22) (.const (.int .i64 0)) 2, 4, none, [], 1⟩]
def r220_7 : List TOper := [⟨(some 24), .move (.tmp 6), 291, none, [], 0⟩,
  ⟨(some 25), .unOp .neg 291 (.tmp 24), 291, none, [], 1⟩,
  ⟨(some 6), .assign (.tmp 25), 291, none, [], 2⟩]
def r220_8 : List TOper := [⟨(some 26), .move (.tmp 6), 291, none, [], 0⟩,
  ⟨(some 27), .call ⟨.value (.func 242), #[(.tmp 26)], #[291]⟩, 3, none, [], 1⟩,
  ⟨(some 7), .assign (.tmp 27), 3, none, [], 2⟩]
def r220_9 : List TOper := [⟨(some 28), .move (.tmp 7), 3, none, [], 0⟩,
  ⟨(some 29), .binOp .add 3 (.const (.int .i64 1)) (.tmp 28) 3, 3, none, [], 1⟩,
  ⟨(some 30), .slice 316 (.tmp 5) (some (.const (.int .i64 1))) (some (.tmp 29)) none, 115, none, [], 2⟩,
  ⟨(some 31), .move (.tmp 6), 291, none, [], 3⟩,
  ⟨(some 32), .call ⟨.value (.func 243), #[(.tmp 30), (.tmp 31)], #[115, 291]⟩, 0, none, [], 4⟩]
def r220_10 : List TOper := [⟨(some 33), .move (.tmp 0), 2, none, [], 0⟩,
  ⟨(some 34), .binOp .lss 2 (.tmp 33) (.const (.int .i64 0)) 2, 4, none, [], 1⟩]
def r220_11 : List TOper := [⟨(some 35), .indexAddr 316 (.tmp 5) (.const (.int .i64 0)), 0, none, [], 0⟩,
  ⟨none, .store 5 (.tmp 35) (.const (.int .u8 45)), 0, none, [], 1⟩]
def r220_12 : List TOper := [⟨(some 36), .move (.tmp 7), 3, none, [], 0⟩,
  ⟨(some 37), .binOp .add 3 (.const (.int .i64 1)) (.tmp 36) 3, 3, none, [], 1⟩,
  ⟨(some 38), .slice 316 (.tmp 5) none (some (.tmp 37)) none, 115, none, [], 2⟩,
  ⟨(some 39), .convert 115 9 (.tmp 38), 9, none, [], 3⟩,
  ⟨(some 4), .assign (.tmp 39), 9, none, [], 4⟩]
def r220_13 : List TOper := [⟨(some 40), .move (.tmp 7), 3, none, [], 0⟩,
  ⟨(some 41), .binOp .add 3 (.const (.int .i64 1)) (.tmp 40) 3, 3, none, [], 1⟩,
  ⟨(some 42), .slice 316 (.tmp 5) (some (.const (.int .i64 1))) (some (.tmp 41)) none, 115, none, [], 2⟩,
  ⟨(some 43), .convert 115 9 (.tmp 42), 9, none, [], 3⟩,
  ⟨(some 4), .assign (.tmp 43), 9, none, [], 4⟩]
def r220_14 : List TOper := [⟨(some 45), .move (.tmp 0), 2, none, [], 0⟩,
  ⟨(some 46), .convert 2 291 (.tmp 45), 291, none, [], 1⟩,
  ⟨(some 47), .move (.tmp 1), 3, none, [], 2⟩,
  ⟨(some 48), .move (.tmp 0), 2, none, [], 3⟩,
  ⟨(some 49), .binOp .lss 2 (.tmp 48) (.const (.int .i64 0)) 2, 4, none, [], 4⟩,
  ⟨(some 50), .call ⟨.value (.func 244), #[(.const (.slice none 0 0)), (.tmp 46), (.tmp 47), (.tmp 49), (.const (.bool false))], #[115, 291, 3, 4, 4]⟩, 318, none, [], 5⟩,
  ⟨(some 44), .move (.tmp 50), 318, none, [], 6⟩,
  ⟨(some 51), .extract (.tmp 44) 0, 115, none, [], 7⟩,
  ⟨(some 52), .extract (.tmp 44) 1, 9, none, [], 8⟩,
  ⟨(some 8), .assign (.tmp 51), 115, none, [], 9⟩,
  ⟨(some 9), .assign (.tmp 52), 9, none, [], 10⟩]
def r220_15 : List TOper := [⟨(some 53), .move (.tmp 9), 9, none, [], 0⟩,
  ⟨(some 4), .assign (.tmp 53), 9, none, [], 1⟩]
def c220 : TCode := (.seq (.reg r220_0) (.seq (.seq (.reg r220_1) (.cond (.tmp 11) (.seq (.seq (.reg r220_2) (.cond (.tmp 17) (.seq (.reg r220_3) .ret) .skip)) (.seq (.reg r220_4) (.seq (.reg r220_5) (.seq (.seq (.reg r220_6) (.cond (.tmp 23) (.reg r220_7) .skip)) (.seq (.reg r220_8) (.seq (.reg r220_9) (.seq (.seq (.reg r220_10) (.cond (.tmp 34) (.seq (.reg r220_11) (.seq (.reg r220_12) .ret)) .skip)) (.seq (.reg r220_13) .ret)))))))) .skip)) (.seq (.reg r220_14) (.seq (.reg r220_15) .ret))))
def f220 : TFun := ⟨c220, 54, [.tmp 4]⟩
def r229_0 : List TOper := [⟨(some 8), .move (.tmp 1), 3, none, [], 0⟩,
  ⟨(some 9), .binOp .add 3 (.tmp 8) (.const (.int .i64 1)) 3, 3, none, [], 1⟩,
  ⟨(some 6), .assign (.tmp 9), 3, none, [], 2⟩]
def r229_1 : List TOper := [⟨(some 10), .move (.tmp 6), 3, none, [], 0⟩,
  ⟨(some 11), .move (.tmp 2), 3, none, [], 1⟩,
  ⟨(some 12), .binOp .lss 3 (.tmp 10) (.tmp 11) 3, 4, none, [], 2⟩]
def r229_2 : List TOper := [⟨(some 15), .move (.tmp 6), 3, none, [], 0⟩,
  ⟨(some 7), .assign (.tmp 15), 3, none, [], 1⟩]
def r229_3 : List TOper := [⟨(some 16), .move (.tmp 7), 3, none, [], 0⟩,
  ⟨(some 17), .move (.tmp 1), 3, none, [], 1⟩,
  ⟨(some 18), .binOp .gtr 3 (.tmp 16) (.tmp 17) 3, 4, none, [], 2⟩,
  ⟨(some 19), .move (.tmp 18), 4, none, [], 3⟩,
  ⟨(some 20), .move (.tmp 0), 29, (some (19, true)), [], 4⟩,
  ⟨(some 21), .move (.tmp 7), 3, (some (19, true)), [], 5⟩,
  ⟨(some 22), .indexAddr 29 (.tmp 20) (.tmp 21), 0, (some (19, true)), [], 6⟩,
  ⟨(some 23), .load 3 (.tmp 22), 3, (some (19, true)), [], 7⟩,
  ⟨(some 24), .move (.tmp 0), 29, (some (19, true)), [], 8⟩,
  ⟨(some 25), .move (.tmp 7), 3, (some (19, true)), [], 9⟩,
  ⟨(some 26), .binOp .sub 3 (.tmp 25) (.const (.int .i64 1)) 3, 3, (some (19, true)), [], 10⟩,
  ⟨(some 27), .indexAddr 29 (.tmp 24) (.tmp 26), 0, (some (19, true)), [], 11⟩,
  ⟨(some 28), .load 3 (.tmp 27), 3, (some (19, true)), [], 12⟩,
  ⟨(some 29), .call ⟨.value (.func 235), #[(.tmp 23), (.tmp 28)], #[3, 3]⟩, 4, (some (19, true)), [], 13⟩,
  ⟨(some 30), .pick (.tmp 19) (.tmp 29) (.const (.bool false)), 4, none, [], 14⟩]
def r229_4 : List TOper := [⟨(some 33), .move (.tmp 0), 29, none, [], 0⟩,
  ⟨(some 34), .move (.tmp 7), 3, none, [], 1⟩,
  ⟨(some 35), .move (.tmp 0), 29, none, [], 2⟩,
  ⟨(some 36), .move (.tmp 7), 3, none, [], 3⟩,
  ⟨(some 37), .binOp .sub 3 (.tmp 36) (.const (.int .i64 1)) 3, 3, none, [], 4⟩,
  ⟨(some 38), .move (.tmp 0), 29, none, [], 5⟩,
  ⟨(some 39), .move (.tmp 7), 3, none, [], 6⟩,
  ⟨(some 40), .binOp .sub 3 (.tmp 39) (.const (.int .i64 1)) 3, 3, none, [], 7⟩,
  ⟨(some 41), .indexAddr 29 (.tmp 38) (.tmp 40), 0, none, [], 8⟩,
  ⟨(some 42), .load 3 (.tmp 41), 3, none, [], 9⟩,
  ⟨(some 43), .move (.tmp 0), 29, none, [], 10⟩,
  ⟨(some 44), .move (.tmp 7), 3, none, [], 11⟩,
  ⟨(some 45), .indexAddr 29 (.tmp 43) (.tmp 44), 0, none, [], 12⟩,
  ⟨(some 46), .load 3 (.tmp 45), 3, none, [], 13⟩,
  ⟨(some 47), .indexAddr 29 (.tmp 33) (.tmp 34), 0, none, [], 14⟩,
  ⟨none, .store 3 (.tmp 47) (.tmp 42), 0, none, [], 15⟩,
  ⟨(some 48), .indexAddr 29 (.tmp 35) (.tmp 37), 0, none, [], 16⟩,
  ⟨none, .store 3 (.tmp 48) (.tmp 46), 0, none, [], 17⟩]
def r229_5 : List TOper := [⟨(some 31), .move (.tmp 7), 3, none, [], 0⟩,
  ⟨(some 32), .binOp .sub 3 (.tmp 31) (.const (.int .i64 1)) 3, 3, none, [], 1⟩,
  ⟨(some 7), .assign (.tmp 32), 3, none, [], 2⟩]
def r229_6 : List TOper := [⟨(some 13), .move (.tmp 6), 3, none, [], 0⟩,
  ⟨(some 14), .binOp .add 3 (.tmp 13) (.const (.int .i64 1)) 3, 3, none, [], 1⟩,
  ⟨(some 6), .assign (.tmp 14), 3, none, [], 2⟩]
def c229 : TCode := (.seq (.reg r229_0) (.block 0 (.loop (.seq (.seq (.reg r229_1) (.cond (.tmp 12) .skip (.exit 0))) (.seq (.block 1 (.seq (.reg r229_2) (.block 2 (.loop (.seq (.seq (.reg r229_3) (.cond (.tmp 30) .skip (.exit 2))) (.seq (.block 3 (.reg r229_4)) (.reg r229_5))))))) (.reg r229_6))))))
def f229 : TFun := ⟨c229, 49, []⟩
def r235_0 : List TOper := [⟨(some 4), .assign (.const (.bool false)), 4, none, [], 0⟩]
def r235_1 : List TOper := [⟨(some 5), .move (.tmp 0), 3, none, [], 0⟩,
  ⟨(some 6), .call ⟨.value (.func 255), #[(.tmp 5)], #[3]⟩, 4, none, [], 1⟩,
  ⟨(some 7), .move (.tmp 6), 4, none, [], 2⟩,
  ⟨(some 8), .move (.tmp 1), 3, (some (7, true)), [], 3⟩,
  ⟨(some 9), .call ⟨.value (.func 255), #[(.tmp 8)], #[3]⟩, 4, (some (7, true)), [], 4⟩,
  ⟨(some 10), .unOp .not 4 (.tmp 9), 4, (some (7, true)), [], 5⟩,
  ⟨(some 11), .pick (.tmp 7) (.tmp 10) (.const (.bool false)), 4, none, [], 6⟩,
  ⟨(some 12), .move (.tmp 11), 4, none, [], 7⟩,
  ⟨(some 13), .move (.tmp 0), 3, (some (12, false)), [], 8⟩,
  ⟨(some 14), .move (.tmp 1), 3, (some (12, false)), [], 9⟩,
  ⟨(some 15), .binOp .lss 3 (.tmp 13) (.tmp 14) 3, 4, (some (12, false)), [], 10⟩,
  ⟨(some 16), .pick (.tmp 12) (.const (.bool true)) (.tmp 15), 4, none, [], 11⟩,
  ⟨(some 4), .assign (.tmp 16), 4, none, [], 12⟩]
def c235 : TCode := (.seq (.reg r235_0) (.seq (.reg r235_1) .ret))
def f235 : TFun := ⟨c235, 17, [.tmp 4]⟩
def r239_0 : List TOper := [⟨(some 2), .assign (.const (.int .i64 0)), 3, none, [], 0⟩]
def r239_1 : List TOper := [⟨(some 3), .move (.tmp 0), 291, none, [], 0⟩,
  ⟨(some 4), .binOp .geq 291 (.tmp 3) (.const (.int .u64 4294967296)) 291, 4, none, [], 1⟩]
def r239_2 : List TOper := [⟨(some 5), .move (.tmp 0), 291, none, [], 0⟩,
  ⟨(some 6), .binOp .shr 291 (.tmp 5) (.const (.int .u64 32)) 259, 291, none, [], 1⟩,
  ⟨(some 0), .assign (.tmp 6), 291, none, [], 2⟩]
def r239_3 : List TOper := [⟨(some 2), .assign (.const (.int .i64 32)), 3, none, [], 0⟩]
def r239_4 : List TOper := [⟨(some 7), .move (.tmp 0), 291, none, [], 0⟩,
  ⟨(some 8), .binOp .geq 291 (.tmp 7) (.const (.int .u64 65536)) 291, 4, none, [], 1⟩]
def r239_5 : List TOper := [⟨(some 9), .move (.tmp 0), 291, none, [], 0⟩,
  ⟨(some 10), .binOp .shr 291 (.tmp 9) (.const (.int .u64 16)) 259, 291, none, [], 1⟩,
  ⟨(some 0), .assign (.tmp 10), 291, none, [], 2⟩]
def r239_6 : List TOper := [⟨(some 11), .move (.tmp 2), 3, none, [], 0⟩,
  ⟨(some 12), .binOp .add 3 (.tmp 11) (.const (.int .i64 16)) 3, 3, none, [], 1⟩,
  ⟨(some 2), .assign (.tmp 12), 3, none, [], 2⟩]
def r239_7 : List TOper := [⟨(some 13), .move (.tmp 0), 291, none, [], 0⟩,
  ⟨(some 14), .binOp .geq 291 (.tmp 13) (.const (.int .u64 256)) 291, 4, none, [], 1⟩]
def r239_8 : List TOper := [⟨(some 15), .move (.tmp 0), 291, none, [], 0⟩,
  ⟨(some 16), .binOp .shr 291 (.tmp 15) (.const (.int .u64 8)) 259, 291, none, [], 1⟩,
  ⟨(some 0), .assign (.tmp 16), 291, none, [], 2⟩]
def r239_9 : List TOper := [⟨(some 17), .move (.tmp 2), 3, none, [], 0⟩,
  ⟨(some 18), .binOp .add 3 (.tmp 17) (.const (.int .i64 8)) 3, 3, none, [], 1⟩,
  ⟨(some 2), .assign (.tmp 18), 3, none, [], 2⟩]
def r239_10 : List TOper := [⟨(some 19), .move (.tmp 2), 3, none, [], 0⟩,
  ⟨(some 20), .move (.tmp 0), 291, none, [], 1⟩,
  ⟨(some 21), .convert 291 5 (.tmp 20), 5, none, [], 2⟩,
  ⟨(some 22), .index 9 (.const (.string ⟨#[0, 1, 2, 2, 3, 3, 3, 3, 4, 4, 4, 4, 4, 4, 4, 4, 5, 5, 5, 5, 5, 5, 5, 5, 5, 5, 5, 5, 5, 5, 5, 5, 6, 6, 6, 6, 6, 6, 6, 6, 6, 6, 6, 6, 6, 6, 6, 6, 6, 6, 6, 6, 6, 6, 6, 6, 6, 6, 6, 6, 6, 6, 6, 6, 7, 7, 7, 7, 7, 7, 7, 7, 7, 7, 7, 7, 7, 7, 7, 7, 7, 7, 7, 7, 7, 7, 7, 7, 7, 7, 7, 7, 7, 7, 7, 7, 7, 7, 7, 7, 7, 7, 7, 7, 7, 7, 7, 7, 7, 7, 7, 7, 7, 7, 7, 7, 7, 7, 7, 7, 7, 7, 7, 7, 7, 7, 7, 7, 8, 8, 8, 8, 8, 8, 8, 8, 8, 8, 8, 8, 8, 8, 8, 8, 8, 8, 8, 8, 8, 8, 8, 8, 8, 8, 8, 8, 8, 8, 8, 8, 8, 8, 8, 8, 8, 8, 8, 8, 8, 8, 8, 8, 8, 8, 8, 8, 8, 8, 8, 8, 8, 8, 8, 8, 8, 8, 8, 8, 8, 8, 8, 8, 8, 8, 8, 8, 8, 8, 8, 8, 8, 8, 8, 8, 8, 8, 8, 8, 8, 8, 8, 8, 8, 8, 8, 8, 8, 8, 8, 8, 8, 8, 8, 8, 8, 8, 8, 8, 8, 8, 8, 8, 8, 8, 8, 8, 8, 8, 8, 8, 8, 8, 8, 8, 8, 8, 8, 8, 8, 8, 8, 8, 8, 8, 8, 8]⟩)) (.tmp 21), 5, none, [], 3⟩,
  ⟨(some 23), .convert 5 3 (.tmp 22), 3, none, [], 4⟩,
  ⟨(some 24), .binOp .add 3 (.tmp 19) (.tmp 23) 3, 3, none, [], 5⟩,
  ⟨(some 2), .assign (.tmp 24), 3, none, [], 6⟩]
def c239 : TCode := (.seq (.reg r239_0) (.seq (.seq (.reg r239_1) (.cond (.tmp 4) (.seq (.reg r239_2) (.reg r239_3)) .skip)) (.seq (.seq (.reg r239_4) (.cond (.tmp 8) (.seq (.reg r239_5) (.reg r239_6)) .skip)) (.seq (.seq (.reg r239_7) (.cond (.tmp 14) (.seq (.reg r239_8) (.reg r239_9)) .skip)) (.seq (.reg r239_10) .ret)))))
def f239 : TFun := ⟨c239, 25, [.tmp 2]⟩
def r240_0 : List TOper := [⟨(some 5), .move (.tmp 0), 214, none, [], 0⟩,
  ⟨(some 6), .nilCheck (.tmp 5), 0, none, [], 1⟩,
  ⟨(some 7), .fieldAddr 216 (.tmp 6) 1, 0, none, [], 2⟩,
  ⟨(some 8), .load 115 (.tmp 7), 115, none, [], 3⟩,
  ⟨(some 11), .move (.tmp 1), 3, none, [], 6⟩,
  ⟨(some 14), .move (.tmp 0), 214, none, [], 9⟩,
  ⟨(some 15), .nilCheck (.tmp 14), 0, none, [], 10⟩,
  ⟨(some 16), .fieldAddr 216 (.tmp 15) 1, 0, none, [], 11⟩,
  ⟨(some 17), .load 115 (.tmp 16), 115, none, [], 12⟩,
  ⟨(some 18), .call ⟨.builtin .len, #[(.tmp 17)], #[115]⟩, 3, none, [], 13⟩,
  ⟨(some 9), .call ⟨.builtin .cap, #[(.tmp 8)], #[115]⟩, 3, none, [(.tmp 16)], 4⟩,
  ⟨(some 10), .binOp .mul 3 (.const (.int .i64 2)) (.tmp 9) 3, 3, none, [], 5⟩,
  ⟨(some 12), .binOp .add 3 (.tmp 10) (.tmp 11) 3, 3, none, [], 7⟩,
  ⟨(some 13), .call ⟨.value (.func 256), #[(.tmp 12)], #[3]⟩, 115, none, [(.tmp 16)], 8⟩,
  ⟨(some 19), .slice 115 (.tmp 13) none (some (.tmp 18)) none, 115, none, [], 14⟩,
  ⟨(some 4), .assign (.tmp 19), 115, none, [], 15⟩]
def r240_1 : List TOper := [⟨(some 20), .move (.tmp 4), 115, none, [], 0⟩,
  ⟨(some 21), .move (.tmp 0), 214, none, [], 1⟩,
  ⟨(some 22), .nilCheck (.tmp 21), 0, none, [], 2⟩,
  ⟨(some 23), .fieldAddr 216 (.tmp 22) 1, 0, none, [], 3⟩,
  ⟨(some 24), .load 115 (.tmp 23), 115, none, [], 4⟩,
  ⟨(some 25), .call ⟨.builtin .copy, #[(.tmp 20), (.tmp 24)], #[115, 115]⟩, 3, none, [], 5⟩]
def r240_2 : List TOper := [⟨(some 26), .move (.tmp 0), 214, none, [], 0⟩,
  ⟨(some 27), .move (.tmp 4), 115, none, [], 1⟩,
  ⟨(some 28), .nilCheck (.tmp 26), 0, none, [], 2⟩,
  ⟨(some 29), .fieldAddr 216 (.tmp 28) 1, 0, none, [], 3⟩,
  ⟨none, .store 115 (.tmp 29) (.tmp 27), 0, none, [], 4⟩]
def c240 : TCode := (.seq (.reg r240_0) (.seq (.reg r240_1) (.reg r240_2)))
def f240 : TFun := ⟨c240, 30, []⟩
def r241_0 : List TOper := [⟨(some 2), .assign (.const (.string ⟨#[]⟩)), 9, none, [], 0⟩]
def r241_1 : List TOper := [⟨(some 3), .move (.tmp 0), 3, none, [], 0⟩,
  ⟨(some 4), .binOp .lss 3 (.tmp 3) (.const (.int .i64 10)) 3, 4, none, [], 1⟩]
def r241_2 : List TOper := [⟨(some 5), .move (.tmp 0), 3, none, [], 0⟩,
  ⟨(some 6), .move (.tmp 0), 3, none, [], 1⟩,
  ⟨(some 7), .binOp .add 3 (.tmp 6) (.const (.int .i64 1)) 3, 3, none, [], 2⟩,
  ⟨(some 8), .slice 9 (.const (.string ⟨#[48, 49, 50, 51, 52, 53, 54, 55, 56, 57, 97, 98, 99, 100, 101, 102, 103, 104, 105, 106, 107, 108, 109, 110, 111, 112, 113, 114, 115, 116, 117, 118, 119, 120, 121, 122]⟩)) (some (.tmp 5)) (some (.tmp 7)) none, 9, none, [], 3⟩,
  ⟨(some 2), .assign (.tmp 8), 9, none, [], 4⟩]
def r241_3 : List TOper := [⟨(some 9), .move (.tmp 0), 3, none, [], 0⟩,
  ⟨(some 10), .binOp .mul 3 (.tmp 9) (.const (.int .i64 2)) 3, 3, none, [], 1⟩,
  ⟨(some 11), .move (.tmp 0), 3, none, [], 2⟩,
  ⟨(some 12), .binOp .mul 3 (.tmp 11) (.const (.int .i64 2)) 3, 3, none, [], 3⟩,
  ⟨(some 13), .binOp .add 3 (.tmp 12) (.const (.int .i64 2)) 3, 3, none, [], 4⟩,
  ⟨(some 14), .slice 9 (.const (.string ⟨#[48, 48, 48, 49, 48, 50, 48, 51, 48, 52, 48, 53, 48, 54, 48, 55, 48, 56, 48, 57, 49, 48, 49, 49, 49, 50, 49, 51, 49, 52, 49, 53, 49, 54, 49, 55, 49, 56, 49, 57, 50, 48, 50, 49, 50, 50, 50, 51, 50, 52, 50, 53, 50, 54, 50, 55, 50, 56, 50, 57, 51, 48, 51, 49, 51, 50, 51, 51, 51, 52, 51, 53, 51, 54, 51, 55, 51, 56, 51, 57, 52, 48, 52, 49, 52, 50, 52, 51, 52, 52, 52, 53, 52, 54, 52, 55, 52, 56, 52, 57, 53, 48, 53, 49, 53, 50, 53, 51, 53, 52, 53, 53, 53, 54, 53, 55, 53, 56, 53, 57, 54, 48, 54, 49, 54, 50, 54, 51, 54, 52, 54, 53, 54, 54, 54, 55, 54, 56, 54, 57, 55, 48, 55, 49, 55, 50, 55, 51, 55, 52, 55, 53, 55, 54, 55, 55, 55, 56, 55, 57, 56, 48, 56, 49, 56, 50, 56, 51, 56, 52, 56, 53, 56, 54, 56, 55, 56, 56, 56, 57, 57, 48, 57, 49, 57, 50, 57, 51, 57, 52, 57, 53, 57, 54, 57, 55, 57, 56, 57, 57]⟩)) (some (.tmp 10)) (some (.tmp 13)) none, 9, none, [], 5⟩,
  ⟨(some 2), .assign (.tmp 14), 9, none, [], 6⟩]
def c241 : TCode := (.seq (.reg r241_0) (.seq (.seq (.reg r241_1) (.cond (.tmp 4) (.seq (.reg r241_2) .ret) .skip)) (.seq (.reg r241_3) .ret)))
def f241 : TFun := ⟨c241, 15, [.tmp 2]⟩
def r242_0 : List TOper := [⟨(some 2), .assign (.const (.int .i64 0)), 3, none, [], 0⟩]
def r242_1 : List TOper := [⟨(some 4), .move (.tmp 0), 291, none, [], 0⟩,
  ⟨(some 5), .call ⟨.value (.func 239), #[(.tmp 4)], #[291]⟩, 3, none, [], 1⟩,
  ⟨(some 6), .call ⟨.value (.func 257), #[(.tmp 5)], #[3]⟩, 3, none, [], 2⟩,
  ⟨(some 3), .assign (.tmp 6), 3, none, [], 3⟩]
def r242_2 : List TOper := [⟨(some 7), .move (.tmp 3), 3, none, [], 0⟩,
  ⟨(some 8), .move (.tmp 0), 291, none, [], 1⟩,
  ⟨(some 9), .move (.tmp 3), 3, none, [], 2⟩,
  ⟨(some 10), .indexAddr 330 (.global 2) (.tmp 9), 0, none, [], 3⟩,
  ⟨(some 11), .load 291 (.tmp 10), 291, none, [], 4⟩,
  ⟨(some 12), .binOp .geq 291 (.tmp 8) (.tmp 11) 291, 4, none, [], 5⟩,
  ⟨(some 13), .call ⟨.value (.func 258), #[(.tmp 12)], #[4]⟩, 3, none, [], 6⟩,
  ⟨(some 14), .binOp .add 3 (.tmp 7) (.tmp 13) 3, 3, none, [], 7⟩,
  ⟨(some 2), .assign (.tmp 14), 3, none, [], 8⟩]
def c242 : TCode := (.seq (.reg r242_0) (.seq (.reg r242_1) (.seq (.reg r242_2) .ret)))
def f242 : TFun := ⟨c242, 15, [.tmp 2]⟩
def r243_0 : List TOper := [⟨(some 17), .move (.tmp 0), 115, none, [], 0⟩,
  ⟨(some 18), .call ⟨.builtin .len, #[(.tmp 17)], #[115]⟩, 3, none, [], 1⟩,
  ⟨(some 4), .assign (.tmp 18), 3, none, [], 2⟩]
def r243_1 : List TOper := [⟨(some 19), .move (.tmp 4), 3, none, [], 0⟩,
  ⟨(some 20), .binOp .geq 3 (.tmp 19) (.const (.int .i64 8)) 3, 4, none, [], 1⟩]
def r243_2 : List TOper := [⟨(some 21), .move (.tmp 1), 291, none, [], 0⟩,
  ⟨(some 22), .binOp .rem 291 (.tmp 21) (.const (.int .u64 100000000)) 291, 291, none, [], 1⟩,
  ⟨(some 23), .convert 291 202 (.tmp 22), 202, none, [], 2⟩,
  ⟨(some 5), .assign (.tmp 23), 202, none, [], 3⟩]
def r243_3 : List TOper := [⟨(some 24), .move (.tmp 1), 291, none, [], 0⟩,
  ⟨(some 25), .binOp .quo 291 (.tmp 24) (.const (.int .u64 100000000)) 291, 291, none, [], 1⟩,
  ⟨(some 1), .assign (.tmp 25), 291, none, [], 2⟩]
def r243_4 : List TOper := [⟨(some 26), .move (.tmp 5), 202, none, [], 0⟩,
  ⟨(some 27), .binOp .quo 202 (.tmp 26) (.const (.int .u32 10000)) 202, 202, none, [], 1⟩,
  ⟨(some 28), .move (.tmp 5), 202, none, [], 2⟩,
  ⟨(some 29), .binOp .rem 202 (.tmp 28) (.const (.int .u32 10000)) 202, 202, none, [], 3⟩,
  ⟨(some 6), .assign (.tmp 27), 202, none, [], 4⟩,
  ⟨(some 7), .assign (.tmp 29), 202, none, [], 5⟩]
def r243_5 : List TOper := [⟨(some 30), .move (.tmp 7), 202, none, [], 0⟩,
  ⟨(some 31), .binOp .quo 202 (.tmp 30) (.const (.int .u32 100)) 202, 202, none, [], 1⟩,
  ⟨(some 32), .binOp .mul 202 (.tmp 31) (.const (.int .u32 2)) 202, 202, none, [], 2⟩,
  ⟨(some 33), .move (.tmp 7), 202, none, [], 3⟩,
  ⟨(some 34), .binOp .rem 202 (.tmp 33) (.const (.int .u32 100)) 202, 202, none, [], 4⟩,
  ⟨(some 35), .binOp .mul 202 (.tmp 34) (.const (.int .u32 2)) 202, 202, none, [], 5⟩,
  ⟨(some 8), .assign (.tmp 32), 202, none, [], 6⟩,
  ⟨(some 9), .assign (.tmp 35), 202, none, [], 7⟩]
def r243_6 : List TOper := [⟨(some 36), .move (.tmp 6), 202, none, [], 0⟩,
  ⟨(some 37), .binOp .quo 202 (.tmp 36) (.const (.int .u32 100)) 202, 202, none, [], 1⟩,
  ⟨(some 38), .binOp .mul 202 (.tmp 37) (.const (.int .u32 2)) 202, 202, none, [], 2⟩,
  ⟨(some 39), .move (.tmp 6), 202, none, [], 3⟩,
  ⟨(some 40), .binOp .rem 202 (.tmp 39) (.const (.int .u32 100)) 202, 202, none, [], 4⟩,
  ⟨(some 41), .binOp .mul 202 (.tmp 40) (.const (.int .u32 2)) 202, 202, none, [], 5⟩,
  ⟨(some 10), .assign (.tmp 38), 202, none, [], 6⟩,
  ⟨(some 11), .assign (.tmp 41), 202, none, [], 7⟩]
def r243_7 : List TOper := [⟨(some 42), .move (.tmp 0), 115, none, [], 0⟩,
  ⟨(some 43), .move (.tmp 4), 3, none, [], 1⟩,
  ⟨(some 44), .binOp .sub 3 (.tmp 43) (.const (.int .i64 1)) 3, 3, none, [], 2⟩,
  ⟨(some 45), .move (.tmp 0), 115, none, [], 3⟩,
  ⟨(some 46), .move (.tmp 4), 3, none, [], 4⟩,
  ⟨(some 47), .binOp .sub 3 (.tmp 46) (.const (.int .i64 2)) 3, 3, none, [], 5⟩,
  ⟨(some 48), .move (.tmp 9), 202, none, [], 6⟩,
  ⟨(some 49), .binOp .add 202 (.tmp 48) (.const (.int .u32 1)) 202, 202, none, [], 7⟩,
  ⟨(some 50), .index 9 (.const (.string ⟨#[48, 48, 48, 49, 48, 50, 48, 51, 48, 52, 48, 53, 48, 54, 48, 55, 48, 56, 48, 57, 49, 48, 49, 49, 49, 50, 49, 51, 49, 52, 49, 53, 49, 54, 49, 55, 49, 56, 49, 57, 50, 48, 50, 49, 50, 50, 50, 51, 50, 52, 50, 53, 50, 54, 50, 55, 50, 56, 50, 57, 51, 48, 51, 49, 51, 50, 51, 51, 51, 52, 51, 53, 51, 54, 51, 55, 51, 56, 51, 57, 52, 48, 52, 49, 52, 50, 52, 51, 52, 52, 52, 53, 52, 54, 52, 55, 52, 56, 52, 57, 53, 48, 53, 49, 53, 50, 53, 51, 53, 52, 53, 53, 53, 54, 53, 55, 53, 56, 53, 57, 54, 48, 54, 49, 54, 50, 54, 51, 54, 52, 54, 53, 54, 54, 54, 55, 54, 56, 54, 57, 55, 48, 55, 49, 55, 50, 55, 51, 55, 52, 55, 53, 55, 54, 55, 55, 55, 56, 55, 57, 56, 48, 56, 49, 56, 50, 56, 51, 56, 52, 56, 53, 56, 54, 56, 55, 56, 56, 56, 57, 57, 48, 57, 49, 57, 50, 57, 51, 57, 52, 57, 53, 57, 54, 57, 55, 57, 56, 57, 57]⟩)) (.tmp 49), 5, none, [], 8⟩,
  ⟨(some 51), .move (.tmp 9), 202, none, [], 9⟩,
  ⟨(some 52), .index 9 (.const (.string ⟨#[48, 48, 48, 49, 48, 50, 48, 51, 48, 52, 48, 53, 48, 54, 48, 55, 48, 56, 48, 57, 49, 48, 49, 49, 49, 50, 49, 51, 49, 52, 49, 53, 49, 54, 49, 55, 49, 56, 49, 57, 50, 48, 50, 49, 50, 50, 50, 51, 50, 52, 50, 53, 50, 54, 50, 55, 50, 56, 50, 57, 51, 48, 51, 49, 51, 50, 51, 51, 51, 52, 51, 53, 51, 54, 51, 55, 51, 56, 51, 57, 52, 48, 52, 49, 52, 50, 52, 51, 52, 52, 52, 53, 52, 54, 52, 55, 52, 56, 52, 57, 53, 48, 53, 49, 53, 50, 53, 51, 53, 52, 53, 53, 53, 54, 53, 55, 53, 56, 53, 57, 54, 48, 54, 49, 54, 50, 54, 51, 54, 52, 54, 53, 54, 54, 54, 55, 54, 56, 54, 57, 55, 48, 55, 49, 55, 50, 55, 51, 55, 52, 55, 53, 55, 54, 55, 55, 55, 56, 55, 57, 56, 48, 56, 49, 56, 50, 56, 51, 56, 52, 56, 53, 56, 54, 56, 55, 56, 56, 56, 57, 57, 48, 57, 49, 57, 50, 57, 51, 57, 52, 57, 53, 57, 54, 57, 55, 57, 56, 57, 57]⟩)) (.tmp 51), 5, none, [], 10⟩,
  ⟨(some 53), .indexAddr 115 (.tmp 42) (.tmp 44), 0, none, [], 11⟩,
  ⟨none, .store 5 (.tmp 53) (.tmp 50), 0, none, [], 12⟩,
  ⟨(some 54), .indexAddr 115 (.tmp 45) (.tmp 47), 0, none, [], 13⟩,
  ⟨none, .store 5 (.tmp 54) (.tmp 52), 0, none, [], 14⟩]
def r243_8 : List TOper := [⟨(some 55), .move (.tmp 0), 115, none, [], 0⟩,
  ⟨(some 56), .move (.tmp 4), 3, none, [], 1⟩,
  ⟨(some 57), .binOp .sub 3 (.tmp 56) (.const (.int .i64 3)) 3, 3, none, [], 2⟩,
  ⟨(some 58), .move (.tmp 0), 115, none, [], 3⟩,
  ⟨(some 59), .move (.tmp 4), 3, none, [], 4⟩,
  ⟨(some 60), .binOp .sub 3 (.tmp 59) (.const (.int .i64 4)) 3, 3, none, [], 5⟩,
  ⟨(some 61), .move (.tmp 8), 202, none, [], 6⟩,
  ⟨(some 62), .binOp .add 202 (.tmp 61) (.const (.int .u32 1)) 202, 202, none, [], 7⟩,
  ⟨(some 63), .index 9 (.const (.string ⟨#[48, 48, 48, 49, 48, 50, 48, 51, 48, 52, 48, 53, 48, 54, 48, 55, 48, 56, 48, 57, 49, 48, 49, 49, 49, 50, 49, 51, 49, 52, 49, 53, 49, 54, 49, 55, 49, 56, 49, 57, 50, 48, 50, 49, 50, 50, 50, 51, 50, 52, 50, 53, 50, 54, 50, 55, 50, 56, 50, 57, 51, 48, 51, 49, 51, 50, 51, 51, 51, 52, 51, 53, 51, 54, 51, 55, 51, 56, 51, 57, 52, 48, 52, 49, 52, 50, 52, 51, 52, 52, 52, 53, 52, 54, 52, 55, 52, 56, 52, 57, 53, 48, 53, 49, 53, 50, 53, 51, 53, 52, 53, 53, 53, 54, 53, 55, 53, 56, 53, 57, 54, 48, 54, 49, 54, 50, 54, 51, 54, 52, 54, 53, 54, 54, 54, 55, 54, 56, 54, 57, 55, 48, 55, 49, 55, 50, 55, 51, 55, 52, 55, 53, 55, 54, 55, 55, 55, 56, 55, 57, 56, 48, 56, 49, 56, 50, 56, 51, 56, 52, 56, 53, 56, 54, 56, 55, 56, 56, 56, 57, 57, 48, 57, 49, 57, 50, 57, 51, 57, 52, 57, 53, 57, 54, 57, 55, 57, 56, 57, 57]⟩)) (.tmp 62), 5, none, [], 8⟩,
  ⟨(some 64), .move (.tmp 8), 202, none, [], 9⟩,
  ⟨(some 65), .index 9 (.const (.string ⟨#[48, 48, 48, 49, 48, 50, 48, 51, 48, 52, 48, 53, 48, 54, 48, 55, 48, 56, 48, 57, 49, 48, 49, 49, 49, 50, 49, 51, 49, 52, 49, 53, 49, 54, 49, 55, 49, 56, 49, 57, 50, 48, 50, 49, 50, 50, 50, 51, 50, 52, 50, 53, 50, 54, 50, 55, 50, 56, 50, 57, 51, 48, 51, 49, 51, 50, 51, 51, 51, 52, 51, 53, 51, 54, 51, 55, 51, 56, 51, 57, 52, 48, 52, 49, 52, 50, 52, 51, 52, 52, 52, 53, 52, 54, 52, 55, 52, 56, 52, 57, 53, 48, 53, 49, 53, 50, 53, 51, 53, 52, 53, 53, 53, 54, 53, 55, 53, 56, 53, 57, 54, 48, 54, 49, 54, 50, 54, 51, 54, 52, 54, 53, 54, 54, 54, 55, 54, 56, 54, 57, 55, 48, 55, 49, 55, 50, 55, 51, 55, 52, 55, 53, 55, 54, 55, 55, 55, 56, 55, 57, 56, 48, 56, 49, 56, 50, 56, 51, 56, 52, 56, 53, 56, 54, 56, 55, 56, 56, 56, 57, 57, 48, 57, 49, 57, 50, 57, 51, 57, 52, 57, 53, 57, 54, 57, 55, 57, 56, 57, 57]⟩)) (.tmp 64), 5, none, [], 10⟩,
  ⟨(some 66), .indexAddr 115 (.tmp 55) (.tmp 57), 0, none, [], 11⟩,
  ⟨none, .store 5 (.tmp 66) (.tmp 63), 0, none, [], 12⟩,
  ⟨(some 67), .indexAddr 115 (.tmp 58) (.tmp 60), 0, none, [], 13⟩,
  ⟨none, .store 5 (.tmp 67) (.tmp 65), 0, none, [], 14⟩]
def r243_9 : List TOper := [⟨(some 68), .move (.tmp 0), 115, none, [], 0⟩,
  ⟨(some 69), .move (.tmp 4), 3, none, [], 1⟩,
  ⟨(some 70), .binOp .sub 3 (.tmp 69) (.const (.int .i64 5)) 3, 3, none, [], 2⟩,
  ⟨(some 71), .move (.tmp 0), 115, none, [], 3⟩,
  ⟨(some 72), .move (.tmp 4), 3, none, [], 4⟩,
  ⟨(some 73), .binOp .sub 3 (.tmp 72) (.const (.int .i64 6)) 3, 3, none, [], 5⟩,
  ⟨(some 74), .move (.tmp 11), 202, none, [], 6⟩,
  ⟨(some 75), .binOp .add 202 (.tmp 74) (.const (.int .u32 1)) 202, 202, none, [], 7⟩,
  ⟨(some 76), .index 9 (.const (.string ⟨#[48, 48, 48, 49, 48, 50, 48, 51, 48, 52, 48, 53, 48, 54, 48, 55, 48, 56, 48, 57, 49, 48, 49, 49, 49, 50, 49, 51, 49, 52, 49, 53, 49, 54, 49, 55, 49, 56, 49, 57, 50, 48, 50, 49, 50, 50, 50, 51, 50, 52, 50, 53, 50, 54, 50, 55, 50, 56, 50, 57, 51, 48, 51, 49, 51, 50, 51, 51, 51, 52, 51, 53, 51, 54, 51, 55, 51, 56, 51, 57, 52, 48, 52, 49, 52, 50, 52, 51, 52, 52, 52, 53, 52, 54, 52, 55, 52, 56, 52, 57, 53, 48, 53, 49, 53, 50, 53, 51, 53, 52, 53, 53, 53, 54, 53, 55, 53, 56, 53, 57, 54, 48, 54, 49, 54, 50, 54, 51, 54, 52, 54, 53, 54, 54, 54, 55, 54, 56, 54, 57, 55, 48, 55, 49, 55, 50, 55, 51, 55, 52, 55, 53, 55, 54, 55, 55, 55, 56, 55, 57, 56, 48, 56, 49, 56, 50, 56, 51, 56, 52, 56, 53, 56, 54, 56, 55, 56, 56, 56, 57, 57, 48, 57, 49, 57, 50, 57, 51, 57, 52, 57, 53, 57, 54, 57, 55, 57, 56, 57, 57]⟩)) (.tmp 75), 5, none, [], 8⟩,
  ⟨(some 77), .move (.tmp 11), 202, none, [], 9⟩,
  ⟨(some 78), .index 9 (.const (.string ⟨#[48, 48, 48, 49, 48, 50, 48, 51, 48, 52, 48, 53, 48, 54, 48, 55, 48, 56, 48, 57, 49, 48, 49, 49, 49, 50, 49, 51, 49, 52, 49, 53, 49, 54, 49, 55, 49, 56, 49, 57, 50, 48, 50, 49, 50, 50, 50, 51, 50, 52, 50, 53, 50, 54, 50, 55, 50, 56, 50, 57, 51, 48, 51, 49, 51, 50, 51, 51, 51, 52, 51, 53, 51, 54, 51, 55, 51, 56, 51, 57, 52, 48, 52, 49, 52, 50, 52, 51, 52, 52, 52, 53, 52, 54, 52, 55, 52, 56, 52, 57, 53, 48, 53, 49, 53, 50, 53, 51, 53, 52, 53, 53, 53, 54, 53, 55, 53, 56, 53, 57, 54, 48, 54, 49, 54, 50, 54, 51, 54, 52, 54, 53, 54, 54, 54, 55, 54, 56, 54, 57, 55, 48, 55, 49, 55, 50, 55, 51, 55, 52, 55, 53, 55, 54, 55, 55, 55, 56, 55, 57, 56, 48, 56, 49, 56, 50, 56, 51, 56, 52, 56, 53, 56, 54, 56, 55, 56, 56, 56, 57, 57, 48, 57, 49, 57, 50, 57, 51, 57, 52, 57, 53, 57, 54, 57, 55, 57, 56, 57, 57]⟩)) (.tmp 77), 5, none, [], 10⟩,
  ⟨(some 79), .indexAddr 115 (.tmp 68) (.tmp 70), 0, none, [], 11⟩,
  ⟨none, .store 5 (.tmp 79) (.tmp 76), 0, none, [], 12⟩,
  ⟨(some 80), .indexAddr 115 (.tmp 71) (.tmp 73), 0, none, [], 13⟩,
  ⟨none, .store 5 (.tmp 80) (.tmp 78), 0, none, [], 14⟩]
def r243_10 : List TOper := [⟨(some 81), .move (.tmp 0), 115, none, [], 0⟩,
  ⟨(some 82), .move (.tmp 4), 3, none, [], 1⟩,
  ⟨(some 83), .binOp .sub 3 (.tmp 82) (.const (.int .i64 7)) 3, 3, none, [], 2⟩,
  ⟨(some 84), .move (.tmp 0), 115, none, [], 3⟩,
  ⟨(some 85), .move (.tmp 4), 3, none, [], 4⟩,
  ⟨(some 86), .binOp .sub 3 (.tmp 85) (.const (.int .i64 8)) 3, 3, none, [], 5⟩,
  ⟨(some 87), .move (.tmp 10), 202, none, [], 6⟩,
  ⟨(some 88), .binOp .add 202 (.tmp 87) (.const (.int .u32 1)) 202, 202, none, [], 7⟩,
  ⟨(some 89), .index 9 (.const (.string ⟨#[48, 48, 48, 49, 48, 50, 48, 51, 48, 52, 48, 53, 48, 54, 48, 55, 48, 56, 48, 57, 49, 48, 49, 49, 49, 50, 49, 51, 49, 52, 49, 53, 49, 54, 49, 55, 49, 56, 49, 57, 50, 48, 50, 49, 50, 50, 50, 51, 50, 52, 50, 53, 50, 54, 50, 55, 50, 56, 50, 57, 51, 48, 51, 49, 51, 50, 51, 51, 51, 52, 51, 53, 51, 54, 51, 55, 51, 56, 51, 57, 52, 48, 52, 49, 52, 50, 52, 51, 52, 52, 52, 53, 52, 54, 52, 55, 52, 56, 52, 57, 53, 48, 53, 49, 53, 50, 53, 51, 53, 52, 53, 53, 53, 54, 53, 55, 53, 56, 53, 57, 54, 48, 54, 49, 54, 50, 54, 51, 54, 52, 54, 53, 54, 54, 54, 55, 54, 56, 54, 57, 55, 48, 55, 49, 55, 50, 55, 51, 55, 52, 55, 53, 55, 54, 55, 55, 55, 56, 55, 57, 56, 48, 56, 49, 56, 50, 56, 51, 56, 52, 56, 53, 56, 54, 56, 55, 56, 56, 56, 57, 57, 48, 57, 49, 57, 50, 57, 51, 57, 52, 57, 53, 57, 54, 57, 55, 57, 56, 57, 57]⟩)) (.tmp 88), 5, none, [], 8⟩,
  ⟨(some 90), .move (.tmp 10), 202, none, [], 9⟩,
  ⟨(some 91), .index 9 (.const (.string ⟨#[48, 48, 48, 49, 48, 50, 48, 51, 48, 52, 48, 53, 48, 54, 48, 55, 48, 56, 48, 57, 49, 48, 49, 49, 49, 50, 49, 51, 49, 52, 49, 53, 49, 54, 49, 55, 49, 56, 49, 57, 50, 48, 50, 49, 50, 50, 50, 51, 50, 52, 50, 53, 50, 54, 50, 55, 50, 56, 50, 57, 51, 48, 51, 49, 51, 50, 51, 51, 51, 52, 51, 53, 51, 54, 51, 55, 51, 56, 51, 57, 52, 48, 52, 49, 52, 50, 52, 51, 52, 52, 52, 53, 52, 54, 52, 55, 52, 56, 52, 57, 53, 48, 53, 49, 53, 50, 53, 51, 53, 52, 53, 53, 53, 54, 53, 55, 53, 56, 53, 57, 54, 48, 54, 49, 54, 50, 54, 51, 54, 52, 54, 53, 54, 54, 54, 55, 54, 56, 54, 57, 55, 48, 55, 49, 55, 50, 55, 51, 55, 52, 55, 53, 55, 54, 55, 55, 55, 56, 55, 57, 56, 48, 56, 49, 56, 50, 56, 51, 56, 52, 56, 53, 56, 54, 56, 55, 56, 56, 56, 57, 57, 48, 57, 49, 57, 50, 57, 51, 57, 52, 57, 53, 57, 54, 57, 55, 57, 56, 57, 57]⟩)) (.tmp 90), 5, none, [], 10⟩,
  ⟨(some 92), .indexAddr 115 (.tmp 81) (.tmp 83), 0, none, [], 11⟩,
  ⟨none, .store 5 (.tmp 92) (.tmp 89), 0, none, [], 12⟩,
  ⟨(some 93), .indexAddr 115 (.tmp 84) (.tmp 86), 0, none, [], 13⟩,
  ⟨none, .store 5 (.tmp 93) (.tmp 91), 0, none, [], 14⟩]
def r243_11 : List TOper := [⟨(some 94), .move (.tmp 4), 3, none, [], 0⟩,
  ⟨(some 95), .binOp .sub 3 (.tmp 94) (.const (.int .i64 8)) 3, 3, none, [], 1⟩,
  ⟨(some 4), .assign (.tmp 95), 3, none, [], 2⟩]
def r243_12 : List TOper := [⟨(some 96), .move (.tmp 1), 291, none, [], 0⟩,
  ⟨(some 97), .convert 291 202 (.tmp 96), 202, none, [], 1⟩,
  ⟨(some 12), .assign (.tmp 97), 202, none, [], 2⟩]
def r243_13 : List TOper := [⟨(some 98), .move (.tmp 4), 3, none, [], 0⟩,
  ⟨(some 99), .binOp .geq 3 (.tmp 98) (.const (.int .i64 4)) 3, 4, none, [], 1⟩]
def r243_14 : List TOper := [⟨(some 100), .move (.tmp 12), 202, none, [], 0⟩,
  ⟨(some 101), .binOp .rem 202 (.tmp 100) (.const (.int .u32 10000)) 202, 202, none, [], 1⟩,
  ⟨(some 13), .assign (.tmp 101), 202, none, [], 2⟩]
def r243_15 : List TOper := [⟨(some 102), .move (.tmp 12), 202, none, [], 0⟩,
  ⟨(some 103), .binOp .quo 202 (.tmp 102) (.const (.int .u32 10000)) 202, 202, none, [], 1⟩,
  ⟨(some 12), .assign (.tmp 103), 202, none, [], 2⟩]
def r243_16 : List TOper := [⟨(some 104), .move (.tmp 13), 202, none, [], 0⟩,
  ⟨(some 105), .binOp .quo 202 (.tmp 104) (.const (.int .u32 100)) 202, 202, none, [], 1⟩,
  ⟨(some 106), .binOp .mul 202 (.tmp 105) (.const (.int .u32 2)) 202, 202, none, [], 2⟩,
  ⟨(some 107), .move (.tmp 13), 202, none, [], 3⟩,
  ⟨(some 108), .binOp .rem 202 (.tmp 107) (.const (.int .u32 100)) 202, 202, none, [], 4⟩,
  ⟨(some 109), .binOp .mul 202 (.tmp 108) (.const (.int .u32 2)) 202, 202, none, [], 5⟩,
  ⟨(some 14), .assign (.tmp 106), 202, none, [], 6⟩,
  ⟨(some 15), .assign (.tmp 109), 202, none, [], 7⟩]
def r243_17 : List TOper := [⟨(some 110), .move (.tmp 0), 115, none, [], 0⟩,
  ⟨(some 111), .move (.tmp 4), 3, none, [], 1⟩,
  ⟨(some 112), .binOp .sub 3 (.tmp 111) (.const (.int .i64 1)) 3, 3, none, [], 2⟩,
  ⟨(some 113), .move (.tmp 0), 115, none, [], 3⟩,
  ⟨(some 114), .move (.tmp 4), 3, none, [], 4⟩,
  ⟨(some 115), .binOp .sub 3 (.tmp 114) (.const (.int .i64 2)) 3, 3, none, [], 5⟩,
  ⟨(some 116), .move (.tmp 15), 202, none, [], 6⟩,
  ⟨(some 117), .binOp .add 202 (.tmp 116) (.const (.int .u32 1)) 202, 202, none, [], 7⟩,
  ⟨(some 118), .index 9 (.const (.string ⟨#[48, 48, 48, 49, 48, 50, 48, 51, 48, 52, 48, 53, 48, 54, 48, 55, 48, 56, 48, 57, 49, 48, 49, 49, 49, 50, 49, 51, 49, 52, 49, 53, 49, 54, 49, 55, 49, 56, 49, 57, 50, 48, 50, 49, 50, 50, 50, 51, 50, 52, 50, 53, 50, 54, 50, 55, 50, 56, 50, 57, 51, 48, 51, 49, 51, 50, 51, 51, 51, 52, 51, 53, 51, 54, 51, 55, 51, 56, 51, 57, 52, 48, 52, 49, 52, 50, 52, 51, 52, 52, 52, 53, 52, 54, 52, 55, 52, 56, 52, 57, 53, 48, 53, 49, 53, 50, 53, 51, 53, 52, 53, 53, 53, 54, 53, 55, 53, 56, 53, 57, 54, 48, 54, 49, 54, 50, 54, 51, 54, 52, 54, 53, 54, 54, 54, 55, 54, 56, 54, 57, 55, 48, 55, 49, 55, 50, 55, 51, 55, 52, 55, 53, 55, 54, 55, 55, 55, 56, 55, 57, 56, 48, 56, 49, 56, 50, 56, 51, 56, 52, 56, 53, 56, 54, 56, 55, 56, 56, 56, 57, 57, 48, 57, 49, 57, 50, 57, 51, 57, 52, 57, 53, 57, 54, 57, 55, 57, 56, 57, 57]⟩)) (.tmp 117), 5, none, [], 8⟩,
  ⟨(some 119), .move (.tmp 15), 202, none, [], 9⟩,
  ⟨(some 120), .index 9 (.const (.string ⟨#[48, 48, 48, 49, 48, 50, 48, 51, 48, 52, 48, 53, 48, 54, 48, 55, 48, 56, 48, 57, 49, 48, 49, 49, 49, 50, 49, 51, 49, 52, 49, 53, 49, 54, 49, 55, 49, 56, 49, 57, 50, 48, 50, 49, 50, 50, 50, 51, 50, 52, 50, 53, 50, 54, 50, 55, 50, 56, 50, 57, 51, 48, 51, 49, 51, 50, 51, 51, 51, 52, 51, 53, 51, 54, 51, 55, 51, 56, 51, 57, 52, 48, 52, 49, 52, 50, 52, 51, 52, 52, 52, 53, 52, 54, 52, 55, 52, 56, 52, 57, 53, 48, 53, 49, 53, 50, 53, 51, 53, 52, 53, 53, 53, 54, 53, 55, 53, 56, 53, 57, 54, 48, 54, 49, 54, 50, 54, 51, 54, 52, 54, 53, 54, 54, 54, 55, 54, 56, 54, 57, 55, 48, 55, 49, 55, 50, 55, 51, 55, 52, 55, 53, 55, 54, 55, 55, 55, 56, 55, 57, 56, 48, 56, 49, 56, 50, 56, 51, 56, 52, 56, 53, 56, 54, 56, 55, 56, 56, 56, 57, 57, 48, 57, 49, 57, 50, 57, 51, 57, 52, 57, 53, 57, 54, 57, 55, 57, 56, 57, 57]⟩)) (.tmp 119), 5, none, [], 10⟩,
  ⟨(some 121), .indexAddr 115 (.tmp 110) (.tmp 112), 0, none, [], 11⟩,
  ⟨none, .store 5 (.tmp 121) (.tmp 118), 0, none, [], 12⟩,
  ⟨(some 122), .indexAddr 115 (.tmp 113) (.tmp 115), 0, none, [], 13⟩,
  ⟨none, .store 5 (.tmp 122) (.tmp 120), 0, none, [], 14⟩]
def r243_18 : List TOper := [⟨(some 123), .move (.tmp 0), 115, none, [], 0⟩,
  ⟨(some 124), .move (.tmp 4), 3, none, [], 1⟩,
  ⟨(some 125), .binOp .sub 3 (.tmp 124) (.const (.int .i64 3)) 3, 3, none, [], 2⟩,
  ⟨(some 126), .move (.tmp 0), 115, none, [], 3⟩,
  ⟨(some 127), .move (.tmp 4), 3, none, [], 4⟩,
  ⟨(some 128), .binOp .sub 3 (.tmp 127) (.const (.int .i64 4)) 3, 3, none, [], 5⟩,
  ⟨(some 129), .move (.tmp 14), 202, none, [], 6⟩,
  ⟨(some 130), .binOp .add 202 (.tmp 129) (.const (.int .u32 1)) 202, 202, none, [], 7⟩,
  ⟨(some 131), .index 9 (.const (.string ⟨#[48, 48, 48, 49, 48, 50, 48, 51, 48, 52, 48, 53, 48, 54, 48, 55, 48, 56, 48, 57, 49, 48, 49, 49, 49, 50, 49, 51, 49, 52, 49, 53, 49, 54, 49, 55, 49, 56, 49, 57, 50, 48, 50, 49, 50, 50, 50, 51, 50, 52, 50, 53, 50, 54, 50, 55, 50, 56, 50, 57, 51, 48, 51, 49, 51, 50, 51, 51, 51, 52, 51, 53, 51, 54, 51, 55, 51, 56, 51, 57, 52, 48, 52, 49, 52, 50, 52, 51, 52, 52, 52, 53, 52, 54, 52, 55, 52, 56, 52, 57, 53, 48, 53, 49, 53, 50, 53, 51, 53, 52, 53, 53, 53, 54, 53, 55, 53, 56, 53, 57, 54, 48, 54, 49, 54, 50, 54, 51, 54, 52, 54, 53, 54, 54, 54, 55, 54, 56, 54, 57, 55, 48, 55, 49, 55, 50, 55, 51, 55, 52, 55, 53, 55, 54, 55, 55, 55, 56, 55, 57, 56, 48, 56, 49, 56, 50, 56, 51, 56, 52, 56, 53, 56, 54, 56, 55, 56, 56, 56, 57, 57, 48, 57, 49, 57, 50, 57, 51, 57, 52, 57, 53, 57, 54, 57, 55, 57, 56, 57, 57]⟩)) (.tmp 130), 5, none, [], 8⟩,
  ⟨(some 132), .move (.tmp 14), 202, none, [], 9⟩,
  ⟨(some 133), .index 9 (.const (.string ⟨#[48, 48, 48, 49, 48, 50, 48, 51, 48, 52, 48, 53, 48, 54, 48, 55, 48, 56, 48, 57, 49, 48, 49, 49, 49, 50, 49, 51, 49, 52, 49, 53, 49, 54, 49, 55, 49, 56, 49, 57, 50, 48, 50, 49, 50, 50, 50, 51, 50, 52, 50, 53, 50, 54, 50, 55, 50, 56, 50, 57, 51, 48, 51, 49, 51, 50, 51, 51, 51, 52, 51, 53, 51, 54, 51, 55, 51, 56, 51, 57, 52, 48, 52, 49, 52, 50, 52, 51, 52, 52, 52, 53, 52, 54, 52, 55, 52, 56, 52, 57, 53, 48, 53, 49, 53, 50, 53, 51, 53, 52, 53, 53, 53, 54, 53, 55, 53, 56, 53, 57, 54, 48, 54, 49, 54, 50, 54, 51, 54, 52, 54, 53, 54, 54, 54, 55, 54, 56, 54, 57, 55, 48, 55, 49, 55, 50, 55, 51, 55, 52, 55, 53, 55, 54, 55, 55, 55, 56, 55, 57, 56, 48, 56, 49, 56, 50, 56, 51, 56, 52, 56, 53, 56, 54, 56, 55, 56, 56, 56, 57, 57, 48, 57, 49, 57, 50, 57, 51, 57, 52, 57, 53, 57, 54, 57, 55, 57, 56, 57, 57]⟩)) (.tmp 132), 5, none, [], 10⟩,
  ⟨(some 134), .indexAddr 115 (.tmp 123) (.tmp 125), 0, none, [], 11⟩,
  ⟨none, .store 5 (.tmp 134) (.tmp 131), 0, none, [], 12⟩,
  ⟨(some 135), .indexAddr 115 (.tmp 126) (.tmp 128), 0, none, [], 13⟩,
  ⟨none, .store 5 (.tmp 135) (.tmp 133), 0, none, [], 14⟩]
def r243_19 : List TOper := [⟨(some 136), .move (.tmp 4), 3, none, [], 0⟩,
  ⟨(some 137), .binOp .sub 3 (.tmp 136) (.const (.int .i64 4)) 3, 3, none, [], 1⟩,
  ⟨(some 4), .assign (.tmp 137), 3, none, [], 2⟩]
def r243_20 : List TOper := [⟨(some 138), .move (.tmp 4), 3, none, [], 0⟩,
  ⟨(some 139), .binOp .geq 3 (.tmp 138) (.const (.int .i64 2)) 3, 4, none, [], 1⟩]
def r243_21 : List TOper := [⟨(some 140), .move (.tmp 12), 202, none, [], 0⟩,
  ⟨(some 141), .binOp .rem 202 (.tmp 140) (.const (.int .u32 100)) 202, 202, none, [], 1⟩,
  ⟨(some 142), .binOp .mul 202 (.tmp 141) (.const (.int .u32 2)) 202, 202, none, [], 2⟩,
  ⟨(some 16), .assign (.tmp 142), 202, none, [], 3⟩]
def r243_22 : List TOper := [⟨(some 143), .move (.tmp 12), 202, none, [], 0⟩,
  ⟨(some 144), .binOp .quo 202 (.tmp 143) (.const (.int .u32 100)) 202, 202, none, [], 1⟩,
  ⟨(some 12), .assign (.tmp 144), 202, none, [], 2⟩]
def r243_23 : List TOper := [⟨(some 145), .move (.tmp 0), 115, none, [], 0⟩,
  ⟨(some 146), .move (.tmp 4), 3, none, [], 1⟩,
  ⟨(some 147), .binOp .sub 3 (.tmp 146) (.const (.int .i64 1)) 3, 3, none, [], 2⟩,
  ⟨(some 148), .move (.tmp 0), 115, none, [], 3⟩,
  ⟨(some 149), .move (.tmp 4), 3, none, [], 4⟩,
  ⟨(some 150), .binOp .sub 3 (.tmp 149) (.const (.int .i64 2)) 3, 3, none, [], 5⟩,
  ⟨(some 151), .move (.tmp 16), 202, none, [], 6⟩,
  ⟨(some 152), .binOp .add 202 (.tmp 151) (.const (.int .u32 1)) 202, 202, none, [], 7⟩,
  ⟨(some 153), .index 9 (.const (.string ⟨#[48, 48, 48, 49, 48, 50, 48, 51, 48, 52, 48, 53, 48, 54, 48, 55, 48, 56, 48, 57, 49, 48, 49, 49, 49, 50, 49, 51, 49, 52, 49, 53, 49, 54, 49, 55, 49, 56, 49, 57, 50, 48, 50, 49, 50, 50, 50, 51, 50, 52, 50, 53, 50, 54, 50, 55, 50, 56, 50, 57, 51, 48, 51, 49, 51, 50, 51, 51, 51, 52, 51, 53, 51, 54, 51, 55, 51, 56, 51, 57, 52, 48, 52, 49, 52, 50, 52, 51, 52, 52, 52, 53, 52, 54, 52, 55, 52, 56, 52, 57, 53, 48, 53, 49, 53, 50, 53, 51, 53, 52, 53, 53, 53, 54, 53, 55, 53, 56, 53, 57, 54, 48, 54, 49, 54, 50, 54, 51, 54, 52, 54, 53, 54, 54, 54, 55, 54, 56, 54, 57, 55, 48, 55, 49, 55, 50, 55, 51, 55, 52, 55, 53, 55, 54, 55, 55, 55, 56, 55, 57, 56, 48, 56, 49, 56, 50, 56, 51, 56, 52, 56, 53, 56, 54, 56, 55, 56, 56, 56, 57, 57, 48, 57, 49, 57, 50, 57, 51, 57, 52, 57, 53, 57, 54, 57, 55, 57, 56, 57, 57]⟩)) (.tmp 152), 5, none, [], 8⟩,
  ⟨(some 154), .move (.tmp 16), 202, none, [], 9⟩,
  ⟨(some 155), .index 9 (.const (.string ⟨#[48, 48, 48, 49, 48, 50, 48, 51, 48, 52, 48, 53, 48, 54, 48, 55, 48, 56, 48, 57, 49, 48, 49, 49, 49, 50, 49, 51, 49, 52, 49, 53, 49, 54, 49, 55, 49, 56, 49, 57, 50, 48, 50, 49, 50, 50, 50, 51, 50, 52, 50, 53, 50, 54, 50, 55, 50, 56, 50, 57, 51, 48, 51, 49, 51, 50, 51, 51, 51, 52, 51, 53, 51, 54, 51, 55, 51, 56, 51, 57, 52, 48, 52, 49, 52, 50, 52, 51, 52, 52, 52, 53, 52, 54, 52, 55, 52, 56, 52, 57, 53, 48, 53, 49, 53, 50, 53, 51, 53, 52, 53, 53, 53, 54, 53, 55, 53, 56, 53, 57, 54, 48, 54, 49, 54, 50, 54, 51, 54, 52, 54, 53, 54, 54, 54, 55, 54, 56, 54, 57, 55, 48, 55, 49, 55, 50, 55, 51, 55, 52, 55, 53, 55, 54, 55, 55, 55, 56, 55, 57, 56, 48, 56, 49, 56, 50, 56, 51, 56, 52, 56, 53, 56, 54, 56, 55, 56, 56, 56, 57, 57, 48, 57, 49, 57, 50, 57, 51, 57, 52, 57, 53, 57, 54, 57, 55, 57, 56, 57, 57]⟩)) (.tmp 154), 5, none, [], 10⟩,
  ⟨(some 156), .indexAddr 115 (.tmp 145) (.tmp 147), 0, none, [], 11⟩,
  ⟨none, .store 5 (.tmp 156) (.tmp 153), 0, none, [], 12⟩,
  ⟨(some 157), .indexAddr 115 (.tmp 148) (.tmp 150), 0, none, [], 13⟩,
  ⟨none, .store 5 (.tmp 157) (.tmp 155), 0, none, [], 14⟩]
def r243_24 : List TOper := [⟨(some 158), .move (.tmp 4), 3, none, [], 0⟩,
  ⟨(some 159), .binOp .sub 3 (.tmp 158) (.const (.int .i64 2)) 3, 3, none, [], 1⟩,
  ⟨(some 4), .assign (.tmp 159), 3, none, [], 2⟩]
def r243_25 : List TOper := [⟨(some 160), .move (.tmp 4), 3, none, [], 0⟩,
  ⟨(some 161), .binOp .gtr 3 (.tmp 160) (.const (.int .i64 0)) 3, 4, none, [], 1⟩]
def r243_26 : List TOper := [⟨(some 162), .move (.tmp 0), 115, none, [], 0⟩,
  ⟨(some 163), .move (.tmp 12), 202, none, [], 1⟩,
  ⟨(some 164), .binOp .add 202 (.const (.int .u32 48)) (.tmp 163) 202, 202, none, [], 2⟩,
  ⟨(some 165), .convert 202 5 (.tmp 164), 5, none, [], 3⟩,
  ⟨(some 166), .indexAddr 115 (.tmp 162) (.const (.int .i64 0)), 0, none, [], 4⟩,
  ⟨none, .store 5 (.tmp 166) (.tmp 165), 0, none, [], 5⟩]
def c243 : TCode := (.seq (.reg r243_0) (.seq (.block 0 (.loop (.seq (.seq (.reg r243_1) (.cond (.tmp 20) .skip (.exit 0))) (.block 1 (.seq (.reg r243_2) (.seq (.reg r243_3) (.seq (.reg r243_4) (.seq (.reg r243_5) (.seq (.reg r243_6) (.seq (.reg r243_7) (.seq (.reg r243_8) (.seq (.reg r243_9) (.seq (.reg r243_10) (.reg r243_11)))))))))))))) (.seq (.reg r243_12) (.seq (.seq (.reg r243_13) (.cond (.tmp 99) (.seq (.reg r243_14) (.seq (.reg r243_15) (.seq (.reg r243_16) (.seq (.reg r243_17) (.seq (.reg r243_18) (.reg r243_19)))))) .skip)) (.seq (.seq (.reg r243_20) (.cond (.tmp 139) (.seq (.reg r243_21) (.seq (.reg r243_22) (.seq (.reg r243_23) (.reg r243_24)))) .skip)) (.seq (.reg r243_25) (.cond (.tmp 161) (.reg r243_26) .skip)))))))
def f243 : TFun := ⟨c243, 167, []⟩
def r255_0 : List TOper := [⟨(some 2), .assign (.const (.bool false)), 4, none, [], 0⟩]
def r255_1 : List TOper := [⟨(some 3), .move (.tmp 0), 3, none, [], 0⟩,
  ⟨(some 4), .move (.tmp 0), 3, none, [], 1⟩,
  ⟨(some 5), .binOp .neq 3 (.tmp 3) (.tmp 4) 3, 4, none, [], 2⟩,
  ⟨(some 2), .assign (.tmp 5), 4, none, [], 3⟩]
def c255 : TCode := (.seq (.reg r255_0) (.seq (.reg r255_1) .ret))
def f255 : TFun := ⟨c255, 6, [.tmp 2]⟩
def r257_0 : List TOper := [⟨(some 2), .assign (.const (.int .i64 0)), 3, none, [], 0⟩]
def r257_1 : List TOper := [⟨(some 3), .move (.tmp 0), 3, none, [], 0⟩,
  ⟨(some 4), .binOp .mul 3 (.tmp 3) (.const (.int .i64 78913)) 3, 3, none, [], 1⟩,
  ⟨(some 5), .binOp .shr 3 (.tmp 4) (.const (.int .u64 18)) 259, 3, none, [], 2⟩,
  ⟨(some 2), .assign (.tmp 5), 3, none, [], 3⟩]
def c257 : TCode := (.seq (.reg r257_0) (.seq (.reg r257_1) .ret))
def f257 : TFun := ⟨c257, 6, [.tmp 2]⟩
def r258_0 : List TOper := [⟨(some 2), .assign (.const (.int .i64 0)), 3, none, [], 0⟩]
def r258_1 : List TOper := [⟨(some 3), .move (.tmp 0), 4, none, [], 0⟩]
def r258_2 : List TOper := [⟨(some 2), .assign (.const (.int .i64 1)), 3, none, [], 0⟩]
def r258_3 : List TOper := [⟨(some 2), .assign (.const (.int .i64 0)), 3, none, [], 0⟩]
def c258 : TCode := (.seq (.reg r258_0) (.seq (.seq (.reg r258_1) (.cond (.tmp 3) (.seq (.reg r258_2) .ret) .skip)) (.seq (.reg r258_3) .ret)))
def f258 : TFun := ⟨c258, 4, [.tmp 2]⟩
end Tab
end Go.Tidy
