/- Functions of the program, as the plain interpreter has them. -/
import Derived.Test.YtkaiphobleifgaaGreatDoorTd4
set_option linter.all false
namespace Go.Tidy
open Go
namespace Tab
def r3_0 : List TOper := [⟨(some 4), .box 22 (.tmp 1), 0, none, [], 0⟩,
  ⟨(some 5), .box 27 (.tmp 2), 0, none, [], 1⟩,
  ⟨(some 6), .assign (.const (.bool false)), 4, none, [], 2⟩]
def r3_1 : List TOper := [⟨(some 11), .move (.tmp 0), 9, none, [], 0⟩,
  ⟨(some 12), .call ⟨.builtin .len, #[(.tmp 11)], #[9]⟩, 3, none, [], 1⟩,
  ⟨(some 13), .binOp .gtr 3 (.tmp 12) (.const (.int .i64 60)) 3, 4, none, [], 2⟩,
  ⟨(some 14), .move (.tmp 13), 4, none, [], 3⟩,
  ⟨(some 15), .indexAddr 22 (.tmp 4) (.const (.int .i64 1)), 0, (some (14, false)), [], 4⟩,
  ⟨(some 16), .load 3 (.tmp 15), 3, (some (14, false)), [], 5⟩,
  ⟨(some 17), .binOp .gtr 3 (.tmp 16) (.const (.int .i64 60)) 3, 4, (some (14, false)), [], 6⟩,
  ⟨(some 18), .move (.tmp 17), 4, (some (14, false)), [], 7⟩,
  ⟨(some 19), .indexAddr 22 (.tmp 4) (.const (.int .i64 1)), 0, (some (18, true)), [], 8⟩,
  ⟨(some 20), .load 3 (.tmp 19), 3, (some (18, true)), [], 9⟩,
  ⟨(some 21), .binOp .leq 3 (.tmp 20) (.const (.int .i64 256)) 3, 4, (some (18, true)), [], 10⟩,
  ⟨(some 22), .pick (.tmp 18) (.tmp 21) (.const (.bool false)), 4, (some (14, false)), [], 11⟩,
  ⟨(some 23), .pick (.tmp 14) (.const (.bool true)) (.tmp 22), 4, none, [], 12⟩]
def r3_2 : List TOper := [⟨(some 24), .call ⟨.value (.func 14), #[], #[]⟩, 4, none, [], 0⟩,
  ⟨(some 6), .assign (.tmp 24), 4, none, [], 1⟩]
def r3_3 : List TOper := [⟨(some 26), .indexAddr 22 (.tmp 4) (.const (.int .i64 0)), 0, none, [], 0⟩,
  ⟨(some 27), .load 3 (.tmp 26), 3, none, [], 1⟩,
  ⟨(some 28), .indexAddr 22 (.tmp 4) (.const (.int .i64 1)), 0, none, [], 2⟩,
  ⟨(some 29), .load 3 (.tmp 28), 3, none, [], 3⟩,
  ⟨(some 30), .call ⟨.value (.func 15), #[(.tmp 27), (.tmp 29)], #[3, 3]⟩, 31, none, [], 4⟩,
  ⟨(some 25), .move (.tmp 30), 31, none, [], 5⟩,
  ⟨(some 31), .extract (.tmp 25) 0, 29, none, [], 6⟩,
  ⟨(some 32), .extract (.tmp 25) 1, 30, none, [], 7⟩,
  ⟨(some 7), .assign (.tmp 31), 29, none, [], 8⟩,
  ⟨(some 8), .assign (.tmp 32), 30, none, [], 9⟩]
def r3_4 : List TOper := [⟨(some 33), .indexAddr 22 (.tmp 4) (.const (.int .i64 0)), 0, none, [], 0⟩,
  ⟨(some 34), .load 3 (.tmp 33), 3, none, [], 1⟩,
  ⟨(some 36), .indexAddr 22 (.tmp 4) (.const (.int .i64 1)), 0, none, [], 3⟩,
  ⟨(some 37), .load 3 (.tmp 36), 3, none, [], 4⟩,
  ⟨(some 35), .call ⟨.value (.func 17), #[(.tmp 34), (.const (.int .i64 1)), (.const (.int .i64 2147483646))], #[3, 3, 3]⟩, 3, none, [(.tmp 36)], 2⟩,
  ⟨(some 38), .call ⟨.value (.func 17), #[(.tmp 37), (.const (.int .i64 0)), (.const (.int .i64 256))], #[3, 3, 3]⟩, 3, none, [], 5⟩,
  ⟨(some 39), .buildSlice 29 2 #[(0, (.tmp 35)), (1, (.tmp 38))], 29, none, [], 6⟩,
  ⟨(some 40), .call ⟨.value (.func 16), #[(.tmp 39)], #[29]⟩, 3, none, [], 7⟩,
  ⟨(some 9), .assign (.tmp 40), 3, none, [], 8⟩]
def r3_5 : List TOper := [⟨(some 10), .assign (.const (.slice none 0 0)), 29, none, [], 0⟩]
def r3_6 : List TOper := [⟨(some 41), .move (.tmp 9), 3, none, [], 0⟩,
  ⟨(some 42), .binOp .eql 3 (.tmp 41) (.const (.int .i64 0)) 3, 4, none, [], 1⟩]
def r3_7 : List TOper := [⟨(some 43), .indexAddr 22 (.tmp 4) (.const (.int .i64 0)), 0, none, [], 0⟩,
  ⟨(some 44), .load 3 (.tmp 43), 3, none, [], 1⟩,
  ⟨(some 45), .indexAddr 22 (.tmp 4) (.const (.int .i64 1)), 0, none, [], 2⟩,
  ⟨(some 46), .load 3 (.tmp 45), 3, none, [], 3⟩,
  ⟨(some 47), .call ⟨.value (.func 18), #[(.tmp 44), (.tmp 46)], #[3, 3]⟩, 29, none, [], 4⟩,
  ⟨(some 10), .assign (.tmp 47), 29, none, [], 5⟩]
def r3_8 : List TOper := [⟨(some 48), .move (.tmp 0), 9, none, [], 0⟩,
  ⟨(some 50), .move (.tmp 0), 9, none, [], 2⟩,
  ⟨(some 49), .call ⟨.value (.func 19), #[(.tmp 48)], #[9]⟩, 4, none, [], 1⟩,
  ⟨(some 51), .call ⟨.value (.func 20), #[(.tmp 50)], #[9]⟩, 4, none, [], 3⟩,
  ⟨(some 52), .binOp .eql 4 (.tmp 49) (.tmp 51) 4, 4, none, [], 4⟩,
  ⟨(some 53), .move (.tmp 52), 4, none, [], 5⟩,
  ⟨(some 54), .move (.tmp 7), 29, (some (53, true)), [], 6⟩,
  ⟨(some 55), .move (.tmp 10), 29, (some (53, true)), [], 7⟩,
  ⟨(some 56), .call ⟨.value (.func 21), #[(.tmp 54), (.tmp 55)], #[29, 29]⟩, 4, (some (53, true)), [], 8⟩,
  ⟨(some 57), .pick (.tmp 53) (.tmp 56) (.const (.bool false)), 4, none, [], 9⟩,
  ⟨(some 58), .move (.tmp 57), 4, none, [], 10⟩,
  ⟨(some 59), .move (.tmp 8), 30, (some (58, true)), [], 11⟩,
  ⟨(some 60), .move (.tmp 9), 3, (some (58, true)), [], 12⟩,
  ⟨(some 61), .binOp .eql 3 (.tmp 59) (.tmp 60) 3, 4, (some (58, true)), [], 13⟩,
  ⟨(some 62), .pick (.tmp 58) (.tmp 61) (.const (.bool false)), 4, none, [], 14⟩,
  ⟨(some 63), .move (.tmp 62), 4, none, [], 15⟩,
  ⟨(some 64), .fieldAddr 27 (.tmp 5) 0, 0, (some (63, true)), [], 16⟩,
  ⟨(some 65), .load 24 (.tmp 64), 24, (some (63, true)), [], 17⟩,
  ⟨(some 67), .fieldAddr 27 (.tmp 5) 0, 0, (some (63, true)), [], 19⟩,
  ⟨(some 68), .load 24 (.tmp 67), 24, (some (63, true)), [], 20⟩,
  ⟨(some 66), .call ⟨.value (.func 22), #[(.tmp 65)], #[24]⟩, 30, (some (63, true)), [(.tmp 67)], 18⟩,
  ⟨(some 69), .call ⟨.value (.func 23), #[(.tmp 68)], #[24]⟩, 3, (some (63, true)), [], 21⟩,
  ⟨(some 70), .binOp .eql 3 (.tmp 66) (.tmp 69) 3, 4, (some (63, true)), [], 22⟩,
  ⟨(some 71), .pick (.tmp 63) (.tmp 70) (.const (.bool false)), 4, none, [], 23⟩,
  ⟨(some 72), .move (.tmp 71), 4, none, [], 24⟩,
  ⟨(some 73), .fieldAddr 27 (.tmp 5) 1, 0, (some (72, true)), [], 25⟩,
  ⟨(some 74), .load 25 (.tmp 73), 25, (some (72, true)), [], 26⟩,
  ⟨(some 76), .fieldAddr 27 (.tmp 5) 1, 0, (some (72, true)), [], 28⟩,
  ⟨(some 77), .load 25 (.tmp 76), 25, (some (72, true)), [], 29⟩,
  ⟨(some 75), .call ⟨.value (.func 24), #[(.tmp 74)], #[25]⟩, 30, (some (72, true)), [(.tmp 76)], 27⟩,
  ⟨(some 78), .call ⟨.value (.func 25), #[(.tmp 77)], #[25]⟩, 3, (some (72, true)), [], 30⟩,
  ⟨(some 79), .binOp .eql 3 (.tmp 75) (.tmp 78) 3, 4, (some (72, true)), [], 31⟩,
  ⟨(some 80), .pick (.tmp 72) (.tmp 79) (.const (.bool false)), 4, none, [], 32⟩,
  ⟨(some 81), .move (.tmp 80), 4, none, [], 33⟩,
  ⟨(some 82), .call ⟨.value (.func 14), #[], #[]⟩, 4, (some (81, true)), [], 34⟩,
  ⟨(some 83), .pick (.tmp 81) (.tmp 82) (.const (.bool false)), 4, none, [], 35⟩,
  ⟨(some 6), .assign (.tmp 83), 4, none, [], 36⟩]
def c3 : TCode := (.seq (.reg r3_0) (.seq (.seq (.reg r3_1) (.cond (.tmp 23) (.seq (.reg r3_2) .ret) .skip)) (.seq (.reg r3_3) (.seq (.reg r3_4) (.seq (.reg r3_5) (.seq (.seq (.reg r3_6) (.cond (.tmp 42) (.reg r3_7) .skip)) (.seq (.reg r3_8) .ret)))))))
def f3 : TFun := ⟨c3, 84, [.tmp 6]⟩
def r14_0 : List TOper := [⟨(some 0), .assign (.const (.bool false)), 4, none, [], 0⟩]
def r14_1 : List TOper := [⟨(some 50), .call ⟨.value (.func 83), #[], #[]⟩, 52, none, [], 0⟩,
  ⟨(some 51), .call ⟨.value (.func 27), #[(.tmp 50), (.const (.int .i64 101))], #[52, 3]⟩, 50, none, [], 1⟩,
  ⟨(some 49), .move (.tmp 51), 50, none, [], 2⟩,
  ⟨(some 52), .extract (.tmp 49) 0, 25, none, [], 3⟩,
  ⟨(some 53), .extract (.tmp 49) 1, 4, none, [], 4⟩,
  ⟨(some 54), .extract (.tmp 49) 2, 30, none, [], 5⟩,
  ⟨(some 1), .assign (.tmp 52), 25, none, [], 6⟩,
  ⟨(some 2), .assign (.tmp 53), 4, none, [], 7⟩,
  ⟨(some 3), .assign (.tmp 54), 30, none, [], 8⟩]
def r14_2 : List TOper := [⟨(some 56), .call ⟨.value (.func 83), #[], #[]⟩, 52, none, [], 0⟩,
  ⟨(some 57), .call ⟨.value (.func 27), #[(.tmp 56), (.const (.int .i64 102))], #[52, 3]⟩, 50, none, [], 1⟩,
  ⟨(some 55), .move (.tmp 57), 50, none, [], 2⟩,
  ⟨(some 58), .extract (.tmp 55) 0, 25, none, [], 3⟩,
  ⟨(some 59), .extract (.tmp 55) 1, 4, none, [], 4⟩,
  ⟨(some 60), .extract (.tmp 55) 2, 30, none, [], 5⟩,
  ⟨(some 4), .assign (.tmp 58), 25, none, [], 6⟩,
  ⟨(some 5), .assign (.tmp 59), 4, none, [], 7⟩,
  ⟨(some 6), .assign (.tmp 60), 30, none, [], 8⟩]
def r14_3 : List TOper := [⟨(some 62), .call ⟨.value (.func 83), #[], #[]⟩, 52, none, [], 0⟩,
  ⟨(some 63), .call ⟨.value (.func 29), #[(.tmp 62)], #[52]⟩, 54, none, [], 1⟩,
  ⟨(some 61), .move (.tmp 63), 54, none, [], 2⟩,
  ⟨(some 64), .extract (.tmp 61) 0, 3, none, [], 3⟩,
  ⟨(some 65), .extract (.tmp 61) 1, 30, none, [], 4⟩,
  ⟨(some 7), .assign (.tmp 64), 3, none, [], 5⟩,
  ⟨(some 8), .assign (.tmp 65), 30, none, [], 6⟩]
def r14_4 : List TOper := [⟨(some 67), .call ⟨.value (.func 83), #[], #[]⟩, 52, none, [], 0⟩,
  ⟨(some 68), .build 48 #[(0, (.const (.int .i64 101))), (1, (.const (.int .i64 103)))], 48, none, [], 1⟩,
  ⟨(some 69), .call ⟨.value (.func 30), #[(.tmp 67), (.tmp 68)], #[52, 48]⟩, 56, none, [], 2⟩,
  ⟨(some 66), .move (.tmp 69), 56, none, [], 3⟩,
  ⟨(some 70), .extract (.tmp 66) 0, 52, none, [], 4⟩,
  ⟨(some 71), .extract (.tmp 66) 1, 30, none, [], 5⟩,
  ⟨(some 9), .alloc 52, 0, none, [], 6⟩,
  ⟨none, .store 52 (.tmp 9) (.tmp 70), 0, none, [], 7⟩,
  ⟨(some 10), .assign (.tmp 71), 30, none, [], 8⟩]
def r14_5 : List TOper := [⟨(some 73), .call ⟨.value (.func 83), #[], #[]⟩, 52, none, [], 0⟩,
  ⟨(some 74), .call ⟨.value (.func 31), #[(.tmp 73)], #[52]⟩, 56, none, [], 1⟩,
  ⟨(some 72), .move (.tmp 74), 56, none, [], 2⟩,
  ⟨(some 75), .extract (.tmp 72) 0, 52, none, [], 3⟩,
  ⟨(some 76), .extract (.tmp 72) 1, 30, none, [], 4⟩,
  ⟨(some 11), .alloc 52, 0, none, [], 5⟩,
  ⟨none, .store 52 (.tmp 11) (.tmp 75), 0, none, [], 6⟩,
  ⟨(some 12), .assign (.tmp 76), 30, none, [], 7⟩]
def r14_6 : List TOper := [⟨(some 78), .call ⟨.value (.func 83), #[], #[]⟩, 52, none, [], 0⟩,
  ⟨(some 79), .buildSlice 43 1 #[(0, (.const (.float .f32 1088421888)))], 43, none, [], 1⟩,
  ⟨(some 80), .build 52 #[(0, (.const (.string ⟨#[115]⟩))), (1, (.const (.int .i64 106))), (2, (.tmp 79))], 52, none, [], 2⟩,
  ⟨(some 81), .call ⟨.value (.func 52), #[(.tmp 78), (.tmp 80)], #[52, 52]⟩, 56, none, [], 3⟩,
  ⟨(some 77), .move (.tmp 81), 56, none, [], 4⟩,
  ⟨(some 82), .extract (.tmp 77) 0, 52, none, [], 5⟩,
  ⟨(some 83), .extract (.tmp 77) 1, 30, none, [], 6⟩,
  ⟨(some 13), .alloc 52, 0, none, [], 7⟩,
  ⟨none, .store 52 (.tmp 13) (.tmp 82), 0, none, [], 8⟩,
  ⟨(some 14), .assign (.tmp 83), 30, none, [], 9⟩]
def r14_7 : List TOper := [⟨(some 85), .call ⟨.value (.func 83), #[], #[]⟩, 52, none, [], 0⟩,
  ⟨(some 86), .call ⟨.value (.func 48), #[(.tmp 85), (.const (.int .i64 2))], #[52, 3]⟩, 56, none, [], 1⟩,
  ⟨(some 84), .move (.tmp 86), 56, none, [], 2⟩,
  ⟨(some 87), .extract (.tmp 84) 0, 52, none, [], 3⟩,
  ⟨(some 88), .extract (.tmp 84) 1, 30, none, [], 4⟩,
  ⟨(some 15), .alloc 52, 0, none, [], 5⟩,
  ⟨none, .store 52 (.tmp 15) (.tmp 87), 0, none, [], 6⟩,
  ⟨(some 16), .assign (.tmp 88), 30, none, [], 7⟩]
def r14_8 : List TOper := [⟨(some 90), .call ⟨.value (.func 83), #[], #[]⟩, 52, none, [], 0⟩,
  ⟨(some 91), .call ⟨.value (.func 48), #[(.tmp 90), (.const (.int .i64 1))], #[52, 3]⟩, 56, none, [], 1⟩,
  ⟨(some 89), .move (.tmp 91), 56, none, [], 2⟩,
  ⟨(some 92), .extract (.tmp 89) 0, 52, none, [], 3⟩,
  ⟨(some 93), .extract (.tmp 89) 1, 30, none, [], 4⟩,
  ⟨(some 17), .alloc 52, 0, none, [], 5⟩,
  ⟨none, .store 52 (.tmp 17) (.tmp 92), 0, none, [], 6⟩,
  ⟨(some 18), .assign (.tmp 93), 30, none, [], 7⟩]
def r14_9 : List TOper := [⟨(some 95), .call ⟨.value (.func 83), #[], #[]⟩, 52, none, [], 0⟩,
  ⟨(some 96), .call ⟨.value (.func 47), #[(.tmp 95), (.const (.int .i64 2))], #[52, 3]⟩, 56, none, [], 1⟩,
  ⟨(some 94), .move (.tmp 96), 56, none, [], 2⟩,
  ⟨(some 97), .extract (.tmp 94) 0, 52, none, [], 3⟩,
  ⟨(some 98), .extract (.tmp 94) 1, 30, none, [], 4⟩,
  ⟨(some 19), .alloc 52, 0, none, [], 5⟩,
  ⟨none, .store 52 (.tmp 19) (.tmp 97), 0, none, [], 6⟩,
  ⟨(some 20), .assign (.tmp 98), 30, none, [], 7⟩]
def r14_10 : List TOper := [⟨(some 100), .call ⟨.value (.func 83), #[], #[]⟩, 52, none, [], 0⟩,
  ⟨(some 101), .call ⟨.value (.func 46), #[(.tmp 100), (.const (.int .i64 1)), (.const (.int .i64 2))], #[52, 3, 3]⟩, 56, none, [], 1⟩,
  ⟨(some 99), .move (.tmp 101), 56, none, [], 2⟩,
  ⟨(some 102), .extract (.tmp 99) 0, 52, none, [], 3⟩,
  ⟨(some 103), .extract (.tmp 99) 1, 30, none, [], 4⟩,
  ⟨(some 21), .alloc 52, 0, none, [], 5⟩,
  ⟨none, .store 52 (.tmp 21) (.tmp 102), 0, none, [], 6⟩,
  ⟨(some 22), .assign (.tmp 103), 30, none, [], 7⟩]
def r14_11 : List TOper := [⟨(some 104), .move (.tmp 3), 30, none, [], 0⟩,
  ⟨(some 105), .move (.tmp 6), 30, none, [], 1⟩,
  ⟨(some 106), .binOp .add 30 (.tmp 104) (.tmp 105) 30, 30, none, [], 2⟩,
  ⟨(some 107), .move (.tmp 8), 30, none, [], 3⟩,
  ⟨(some 108), .binOp .add 30 (.tmp 106) (.tmp 107) 30, 30, none, [], 4⟩,
  ⟨(some 109), .move (.tmp 10), 30, none, [], 5⟩,
  ⟨(some 110), .binOp .add 30 (.tmp 108) (.tmp 109) 30, 30, none, [], 6⟩,
  ⟨(some 111), .move (.tmp 12), 30, none, [], 7⟩,
  ⟨(some 112), .binOp .add 30 (.tmp 110) (.tmp 111) 30, 30, none, [], 8⟩,
  ⟨(some 113), .move (.tmp 14), 30, none, [], 9⟩,
  ⟨(some 114), .binOp .add 30 (.tmp 112) (.tmp 113) 30, 30, none, [], 10⟩,
  ⟨(some 115), .move (.tmp 16), 30, none, [], 11⟩,
  ⟨(some 116), .binOp .add 30 (.tmp 114) (.tmp 115) 30, 30, none, [], 12⟩,
  ⟨(some 117), .move (.tmp 18), 30, none, [], 13⟩,
  ⟨(some 118), .binOp .add 30 (.tmp 116) (.tmp 117) 30, 30, none, [], 14⟩,
  ⟨(some 119), .move (.tmp 20), 30, none, [], 15⟩,
  ⟨(some 120), .binOp .add 30 (.tmp 118) (.tmp 119) 30, 30, none, [], 16⟩,
  ⟨(some 121), .move (.tmp 22), 30, none, [], 17⟩,
  ⟨(some 122), .binOp .add 30 (.tmp 120) (.tmp 121) 30, 30, none, [], 18⟩,
  ⟨(some 123), .binOp .neq 30 (.tmp 122) (.const (.int .i64 0)) 30, 4, none, [], 19⟩,
  ⟨(some 124), .move (.tmp 123), 4, none, [], 20⟩,
  ⟨(some 125), .move (.tmp 1), 25, (some (124, false)), [], 21⟩,
  ⟨(some 126), .binOp .neq 25 (.tmp 125) (.const (.float .f32 1073741824)) 25, 4, (some (124, false)), [], 22⟩,
  ⟨(some 127), .pick (.tmp 124) (.const (.bool true)) (.tmp 126), 4, none, [], 23⟩,
  ⟨(some 128), .move (.tmp 127), 4, none, [], 24⟩,
  ⟨(some 129), .move (.tmp 2), 4, (some (128, false)), [], 25⟩,
  ⟨(some 130), .unOp .not 4 (.tmp 129), 4, (some (128, false)), [], 26⟩,
  ⟨(some 131), .pick (.tmp 128) (.const (.bool true)) (.tmp 130), 4, none, [], 27⟩,
  ⟨(some 132), .move (.tmp 131), 4, none, [], 28⟩,
  ⟨(some 133), .move (.tmp 5), 4, (some (132, false)), [], 29⟩,
  ⟨(some 134), .pick (.tmp 132) (.const (.bool true)) (.tmp 133), 4, none, [], 30⟩,
  ⟨(some 135), .move (.tmp 134), 4, none, [], 31⟩,
  ⟨(some 136), .move (.tmp 7), 3, (some (135, false)), [], 32⟩,
  ⟨(some 137), .binOp .neq 3 (.tmp 136) (.const (.int .i64 3)) 3, 4, (some (135, false)), [], 33⟩,
  ⟨(some 138), .pick (.tmp 135) (.const (.bool true)) (.tmp 137), 4, none, [], 34⟩]
def r14_12 : List TOper := [⟨(some 0), .assign (.const (.bool false)), 4, none, [], 0⟩]
def r14_13 : List TOper := [⟨(some 139), .load 52 (.tmp 9), 52, none, [], 0⟩,
  ⟨(some 140), .buildSlice 43 2 #[(0, (.const (.float .f32 1073741824))), (1, (.const (.float .f32 0)))], 43, none, [], 1⟩,
  ⟨(some 141), .build 48 #[(0, (.const (.int .i64 1))), (1, (.const (.int .i64 2)))], 48, none, [], 2⟩,
  ⟨(some 142), .buildSlice 44 1 #[(0, (.tmp 141))], 44, none, [], 3⟩,
  ⟨(some 143), .call ⟨.value (.func 84), #[(.tmp 139), (.const (.string ⟨#[114]⟩)), (.const (.int .i64 101)), (.tmp 140), (.tmp 142)], #[52, 9, 3, 43, 44]⟩, 4, none, [], 4⟩,
  ⟨(some 144), .unOp .not 4 (.tmp 143), 4, none, [], 5⟩,
  ⟨(some 145), .move (.tmp 144), 4, none, [], 6⟩,
  ⟨(some 146), .load 52 (.tmp 11), 52, (some (145, false)), [], 7⟩,
  ⟨(some 147), .buildSlice 43 5 #[(0, (.const (.float .f32 1084227584))), (1, (.const (.float .f32 0))), (2, (.const (.float .f32 0))), (3, (.const (.float .f32 1073741824))), (4, (.const (.float .f32 1065353216)))], 43, (some (145, false)), [], 8⟩,
  ⟨(some 148), .build 48 #[(0, (.const (.int .i64 1))), (1, (.const (.int .i64 3)))], 48, (some (145, false)), [], 9⟩,
  ⟨(some 149), .buildSlice 44 1 #[(0, (.tmp 148))], 44, (some (145, false)), [], 10⟩,
  ⟨(some 150), .call ⟨.value (.func 84), #[(.tmp 146), (.const (.string ⟨#[114]⟩)), (.const (.int .i64 100)), (.tmp 147), (.tmp 149)], #[52, 9, 3, 43, 44]⟩, 4, (some (145, false)), [], 11⟩,
  ⟨(some 151), .unOp .not 4 (.tmp 150), 4, (some (145, false)), [], 12⟩,
  ⟨(some 152), .pick (.tmp 145) (.const (.bool true)) (.tmp 151), 4, none, [], 13⟩,
  ⟨(some 153), .move (.tmp 152), 4, none, [], 14⟩,
  ⟨(some 154), .load 52 (.tmp 13), 52, (some (153, false)), [], 15⟩,
  ⟨(some 155), .buildSlice 43 7 #[(0, (.const (.float .f32 1065353216))), (1, (.const (.float .f32 1073741824))), (2, (.const (.float .f32 0))), (3, (.const (.float .f32 0))), (4, (.const (.float .f32 1084227584))), (5, (.const (.float .f32 0))), (6, (.const (.float .f32 1088421888)))], 43, (some (153, false)), [], 16⟩,
  ⟨(some 156), .build 48 #[(0, (.const (.int .i64 2))), (1, (.const (.int .i64 4)))], 48, (some (153, false)), [], 17⟩,
  ⟨(some 157), .build 48 #[(0, (.const (.int .i64 5))), (1, (.const (.int .i64 6)))], 48, (some (153, false)), [], 18⟩,
  ⟨(some 158), .buildSlice 44 2 #[(0, (.tmp 156)), (1, (.tmp 157))], 44, (some (153, false)), [], 19⟩,
  ⟨(some 159), .call ⟨.value (.func 84), #[(.tmp 154), (.const (.string ⟨#[114]⟩)), (.const (.int .i64 100)), (.tmp 155), (.tmp 158)], #[52, 9, 3, 43, 44]⟩, 4, (some (153, false)), [], 20⟩,
  ⟨(some 160), .unOp .not 4 (.tmp 159), 4, (some (153, false)), [], 21⟩,
  ⟨(some 161), .pick (.tmp 153) (.const (.bool true)) (.tmp 160), 4, none, [], 22⟩,
  ⟨(some 162), .move (.tmp 161), 4, none, [], 23⟩,
  ⟨(some 163), .load 52 (.tmp 15), 52, (some (162, false)), [], 24⟩,
  ⟨(some 164), .buildSlice 43 5 #[(0, (.const (.float .f32 1065353216))), (1, (.const (.float .f32 1073741824))), (2, (.const (.float .f32 1077936128))), (3, (.const (.float .f32 1082130432))), (4, (.const (.float .f32 1084227584)))], 43, (some (162, false)), [], 25⟩,
  ⟨(some 165), .call ⟨.value (.func 84), #[(.tmp 163), (.const (.string ⟨#[114]⟩)), (.const (.int .i64 100)), (.tmp 164), (.const (.slice none 0 0))], #[52, 9, 3, 43, 44]⟩, 4, (some (162, false)), [], 26⟩,
  ⟨(some 166), .unOp .not 4 (.tmp 165), 4, (some (162, false)), [], 27⟩,
  ⟨(some 167), .pick (.tmp 162) (.const (.bool true)) (.tmp 166), 4, none, [], 28⟩,
  ⟨(some 168), .move (.tmp 167), 4, none, [], 29⟩,
  ⟨(some 169), .load 52 (.tmp 17), 52, (some (168, false)), [], 30⟩,
  ⟨(some 170), .buildSlice 43 5 #[(0, (.const (.float .f32 1065353216))), (1, (.const (.float .f32 1073741824))), (2, (.const (.float .f32 0))), (3, (.const (.float .f32 0))), (4, (.const (.float .f32 1084227584)))], 43, (some (168, false)), [], 31⟩,
  ⟨(some 171), .build 48 #[(0, (.const (.int .i64 2))), (1, (.const (.int .i64 4)))], 48, (some (168, false)), [], 32⟩,
  ⟨(some 172), .buildSlice 44 1 #[(0, (.tmp 171))], 44, (some (168, false)), [], 33⟩,
  ⟨(some 173), .call ⟨.value (.func 84), #[(.tmp 169), (.const (.string ⟨#[114]⟩)), (.const (.int .i64 100)), (.tmp 170), (.tmp 172)], #[52, 9, 3, 43, 44]⟩, 4, (some (168, false)), [], 34⟩,
  ⟨(some 174), .unOp .not 4 (.tmp 173), 4, (some (168, false)), [], 35⟩,
  ⟨(some 175), .pick (.tmp 168) (.const (.bool true)) (.tmp 174), 4, none, [], 36⟩,
  ⟨(some 176), .move (.tmp 175), 4, none, [], 37⟩,
  ⟨(some 177), .load 52 (.tmp 19), 52, (some (176, false)), [], 38⟩,
  ⟨(some 178), .buildSlice 43 3 #[(0, (.const (.float .f32 1065353216))), (1, (.const (.float .f32 0))), (2, (.const (.float .f32 1084227584)))], 43, (some (176, false)), [], 39⟩,
  ⟨(some 179), .build 48 #[(0, (.const (.int .i64 1))), (1, (.const (.int .i64 2)))], 48, (some (176, false)), [], 40⟩,
  ⟨(some 180), .buildSlice 44 1 #[(0, (.tmp 179))], 44, (some (176, false)), [], 41⟩,
  ⟨(some 181), .call ⟨.value (.func 84), #[(.tmp 177), (.const (.string ⟨#[114]⟩)), (.const (.int .i64 50)), (.tmp 178), (.tmp 180)], #[52, 9, 3, 43, 44]⟩, 4, (some (176, false)), [], 42⟩,
  ⟨(some 182), .unOp .not 4 (.tmp 181), 4, (some (176, false)), [], 43⟩,
  ⟨(some 183), .pick (.tmp 176) (.const (.bool true)) (.tmp 182), 4, none, [], 44⟩,
  ⟨(some 184), .move (.tmp 183), 4, none, [], 45⟩,
  ⟨(some 185), .load 52 (.tmp 21), 52, (some (184, false)), [], 46⟩,
  ⟨(some 186), .buildSlice 43 5 #[(0, (.const (.float .f32 1056964608))), (1, (.const (.float .f32 1065353216))), (2, (.const (.float .f32 0))), (3, (.const (.float .f32 0))), (4, (.const (.float .f32 1075838976)))], 43, (some (184, false)), [], 47⟩,
  ⟨(some 187), .build 48 #[(0, (.const (.int .i64 2))), (1, (.const (.int .i64 4)))], 48, (some (184, false)), [], 48⟩,
  ⟨(some 188), .buildSlice 44 1 #[(0, (.tmp 187))], 44, (some (184, false)), [], 49⟩,
  ⟨(some 189), .call ⟨.value (.func 84), #[(.tmp 185), (.const (.string ⟨#[114]⟩)), (.const (.int .i64 100)), (.tmp 186), (.tmp 188)], #[52, 9, 3, 43, 44]⟩, 4, (some (184, false)), [], 50⟩,
  ⟨(some 190), .unOp .not 4 (.tmp 189), 4, (some (184, false)), [], 51⟩,
  ⟨(some 191), .pick (.tmp 184) (.const (.bool true)) (.tmp 190), 4, none, [], 52⟩]
def r14_14 : List TOper := [⟨(some 0), .assign (.const (.bool false)), 4, none, [], 0⟩]
def r14_15 : List TOper := [⟨(some 193), .call ⟨.value (.func 85), #[(.const (.float .f32 1098907648))], #[25]⟩, 52, none, [], 0⟩,
  ⟨(some 194), .call ⟨.value (.func 85), #[(.const (.float .f32 1099169792))], #[25]⟩, 52, none, [], 1⟩,
  ⟨(some 195), .call ⟨.value (.func 85), #[(.const (.float .f32 1101004800))], #[25]⟩, 52, none, [], 2⟩,
  ⟨(some 196), .build 86 #[(0, (.tmp 193)), (1, (.tmp 194)), (2, (.tmp 195))], 86, none, [], 3⟩,
  ⟨(some 197), .call ⟨.value (.func 56), #[(.tmp 196), (.const (.float .f32 1065353216))], #[86, 25]⟩, 84, none, [], 4⟩,
  ⟨(some 192), .move (.tmp 197), 84, none, [], 5⟩,
  ⟨(some 198), .extract (.tmp 192) 0, 52, none, [], 6⟩,
  ⟨(some 199), .extract (.tmp 192) 1, 83, none, [], 7⟩,
  ⟨(some 200), .extract (.tmp 192) 2, 30, none, [], 8⟩,
  ⟨(some 23), .alloc 52, 0, none, [], 9⟩,
  ⟨(some 24), .alloc 83, 0, none, [], 10⟩,
  ⟨none, .store 52 (.tmp 23) (.tmp 198), 0, none, [], 11⟩,
  ⟨none, .store 83 (.tmp 24) (.tmp 199), 0, none, [], 12⟩,
  ⟨(some 25), .assign (.tmp 200), 30, none, [], 13⟩]
def r14_16 : List TOper := [⟨(some 202), .call ⟨.value (.func 85), #[(.const (.float .f32 0))], #[25]⟩, 52, none, [], 0⟩,
  ⟨(some 203), .call ⟨.value (.func 85), #[(.const (.float .f32 1073741824))], #[25]⟩, 52, none, [], 1⟩,
  ⟨(some 204), .call ⟨.value (.func 85), #[(.const (.float .f32 1082130432))], #[25]⟩, 52, none, [], 2⟩,
  ⟨(some 205), .build 86 #[(0, (.tmp 202)), (1, (.tmp 203)), (2, (.tmp 204))], 86, none, [], 3⟩,
  ⟨(some 206), .call ⟨.value (.func 56), #[(.tmp 205), (.const (.float .f32 1065353216))], #[86, 25]⟩, 84, none, [], 4⟩,
  ⟨(some 201), .move (.tmp 206), 84, none, [], 5⟩,
  ⟨(some 207), .extract (.tmp 201) 0, 52, none, [], 6⟩,
  ⟨(some 208), .extract (.tmp 201) 1, 83, none, [], 7⟩,
  ⟨(some 209), .extract (.tmp 201) 2, 30, none, [], 8⟩,
  ⟨(some 26), .alloc 52, 0, none, [], 9⟩,
  ⟨(some 27), .alloc 83, 0, none, [], 10⟩,
  ⟨none, .store 52 (.tmp 26) (.tmp 207), 0, none, [], 11⟩,
  ⟨none, .store 83 (.tmp 27) (.tmp 208), 0, none, [], 12⟩,
  ⟨(some 28), .assign (.tmp 209), 30, none, [], 13⟩]
def r14_17 : List TOper := [⟨(some 211), .call ⟨.value (.func 85), #[(.const (.float .f32 1065353216))], #[25]⟩, 52, none, [], 0⟩,
  ⟨(some 212), .call ⟨.value (.func 85), #[(.const (.float .f32 1073741824))], #[25]⟩, 52, none, [], 1⟩,
  ⟨(some 213), .call ⟨.value (.func 86), #[], #[]⟩, 52, none, [], 2⟩,
  ⟨(some 214), .build 86 #[(0, (.tmp 211)), (1, (.tmp 212)), (2, (.tmp 213))], 86, none, [], 3⟩,
  ⟨(some 215), .call ⟨.value (.func 56), #[(.tmp 214), (.const (.float .f32 1065353216))], #[86, 25]⟩, 84, none, [], 4⟩,
  ⟨(some 210), .move (.tmp 215), 84, none, [], 5⟩,
  ⟨(some 216), .extract (.tmp 210) 0, 52, none, [], 6⟩,
  ⟨(some 217), .extract (.tmp 210) 1, 83, none, [], 7⟩,
  ⟨(some 218), .extract (.tmp 210) 2, 30, none, [], 8⟩,
  ⟨(some 29), .alloc 52, 0, none, [], 9⟩,
  ⟨(some 30), .alloc 83, 0, none, [], 10⟩,
  ⟨none, .store 52 (.tmp 29) (.tmp 216), 0, none, [], 11⟩,
  ⟨none, .store 83 (.tmp 30) (.tmp 217), 0, none, [], 12⟩,
  ⟨(some 31), .assign (.tmp 218), 30, none, [], 13⟩]
def r14_18 : List TOper := [⟨(some 220), .call ⟨.value (.func 83), #[], #[]⟩, 52, none, [], 0⟩,
  ⟨(some 221), .call ⟨.value (.func 32), #[(.tmp 220)], #[52]⟩, 54, none, [], 1⟩,
  ⟨(some 219), .move (.tmp 221), 54, none, [], 2⟩,
  ⟨(some 222), .extract (.tmp 219) 0, 3, none, [], 3⟩,
  ⟨(some 223), .extract (.tmp 219) 1, 30, none, [], 4⟩,
  ⟨(some 32), .assign (.tmp 222), 3, none, [], 5⟩,
  ⟨(some 33), .assign (.tmp 223), 30, none, [], 6⟩]
def r14_19 : List TOper := [⟨(some 225), .call ⟨.value (.func 83), #[], #[]⟩, 52, none, [], 0⟩,
  ⟨(some 226), .call ⟨.value (.func 33), #[(.tmp 225)], #[52]⟩, 59, none, [], 1⟩,
  ⟨(some 224), .move (.tmp 226), 59, none, [], 2⟩,
  ⟨(some 227), .extract (.tmp 224) 0, 24, none, [], 3⟩,
  ⟨(some 228), .extract (.tmp 224) 1, 30, none, [], 4⟩,
  ⟨(some 34), .alloc 24, 0, none, [], 5⟩,
  ⟨none, .store 24 (.tmp 34) (.tmp 227), 0, none, [], 6⟩,
  ⟨(some 35), .assign (.tmp 228), 30, none, [], 7⟩]
def r14_20 : List TOper := [⟨(some 230), .build 149 #[(0, (.const (.float .f32 1065353216))), (1, (.const (.float .f32 1073741824))), (2, (.const (.float .f32 1077936128))), (3, (.const (.float .f32 1082130432)))], 149, none, [], 0⟩,
  ⟨(some 231), .call ⟨.value (.func 87), #[(.tmp 230)], #[149]⟩, 147, none, [], 1⟩,
  ⟨(some 229), .move (.tmp 231), 147, none, [], 2⟩,
  ⟨(some 232), .extract (.tmp 229) 0, 146, none, [], 3⟩,
  ⟨(some 233), .extract (.tmp 229) 1, 30, none, [], 4⟩,
  ⟨(some 36), .alloc 146, 0, none, [], 5⟩,
  ⟨none, .store 146 (.tmp 36) (.tmp 232), 0, none, [], 6⟩,
  ⟨(some 37), .assign (.tmp 233), 30, none, [], 7⟩]
def r14_21 : List TOper := [⟨(some 235), .build 91 #[(0, (.const (.float .f32 1065353216))), (1, (.const (.float .f32 3204448256))), (2, (.const (.float .f32 0)))], 91, none, [], 0⟩,
  ⟨(some 236), .build 101 #[(0, (.const (.int .i64 1))), (1, (.const (.int .i64 258))), (2, (.tmp 235))], 101, none, [], 1⟩,
  ⟨(some 237), .call ⟨.value (.func 61), #[(.tmp 236)], #[101]⟩, 99, none, [], 2⟩,
  ⟨(some 234), .move (.tmp 237), 99, none, [], 3⟩,
  ⟨(some 238), .extract (.tmp 234) 0, 94, none, [], 4⟩,
  ⟨(some 239), .extract (.tmp 234) 1, 30, none, [], 5⟩,
  ⟨(some 38), .alloc 94, 0, none, [], 6⟩,
  ⟨none, .store 94 (.tmp 38) (.tmp 238), 0, none, [], 7⟩,
  ⟨(some 39), .assign (.tmp 239), 30, none, [], 8⟩]
def r14_22 : List TOper := [⟨(some 241), .build 101 #[(1, (.const (.int .i64 65535)))], 101, none, [], 0⟩,
  ⟨(some 242), .build 101 #[(1, (.const (.int .i64 1)))], 101, none, [], 1⟩,
  ⟨(some 243), .buildSlice 105 2 #[(0, (.tmp 241)), (1, (.tmp 242))], 105, none, [], 2⟩,
  ⟨(some 244), .call ⟨.value (.func 63), #[(.tmp 243), (.const (.int .i64 0))], #[105, 3]⟩, 31, none, [], 3⟩,
  ⟨(some 240), .move (.tmp 244), 31, none, [], 4⟩,
  ⟨(some 245), .extract (.tmp 240) 0, 29, none, [], 5⟩,
  ⟨(some 246), .extract (.tmp 240) 1, 30, none, [], 6⟩,
  ⟨(some 40), .assign (.tmp 245), 29, none, [], 7⟩,
  ⟨(some 41), .assign (.tmp 246), 30, none, [], 8⟩]
def r14_23 : List TOper := [⟨(some 248), .buildSlice 115 2 #[(0, (.const (.int .u8 7))), (1, (.const (.int .u8 90)))], 115, none, [], 0⟩,
  ⟨(some 249), .slice 94 (.tmp 38) none none none, 115, none, [], 1⟩,
  ⟨(some 250), .call ⟨.builtin .append, #[(.tmp 248), (.tmp 249)], #[115, 115]⟩, 115, none, [], 2⟩,
  ⟨(some 251), .call ⟨.value (.func 70), #[(.tmp 250)], #[115]⟩, 116, none, [], 3⟩,
  ⟨(some 247), .move (.tmp 251), 116, none, [], 4⟩,
  ⟨(some 252), .extract (.tmp 247) 0, 105, none, [], 5⟩,
  ⟨(some 253), .extract (.tmp 247) 1, 44, none, [], 6⟩,
  ⟨(some 254), .extract (.tmp 247) 2, 30, none, [], 7⟩,
  ⟨(some 42), .assign (.tmp 252), 105, none, [], 8⟩,
  ⟨(some 43), .assign (.tmp 253), 44, none, [], 9⟩,
  ⟨(some 44), .assign (.tmp 254), 30, none, [], 10⟩]
def r14_24 : List TOper := [⟨(some 256), .call ⟨.value (.func 83), #[], #[]⟩, 52, none, [], 0⟩,
  ⟨(some 257), .call ⟨.value (.func 78), #[(.tmp 256)], #[52]⟩, 129, none, [], 1⟩,
  ⟨(some 255), .move (.tmp 257), 129, none, [], 2⟩,
  ⟨(some 258), .extract (.tmp 255) 0, 9, none, [], 3⟩,
  ⟨(some 259), .extract (.tmp 255) 1, 30, none, [], 4⟩,
  ⟨(some 45), .assign (.tmp 258), 9, none, [], 5⟩,
  ⟨(some 46), .assign (.tmp 259), 30, none, [], 6⟩]
def r14_25 : List TOper := [⟨(some 261), .call ⟨.value (.func 83), #[], #[]⟩, 52, none, [], 0⟩,
  ⟨(some 262), .call ⟨.value (.func 74), #[(.tmp 261)], #[52]⟩, 123, none, [], 1⟩,
  ⟨(some 260), .move (.tmp 262), 123, none, [], 2⟩,
  ⟨(some 263), .extract (.tmp 260) 0, 115, none, [], 3⟩,
  ⟨(some 264), .extract (.tmp 260) 1, 30, none, [], 4⟩,
  ⟨(some 47), .assign (.tmp 263), 115, none, [], 5⟩,
  ⟨(some 48), .assign (.tmp 264), 30, none, [], 6⟩]
def r14_26 : List TOper := [⟨(some 265), .move (.tmp 25), 30, none, [], 0⟩,
  ⟨(some 266), .move (.tmp 28), 30, none, [], 1⟩,
  ⟨(some 267), .binOp .add 30 (.tmp 265) (.tmp 266) 30, 30, none, [], 2⟩,
  ⟨(some 268), .move (.tmp 31), 30, none, [], 3⟩,
  ⟨(some 269), .binOp .add 30 (.tmp 267) (.tmp 268) 30, 30, none, [], 4⟩,
  ⟨(some 270), .move (.tmp 33), 30, none, [], 5⟩,
  ⟨(some 271), .binOp .add 30 (.tmp 269) (.tmp 270) 30, 30, none, [], 6⟩,
  ⟨(some 272), .move (.tmp 35), 30, none, [], 7⟩,
  ⟨(some 273), .binOp .add 30 (.tmp 271) (.tmp 272) 30, 30, none, [], 8⟩,
  ⟨(some 274), .move (.tmp 37), 30, none, [], 9⟩,
  ⟨(some 275), .binOp .add 30 (.tmp 273) (.tmp 274) 30, 30, none, [], 10⟩,
  ⟨(some 276), .move (.tmp 39), 30, none, [], 11⟩,
  ⟨(some 277), .binOp .add 30 (.tmp 275) (.tmp 276) 30, 30, none, [], 12⟩,
  ⟨(some 278), .move (.tmp 41), 30, none, [], 13⟩,
  ⟨(some 279), .binOp .add 30 (.tmp 277) (.tmp 278) 30, 30, none, [], 14⟩,
  ⟨(some 280), .move (.tmp 44), 30, none, [], 15⟩,
  ⟨(some 281), .binOp .add 30 (.tmp 279) (.tmp 280) 30, 30, none, [], 16⟩,
  ⟨(some 282), .move (.tmp 46), 30, none, [], 17⟩,
  ⟨(some 283), .binOp .add 30 (.tmp 281) (.tmp 282) 30, 30, none, [], 18⟩,
  ⟨(some 284), .move (.tmp 48), 30, none, [], 19⟩,
  ⟨(some 285), .binOp .add 30 (.tmp 283) (.tmp 284) 30, 30, none, [], 20⟩,
  ⟨(some 286), .binOp .neq 30 (.tmp 285) (.const (.int .i64 0)) 30, 4, none, [], 21⟩,
  ⟨(some 287), .move (.tmp 286), 4, none, [], 22⟩,
  ⟨(some 288), .load 52 (.tmp 23), 52, (some (287, false)), [], 23⟩,
  ⟨(some 289), .buildSlice 43 1 #[(0, (.const (.float .f32 1099169792)))], 43, (some (287, false)), [], 24⟩,
  ⟨(some 290), .call ⟨.value (.func 84), #[(.tmp 288), (.const (.string ⟨#[118]⟩)), (.const (.int .i64 0)), (.tmp 289), (.const (.slice none 0 0))], #[52, 9, 3, 43, 44]⟩, 4, (some (287, false)), [], 25⟩,
  ⟨(some 291), .unOp .not 4 (.tmp 290), 4, (some (287, false)), [], 26⟩,
  ⟨(some 292), .pick (.tmp 287) (.const (.bool true)) (.tmp 291), 4, none, [], 27⟩,
  ⟨(some 293), .move (.tmp 292), 4, none, [], 28⟩,
  ⟨(some 294), .load 83 (.tmp 24), 83, (some (293, false)), [], 29⟩,
  ⟨(some 295), .build 83 #[(0, (.const (.int .i64 0))), (1, (.const (.int .i64 0))), (2, (.const (.int .i64 1)))], 83, (some (293, false)), [], 30⟩,
  ⟨(some 296), .binOp .neq 83 (.tmp 294) (.tmp 295) 83, 4, (some (293, false)), [], 31⟩,
  ⟨(some 297), .pick (.tmp 293) (.const (.bool true)) (.tmp 296), 4, none, [], 32⟩,
  ⟨(some 298), .move (.tmp 297), 4, none, [], 33⟩,
  ⟨(some 299), .load 52 (.tmp 26), 52, (some (298, false)), [], 34⟩,
  ⟨(some 300), .buildSlice 43 1 #[(0, (.const (.float .f32 0)))], 43, (some (298, false)), [], 35⟩,
  ⟨(some 301), .build 48 #[(1, (.const (.int .i64 1)))], 48, (some (298, false)), [], 36⟩,
  ⟨(some 302), .buildSlice 44 1 #[(0, (.tmp 301))], 44, (some (298, false)), [], 37⟩,
  ⟨(some 303), .call ⟨.value (.func 84), #[(.tmp 299), (.const (.string ⟨#[118]⟩)), (.const (.int .i64 0)), (.tmp 300), (.tmp 302)], #[52, 9, 3, 43, 44]⟩, 4, (some (298, false)), [], 38⟩,
  ⟨(some 304), .unOp .not 4 (.tmp 303), 4, (some (298, false)), [], 39⟩,
  ⟨(some 305), .pick (.tmp 298) (.const (.bool true)) (.tmp 304), 4, none, [], 40⟩,
  ⟨(some 306), .move (.tmp 305), 4, none, [], 41⟩,
  ⟨(some 307), .load 52 (.tmp 29), 52, (some (306, false)), [], 42⟩,
  ⟨(some 308), .buildSlice 43 1 #[(0, (.const (.float .f32 1069547520)))], 43, (some (306, false)), [], 43⟩,
  ⟨(some 309), .call ⟨.value (.func 84), #[(.tmp 307), (.const (.string ⟨#[118]⟩)), (.const (.int .i64 0)), (.tmp 308), (.const (.slice none 0 0))], #[52, 9, 3, 43, 44]⟩, 4, (some (306, false)), [], 44⟩,
  ⟨(some 310), .unOp .not 4 (.tmp 309), 4, (some (306, false)), [], 45⟩,
  ⟨(some 311), .pick (.tmp 306) (.const (.bool true)) (.tmp 310), 4, none, [], 46⟩,
  ⟨(some 312), .move (.tmp 311), 4, none, [], 47⟩,
  ⟨(some 313), .move (.tmp 32), 3, (some (312, false)), [], 48⟩,
  ⟨(some 314), .binOp .neq 3 (.tmp 313) (.const (.int .i64 7680)) 3, 4, (some (312, false)), [], 49⟩,
  ⟨(some 315), .pick (.tmp 312) (.const (.bool true)) (.tmp 314), 4, none, [], 50⟩,
  ⟨(some 316), .move (.tmp 315), 4, none, [], 51⟩,
  ⟨(some 317), .load 24 (.tmp 34), 24, (some (316, false)), [], 52⟩,
  ⟨(some 318), .build 24 #[(0, (.const (.int .i64 8))), (1, (.const (.int .i64 3)))], 24, (some (316, false)), [], 53⟩,
  ⟨(some 319), .binOp .neq 24 (.tmp 317) (.tmp 318) 24, 4, (some (316, false)), [], 54⟩,
  ⟨(some 320), .pick (.tmp 316) (.const (.bool true)) (.tmp 319), 4, none, [], 55⟩,
  ⟨(some 321), .move (.tmp 320), 4, none, [], 56⟩,
  ⟨(some 322), .load 146 (.tmp 36), 146, (some (321, false)), [], 57⟩,
  ⟨(some 323), .build 146 #[(0, (.const (.complex .f32 1092616192 0))), (1, (.const (.complex .f32 3221225472 1073741824))), (2, (.const (.complex .f32 3221225472 0))), (3, (.const (.complex .f32 3221225472 3221225472)))], 146, (some (321, false)), [], 58⟩,
  ⟨(some 324), .binOp .neq 146 (.tmp 322) (.tmp 323) 146, 4, (some (321, false)), [], 59⟩,
  ⟨(some 325), .pick (.tmp 321) (.const (.bool true)) (.tmp 324), 4, none, [], 60⟩]
def r14_27 : List TOper := [⟨(some 0), .assign (.const (.bool false)), 4, none, [], 0⟩]
def r14_28 : List TOper := [⟨(some 326), .indexAddr 94 (.tmp 38) (.const (.int .i64 3)), 0, none, [], 0⟩,
  ⟨(some 327), .load 5 (.tmp 326), 5, none, [], 1⟩,
  ⟨(some 328), .binOp .eql 5 (.tmp 327) (.const (.int .u8 2)) 5, 4, none, [], 2⟩,
  ⟨(some 329), .move (.tmp 328), 4, none, [], 3⟩,
  ⟨(some 330), .indexAddr 94 (.tmp 38) (.const (.int .i64 4)), 0, (some (329, true)), [], 4⟩,
  ⟨(some 331), .load 5 (.tmp 330), 5, (some (329, true)), [], 5⟩,
  ⟨(some 332), .binOp .eql 5 (.tmp 331) (.const (.int .u8 63)) 5, 4, (some (329, true)), [], 6⟩,
  ⟨(some 333), .pick (.tmp 329) (.tmp 332) (.const (.bool false)), 4, none, [], 7⟩,
  ⟨(some 334), .move (.tmp 333), 4, none, [], 8⟩,
  ⟨(some 335), .indexAddr 94 (.tmp 38) (.const (.int .i64 5)), 0, (some (334, true)), [], 9⟩,
  ⟨(some 336), .load 5 (.tmp 335), 5, (some (334, true)), [], 10⟩,
  ⟨(some 337), .binOp .eql 5 (.tmp 336) (.const (.int .u8 128)) 5, 4, (some (334, true)), [], 11⟩,
  ⟨(some 338), .pick (.tmp 334) (.tmp 337) (.const (.bool false)), 4, none, [], 12⟩,
  ⟨(some 339), .move (.tmp 338), 4, none, [], 13⟩,
  ⟨(some 340), .indexAddr 94 (.tmp 38) (.const (.int .i64 8)), 0, (some (339, true)), [], 14⟩,
  ⟨(some 341), .load 5 (.tmp 340), 5, (some (339, true)), [], 15⟩,
  ⟨(some 342), .binOp .eql 5 (.tmp 341) (.const (.int .u8 191)) 5, 4, (some (339, true)), [], 16⟩,
  ⟨(some 343), .pick (.tmp 339) (.tmp 342) (.const (.bool false)), 4, none, [], 17⟩,
  ⟨(some 344), .move (.tmp 343), 4, none, [], 18⟩,
  ⟨(some 345), .buildSlice 115 2 #[(0, (.const (.int .u8 1))), (1, (.const (.int .u8 2)))], 115, (some (344, true)), [], 19⟩,
  ⟨(some 346), .call ⟨.value (.func 88), #[(.tmp 345)], #[115]⟩, 3, (some (344, true)), [], 20⟩,
  ⟨(some 347), .binOp .eql 3 (.tmp 346) (.const (.int .i64 73714)) 3, 4, (some (344, true)), [], 21⟩,
  ⟨(some 348), .pick (.tmp 344) (.tmp 347) (.const (.bool false)), 4, none, [], 22⟩,
  ⟨(some 349), .move (.tmp 348), 4, none, [], 23⟩,
  ⟨(some 350), .move (.tmp 40), 29, (some (349, true)), [], 24⟩,
  ⟨(some 351), .buildSlice 29 1 #[(0, (.const (.int .i64 0)))], 29, (some (349, true)), [], 25⟩,
  ⟨(some 352), .call ⟨.value (.func 21), #[(.tmp 350), (.tmp 351)], #[29, 29]⟩, 4, (some (349, true)), [], 26⟩,
  ⟨(some 353), .pick (.tmp 349) (.tmp 352) (.const (.bool false)), 4, none, [], 27⟩,
  ⟨(some 354), .move (.tmp 353), 4, none, [], 28⟩,
  ⟨(some 355), .move (.tmp 42), 105, (some (354, true)), [], 29⟩,
  ⟨(some 356), .call ⟨.builtin .len, #[(.tmp 355)], #[105]⟩, 3, (some (354, true)), [], 30⟩,
  ⟨(some 357), .binOp .eql 3 (.tmp 356) (.const (.int .i64 1)) 3, 4, (some (354, true)), [], 31⟩,
  ⟨(some 358), .pick (.tmp 354) (.tmp 357) (.const (.bool false)), 4, none, [], 32⟩,
  ⟨(some 359), .move (.tmp 358), 4, none, [], 33⟩,
  ⟨(some 360), .move (.tmp 42), 105, (some (359, true)), [], 34⟩,
  ⟨(some 361), .indexAddr 105 (.tmp 360) (.const (.int .i64 0)), 0, (some (359, true)), [], 35⟩,
  ⟨(some 362), .fieldAddr 101 (.tmp 361) 1, 0, (some (359, true)), [], 36⟩,
  ⟨(some 363), .load 3 (.tmp 362), 3, (some (359, true)), [], 37⟩,
  ⟨(some 364), .binOp .eql 3 (.tmp 363) (.const (.int .i64 258)) 3, 4, (some (359, true)), [], 38⟩,
  ⟨(some 365), .pick (.tmp 359) (.tmp 364) (.const (.bool false)), 4, none, [], 39⟩,
  ⟨(some 366), .move (.tmp 365), 4, none, [], 40⟩,
  ⟨(some 367), .move (.tmp 43), 44, (some (366, true)), [], 41⟩,
  ⟨(some 368), .build 48 #[(1, (.const (.int .i64 2)))], 48, (some (366, true)), [], 42⟩,
  ⟨(some 369), .buildSlice 44 1 #[(0, (.tmp 368))], 44, (some (366, true)), [], 43⟩,
  ⟨(some 370), .call ⟨.value (.func 73), #[(.tmp 367), (.tmp 369)], #[44, 44]⟩, 4, (some (366, true)), [], 44⟩,
  ⟨(some 371), .pick (.tmp 366) (.tmp 370) (.const (.bool false)), 4, none, [], 45⟩,
  ⟨(some 372), .move (.tmp 371), 4, none, [], 46⟩,
  ⟨(some 373), .move (.tmp 45), 9, (some (372, true)), [], 47⟩,
  ⟨(some 374), .binOp .eql 9 (.tmp 373) (.const (.string ⟨#[114, 117, 110, 32, 114, 32, 49, 48, 48, 10, 115, 97, 109, 112, 108, 101, 115, 32, 49, 54, 32, 51, 50, 10, 104, 111, 108, 101, 32, 50, 10, 115, 97, 109, 112, 108, 101, 115, 32, 56, 48, 10]⟩)) 9, 4, (some (372, true)), [], 48⟩,
  ⟨(some 375), .pick (.tmp 372) (.tmp 374) (.const (.bool false)), 4, none, [], 49⟩,
  ⟨(some 376), .move (.tmp 375), 4, none, [], 50⟩,
  ⟨(some 377), .move (.tmp 47), 115, (some (376, true)), [], 51⟩,
  ⟨(some 378), .call ⟨.builtin .len, #[(.tmp 377)], #[115]⟩, 3, (some (376, true)), [], 52⟩,
  ⟨(some 379), .binOp .eql 3 (.tmp 378) (.const (.int .i64 42)) 3, 4, (some (376, true)), [], 53⟩,
  ⟨(some 380), .pick (.tmp 376) (.tmp 379) (.const (.bool false)), 4, none, [], 54⟩,
  ⟨(some 0), .assign (.tmp 380), 4, none, [], 55⟩]
def c14 : TCode := (.seq (.reg r14_0) (.seq (.reg r14_1) (.seq (.reg r14_2) (.seq (.reg r14_3) (.seq (.reg r14_4) (.seq (.reg r14_5) (.seq (.reg r14_6) (.seq (.reg r14_7) (.seq (.reg r14_8) (.seq (.reg r14_9) (.seq (.reg r14_10) (.seq (.seq (.reg r14_11) (.cond (.tmp 138) (.seq (.reg r14_12) .ret) .skip)) (.seq (.seq (.reg r14_13) (.cond (.tmp 191) (.seq (.reg r14_14) .ret) .skip)) (.seq (.reg r14_15) (.seq (.reg r14_16) (.seq (.reg r14_17) (.seq (.reg r14_18) (.seq (.reg r14_19) (.seq (.reg r14_20) (.seq (.reg r14_21) (.seq (.reg r14_22) (.seq (.reg r14_23) (.seq (.reg r14_24) (.seq (.reg r14_25) (.seq (.seq (.reg r14_26) (.cond (.tmp 325) (.seq (.reg r14_27) .ret) .skip)) (.seq (.reg r14_28) .ret))))))))))))))))))))))))))
def f14 : TFun := ⟨c14, 381, [.tmp 0]⟩
def r15_0 : List TOper := [⟨(some 4), .assign (.const (.slice none 0 0)), 29, none, [], 0⟩,
  ⟨(some 5), .assign (.const (.int .i64 0)), 30, none, [], 1⟩]
def r15_1 : List TOper := [⟨(some 12), .move (.tmp 0), 3, none, [], 0⟩,
  ⟨(some 13), .call ⟨.value (.func 90), #[(.tmp 12), (.const (.int .i64 1)), (.const (.int .i64 2147483646))], #[3, 3, 3]⟩, 30, none, [], 1⟩,
  ⟨(some 14), .move (.tmp 1), 3, none, [], 2⟩,
  ⟨(some 15), .call ⟨.value (.func 90), #[(.tmp 14), (.const (.int .i64 0)), (.const (.int .i64 256))], #[3, 3, 3]⟩, 30, none, [], 3⟩,
  ⟨(some 16), .buildSlice 195 2 #[(0, (.tmp 13)), (1, (.tmp 15))], 195, none, [], 4⟩,
  ⟨(some 17), .call ⟨.value (.func 89), #[(.tmp 16)], #[195]⟩, 30, none, [], 5⟩,
  ⟨(some 6), .assign (.tmp 17), 30, none, [], 6⟩]
def r15_2 : List TOper := [⟨(some 18), .move (.tmp 6), 30, none, [], 0⟩,
  ⟨(some 19), .binOp .neq 30 (.tmp 18) (.const (.int .i64 0)) 30, 4, none, [], 1⟩]
def r15_3 : List TOper := [⟨(some 20), .move (.tmp 6), 30, none, [], 0⟩,
  ⟨(some 4), .assign (.const (.slice none 0 0)), 29, none, [], 1⟩,
  ⟨(some 5), .assign (.tmp 20), 30, none, [], 2⟩]
def r15_4 : List TOper := [⟨(some 21), .move (.tmp 1), 3, none, [], 0⟩,
  ⟨(some 22), .makeSlice 29 (.tmp 21) (.tmp 21), 29, none, [], 1⟩,
  ⟨(some 7), .assign (.tmp 22), 29, none, [], 2⟩]
def r15_5 : List TOper := [⟨(some 23), .move (.tmp 7), 29, none, [], 0⟩,
  ⟨(some 24), .call ⟨.builtin .len, #[(.tmp 23)], #[29]⟩, 3, none, [], 1⟩,
  ⟨(some 25), .move (.const (.int .i64 0)), 3, none, [], 2⟩]
def r15_6 : List TOper := [⟨(some 26), .binOp .lss 3 (.tmp 25) (.tmp 24) 3, 0, none, [], 0⟩]
def r15_7 : List TOper := [⟨(some 27), .move (.tmp 25), 3, none, [], 0⟩,
  ⟨(some 8), .assign (.tmp 27), 3, none, [], 1⟩]
def r15_8 : List TOper := [⟨(some 28), .move (.tmp 7), 29, none, [], 0⟩,
  ⟨(some 29), .move (.tmp 8), 3, none, [], 1⟩,
  ⟨(some 30), .move (.tmp 8), 3, none, [], 2⟩,
  ⟨(some 31), .indexAddr 29 (.tmp 28) (.tmp 29), 0, none, [], 3⟩,
  ⟨none, .store 3 (.tmp 31) (.tmp 30), 0, none, [], 4⟩]
def r15_9 : List TOper := [⟨(some 32), .binOp .add 3 (.tmp 25) (.const (.int .i64 1)) 3, 3, none, [], 0⟩,
  ⟨(some 25), .move (.tmp 32), 3, none, [], 1⟩]
def r15_10 : List TOper := [⟨(some 33), .move (.tmp 0), 3, none, [], 0⟩,
  ⟨(some 9), .assign (.tmp 33), 2, none, [], 1⟩]
def r15_11 : List TOper := [⟨(some 34), .move (.tmp 1), 3, none, [], 0⟩,
  ⟨(some 35), .binOp .sub 3 (.tmp 34) (.const (.int .i64 1)) 3, 3, none, [], 1⟩,
  ⟨(some 10), .assign (.tmp 35), 3, none, [], 2⟩]
def r15_12 : List TOper := [⟨(some 36), .move (.tmp 10), 3, none, [], 0⟩,
  ⟨(some 37), .binOp .geq 3 (.tmp 36) (.const (.int .i64 1)) 3, 4, none, [], 1⟩]
def r15_13 : List TOper := [⟨(some 40), .move (.tmp 9), 2, none, [], 0⟩,
  ⟨(some 41), .binOp .mul 2 (.const (.int .i64 742938285)) (.tmp 40) 2, 2, none, [], 1⟩,
  ⟨(some 42), .binOp .rem 2 (.tmp 41) (.const (.int .i64 2147483647)) 2, 2, none, [], 2⟩,
  ⟨(some 9), .assign (.tmp 42), 2, none, [], 3⟩]
def r15_14 : List TOper := [⟨(some 43), .move (.tmp 9), 2, none, [], 0⟩,
  ⟨(some 44), .move (.tmp 10), 3, none, [], 1⟩,
  ⟨(some 45), .binOp .add 3 (.tmp 44) (.const (.int .i64 1)) 3, 3, none, [], 2⟩,
  ⟨(some 46), .binOp .rem 2 (.tmp 43) (.tmp 45) 2, 2, none, [], 3⟩,
  ⟨(some 11), .assign (.tmp 46), 3, none, [], 4⟩]
def r15_15 : List TOper := [⟨(some 47), .move (.tmp 7), 29, none, [], 0⟩,
  ⟨(some 48), .move (.tmp 10), 3, none, [], 1⟩,
  ⟨(some 49), .move (.tmp 7), 29, none, [], 2⟩,
  ⟨(some 50), .move (.tmp 11), 3, none, [], 3⟩,
  ⟨(some 51), .move (.tmp 7), 29, none, [], 4⟩,
  ⟨(some 52), .move (.tmp 11), 3, none, [], 5⟩,
  ⟨(some 53), .indexAddr 29 (.tmp 51) (.tmp 52), 0, none, [], 6⟩,
  ⟨(some 54), .load 3 (.tmp 53), 3, none, [], 7⟩,
  ⟨(some 55), .move (.tmp 7), 29, none, [], 8⟩,
  ⟨(some 56), .move (.tmp 10), 3, none, [], 9⟩,
  ⟨(some 57), .indexAddr 29 (.tmp 55) (.tmp 56), 0, none, [], 10⟩,
  ⟨(some 58), .load 3 (.tmp 57), 3, none, [], 11⟩,
  ⟨(some 59), .indexAddr 29 (.tmp 47) (.tmp 48), 0, none, [], 12⟩,
  ⟨none, .store 3 (.tmp 59) (.tmp 54), 0, none, [], 13⟩,
  ⟨(some 60), .indexAddr 29 (.tmp 49) (.tmp 50), 0, none, [], 14⟩,
  ⟨none, .store 3 (.tmp 60) (.tmp 58), 0, none, [], 15⟩]
def r15_16 : List TOper := [⟨(some 38), .move (.tmp 10), 3, none, [], 0⟩,
  ⟨(some 39), .binOp .sub 3 (.tmp 38) (.const (.int .i64 1)) 3, 3, none, [], 1⟩,
  ⟨(some 10), .assign (.tmp 39), 3, none, [], 2⟩]
def r15_17 : List TOper := [⟨(some 61), .move (.tmp 7), 29, none, [], 0⟩,
  ⟨(some 4), .assign (.tmp 61), 29, none, [], 1⟩,
  ⟨(some 5), .assign (.const (.int .i64 0)), 30, none, [], 2⟩]
def c15 : TCode := (.seq (.reg r15_0) (.seq (.seq (.reg r15_1) (.seq (.reg r15_2) (.cond (.tmp 19) (.seq (.reg r15_3) .ret) .skip))) (.seq (.reg r15_4) (.seq (.seq (.reg r15_5) (.block 0 (.loop (.seq (.reg r15_6) (.seq (.cond (.tmp 26) .skip (.exit 0)) (.seq (.block 1 (.seq (.reg r15_7) (.reg r15_8))) (.reg r15_9))))))) (.seq (.reg r15_10) (.seq (.seq (.reg r15_11) (.block 2 (.loop (.seq (.seq (.reg r15_12) (.cond (.tmp 37) .skip (.exit 2))) (.seq (.block 3 (.seq (.reg r15_13) (.seq (.reg r15_14) (.reg r15_15)))) (.reg r15_16)))))) (.seq (.reg r15_17) .ret)))))))
def f15 : TFun := ⟨c15, 62, [.tmp 4, .tmp 5]⟩
def r16_0 : List TOper := [⟨(some 2), .assign (.const (.int .i64 0)), 3, none, [], 0⟩]
def r16_1 : List TOper := [⟨(some 3), .assign (.const (.int .i64 0)), 3, none, [], 0⟩]
def r16_2 : List TOper := [⟨(some 4), .move (.tmp 3), 3, none, [], 0⟩,
  ⟨(some 5), .move (.tmp 0), 29, none, [], 1⟩,
  ⟨(some 6), .call ⟨.builtin .len, #[(.tmp 5)], #[29]⟩, 3, none, [], 2⟩,
  ⟨(some 7), .binOp .lss 3 (.tmp 4) (.tmp 6) 3, 4, none, [], 3⟩]
def r16_3 : List TOper := [⟨(some 10), .move (.tmp 0), 29, none, [], 0⟩,
  ⟨(some 11), .move (.tmp 3), 3, none, [], 1⟩,
  ⟨(some 12), .indexAddr 29 (.tmp 10) (.tmp 11), 0, none, [], 2⟩,
  ⟨(some 13), .load 3 (.tmp 12), 3, none, [], 3⟩,
  ⟨(some 14), .binOp .neq 3 (.tmp 13) (.const (.int .i64 0)) 3, 4, none, [], 4⟩]
def r16_4 : List TOper := [⟨(some 15), .move (.tmp 0), 29, none, [], 0⟩,
  ⟨(some 16), .move (.tmp 3), 3, none, [], 1⟩,
  ⟨(some 17), .indexAddr 29 (.tmp 15) (.tmp 16), 0, none, [], 2⟩,
  ⟨(some 18), .load 3 (.tmp 17), 3, none, [], 3⟩,
  ⟨(some 2), .assign (.tmp 18), 3, none, [], 4⟩]
def r16_5 : List TOper := [⟨(some 8), .move (.tmp 3), 3, none, [], 0⟩,
  ⟨(some 9), .binOp .add 3 (.tmp 8) (.const (.int .i64 1)) 3, 3, none, [], 1⟩,
  ⟨(some 3), .assign (.tmp 9), 3, none, [], 2⟩]
def r16_6 : List TOper := [⟨(some 2), .assign (.const (.int .i64 0)), 3, none, [], 0⟩]
def c16 : TCode := (.seq (.reg r16_0) (.seq (.seq (.reg r16_1) (.block 0 (.loop (.seq (.seq (.reg r16_2) (.cond (.tmp 7) .skip (.exit 0))) (.seq (.block 1 (.seq (.reg r16_3) (.cond (.tmp 14) (.seq (.reg r16_4) .ret) .skip))) (.reg r16_5)))))) (.seq (.reg r16_6) .ret)))
def f16 : TFun := ⟨c16, 19, [.tmp 2]⟩
def r17_0 : List TOper := [⟨(some 6), .assign (.const (.int .i64 0)), 3, none, [], 0⟩]
def r17_1 : List TOper := [⟨(some 7), .move (.tmp 0), 3, none, [], 0⟩,
  ⟨(some 8), .move (.tmp 1), 3, none, [], 1⟩,
  ⟨(some 9), .binOp .lss 3 (.tmp 7) (.tmp 8) 3, 4, none, [], 2⟩,
  ⟨(some 10), .move (.tmp 9), 4, none, [], 3⟩,
  ⟨(some 11), .move (.tmp 0), 3, (some (10, false)), [], 4⟩,
  ⟨(some 12), .move (.tmp 2), 3, (some (10, false)), [], 5⟩,
  ⟨(some 13), .binOp .gtr 3 (.tmp 11) (.tmp 12) 3, 4, (some (10, false)), [], 6⟩,
  ⟨(some 14), .pick (.tmp 10) (.const (.bool true)) (.tmp 13), 4, none, [], 7⟩,
  ⟨(some 15), .call ⟨.value (.func 35), #[(.tmp 14), (.const (.int .i64 3))], #[4, 3]⟩, 3, none, [], 8⟩,
  ⟨(some 6), .assign (.tmp 15), 3, none, [], 9⟩]
def c17 : TCode := (.seq (.reg r17_0) (.seq (.reg r17_1) .ret))
def f17 : TFun := ⟨c17, 16, [.tmp 6]⟩
def r18_0 : List TOper := [⟨(some 4), .assign (.const (.slice none 0 0)), 29, none, [], 0⟩]
def r18_1 : List TOper := [⟨(some 5), .assign (.const (.slice none 0 0)), 29, none, [], 0⟩]
def r18_2 : List TOper := [⟨(some 6), .assign (.const (.int .i64 0)), 3, none, [], 0⟩]
def r18_3 : List TOper := [⟨(some 12), .move (.tmp 6), 3, none, [], 0⟩,
  ⟨(some 13), .move (.tmp 1), 3, none, [], 1⟩,
  ⟨(some 14), .binOp .lss 3 (.tmp 12) (.tmp 13) 3, 4, none, [], 2⟩]
def r18_4 : List TOper := [⟨(some 17), .move (.tmp 5), 29, none, [], 0⟩,
  ⟨(some 18), .move (.tmp 6), 3, none, [], 1⟩,
  ⟨(some 19), .buildSlice 29 1 #[(0, (.tmp 18))], 29, none, [], 2⟩,
  ⟨(some 20), .call ⟨.builtin .append, #[(.tmp 17), (.tmp 19)], #[29, 29]⟩, 29, none, [], 3⟩,
  ⟨(some 5), .assign (.tmp 20), 29, none, [], 4⟩]
def r18_5 : List TOper := [⟨(some 15), .move (.tmp 6), 3, none, [], 0⟩,
  ⟨(some 16), .binOp .add 3 (.tmp 15) (.const (.int .i64 1)) 3, 3, none, [], 1⟩,
  ⟨(some 6), .assign (.tmp 16), 3, none, [], 2⟩]
def r18_6 : List TOper := [⟨(some 21), .move (.tmp 0), 3, none, [], 0⟩,
  ⟨(some 7), .assign (.tmp 21), 3, none, [], 1⟩]
def r18_7 : List TOper := [⟨(some 22), .move (.tmp 1), 3, none, [], 0⟩,
  ⟨(some 23), .binOp .sub 3 (.tmp 22) (.const (.int .i64 1)) 3, 3, none, [], 1⟩,
  ⟨(some 8), .assign (.tmp 23), 3, none, [], 2⟩]
def r18_8 : List TOper := [⟨(some 24), .move (.tmp 8), 3, none, [], 0⟩,
  ⟨(some 25), .binOp .geq 3 (.tmp 24) (.const (.int .i64 1)) 3, 4, none, [], 1⟩]
def r18_9 : List TOper := [⟨(some 28), .move (.tmp 7), 3, none, [], 0⟩,
  ⟨(some 29), .binOp .mul 3 (.const (.int .i64 742938285)) (.tmp 28) 3, 3, none, [], 1⟩,
  ⟨(some 30), .binOp .rem 3 (.tmp 29) (.const (.int .i64 2147483647)) 3, 3, none, [], 2⟩,
  ⟨(some 7), .assign (.tmp 30), 3, none, [], 3⟩]
def r18_10 : List TOper := [⟨(some 31), .move (.tmp 7), 3, none, [], 0⟩,
  ⟨(some 32), .move (.tmp 8), 3, none, [], 1⟩,
  ⟨(some 33), .binOp .add 3 (.tmp 32) (.const (.int .i64 1)) 3, 3, none, [], 2⟩,
  ⟨(some 34), .binOp .rem 3 (.tmp 31) (.tmp 33) 3, 3, none, [], 3⟩,
  ⟨(some 9), .assign (.tmp 34), 3, none, [], 4⟩]
def r18_11 : List TOper := [⟨(some 35), .move (.tmp 5), 29, none, [], 0⟩,
  ⟨(some 36), .move (.tmp 8), 3, none, [], 1⟩,
  ⟨(some 37), .indexAddr 29 (.tmp 35) (.tmp 36), 0, none, [], 2⟩,
  ⟨(some 38), .load 3 (.tmp 37), 3, none, [], 3⟩,
  ⟨(some 39), .move (.tmp 5), 29, none, [], 4⟩,
  ⟨(some 40), .move (.tmp 9), 3, none, [], 5⟩,
  ⟨(some 41), .indexAddr 29 (.tmp 39) (.tmp 40), 0, none, [], 6⟩,
  ⟨(some 42), .load 3 (.tmp 41), 3, none, [], 7⟩,
  ⟨(some 10), .assign (.tmp 38), 3, none, [], 8⟩,
  ⟨(some 11), .assign (.tmp 42), 3, none, [], 9⟩]
def r18_12 : List TOper := [⟨(some 43), .move (.tmp 5), 29, none, [], 0⟩,
  ⟨(some 44), .move (.tmp 9), 3, none, [], 1⟩,
  ⟨(some 45), .move (.tmp 10), 3, none, [], 2⟩,
  ⟨(some 46), .indexAddr 29 (.tmp 43) (.tmp 44), 0, none, [], 3⟩,
  ⟨none, .store 3 (.tmp 46) (.tmp 45), 0, none, [], 4⟩]
def r18_13 : List TOper := [⟨(some 47), .move (.tmp 5), 29, none, [], 0⟩,
  ⟨(some 48), .move (.tmp 8), 3, none, [], 1⟩,
  ⟨(some 49), .move (.tmp 11), 3, none, [], 2⟩,
  ⟨(some 50), .indexAddr 29 (.tmp 47) (.tmp 48), 0, none, [], 3⟩,
  ⟨none, .store 3 (.tmp 50) (.tmp 49), 0, none, [], 4⟩]
def r18_14 : List TOper := [⟨(some 26), .move (.tmp 8), 3, none, [], 0⟩,
  ⟨(some 27), .binOp .sub 3 (.tmp 26) (.const (.int .i64 1)) 3, 3, none, [], 1⟩,
  ⟨(some 8), .assign (.tmp 27), 3, none, [], 2⟩]
def r18_15 : List TOper := [⟨(some 51), .move (.tmp 5), 29, none, [], 0⟩,
  ⟨(some 4), .assign (.tmp 51), 29, none, [], 1⟩]
def c18 : TCode := (.seq (.reg r18_0) (.seq (.reg r18_1) (.seq (.seq (.reg r18_2) (.block 0 (.loop (.seq (.seq (.reg r18_3) (.cond (.tmp 14) .skip (.exit 0))) (.seq (.block 1 (.reg r18_4)) (.reg r18_5)))))) (.seq (.reg r18_6) (.seq (.seq (.reg r18_7) (.block 2 (.loop (.seq (.seq (.reg r18_8) (.cond (.tmp 25) .skip (.exit 2))) (.seq (.block 3 (.seq (.reg r18_9) (.seq (.reg r18_10) (.seq (.reg r18_11) (.seq (.reg r18_12) (.reg r18_13)))))) (.reg r18_14)))))) (.seq (.reg r18_15) .ret))))))
def f18 : TFun := ⟨c18, 52, [.tmp 4]⟩
def r19_0 : List TOper := [⟨(some 2), .assign (.const (.bool false)), 4, none, [], 0⟩]
def r19_1 : List TOper := [⟨(some 5), .move (.tmp 0), 9, none, [], 0⟩,
  ⟨(some 6), .binOp .eql 9 (.tmp 5) (.const (.string ⟨#[]⟩)) 9, 4, none, [], 1⟩,
  ⟨(some 7), .move (.tmp 6), 4, none, [], 2⟩,
  ⟨(some 8), .move (.tmp 0), 9, (some (7, false)), [], 3⟩,
  ⟨(some 9), .call ⟨.builtin .len, #[(.tmp 8)], #[9]⟩, 3, (some (7, false)), [], 4⟩,
  ⟨(some 10), .binOp .gtr 3 (.tmp 9) (.const (.int .i64 24)) 3, 4, (some (7, false)), [], 5⟩,
  ⟨(some 11), .pick (.tmp 7) (.const (.bool true)) (.tmp 10), 4, none, [], 6⟩]
def r19_2 : List TOper := [⟨(some 2), .assign (.const (.bool false)), 4, none, [], 0⟩]
def r19_3 : List TOper := [⟨(some 12), .move (.tmp 0), 9, none, [], 0⟩,
  ⟨(some 13), .range 9 (.tmp 12), 0, none, [], 1⟩]
def r19_4 : List TOper := [⟨(some 14), .next (.tmp 13) true, 0, none, [], 0⟩,
  ⟨(some 15), .extract (.tmp 14) 0, 4, none, [], 1⟩]
def r19_5 : List TOper := [⟨(some 16), .extract (.tmp 14) 1, 3, none, [], 0⟩,
  ⟨(some 17), .extract (.tmp 14) 2, 21, none, [], 1⟩,
  ⟨(some 3), .assign (.tmp 16), 3, none, [], 2⟩,
  ⟨(some 4), .assign (.tmp 17), 21, none, [], 3⟩]
def r19_6 : List TOper := [⟨(some 18), .move (.tmp 4), 21, none, [], 0⟩,
  ⟨(some 19), .call ⟨.value (.func 91), #[(.tmp 18)], #[21]⟩, 4, none, [], 1⟩,
  ⟨(some 20), .unOp .not 4 (.tmp 19), 4, none, [], 2⟩,
  ⟨(some 21), .move (.tmp 20), 4, none, [], 3⟩,
  ⟨(some 22), .move (.tmp 3), 3, (some (21, true)), [], 4⟩,
  ⟨(some 23), .binOp .eql 3 (.tmp 22) (.const (.int .i64 0)) 3, 4, (some (21, true)), [], 5⟩,
  ⟨(some 24), .move (.tmp 23), 4, (some (21, true)), [], 6⟩,
  ⟨(some 25), .move (.tmp 4), 21, (some (24, false)), [], 7⟩,
  ⟨(some 26), .call ⟨.value (.func 92), #[(.tmp 25)], #[21]⟩, 4, (some (24, false)), [], 8⟩,
  ⟨(some 27), .unOp .not 4 (.tmp 26), 4, (some (24, false)), [], 9⟩,
  ⟨(some 28), .move (.tmp 27), 4, (some (24, false)), [], 10⟩,
  ⟨(some 29), .move (.tmp 4), 21, (some (28, true)), [], 11⟩,
  ⟨(some 30), .binOp .neq 21 (.tmp 29) (.const (.int .i32 95)) 21, 4, (some (28, true)), [], 12⟩,
  ⟨(some 31), .pick (.tmp 28) (.tmp 30) (.const (.bool false)), 4, (some (24, false)), [], 13⟩,
  ⟨(some 32), .pick (.tmp 24) (.const (.bool true)) (.tmp 31), 4, (some (21, true)), [], 14⟩,
  ⟨(some 33), .pick (.tmp 21) (.tmp 32) (.const (.bool false)), 4, none, [], 15⟩]
def r19_7 : List TOper := [⟨(some 2), .assign (.const (.bool false)), 4, none, [], 0⟩]
def r19_8 : List TOper := [⟨(some 2), .assign (.const (.bool true)), 4, none, [], 0⟩]
def c19 : TCode := (.seq (.reg r19_0) (.seq (.seq (.reg r19_1) (.cond (.tmp 11) (.seq (.reg r19_2) .ret) .skip)) (.seq (.seq (.reg r19_3) (.block 0 (.loop (.seq (.reg r19_4) (.seq (.cond (.tmp 15) .skip (.exit 0)) (.block 1 (.seq (.reg r19_5) (.seq (.reg r19_6) (.cond (.tmp 33) (.seq (.reg r19_7) .ret) .skip))))))))) (.seq (.reg r19_8) .ret))))
def f19 : TFun := ⟨c19, 34, [.tmp 2]⟩
def r20_0 : List TOper := [⟨(some 2), .assign (.const (.bool false)), 4, none, [], 0⟩]
def r20_1 : List TOper := [⟨(some 4), .move (.tmp 0), 9, none, [], 0⟩,
  ⟨(some 5), .call ⟨.builtin .len, #[(.tmp 4)], #[9]⟩, 3, none, [], 1⟩,
  ⟨(some 6), .binOp .eql 3 (.tmp 5) (.const (.int .i64 0)) 3, 4, none, [], 2⟩,
  ⟨(some 7), .move (.tmp 6), 4, none, [], 3⟩,
  ⟨(some 8), .move (.tmp 0), 9, (some (7, false)), [], 4⟩,
  ⟨(some 9), .call ⟨.builtin .len, #[(.tmp 8)], #[9]⟩, 3, (some (7, false)), [], 5⟩,
  ⟨(some 10), .binOp .gtr 3 (.tmp 9) (.const (.int .i64 24)) 3, 4, (some (7, false)), [], 6⟩,
  ⟨(some 11), .pick (.tmp 7) (.const (.bool true)) (.tmp 10), 4, none, [], 7⟩,
  ⟨(some 12), .move (.tmp 11), 4, none, [], 8⟩,
  ⟨(some 13), .move (.tmp 0), 9, (some (12, false)), [], 9⟩,
  ⟨(some 14), .index 9 (.tmp 13) (.const (.int .i64 0)), 5, (some (12, false)), [], 10⟩,
  ⟨(some 15), .call ⟨.value (.func 93), #[(.tmp 14)], #[5]⟩, 4, (some (12, false)), [], 11⟩,
  ⟨(some 16), .unOp .not 4 (.tmp 15), 4, (some (12, false)), [], 12⟩,
  ⟨(some 17), .pick (.tmp 12) (.const (.bool true)) (.tmp 16), 4, none, [], 13⟩]
def r20_2 : List TOper := [⟨(some 2), .assign (.const (.bool false)), 4, none, [], 0⟩]
def r20_3 : List TOper := [⟨(some 3), .assign (.const (.int .i64 1)), 3, none, [], 0⟩]
def r20_4 : List TOper := [⟨(some 18), .move (.tmp 3), 3, none, [], 0⟩,
  ⟨(some 19), .move (.tmp 0), 9, none, [], 1⟩,
  ⟨(some 20), .call ⟨.builtin .len, #[(.tmp 19)], #[9]⟩, 3, none, [], 2⟩,
  ⟨(some 21), .binOp .lss 3 (.tmp 18) (.tmp 20) 3, 4, none, [], 3⟩]
def r20_5 : List TOper := [⟨(some 24), .move (.tmp 0), 9, none, [], 0⟩,
  ⟨(some 25), .move (.tmp 3), 3, none, [], 1⟩,
  ⟨(some 26), .index 9 (.tmp 24) (.tmp 25), 5, none, [], 2⟩,
  ⟨(some 27), .call ⟨.value (.func 93), #[(.tmp 26)], #[5]⟩, 4, none, [], 3⟩,
  ⟨(some 28), .unOp .not 4 (.tmp 27), 4, none, [], 4⟩,
  ⟨(some 29), .move (.tmp 28), 4, none, [], 5⟩,
  ⟨(some 30), .move (.tmp 0), 9, (some (29, true)), [], 6⟩,
  ⟨(some 31), .move (.tmp 3), 3, (some (29, true)), [], 7⟩,
  ⟨(some 32), .index 9 (.tmp 30) (.tmp 31), 5, (some (29, true)), [], 8⟩,
  ⟨(some 33), .call ⟨.value (.func 94), #[(.tmp 32)], #[5]⟩, 4, (some (29, true)), [], 9⟩,
  ⟨(some 34), .unOp .not 4 (.tmp 33), 4, (some (29, true)), [], 10⟩,
  ⟨(some 35), .pick (.tmp 29) (.tmp 34) (.const (.bool false)), 4, none, [], 11⟩,
  ⟨(some 36), .move (.tmp 35), 4, none, [], 12⟩,
  ⟨(some 37), .move (.tmp 0), 9, (some (36, true)), [], 13⟩,
  ⟨(some 38), .move (.tmp 3), 3, (some (36, true)), [], 14⟩,
  ⟨(some 39), .index 9 (.tmp 37) (.tmp 38), 5, (some (36, true)), [], 15⟩,
  ⟨(some 40), .binOp .neq 5 (.tmp 39) (.const (.int .u8 95)) 5, 4, (some (36, true)), [], 16⟩,
  ⟨(some 41), .pick (.tmp 36) (.tmp 40) (.const (.bool false)), 4, none, [], 17⟩]
def r20_6 : List TOper := [⟨(some 2), .assign (.const (.bool false)), 4, none, [], 0⟩]
def r20_7 : List TOper := [⟨(some 22), .move (.tmp 3), 3, none, [], 0⟩,
  ⟨(some 23), .binOp .add 3 (.tmp 22) (.const (.int .i64 1)) 3, 3, none, [], 1⟩,
  ⟨(some 3), .assign (.tmp 23), 3, none, [], 2⟩]
def r20_8 : List TOper := [⟨(some 2), .assign (.const (.bool true)), 4, none, [], 0⟩]
def c20 : TCode := (.seq (.reg r20_0) (.seq (.seq (.reg r20_1) (.cond (.tmp 17) (.seq (.reg r20_2) .ret) .skip)) (.seq (.seq (.reg r20_3) (.block 0 (.loop (.seq (.seq (.reg r20_4) (.cond (.tmp 21) .skip (.exit 0))) (.seq (.block 1 (.seq (.reg r20_5) (.cond (.tmp 41) (.seq (.reg r20_6) .ret) .skip))) (.reg r20_7)))))) (.seq (.reg r20_8) .ret))))
def f20 : TFun := ⟨c20, 42, [.tmp 2]⟩
def r21_0 : List TOper := [⟨(some 4), .assign (.const (.bool false)), 4, none, [], 0⟩]
def r21_1 : List TOper := [⟨(some 6), .move (.tmp 0), 29, none, [], 0⟩,
  ⟨(some 7), .call ⟨.builtin .len, #[(.tmp 6)], #[29]⟩, 3, none, [], 1⟩,
  ⟨(some 8), .move (.tmp 1), 29, none, [], 2⟩,
  ⟨(some 9), .call ⟨.builtin .len, #[(.tmp 8)], #[29]⟩, 3, none, [], 3⟩,
  ⟨(some 10), .binOp .neq 3 (.tmp 7) (.tmp 9) 3, 4, none, [], 4⟩]
def r21_2 : List TOper := [⟨(some 4), .assign (.const (.bool false)), 4, none, [], 0⟩]
def r21_3 : List TOper := [⟨(some 5), .assign (.const (.int .i64 0)), 3, none, [], 0⟩]
def r21_4 : List TOper := [⟨(some 11), .move (.tmp 5), 3, none, [], 0⟩,
  ⟨(some 12), .move (.tmp 0), 29, none, [], 1⟩,
  ⟨(some 13), .call ⟨.builtin .len, #[(.tmp 12)], #[29]⟩, 3, none, [], 2⟩,
  ⟨(some 14), .binOp .lss 3 (.tmp 11) (.tmp 13) 3, 4, none, [], 3⟩]
def r21_5 : List TOper := [⟨(some 17), .move (.tmp 0), 29, none, [], 0⟩,
  ⟨(some 18), .move (.tmp 5), 3, none, [], 1⟩,
  ⟨(some 19), .indexAddr 29 (.tmp 17) (.tmp 18), 0, none, [], 2⟩,
  ⟨(some 20), .load 3 (.tmp 19), 3, none, [], 3⟩,
  ⟨(some 21), .move (.tmp 1), 29, none, [], 4⟩,
  ⟨(some 22), .move (.tmp 5), 3, none, [], 5⟩,
  ⟨(some 23), .indexAddr 29 (.tmp 21) (.tmp 22), 0, none, [], 6⟩,
  ⟨(some 24), .load 3 (.tmp 23), 3, none, [], 7⟩,
  ⟨(some 25), .binOp .neq 3 (.tmp 20) (.tmp 24) 3, 4, none, [], 8⟩]
def r21_6 : List TOper := [⟨(some 4), .assign (.const (.bool false)), 4, none, [], 0⟩]
def r21_7 : List TOper := [⟨(some 15), .move (.tmp 5), 3, none, [], 0⟩,
  ⟨(some 16), .binOp .add 3 (.tmp 15) (.const (.int .i64 1)) 3, 3, none, [], 1⟩,
  ⟨(some 5), .assign (.tmp 16), 3, none, [], 2⟩]
def r21_8 : List TOper := [⟨(some 4), .assign (.const (.bool true)), 4, none, [], 0⟩]
def c21 : TCode := (.seq (.reg r21_0) (.seq (.seq (.reg r21_1) (.cond (.tmp 10) (.seq (.reg r21_2) .ret) .skip)) (.seq (.seq (.reg r21_3) (.block 0 (.loop (.seq (.seq (.reg r21_4) (.cond (.tmp 14) .skip (.exit 0))) (.seq (.block 1 (.seq (.reg r21_5) (.cond (.tmp 25) (.seq (.reg r21_6) .ret) .skip))) (.reg r21_7)))))) (.seq (.reg r21_8) .ret))))
def f21 : TFun := ⟨c21, 26, [.tmp 4]⟩
def r22_0 : List TOper := [⟨(some 1), .box 24 (.tmp 0), 0, none, [], 0⟩,
  ⟨(some 2), .assign (.const (.int .i64 0)), 30, none, [], 1⟩]
def r22_1 : List TOper := [⟨(some 4), .fieldAddr 24 (.tmp 1) 0, 0, none, [], 0⟩,
  ⟨(some 5), .load 3 (.tmp 4), 3, none, [], 1⟩,
  ⟨(some 7), .fieldAddr 24 (.tmp 1) 1, 0, none, [], 3⟩,
  ⟨(some 8), .load 3 (.tmp 7), 3, none, [], 4⟩,
  ⟨(some 6), .call ⟨.value (.func 90), #[(.tmp 5), (.const (.int .i64 (-999999999))), (.const (.int .i64 999999999))], #[3, 3, 3]⟩, 30, none, [(.tmp 7)], 2⟩,
  ⟨(some 9), .call ⟨.value (.func 90), #[(.tmp 8), (.const (.int .i64 1)), (.const (.int .i64 999999999))], #[3, 3, 3]⟩, 30, none, [], 5⟩,
  ⟨(some 10), .buildSlice 195 2 #[(0, (.tmp 6)), (1, (.tmp 9))], 195, none, [], 6⟩,
  ⟨(some 11), .call ⟨.value (.func 89), #[(.tmp 10)], #[195]⟩, 30, none, [], 7⟩,
  ⟨(some 3), .assign (.tmp 11), 30, none, [], 8⟩]
def r22_2 : List TOper := [⟨(some 12), .move (.tmp 3), 30, none, [], 0⟩,
  ⟨(some 13), .binOp .neq 30 (.tmp 12) (.const (.int .i64 0)) 30, 4, none, [], 1⟩]
def r22_3 : List TOper := [⟨(some 14), .move (.tmp 3), 30, none, [], 0⟩,
  ⟨(some 2), .assign (.tmp 14), 30, none, [], 1⟩]
def r22_4 : List TOper := [⟨(some 15), .fieldAddr 24 (.tmp 1) 0, 0, none, [], 0⟩,
  ⟨(some 16), .load 3 (.tmp 15), 3, none, [], 1⟩,
  ⟨(some 17), .fieldAddr 24 (.tmp 1) 1, 0, none, [], 2⟩,
  ⟨(some 18), .load 3 (.tmp 17), 3, none, [], 3⟩,
  ⟨(some 19), .call ⟨.value (.func 96), #[(.tmp 16), (.tmp 18)], #[3, 3]⟩, 3, none, [], 4⟩,
  ⟨(some 20), .binOp .neq 3 (.tmp 19) (.const (.int .i64 1)) 3, 4, none, [], 5⟩,
  ⟨(some 21), .call ⟨.value (.func 95), #[(.tmp 20), (.const (.int .i64 1))], #[4, 30]⟩, 30, none, [], 6⟩,
  ⟨(some 2), .assign (.tmp 21), 30, none, [], 7⟩]
def c22 : TCode := (.seq (.reg r22_0) (.seq (.seq (.reg r22_1) (.seq (.reg r22_2) (.cond (.tmp 13) (.seq (.reg r22_3) .ret) .skip))) (.seq (.reg r22_4) .ret)))
def f22 : TFun := ⟨c22, 22, [.tmp 2]⟩
def r23_0 : List TOper := [⟨(some 1), .box 24 (.tmp 0), 0, none, [], 0⟩,
  ⟨(some 2), .assign (.const (.int .i64 0)), 3, none, [], 1⟩]
def r23_1 : List TOper := [⟨(some 4), .fieldAddr 24 (.tmp 1) 0, 0, none, [], 0⟩,
  ⟨(some 5), .load 3 (.tmp 4), 3, none, [], 1⟩,
  ⟨(some 7), .fieldAddr 24 (.tmp 1) 1, 0, none, [], 3⟩,
  ⟨(some 8), .load 3 (.tmp 7), 3, none, [], 4⟩,
  ⟨(some 6), .call ⟨.value (.func 17), #[(.tmp 5), (.const (.int .i64 (-999999999))), (.const (.int .i64 999999999))], #[3, 3, 3]⟩, 3, none, [(.tmp 7)], 2⟩,
  ⟨(some 9), .call ⟨.value (.func 17), #[(.tmp 8), (.const (.int .i64 1)), (.const (.int .i64 999999999))], #[3, 3, 3]⟩, 3, none, [], 5⟩,
  ⟨(some 10), .buildSlice 29 2 #[(0, (.tmp 6)), (1, (.tmp 9))], 29, none, [], 6⟩,
  ⟨(some 11), .call ⟨.value (.func 16), #[(.tmp 10)], #[29]⟩, 3, none, [], 7⟩,
  ⟨(some 3), .assign (.tmp 11), 3, none, [], 8⟩]
def r23_2 : List TOper := [⟨(some 12), .move (.tmp 3), 3, none, [], 0⟩,
  ⟨(some 13), .binOp .neq 3 (.tmp 12) (.const (.int .i64 0)) 3, 4, none, [], 1⟩]
def r23_3 : List TOper := [⟨(some 14), .move (.tmp 3), 3, none, [], 0⟩,
  ⟨(some 2), .assign (.tmp 14), 3, none, [], 1⟩]
def r23_4 : List TOper := [⟨(some 15), .fieldAddr 24 (.tmp 1) 0, 0, none, [], 0⟩,
  ⟨(some 16), .load 3 (.tmp 15), 3, none, [], 1⟩,
  ⟨(some 17), .fieldAddr 24 (.tmp 1) 1, 0, none, [], 2⟩,
  ⟨(some 18), .load 3 (.tmp 17), 3, none, [], 3⟩,
  ⟨(some 19), .call ⟨.value (.func 97), #[(.tmp 16), (.tmp 18)], #[3, 3]⟩, 3, none, [], 4⟩,
  ⟨(some 20), .binOp .neq 3 (.tmp 19) (.const (.int .i64 1)) 3, 4, none, [], 5⟩,
  ⟨(some 21), .call ⟨.value (.func 35), #[(.tmp 20), (.const (.int .i64 1))], #[4, 3]⟩, 3, none, [], 6⟩,
  ⟨(some 2), .assign (.tmp 21), 3, none, [], 7⟩]
def c23 : TCode := (.seq (.reg r23_0) (.seq (.seq (.reg r23_1) (.seq (.reg r23_2) (.cond (.tmp 13) (.seq (.reg r23_3) .ret) .skip))) (.seq (.reg r23_4) .ret)))
def f23 : TFun := ⟨c23, 22, [.tmp 2]⟩
def r24_0 : List TOper := [⟨(some 2), .assign (.const (.int .i64 0)), 30, none, [], 0⟩]
def r24_1 : List TOper := [⟨(some 3), .move (.tmp 0), 25, none, [], 0⟩,
  ⟨(some 4), .call ⟨.value (.func 98), #[(.tmp 3)], #[25]⟩, 4, none, [], 1⟩,
  ⟨(some 5), .unOp .not 4 (.tmp 4), 4, none, [], 2⟩]
def r24_2 : List TOper := [⟨(some 2), .assign (.const (.int .i64 1)), 30, none, [], 0⟩]
def r24_3 : List TOper := [⟨(some 6), .move (.tmp 0), 25, none, [], 0⟩,
  ⟨(some 7), .call ⟨.value (.func 99), #[(.tmp 6), (.const (.int .i64 1024))], #[25, 3]⟩, 4, none, [], 1⟩,
  ⟨(some 8), .unOp .not 4 (.tmp 7), 4, none, [], 2⟩,
  ⟨(some 9), .call ⟨.value (.func 95), #[(.tmp 8), (.const (.int .i64 3))], #[4, 30]⟩, 30, none, [], 3⟩,
  ⟨(some 2), .assign (.tmp 9), 30, none, [], 4⟩]
def c24 : TCode := (.seq (.reg r24_0) (.seq (.seq (.reg r24_1) (.cond (.tmp 5) (.seq (.reg r24_2) .ret) .skip)) (.seq (.reg r24_3) .ret)))
def f24 : TFun := ⟨c24, 10, [.tmp 2]⟩
def r25_0 : List TOper := [⟨(some 2), .assign (.const (.int .i64 0)), 3, none, [], 0⟩]
def r25_1 : List TOper := [⟨(some 3), .move (.tmp 0), 25, none, [], 0⟩,
  ⟨(some 4), .call ⟨.value (.func 100), #[(.tmp 3), (.const (.int .i64 1024))], #[25, 3]⟩, 3, none, [], 1⟩,
  ⟨(some 2), .assign (.tmp 4), 3, none, [], 2⟩]
def c25 : TCode := (.seq (.reg r25_0) (.seq (.reg r25_1) .ret))
def f25 : TFun := ⟨c25, 5, [.tmp 2]⟩
def r27_0 : List TOper := [⟨(some 2), .box 52 (.tmp 0), 0, none, [], 0⟩,
  ⟨(some 4), .assign (.const (.float .f32 0)), 25, none, [], 1⟩,
  ⟨(some 5), .assign (.const (.bool false)), 4, none, [], 2⟩,
  ⟨(some 6), .assign (.const (.int .i64 0)), 30, none, [], 3⟩]
def r27_1 : List TOper := [⟨(some 9), .load 52 (.tmp 2), 52, none, [], 0⟩,
  ⟨(some 10), .call ⟨.value (.func 44), #[(.tmp 9)], #[52]⟩, 30, none, [], 1⟩,
  ⟨(some 7), .assign (.tmp 10), 30, none, [], 2⟩]
def r27_2 : List TOper := [⟨(some 11), .move (.tmp 7), 30, none, [], 0⟩,
  ⟨(some 12), .binOp .neq 30 (.tmp 11) (.const (.int .i64 0)) 30, 4, none, [], 1⟩]
def r27_3 : List TOper := [⟨(some 13), .move (.tmp 7), 30, none, [], 0⟩,
  ⟨(some 4), .assign (.const (.float .f32 0)), 25, none, [], 1⟩,
  ⟨(some 5), .assign (.const (.bool false)), 4, none, [], 2⟩,
  ⟨(some 6), .assign (.tmp 13), 30, none, [], 3⟩]
def r27_4 : List TOper := [⟨(some 14), .move (.tmp 1), 3, none, [], 0⟩,
  ⟨(some 15), .fieldAddr 52 (.tmp 2) 1, 0, none, [], 1⟩,
  ⟨(some 16), .load 3 (.tmp 15), 3, none, [], 2⟩,
  ⟨(some 17), .binOp .lss 3 (.tmp 14) (.tmp 16) 3, 4, none, [], 3⟩,
  ⟨(some 18), .move (.tmp 17), 4, none, [], 4⟩,
  ⟨(some 19), .move (.tmp 1), 3, (some (18, false)), [], 5⟩,
  ⟨(some 20), .load 52 (.tmp 2), 52, (some (18, false)), [], 6⟩,
  ⟨(some 21), .call ⟨.value (.func 102), #[(.tmp 20)], #[52]⟩, 3, (some (18, false)), [], 7⟩,
  ⟨(some 22), .binOp .geq 3 (.tmp 19) (.tmp 21) 3, 4, (some (18, false)), [], 8⟩,
  ⟨(some 23), .pick (.tmp 18) (.const (.bool true)) (.tmp 22), 4, none, [], 9⟩]
def r27_5 : List TOper := [⟨(some 4), .assign (.const (.float .f32 0)), 25, none, [], 0⟩,
  ⟨(some 5), .assign (.const (.bool false)), 4, none, [], 1⟩,
  ⟨(some 6), .assign (.const (.int .i64 10)), 30, none, [], 2⟩]
def r27_6 : List TOper := [⟨(some 24), .load 52 (.tmp 2), 52, none, [], 0⟩,
  ⟨(some 26), .move (.tmp 1), 3, none, [], 2⟩,
  ⟨(some 27), .fieldAddr 52 (.tmp 2) 1, 0, none, [], 3⟩,
  ⟨(some 28), .load 3 (.tmp 27), 3, none, [], 4⟩,
  ⟨(some 29), .binOp .sub 3 (.tmp 26) (.tmp 28) 3, 3, none, [], 5⟩,
  ⟨(some 8), .alloc 163, 0, none, [], 8⟩,
  ⟨(some 25), .call ⟨.value (.func 103), #[(.tmp 24)], #[52]⟩, 164, none, [(.tmp 8), (.tmp 27)], 1⟩,
  ⟨(some 30), .indexAddr 164 (.tmp 25) (.tmp 29), 0, none, [], 6⟩,
  ⟨(some 31), .load 163 (.tmp 30), 163, none, [], 7⟩,
  ⟨none, .store 163 (.tmp 8) (.tmp 31), 0, none, [], 9⟩]
def r27_7 : List TOper := [⟨(some 32), .fieldAddr 163 (.tmp 8) 0, 0, none, [], 0⟩,
  ⟨(some 33), .load 3 (.tmp 32), 3, none, [], 1⟩,
  ⟨(some 35), .fieldAddr 163 (.tmp 8) 1, 0, none, [], 3⟩,
  ⟨(some 36), .load 4 (.tmp 35), 4, none, [], 4⟩,
  ⟨(some 34), .call ⟨.value (.func 104), #[(.tmp 33)], #[3]⟩, 25, none, [(.tmp 35)], 2⟩,
  ⟨(some 4), .assign (.tmp 34), 25, none, [], 5⟩,
  ⟨(some 5), .assign (.tmp 36), 4, none, [], 6⟩,
  ⟨(some 6), .assign (.const (.int .i64 0)), 30, none, [], 7⟩]
def c27 : TCode := (.seq (.reg r27_0) (.seq (.seq (.reg r27_1) (.seq (.reg r27_2) (.cond (.tmp 12) (.seq (.reg r27_3) .ret) .skip))) (.seq (.seq (.reg r27_4) (.cond (.tmp 23) (.seq (.reg r27_5) .ret) .skip)) (.seq (.reg r27_6) (.seq (.reg r27_7) .ret)))))
def f27 : TFun := ⟨c27, 37, [.tmp 4, .tmp 5, .tmp 6]⟩
def r29_0 : List TOper := [⟨(some 1), .box 52 (.tmp 0), 0, none, [], 0⟩,
  ⟨(some 2), .assign (.const (.int .i64 0)), 3, none, [], 1⟩,
  ⟨(some 3), .assign (.const (.int .i64 0)), 30, none, [], 2⟩]
def r29_1 : List TOper := [⟨(some 5), .load 52 (.tmp 1), 52, none, [], 0⟩,
  ⟨(some 6), .call ⟨.value (.func 44), #[(.tmp 5)], #[52]⟩, 30, none, [], 1⟩,
  ⟨(some 4), .assign (.tmp 6), 30, none, [], 2⟩]
def r29_2 : List TOper := [⟨(some 7), .move (.tmp 4), 30, none, [], 0⟩,
  ⟨(some 8), .binOp .neq 30 (.tmp 7) (.const (.int .i64 0)) 30, 4, none, [], 1⟩]
def r29_3 : List TOper := [⟨(some 9), .move (.tmp 4), 30, none, [], 0⟩,
  ⟨(some 2), .assign (.const (.int .i64 0)), 3, none, [], 1⟩,
  ⟨(some 3), .assign (.tmp 9), 30, none, [], 2⟩]
def r29_4 : List TOper := [⟨(some 10), .load 52 (.tmp 1), 52, none, [], 0⟩,
  ⟨(some 11), .call ⟨.value (.func 103), #[(.tmp 10)], #[52]⟩, 164, none, [], 1⟩,
  ⟨(some 12), .call ⟨.value (.func 106), #[(.tmp 11)], #[164]⟩, 29, none, [], 2⟩,
  ⟨(some 13), .call ⟨.builtin .len, #[(.tmp 12)], #[29]⟩, 3, none, [], 3⟩,
  ⟨(some 2), .assign (.tmp 13), 3, none, [], 4⟩,
  ⟨(some 3), .assign (.const (.int .i64 0)), 30, none, [], 5⟩]
def c29 : TCode := (.seq (.reg r29_0) (.seq (.seq (.reg r29_1) (.seq (.reg r29_2) (.cond (.tmp 8) (.seq (.reg r29_3) .ret) .skip))) (.seq (.reg r29_4) .ret)))
def f29 : TFun := ⟨c29, 14, [.tmp 2, .tmp 3]⟩
def r30_0 : List TOper := [⟨(some 2), .box 52 (.tmp 0), 0, none, [], 0⟩,
  ⟨(some 3), .box 48 (.tmp 1), 0, none, [], 1⟩,
  ⟨(some 4), .alloc 52, 0, none, [], 2⟩,
  ⟨(some 5), .assign (.const (.int .i64 0)), 30, none, [], 3⟩]
def r30_1 : List TOper := [⟨(some 8), .load 52 (.tmp 2), 52, none, [], 0⟩,
  ⟨(some 9), .call ⟨.value (.func 44), #[(.tmp 8)], #[52]⟩, 30, none, [], 1⟩,
  ⟨(some 6), .assign (.tmp 9), 30, none, [], 2⟩]
def r30_2 : List TOper := [⟨(some 10), .move (.tmp 6), 30, none, [], 0⟩,
  ⟨(some 11), .binOp .neq 30 (.tmp 10) (.const (.int .i64 0)) 30, 4, none, [], 1⟩]
def r30_3 : List TOper := [⟨(some 12), .build 52 #[], 52, none, [], 0⟩,
  ⟨(some 13), .move (.tmp 6), 30, none, [], 1⟩,
  ⟨none, .store 52 (.tmp 4) (.tmp 12), 0, none, [], 2⟩,
  ⟨(some 5), .assign (.tmp 13), 30, none, [], 3⟩]
def r30_4 : List TOper := [⟨(some 14), .fieldAddr 48 (.tmp 3) 0, 0, none, [], 0⟩,
  ⟨(some 15), .load 3 (.tmp 14), 3, none, [], 1⟩,
  ⟨(some 16), .fieldAddr 48 (.tmp 3) 1, 0, none, [], 2⟩,
  ⟨(some 17), .load 3 (.tmp 16), 3, none, [], 3⟩,
  ⟨(some 18), .binOp .geq 3 (.tmp 15) (.tmp 17) 3, 4, none, [], 4⟩,
  ⟨(some 19), .move (.tmp 18), 4, none, [], 5⟩,
  ⟨(some 20), .fieldAddr 48 (.tmp 3) 0, 0, (some (19, false)), [], 6⟩,
  ⟨(some 21), .load 3 (.tmp 20), 3, (some (19, false)), [], 7⟩,
  ⟨(some 22), .fieldAddr 52 (.tmp 2) 1, 0, (some (19, false)), [], 8⟩,
  ⟨(some 23), .load 3 (.tmp 22), 3, (some (19, false)), [], 9⟩,
  ⟨(some 24), .binOp .lss 3 (.tmp 21) (.tmp 23) 3, 4, (some (19, false)), [], 10⟩,
  ⟨(some 25), .pick (.tmp 19) (.const (.bool true)) (.tmp 24), 4, none, [], 11⟩,
  ⟨(some 26), .move (.tmp 25), 4, none, [], 12⟩,
  ⟨(some 27), .fieldAddr 48 (.tmp 3) 1, 0, (some (26, false)), [], 13⟩,
  ⟨(some 28), .load 3 (.tmp 27), 3, (some (26, false)), [], 14⟩,
  ⟨(some 29), .load 52 (.tmp 2), 52, (some (26, false)), [], 15⟩,
  ⟨(some 30), .call ⟨.value (.func 102), #[(.tmp 29)], #[52]⟩, 3, (some (26, false)), [(.tmp 27)], 16⟩,
  ⟨(some 31), .binOp .gtr 3 (.tmp 28) (.tmp 30) 3, 4, (some (26, false)), [], 17⟩,
  ⟨(some 32), .pick (.tmp 26) (.const (.bool true)) (.tmp 31), 4, none, [], 18⟩]
def r30_5 : List TOper := [⟨(some 33), .build 52 #[], 52, none, [], 0⟩,
  ⟨none, .store 52 (.tmp 4) (.tmp 33), 0, none, [], 1⟩,
  ⟨(some 5), .assign (.const (.int .i64 14)), 30, none, [], 2⟩]
def r30_6 : List TOper := [⟨(some 34), .load 52 (.tmp 2), 52, none, [], 0⟩,
  ⟨(some 36), .fieldAddr 48 (.tmp 3) 0, 0, none, [], 2⟩,
  ⟨(some 37), .load 3 (.tmp 36), 3, none, [], 3⟩,
  ⟨(some 38), .fieldAddr 52 (.tmp 2) 1, 0, none, [], 4⟩,
  ⟨(some 39), .load 3 (.tmp 38), 3, none, [], 5⟩,
  ⟨(some 40), .binOp .sub 3 (.tmp 37) (.tmp 39) 3, 3, none, [], 6⟩,
  ⟨(some 41), .fieldAddr 48 (.tmp 3) 1, 0, none, [], 7⟩,
  ⟨(some 42), .load 3 (.tmp 41), 3, none, [], 8⟩,
  ⟨(some 43), .fieldAddr 52 (.tmp 2) 1, 0, none, [], 9⟩,
  ⟨(some 44), .load 3 (.tmp 43), 3, none, [], 10⟩,
  ⟨(some 45), .binOp .sub 3 (.tmp 42) (.tmp 44) 3, 3, none, [], 11⟩,
  ⟨(some 35), .call ⟨.value (.func 103), #[(.tmp 34)], #[52]⟩, 164, none, [(.tmp 43), (.tmp 41), (.tmp 38), (.tmp 36)], 1⟩,
  ⟨(some 46), .slice 164 (.tmp 35) (some (.tmp 40)) (some (.tmp 45)) none, 164, none, [], 12⟩,
  ⟨(some 7), .assign (.tmp 46), 164, none, [], 13⟩]
def r30_7 : List TOper := [⟨(some 47), .fieldAddr 52 (.tmp 2) 0, 0, none, [], 0⟩,
  ⟨(some 48), .load 9 (.tmp 47), 9, none, [], 1⟩,
  ⟨(some 49), .fieldAddr 48 (.tmp 3) 0, 0, none, [], 2⟩,
  ⟨(some 50), .load 3 (.tmp 49), 3, none, [], 3⟩,
  ⟨(some 51), .move (.tmp 7), 164, none, [], 4⟩,
  ⟨(some 52), .call ⟨.value (.func 107), #[(.tmp 48), (.tmp 50), (.tmp 51)], #[9, 3, 164]⟩, 52, none, [], 5⟩,
  ⟨none, .store 52 (.tmp 4) (.tmp 52), 0, none, [], 6⟩,
  ⟨(some 5), .assign (.const (.int .i64 0)), 30, none, [], 7⟩]
def c30 : TCode := (.seq (.reg r30_0) (.seq (.seq (.reg r30_1) (.seq (.reg r30_2) (.cond (.tmp 11) (.seq (.reg r30_3) .ret) .skip))) (.seq (.seq (.reg r30_4) (.cond (.tmp 32) (.seq (.reg r30_5) .ret) .skip)) (.seq (.reg r30_6) (.seq (.reg r30_7) .ret)))))
def f30 : TFun := ⟨c30, 53, [.cell 4 52, .tmp 5]⟩
def r31_0 : List TOper := [⟨(some 1), .box 52 (.tmp 0), 0, none, [], 0⟩,
  ⟨(some 2), .alloc 52, 0, none, [], 1⟩,
  ⟨(some 3), .assign (.const (.int .i64 0)), 30, none, [], 2⟩]
def r31_1 : List TOper := [⟨(some 6), .load 52 (.tmp 1), 52, none, [], 0⟩,
  ⟨(some 7), .call ⟨.value (.func 44), #[(.tmp 6)], #[52]⟩, 30, none, [], 1⟩,
  ⟨(some 4), .assign (.tmp 7), 30, none, [], 2⟩]
def r31_2 : List TOper := [⟨(some 8), .move (.tmp 4), 30, none, [], 0⟩,
  ⟨(some 9), .binOp .neq 30 (.tmp 8) (.const (.int .i64 0)) 30, 4, none, [], 1⟩]
def r31_3 : List TOper := [⟨(some 10), .build 52 #[], 52, none, [], 0⟩,
  ⟨(some 11), .move (.tmp 4), 30, none, [], 1⟩,
  ⟨none, .store 52 (.tmp 2) (.tmp 10), 0, none, [], 2⟩,
  ⟨(some 3), .assign (.tmp 11), 30, none, [], 3⟩]
def r31_4 : List TOper := [⟨(some 12), .load 52 (.tmp 1), 52, none, [], 0⟩,
  ⟨(some 13), .call ⟨.value (.func 103), #[(.tmp 12)], #[52]⟩, 164, none, [], 1⟩,
  ⟨(some 5), .assign (.tmp 13), 164, none, [], 2⟩]
def r31_5 : List TOper := [⟨(some 14), .move (.tmp 5), 164, none, [], 0⟩,
  ⟨(some 15), .call ⟨.value (.func 108), #[(.tmp 14)], #[164]⟩, 0, none, [], 1⟩]
def r31_6 : List TOper := [⟨(some 16), .fieldAddr 52 (.tmp 1) 0, 0, none, [], 0⟩,
  ⟨(some 17), .load 9 (.tmp 16), 9, none, [], 1⟩,
  ⟨(some 18), .fieldAddr 52 (.tmp 1) 1, 0, none, [], 2⟩,
  ⟨(some 19), .load 3 (.tmp 18), 3, none, [], 3⟩,
  ⟨(some 20), .move (.tmp 5), 164, none, [], 4⟩,
  ⟨(some 21), .call ⟨.value (.func 107), #[(.tmp 17), (.tmp 19), (.tmp 20)], #[9, 3, 164]⟩, 52, none, [], 5⟩,
  ⟨none, .store 52 (.tmp 2) (.tmp 21), 0, none, [], 6⟩,
  ⟨(some 3), .assign (.const (.int .i64 0)), 30, none, [], 7⟩]
def c31 : TCode := (.seq (.reg r31_0) (.seq (.seq (.reg r31_1) (.seq (.reg r31_2) (.cond (.tmp 9) (.seq (.reg r31_3) .ret) .skip))) (.seq (.reg r31_4) (.seq (.reg r31_5) (.seq (.reg r31_6) .ret)))))
def f31 : TFun := ⟨c31, 22, [.cell 2 52, .tmp 3]⟩
def r32_0 : List TOper := [⟨(some 1), .box 52 (.tmp 0), 0, none, [], 0⟩,
  ⟨(some 2), .assign (.const (.int .i64 0)), 3, none, [], 1⟩,
  ⟨(some 3), .assign (.const (.int .i64 0)), 30, none, [], 2⟩]
def r32_1 : List TOper := [⟨(some 8), .load 52 (.tmp 1), 52, none, [], 0⟩,
  ⟨(some 9), .call ⟨.value (.func 44), #[(.tmp 8)], #[52]⟩, 30, none, [], 1⟩,
  ⟨(some 4), .assign (.tmp 9), 30, none, [], 2⟩]
def r32_2 : List TOper := [⟨(some 10), .move (.tmp 4), 30, none, [], 0⟩,
  ⟨(some 11), .binOp .neq 30 (.tmp 10) (.const (.int .i64 0)) 30, 4, none, [], 1⟩]
def r32_3 : List TOper := [⟨(some 12), .move (.tmp 4), 30, none, [], 0⟩,
  ⟨(some 2), .assign (.const (.int .i64 0)), 3, none, [], 1⟩,
  ⟨(some 3), .assign (.tmp 12), 30, none, [], 2⟩]
def r32_4 : List TOper := [⟨(some 5), .assign (.const (.int .i64 0)), 3, none, [], 0⟩]
def r32_5 : List TOper := [⟨(some 13), .load 52 (.tmp 1), 52, none, [], 0⟩,
  ⟨(some 14), .call ⟨.value (.func 103), #[(.tmp 13)], #[52]⟩, 164, none, [], 1⟩,
  ⟨(some 15), .call ⟨.value (.func 106), #[(.tmp 14)], #[164]⟩, 29, none, [], 2⟩,
  ⟨(some 16), .call ⟨.builtin .len, #[(.tmp 15)], #[29]⟩, 3, none, [], 3⟩,
  ⟨(some 17), .move (.const (.int .i64 0)), 3, none, [], 4⟩]
def r32_6 : List TOper := [⟨(some 18), .binOp .lss 3 (.tmp 17) (.tmp 16) 3, 0, none, [], 0⟩]
def r32_7 : List TOper := [⟨(some 19), .indexAddr 29 (.tmp 15) (.tmp 17), 0, none, [], 0⟩,
  ⟨(some 20), .load 3 (.tmp 19), 3, none, [], 1⟩,
  ⟨(some 7), .assign (.tmp 20), 3, none, [], 2⟩]
def r32_8 : List TOper := [⟨(some 21), .move (.tmp 5), 3, none, [], 0⟩,
  ⟨(some 22), .move (.tmp 7), 3, none, [], 1⟩,
  ⟨(some 23), .move (.tmp 7), 3, none, [], 2⟩,
  ⟨(some 24), .binOp .mul 3 (.tmp 22) (.tmp 23) 3, 3, none, [], 3⟩,
  ⟨(some 25), .binOp .add 3 (.tmp 21) (.tmp 24) 3, 3, none, [], 4⟩,
  ⟨(some 5), .assign (.tmp 25), 3, none, [], 5⟩]
def r32_9 : List TOper := [⟨(some 26), .binOp .add 3 (.tmp 17) (.const (.int .i64 1)) 3, 3, none, [], 0⟩,
  ⟨(some 17), .move (.tmp 26), 3, none, [], 1⟩]
def r32_10 : List TOper := [⟨(some 27), .move (.tmp 5), 3, none, [], 0⟩,
  ⟨(some 2), .assign (.tmp 27), 3, none, [], 1⟩,
  ⟨(some 3), .assign (.const (.int .i64 0)), 30, none, [], 2⟩]
def c32 : TCode := (.seq (.reg r32_0) (.seq (.seq (.reg r32_1) (.seq (.reg r32_2) (.cond (.tmp 11) (.seq (.reg r32_3) .ret) .skip))) (.seq (.reg r32_4) (.seq (.seq (.reg r32_5) (.block 0 (.loop (.seq (.reg r32_6) (.seq (.cond (.tmp 18) .skip (.exit 0)) (.seq (.block 1 (.seq (.reg r32_7) (.reg r32_8))) (.reg r32_9))))))) (.seq (.reg r32_10) .ret)))))
def f32 : TFun := ⟨c32, 28, [.tmp 2, .tmp 3]⟩
def r33_0 : List TOper := [⟨(some 1), .box 52 (.tmp 0), 0, none, [], 0⟩,
  ⟨(some 2), .alloc 24, 0, none, [], 1⟩,
  ⟨(some 3), .assign (.const (.int .i64 0)), 30, none, [], 2⟩]
def r33_1 : List TOper := [⟨(some 11), .load 52 (.tmp 1), 52, none, [], 0⟩,
  ⟨(some 12), .call ⟨.value (.func 44), #[(.tmp 11)], #[52]⟩, 30, none, [], 1⟩,
  ⟨(some 4), .assign (.tmp 12), 30, none, [], 2⟩]
def r33_2 : List TOper := [⟨(some 13), .move (.tmp 4), 30, none, [], 0⟩,
  ⟨(some 14), .binOp .neq 30 (.tmp 13) (.const (.int .i64 0)) 30, 4, none, [], 1⟩]
def r33_3 : List TOper := [⟨(some 15), .build 24 #[], 24, none, [], 0⟩,
  ⟨(some 16), .move (.tmp 4), 30, none, [], 1⟩,
  ⟨none, .store 24 (.tmp 2) (.tmp 15), 0, none, [], 2⟩,
  ⟨(some 3), .assign (.tmp 16), 30, none, [], 3⟩]
def r33_4 : List TOper := [⟨(some 17), .load 52 (.tmp 1), 52, none, [], 0⟩,
  ⟨(some 18), .call ⟨.value (.func 103), #[(.tmp 17)], #[52]⟩, 164, none, [], 1⟩,
  ⟨(some 19), .call ⟨.value (.func 106), #[(.tmp 18)], #[164]⟩, 29, none, [], 2⟩,
  ⟨(some 5), .assign (.tmp 19), 29, none, [], 3⟩]
def r33_5 : List TOper := [⟨(some 20), .move (.tmp 5), 29, none, [], 0⟩,
  ⟨(some 21), .call ⟨.builtin .len, #[(.tmp 20)], #[29]⟩, 3, none, [], 1⟩,
  ⟨(some 22), .binOp .eql 3 (.tmp 21) (.const (.int .i64 0)) 3, 4, none, [], 2⟩]
def r33_6 : List TOper := [⟨(some 23), .build 24 #[], 24, none, [], 0⟩,
  ⟨none, .store 24 (.tmp 2) (.tmp 23), 0, none, [], 1⟩,
  ⟨(some 3), .assign (.const (.int .i64 7)), 30, none, [], 2⟩]
def r33_7 : List TOper := [⟨(some 24), .move (.tmp 5), 29, none, [], 0⟩,
  ⟨(some 25), .call ⟨.builtin .len, #[(.tmp 24)], #[29]⟩, 3, none, [], 1⟩,
  ⟨(some 26), .binOp .mul 3 (.const (.int .i64 16)) (.tmp 25) 3, 3, none, [], 2⟩,
  ⟨(some 6), .assign (.const (.int .i64 0)), 3, none, [], 3⟩,
  ⟨(some 7), .assign (.tmp 26), 3, none, [], 4⟩]
def r33_8 : List TOper := [⟨(some 27), .move (.tmp 5), 29, none, [], 0⟩,
  ⟨(some 28), .call ⟨.builtin .len, #[(.tmp 27)], #[29]⟩, 3, none, [], 1⟩,
  ⟨(some 29), .move (.const (.int .i64 0)), 3, none, [], 2⟩]
def r33_9 : List TOper := [⟨(some 30), .binOp .lss 3 (.tmp 29) (.tmp 28) 3, 0, none, [], 0⟩]
def r33_10 : List TOper := [⟨(some 31), .indexAddr 29 (.tmp 27) (.tmp 29), 0, none, [], 0⟩,
  ⟨(some 32), .load 3 (.tmp 31), 3, none, [], 1⟩,
  ⟨(some 9), .assign (.tmp 32), 3, none, [], 2⟩]
def r33_11 : List TOper := [⟨(some 33), .move (.tmp 6), 3, none, [], 0⟩,
  ⟨(some 34), .move (.tmp 9), 3, none, [], 1⟩,
  ⟨(some 35), .binOp .add 3 (.tmp 33) (.tmp 34) 3, 3, none, [], 2⟩,
  ⟨(some 6), .assign (.tmp 35), 3, none, [], 3⟩]
def r33_12 : List TOper := [⟨(some 36), .binOp .add 3 (.tmp 29) (.const (.int .i64 1)) 3, 3, none, [], 0⟩,
  ⟨(some 29), .move (.tmp 36), 3, none, [], 1⟩]
def r33_13 : List TOper := [⟨(some 37), .move (.tmp 6), 3, none, [], 0⟩,
  ⟨(some 38), .move (.tmp 7), 3, none, [], 1⟩,
  ⟨(some 39), .call ⟨.value (.func 96), #[(.tmp 37), (.tmp 38)], #[3, 3]⟩, 3, none, [], 2⟩,
  ⟨(some 10), .assign (.tmp 39), 3, none, [], 3⟩]
def r33_14 : List TOper := [⟨(some 40), .move (.tmp 6), 3, none, [], 0⟩,
  ⟨(some 41), .move (.tmp 10), 3, none, [], 1⟩,
  ⟨(some 42), .binOp .quo 3 (.tmp 40) (.tmp 41) 3, 3, none, [], 2⟩,
  ⟨(some 43), .move (.tmp 7), 3, none, [], 3⟩,
  ⟨(some 44), .move (.tmp 10), 3, none, [], 4⟩,
  ⟨(some 45), .binOp .quo 3 (.tmp 43) (.tmp 44) 3, 3, none, [], 5⟩,
  ⟨(some 46), .build 24 #[(0, (.tmp 42)), (1, (.tmp 45))], 24, none, [], 6⟩,
  ⟨none, .store 24 (.tmp 2) (.tmp 46), 0, none, [], 7⟩,
  ⟨(some 3), .assign (.const (.int .i64 0)), 30, none, [], 8⟩]
def c33 : TCode := (.seq (.reg r33_0) (.seq (.seq (.reg r33_1) (.seq (.reg r33_2) (.cond (.tmp 14) (.seq (.reg r33_3) .ret) .skip))) (.seq (.reg r33_4) (.seq (.seq (.reg r33_5) (.cond (.tmp 22) (.seq (.reg r33_6) .ret) .skip)) (.seq (.reg r33_7) (.seq (.seq (.reg r33_8) (.block 0 (.loop (.seq (.reg r33_9) (.seq (.cond (.tmp 30) .skip (.exit 0)) (.seq (.block 1 (.seq (.reg r33_10) (.reg r33_11))) (.reg r33_12))))))) (.seq (.reg r33_13) (.seq (.reg r33_14) .ret))))))))
def f33 : TFun := ⟨c33, 47, [.cell 2 24, .tmp 3]⟩
def r35_0 : List TOper := [⟨(some 4), .assign (.const (.int .i64 0)), 3, none, [], 0⟩]
def r35_1 : List TOper := [⟨(some 5), .move (.tmp 0), 4, none, [], 0⟩]
def r35_2 : List TOper := [⟨(some 6), .move (.tmp 1), 3, none, [], 0⟩,
  ⟨(some 4), .assign (.tmp 6), 3, none, [], 1⟩]
def r35_3 : List TOper := [⟨(some 4), .assign (.const (.int .i64 0)), 3, none, [], 0⟩]
def c35 : TCode := (.seq (.reg r35_0) (.seq (.seq (.reg r35_1) (.cond (.tmp 5) (.seq (.reg r35_2) .ret) .skip)) (.seq (.reg r35_3) .ret)))
def f35 : TFun := ⟨c35, 7, [.tmp 4]⟩
def r44_0 : List TOper := [⟨(some 1), .box 52 (.tmp 0), 0, none, [], 0⟩,
  ⟨(some 2), .assign (.const (.int .i64 0)), 30, none, [], 1⟩]
def r44_1 : List TOper := [⟨(some 5), .fieldAddr 52 (.tmp 1) 2, 0, none, [], 0⟩,
  ⟨(some 6), .load 43 (.tmp 5), 43, none, [], 1⟩,
  ⟨(some 7), .call ⟨.builtin .len, #[(.tmp 6)], #[43]⟩, 3, none, [], 2⟩,
  ⟨(some 3), .assign (.tmp 7), 3, none, [], 3⟩]
def r44_2 : List TOper := [⟨(some 8), .fieldAddr 52 (.tmp 1) 0, 0, none, [], 0⟩,
  ⟨(some 9), .load 9 (.tmp 8), 9, none, [], 1⟩,
  ⟨(some 13), .fieldAddr 52 (.tmp 1) 1, 0, none, [], 5⟩,
  ⟨(some 14), .load 3 (.tmp 13), 3, none, [], 6⟩,
  ⟨(some 16), .move (.tmp 3), 3, none, [], 8⟩,
  ⟨(some 17), .binOp .gtr 3 (.tmp 16) (.const (.int .i64 4096)) 3, 4, none, [], 9⟩,
  ⟨(some 10), .call ⟨.value (.func 19), #[(.tmp 9)], #[9]⟩, 4, none, [(.tmp 13)], 2⟩,
  ⟨(some 11), .unOp .not 4 (.tmp 10), 4, none, [], 3⟩,
  ⟨(some 12), .call ⟨.value (.func 95), #[(.tmp 11), (.const (.int .i64 8))], #[4, 30]⟩, 30, none, [(.tmp 13)], 4⟩,
  ⟨(some 15), .call ⟨.value (.func 90), #[(.tmp 14), (.const (.int .i64 0)), (.const (.int .i64 100000000))], #[3, 3, 3]⟩, 30, none, [], 7⟩,
  ⟨(some 18), .call ⟨.value (.func 95), #[(.tmp 17), (.const (.int .i64 5))], #[4, 30]⟩, 30, none, [], 10⟩,
  ⟨(some 19), .buildSlice 195 3 #[(0, (.tmp 12)), (1, (.tmp 15)), (2, (.tmp 18))], 195, none, [], 11⟩,
  ⟨(some 20), .call ⟨.value (.func 89), #[(.tmp 19)], #[195]⟩, 30, none, [], 12⟩,
  ⟨(some 4), .assign (.tmp 20), 30, none, [], 13⟩]
def r44_3 : List TOper := [⟨(some 21), .move (.tmp 4), 30, none, [], 0⟩,
  ⟨(some 22), .binOp .neq 30 (.tmp 21) (.const (.int .i64 0)) 30, 4, none, [], 1⟩]
def r44_4 : List TOper := [⟨(some 23), .move (.tmp 4), 30, none, [], 0⟩,
  ⟨(some 2), .assign (.tmp 23), 30, none, [], 1⟩]
def r44_5 : List TOper := [⟨(some 24), .fieldAddr 52 (.tmp 1) 2, 0, none, [], 0⟩,
  ⟨(some 25), .load 43 (.tmp 24), 43, none, [], 1⟩,
  ⟨(some 27), .fieldAddr 52 (.tmp 1) 1, 0, none, [], 3⟩,
  ⟨(some 28), .load 3 (.tmp 27), 3, none, [], 4⟩,
  ⟨(some 29), .move (.tmp 3), 3, none, [], 5⟩,
  ⟨(some 30), .binOp .add 3 (.tmp 28) (.tmp 29) 3, 3, none, [], 6⟩,
  ⟨(some 31), .binOp .gtr 3 (.tmp 30) (.const (.int .i64 100000000)) 3, 4, none, [], 7⟩,
  ⟨(some 33), .fieldAddr 52 (.tmp 1) 3, 0, none, [], 9⟩,
  ⟨(some 34), .load 44 (.tmp 33), 44, none, [], 10⟩,
  ⟨(some 35), .move (.tmp 3), 3, none, [], 11⟩,
  ⟨(some 26), .call ⟨.value (.func 116), #[(.tmp 25)], #[43]⟩, 30, none, [(.tmp 33), (.tmp 27)], 2⟩,
  ⟨(some 32), .call ⟨.value (.func 95), #[(.tmp 31), (.const (.int .i64 4))], #[4, 30]⟩, 30, none, [(.tmp 33)], 8⟩,
  ⟨(some 36), .call ⟨.value (.func 117), #[(.tmp 34), (.tmp 35)], #[44, 3]⟩, 30, none, [], 12⟩,
  ⟨(some 37), .buildSlice 195 3 #[(0, (.tmp 26)), (1, (.tmp 32)), (2, (.tmp 36))], 195, none, [], 13⟩,
  ⟨(some 38), .call ⟨.value (.func 89), #[(.tmp 37)], #[195]⟩, 30, none, [], 14⟩,
  ⟨(some 4), .assign (.tmp 38), 30, none, [], 15⟩]
def r44_6 : List TOper := [⟨(some 39), .move (.tmp 4), 30, none, [], 0⟩,
  ⟨(some 40), .binOp .neq 30 (.tmp 39) (.const (.int .i64 0)) 30, 4, none, [], 1⟩]
def r44_7 : List TOper := [⟨(some 41), .move (.tmp 4), 30, none, [], 0⟩,
  ⟨(some 2), .assign (.tmp 41), 30, none, [], 1⟩]
def r44_8 : List TOper := [⟨(some 42), .load 52 (.tmp 1), 52, none, [], 0⟩,
  ⟨(some 43), .call ⟨.value (.func 118), #[(.tmp 42)], #[52]⟩, 30, none, [], 1⟩,
  ⟨(some 2), .assign (.tmp 43), 30, none, [], 2⟩]
def c44 : TCode := (.seq (.reg r44_0) (.seq (.reg r44_1) (.seq (.reg r44_2) (.seq (.seq (.reg r44_3) (.cond (.tmp 22) (.seq (.reg r44_4) .ret) .skip)) (.seq (.reg r44_5) (.seq (.seq (.reg r44_6) (.cond (.tmp 40) (.seq (.reg r44_7) .ret) .skip)) (.seq (.reg r44_8) .ret)))))))
def f44 : TFun := ⟨c44, 44, [.tmp 2]⟩
def r46_0 : List TOper := [⟨(some 3), .box 52 (.tmp 0), 0, none, [], 0⟩,
  ⟨(some 4), .box 3 (.tmp 1), 0, none, [], 1⟩,
  ⟨(some 5), .box 3 (.tmp 2), 0, none, [], 2⟩,
  ⟨(some 6), .alloc 52, 0, none, [], 3⟩,
  ⟨(some 7), .assign (.const (.int .i64 0)), 30, none, [], 4⟩]
def r46_1 : List TOper := [⟨(some 10), .load 52 (.tmp 3), 52, none, [], 0⟩,
  ⟨(some 12), .load 3 (.tmp 4), 3, none, [], 2⟩,
  ⟨(some 14), .load 3 (.tmp 5), 3, none, [], 4⟩,
  ⟨(some 11), .call ⟨.value (.func 44), #[(.tmp 10)], #[52]⟩, 30, none, [(.tmp 5), (.tmp 4)], 1⟩,
  ⟨(some 13), .call ⟨.value (.func 90), #[(.tmp 12), (.const (.int .i64 (-1000))), (.const (.int .i64 1000))], #[3, 3, 3]⟩, 30, none, [(.tmp 5)], 3⟩,
  ⟨(some 15), .call ⟨.value (.func 90), #[(.tmp 14), (.const (.int .i64 1)), (.const (.int .i64 1000))], #[3, 3, 3]⟩, 30, none, [], 5⟩,
  ⟨(some 16), .buildSlice 195 3 #[(0, (.tmp 11)), (1, (.tmp 13)), (2, (.tmp 15))], 195, none, [], 6⟩,
  ⟨(some 17), .call ⟨.value (.func 89), #[(.tmp 16)], #[195]⟩, 30, none, [], 7⟩,
  ⟨(some 8), .assign (.tmp 17), 30, none, [], 8⟩]
def r46_2 : List TOper := [⟨(some 18), .move (.tmp 8), 30, none, [], 0⟩,
  ⟨(some 19), .binOp .neq 30 (.tmp 18) (.const (.int .i64 0)) 30, 4, none, [], 1⟩]
def r46_3 : List TOper := [⟨(some 20), .build 52 #[], 52, none, [], 0⟩,
  ⟨(some 21), .move (.tmp 8), 30, none, [], 1⟩,
  ⟨none, .store 52 (.tmp 6) (.tmp 20), 0, none, [], 2⟩,
  ⟨(some 7), .assign (.tmp 21), 30, none, [], 3⟩]
def r46_4 : List TOper := [⟨(some 22), .load 52 (.tmp 3), 52, none, [], 0⟩,
  ⟨(some 23), .call ⟨.value (.func 103), #[(.tmp 22)], #[52]⟩, 164, none, [], 1⟩,
  ⟨(some 24), .makeFunc (.func 120) #[] #[(.tmp 4), (.tmp 5)], 181, none, [], 2⟩,
  ⟨(some 25), .call ⟨.value (.func 119), #[(.tmp 23), (.tmp 24)], #[164, 181]⟩, 164, none, [], 3⟩,
  ⟨(some 9), .assign (.tmp 25), 164, none, [], 4⟩]
def r46_5 : List TOper := [⟨(some 26), .move (.tmp 9), 164, none, [], 0⟩,
  ⟨(some 27), .call ⟨.value (.func 122), #[(.tmp 26)], #[164]⟩, 4, none, [], 1⟩,
  ⟨(some 28), .unOp .not 4 (.tmp 27), 4, none, [], 2⟩]
def r46_6 : List TOper := [⟨(some 29), .build 52 #[], 52, none, [], 0⟩,
  ⟨none, .store 52 (.tmp 6) (.tmp 29), 0, none, [], 1⟩,
  ⟨(some 7), .assign (.const (.int .i64 4)), 30, none, [], 2⟩]
def r46_7 : List TOper := [⟨(some 30), .fieldAddr 52 (.tmp 3) 0, 0, none, [], 0⟩,
  ⟨(some 31), .load 9 (.tmp 30), 9, none, [], 1⟩,
  ⟨(some 32), .fieldAddr 52 (.tmp 3) 1, 0, none, [], 2⟩,
  ⟨(some 33), .load 3 (.tmp 32), 3, none, [], 3⟩,
  ⟨(some 34), .move (.tmp 9), 164, none, [], 4⟩,
  ⟨(some 35), .call ⟨.value (.func 107), #[(.tmp 31), (.tmp 33), (.tmp 34)], #[9, 3, 164]⟩, 52, none, [], 5⟩,
  ⟨none, .store 52 (.tmp 6) (.tmp 35), 0, none, [], 6⟩,
  ⟨(some 7), .assign (.const (.int .i64 0)), 30, none, [], 7⟩]
def c46 : TCode := (.seq (.reg r46_0) (.seq (.reg r46_1) (.seq (.seq (.reg r46_2) (.cond (.tmp 19) (.seq (.reg r46_3) .ret) .skip)) (.seq (.reg r46_4) (.seq (.seq (.reg r46_5) (.cond (.tmp 28) (.seq (.reg r46_6) .ret) .skip)) (.seq (.reg r46_7) .ret))))))
def f46 : TFun := ⟨c46, 36, [.cell 6 52, .tmp 7]⟩
def r47_0 : List TOper := [⟨(some 2), .box 52 (.tmp 0), 0, none, [], 0⟩,
  ⟨(some 4), .alloc 52, 0, none, [], 1⟩,
  ⟨(some 5), .assign (.const (.int .i64 0)), 30, none, [], 2⟩]
def r47_1 : List TOper := [⟨(some 10), .load 52 (.tmp 2), 52, none, [], 0⟩,
  ⟨(some 11), .call ⟨.value (.func 44), #[(.tmp 10)], #[52]⟩, 30, none, [], 1⟩,
  ⟨(some 12), .move (.tmp 1), 3, none, [], 2⟩,
  ⟨(some 13), .call ⟨.value (.func 90), #[(.tmp 12), (.const (.int .i64 1)), (.const (.int .i64 64))], #[3, 3, 3]⟩, 30, none, [], 3⟩,
  ⟨(some 14), .buildSlice 195 2 #[(0, (.tmp 11)), (1, (.tmp 13))], 195, none, [], 4⟩,
  ⟨(some 15), .call ⟨.value (.func 89), #[(.tmp 14)], #[195]⟩, 30, none, [], 5⟩,
  ⟨(some 6), .assign (.tmp 15), 30, none, [], 6⟩]
def r47_2 : List TOper := [⟨(some 16), .move (.tmp 6), 30, none, [], 0⟩,
  ⟨(some 17), .binOp .neq 30 (.tmp 16) (.const (.int .i64 0)) 30, 4, none, [], 1⟩]
def r47_3 : List TOper := [⟨(some 18), .build 52 #[], 52, none, [], 0⟩,
  ⟨(some 19), .move (.tmp 6), 30, none, [], 1⟩,
  ⟨none, .store 52 (.tmp 4) (.tmp 18), 0, none, [], 2⟩,
  ⟨(some 5), .assign (.tmp 19), 30, none, [], 3⟩]
def r47_4 : List TOper := [⟨(some 20), .fieldAddr 52 (.tmp 2) 1, 0, none, [], 0⟩,
  ⟨(some 21), .load 3 (.tmp 20), 3, none, [], 1⟩,
  ⟨(some 22), .move (.tmp 1), 3, none, [], 2⟩,
  ⟨(some 23), .binOp .rem 3 (.tmp 21) (.tmp 22) 3, 3, none, [], 3⟩,
  ⟨(some 24), .binOp .neq 3 (.tmp 23) (.const (.int .i64 0)) 3, 4, none, [], 4⟩]
def r47_5 : List TOper := [⟨(some 25), .build 52 #[], 52, none, [], 0⟩,
  ⟨none, .store 52 (.tmp 4) (.tmp 25), 0, none, [], 1⟩,
  ⟨(some 5), .assign (.const (.int .i64 21)), 30, none, [], 2⟩]
def r47_6 : List TOper := [⟨(some 7), .assign (.const (.slice none 0 0)), 164, none, [], 0⟩]
def r47_7 : List TOper := [⟨(some 26), .load 52 (.tmp 2), 52, none, [], 0⟩,
  ⟨(some 27), .call ⟨.value (.func 103), #[(.tmp 26)], #[52]⟩, 164, none, [], 1⟩,
  ⟨(some 28), .call ⟨.builtin .len, #[(.tmp 27)], #[164]⟩, 3, none, [], 2⟩,
  ⟨(some 29), .move (.const (.int .i64 0)), 3, none, [], 3⟩]
def r47_8 : List TOper := [⟨(some 30), .binOp .lss 3 (.tmp 29) (.tmp 28) 3, 0, none, [], 0⟩]
def r47_9 : List TOper := [⟨(some 31), .move (.tmp 29), 3, none, [], 0⟩,
  ⟨(some 32), .indexAddr 164 (.tmp 27) (.tmp 29), 0, none, [], 1⟩,
  ⟨(some 33), .load 163 (.tmp 32), 163, none, [], 2⟩,
  ⟨(some 9), .alloc 163, 0, none, [], 3⟩,
  ⟨(some 8), .assign (.tmp 31), 3, none, [], 4⟩,
  ⟨none, .store 163 (.tmp 9) (.tmp 33), 0, none, [], 5⟩]
def r47_10 : List TOper := [⟨(some 34), .move (.tmp 8), 3, none, [], 0⟩,
  ⟨(some 35), .move (.tmp 1), 3, none, [], 1⟩,
  ⟨(some 36), .binOp .rem 3 (.tmp 34) (.tmp 35) 3, 3, none, [], 2⟩,
  ⟨(some 37), .binOp .eql 3 (.tmp 36) (.const (.int .i64 0)) 3, 4, none, [], 3⟩]
def r47_11 : List TOper := [⟨(some 38), .move (.tmp 7), 164, none, [], 0⟩,
  ⟨(some 39), .load 163 (.tmp 9), 163, none, [], 1⟩,
  ⟨(some 40), .buildSlice 164 1 #[(0, (.tmp 39))], 164, none, [], 2⟩,
  ⟨(some 41), .call ⟨.builtin .append, #[(.tmp 38), (.tmp 40)], #[164, 164]⟩, 164, none, [], 3⟩,
  ⟨(some 7), .assign (.tmp 41), 164, none, [], 4⟩]
def r47_12 : List TOper := [⟨(some 42), .binOp .add 3 (.tmp 29) (.const (.int .i64 1)) 3, 3, none, [], 0⟩,
  ⟨(some 29), .move (.tmp 42), 3, none, [], 1⟩]
def r47_13 : List TOper := [⟨(some 43), .fieldAddr 52 (.tmp 2) 0, 0, none, [], 0⟩,
  ⟨(some 44), .load 9 (.tmp 43), 9, none, [], 1⟩,
  ⟨(some 45), .fieldAddr 52 (.tmp 2) 1, 0, none, [], 2⟩,
  ⟨(some 46), .load 3 (.tmp 45), 3, none, [], 3⟩,
  ⟨(some 47), .move (.tmp 1), 3, none, [], 4⟩,
  ⟨(some 48), .binOp .quo 3 (.tmp 46) (.tmp 47) 3, 3, none, [], 5⟩,
  ⟨(some 49), .move (.tmp 7), 164, none, [], 6⟩,
  ⟨(some 50), .call ⟨.value (.func 107), #[(.tmp 44), (.tmp 48), (.tmp 49)], #[9, 3, 164]⟩, 52, none, [], 7⟩,
  ⟨none, .store 52 (.tmp 4) (.tmp 50), 0, none, [], 8⟩,
  ⟨(some 5), .assign (.const (.int .i64 0)), 30, none, [], 9⟩]
def c47 : TCode := (.seq (.reg r47_0) (.seq (.seq (.reg r47_1) (.seq (.reg r47_2) (.cond (.tmp 17) (.seq (.reg r47_3) .ret) .skip))) (.seq (.seq (.reg r47_4) (.cond (.tmp 24) (.seq (.reg r47_5) .ret) .skip)) (.seq (.reg r47_6) (.seq (.seq (.reg r47_7) (.block 0 (.loop (.seq (.reg r47_8) (.seq (.cond (.tmp 30) .skip (.exit 0)) (.seq (.block 1 (.seq (.reg r47_9) (.seq (.reg r47_10) (.cond (.tmp 37) (.reg r47_11) .skip)))) (.reg r47_12))))))) (.seq (.reg r47_13) .ret))))))
def f47 : TFun := ⟨c47, 51, [.cell 4 52, .tmp 5]⟩
def r48_0 : List TOper := [⟨(some 2), .box 52 (.tmp 0), 0, none, [], 0⟩,
  ⟨(some 4), .alloc 52, 0, none, [], 1⟩,
  ⟨(some 5), .assign (.const (.int .i64 0)), 30, none, [], 2⟩]
def r48_1 : List TOper := [⟨(some 11), .load 52 (.tmp 2), 52, none, [], 0⟩,
  ⟨(some 12), .call ⟨.value (.func 44), #[(.tmp 11)], #[52]⟩, 30, none, [], 1⟩,
  ⟨(some 13), .move (.tmp 1), 3, none, [], 2⟩,
  ⟨(some 14), .call ⟨.value (.func 90), #[(.tmp 13), (.const (.int .i64 0)), (.const (.int .i64 4096))], #[3, 3, 3]⟩, 30, none, [], 3⟩,
  ⟨(some 15), .buildSlice 195 2 #[(0, (.tmp 12)), (1, (.tmp 14))], 195, none, [], 4⟩,
  ⟨(some 16), .call ⟨.value (.func 89), #[(.tmp 15)], #[195]⟩, 30, none, [], 5⟩,
  ⟨(some 6), .assign (.tmp 16), 30, none, [], 6⟩]
def r48_2 : List TOper := [⟨(some 17), .move (.tmp 6), 30, none, [], 0⟩,
  ⟨(some 18), .binOp .neq 30 (.tmp 17) (.const (.int .i64 0)) 30, 4, none, [], 1⟩]
def r48_3 : List TOper := [⟨(some 19), .build 52 #[], 52, none, [], 0⟩,
  ⟨(some 20), .move (.tmp 6), 30, none, [], 1⟩,
  ⟨none, .store 52 (.tmp 4) (.tmp 19), 0, none, [], 2⟩,
  ⟨(some 5), .assign (.tmp 20), 30, none, [], 3⟩]
def r48_4 : List TOper := [⟨(some 21), .load 52 (.tmp 2), 52, none, [], 0⟩,
  ⟨(some 22), .call ⟨.value (.func 103), #[(.tmp 21)], #[52]⟩, 164, none, [], 1⟩,
  ⟨(some 7), .assign (.tmp 22), 164, none, [], 2⟩]
def r48_5 : List TOper := [⟨(some 23), .move (.tmp 7), 164, none, [], 0⟩,
  ⟨(some 24), .call ⟨.builtin .len, #[(.tmp 23)], #[164]⟩, 3, none, [], 1⟩,
  ⟨(some 25), .makeSlice 164 (.tmp 24) (.tmp 24), 164, none, [], 2⟩,
  ⟨(some 8), .assign (.tmp 25), 164, none, [], 3⟩]
def r48_6 : List TOper := [⟨(some 26), .move (.tmp 8), 164, none, [], 0⟩,
  ⟨(some 27), .move (.tmp 7), 164, none, [], 1⟩,
  ⟨(some 28), .call ⟨.builtin .copy, #[(.tmp 26), (.tmp 27)], #[164, 164]⟩, 3, none, [], 2⟩]
def r48_7 : List TOper := [⟨(some 29), .fieldAddr 52 (.tmp 2) 3, 0, none, [], 0⟩,
  ⟨(some 30), .load 44 (.tmp 29), 44, none, [], 1⟩,
  ⟨(some 31), .call ⟨.builtin .len, #[(.tmp 30)], #[44]⟩, 3, none, [], 2⟩,
  ⟨(some 32), .move (.const (.int .i64 0)), 3, none, [], 3⟩]
def r48_8 : List TOper := [⟨(some 33), .binOp .lss 3 (.tmp 32) (.tmp 31) 3, 0, none, [], 0⟩]
def r48_9 : List TOper := [⟨(some 34), .indexAddr 44 (.tmp 30) (.tmp 32), 0, none, [], 0⟩,
  ⟨(some 35), .load 48 (.tmp 34), 48, none, [], 1⟩,
  ⟨(some 10), .alloc 48, 0, none, [], 2⟩,
  ⟨none, .store 48 (.tmp 10) (.tmp 35), 0, none, [], 3⟩]
def r48_10 : List TOper := [⟨(some 36), .fieldAddr 48 (.tmp 10) 1, 0, none, [], 0⟩,
  ⟨(some 37), .load 3 (.tmp 36), 3, none, [], 1⟩,
  ⟨(some 38), .fieldAddr 48 (.tmp 10) 0, 0, none, [], 2⟩,
  ⟨(some 39), .load 3 (.tmp 38), 3, none, [], 3⟩,
  ⟨(some 40), .binOp .sub 3 (.tmp 37) (.tmp 39) 3, 3, none, [], 4⟩,
  ⟨(some 41), .move (.tmp 1), 3, none, [], 5⟩,
  ⟨(some 42), .binOp .leq 3 (.tmp 40) (.tmp 41) 3, 4, none, [], 6⟩,
  ⟨(some 43), .move (.tmp 42), 4, none, [], 7⟩,
  ⟨(some 44), .fieldAddr 48 (.tmp 10) 0, 0, (some (43, true)), [], 8⟩,
  ⟨(some 45), .load 3 (.tmp 44), 3, (some (43, true)), [], 9⟩,
  ⟨(some 46), .binOp .gtr 3 (.tmp 45) (.const (.int .i64 0)) 3, 4, (some (43, true)), [], 10⟩,
  ⟨(some 47), .pick (.tmp 43) (.tmp 46) (.const (.bool false)), 4, none, [], 11⟩,
  ⟨(some 48), .move (.tmp 47), 4, none, [], 12⟩,
  ⟨(some 49), .fieldAddr 48 (.tmp 10) 1, 0, (some (48, true)), [], 13⟩,
  ⟨(some 50), .load 3 (.tmp 49), 3, (some (48, true)), [], 14⟩,
  ⟨(some 51), .move (.tmp 7), 164, (some (48, true)), [], 15⟩,
  ⟨(some 52), .call ⟨.builtin .len, #[(.tmp 51)], #[164]⟩, 3, (some (48, true)), [], 16⟩,
  ⟨(some 53), .binOp .lss 3 (.tmp 50) (.tmp 52) 3, 4, (some (48, true)), [], 17⟩,
  ⟨(some 54), .pick (.tmp 48) (.tmp 53) (.const (.bool false)), 4, none, [], 18⟩]
def r48_11 : List TOper := [⟨(some 55), .move (.tmp 8), 164, none, [], 0⟩,
  ⟨(some 56), .fieldAddr 48 (.tmp 10) 0, 0, none, [], 1⟩,
  ⟨(some 57), .load 3 (.tmp 56), 3, none, [], 2⟩,
  ⟨(some 58), .fieldAddr 48 (.tmp 10) 1, 0, none, [], 3⟩,
  ⟨(some 59), .load 3 (.tmp 58), 3, none, [], 4⟩,
  ⟨(some 60), .slice 164 (.tmp 55) (some (.tmp 57)) (some (.tmp 59)) none, 164, none, [], 5⟩,
  ⟨(some 61), .move (.tmp 7), 164, none, [], 6⟩,
  ⟨(some 62), .fieldAddr 48 (.tmp 10) 0, 0, none, [], 7⟩,
  ⟨(some 63), .load 3 (.tmp 62), 3, none, [], 8⟩,
  ⟨(some 64), .binOp .sub 3 (.tmp 63) (.const (.int .i64 1)) 3, 3, none, [], 9⟩,
  ⟨(some 65), .indexAddr 164 (.tmp 61) (.tmp 64), 0, none, [], 10⟩,
  ⟨(some 66), .fieldAddr 163 (.tmp 65) 0, 0, none, [], 11⟩,
  ⟨(some 67), .load 3 (.tmp 66), 3, none, [], 12⟩,
  ⟨(some 68), .move (.tmp 7), 164, none, [], 13⟩,
  ⟨(some 69), .fieldAddr 48 (.tmp 10) 1, 0, none, [], 14⟩,
  ⟨(some 70), .load 3 (.tmp 69), 3, none, [], 15⟩,
  ⟨(some 71), .indexAddr 164 (.tmp 68) (.tmp 70), 0, none, [], 16⟩,
  ⟨(some 72), .fieldAddr 163 (.tmp 71) 0, 0, none, [], 17⟩,
  ⟨(some 73), .load 3 (.tmp 72), 3, none, [], 18⟩,
  ⟨(some 74), .call ⟨.value (.func 123), #[(.tmp 60), (.tmp 67), (.tmp 73)], #[164, 3, 3]⟩, 0, none, [], 19⟩]
def r48_12 : List TOper := [⟨(some 75), .binOp .add 3 (.tmp 32) (.const (.int .i64 1)) 3, 3, none, [], 0⟩,
  ⟨(some 32), .move (.tmp 75), 3, none, [], 1⟩]
def r48_13 : List TOper := [⟨(some 76), .fieldAddr 52 (.tmp 2) 0, 0, none, [], 0⟩,
  ⟨(some 77), .load 9 (.tmp 76), 9, none, [], 1⟩,
  ⟨(some 78), .fieldAddr 52 (.tmp 2) 1, 0, none, [], 2⟩,
  ⟨(some 79), .load 3 (.tmp 78), 3, none, [], 3⟩,
  ⟨(some 80), .move (.tmp 8), 164, none, [], 4⟩,
  ⟨(some 81), .call ⟨.value (.func 107), #[(.tmp 77), (.tmp 79), (.tmp 80)], #[9, 3, 164]⟩, 52, none, [], 5⟩,
  ⟨none, .store 52 (.tmp 4) (.tmp 81), 0, none, [], 6⟩,
  ⟨(some 5), .assign (.const (.int .i64 0)), 30, none, [], 7⟩]
def c48 : TCode := (.seq (.reg r48_0) (.seq (.seq (.reg r48_1) (.seq (.reg r48_2) (.cond (.tmp 18) (.seq (.reg r48_3) .ret) .skip))) (.seq (.reg r48_4) (.seq (.reg r48_5) (.seq (.reg r48_6) (.seq (.seq (.reg r48_7) (.block 0 (.loop (.seq (.reg r48_8) (.seq (.cond (.tmp 33) .skip (.exit 0)) (.seq (.block 1 (.seq (.reg r48_9) (.seq (.reg r48_10) (.cond (.tmp 54) (.reg r48_11) .skip)))) (.reg r48_12))))))) (.seq (.reg r48_13) .ret)))))))
def f48 : TFun := ⟨c48, 82, [.cell 4 52, .tmp 5]⟩
def r52_0 : List TOper := [⟨(some 2), .box 52 (.tmp 0), 0, none, [], 0⟩,
  ⟨(some 3), .box 52 (.tmp 1), 0, none, [], 1⟩,
  ⟨(some 4), .alloc 52, 0, none, [], 2⟩,
  ⟨(some 5), .assign (.const (.int .i64 0)), 30, none, [], 3⟩]
def r52_1 : List TOper := [⟨(some 9), .load 52 (.tmp 2), 52, none, [], 0⟩,
  ⟨(some 11), .load 52 (.tmp 3), 52, none, [], 2⟩,
  ⟨(some 10), .call ⟨.value (.func 44), #[(.tmp 9)], #[52]⟩, 30, none, [(.tmp 3)], 1⟩,
  ⟨(some 12), .call ⟨.value (.func 44), #[(.tmp 11)], #[52]⟩, 30, none, [], 3⟩,
  ⟨(some 13), .buildSlice 195 2 #[(0, (.tmp 10)), (1, (.tmp 12))], 195, none, [], 4⟩,
  ⟨(some 14), .call ⟨.value (.func 89), #[(.tmp 13)], #[195]⟩, 30, none, [], 5⟩,
  ⟨(some 6), .assign (.tmp 14), 30, none, [], 6⟩]
def r52_2 : List TOper := [⟨(some 15), .move (.tmp 6), 30, none, [], 0⟩,
  ⟨(some 16), .binOp .neq 30 (.tmp 15) (.const (.int .i64 0)) 30, 4, none, [], 1⟩]
def r52_3 : List TOper := [⟨(some 17), .build 52 #[], 52, none, [], 0⟩,
  ⟨(some 18), .move (.tmp 6), 30, none, [], 1⟩,
  ⟨none, .store 52 (.tmp 4) (.tmp 17), 0, none, [], 2⟩,
  ⟨(some 5), .assign (.tmp 18), 30, none, [], 3⟩]
def r52_4 : List TOper := [⟨(some 19), .fieldAddr 52 (.tmp 3) 1, 0, none, [], 0⟩,
  ⟨(some 20), .load 3 (.tmp 19), 3, none, [], 1⟩,
  ⟨(some 21), .load 52 (.tmp 2), 52, none, [], 2⟩,
  ⟨(some 25), .load 52 (.tmp 3), 52, none, [], 6⟩,
  ⟨(some 27), .fieldAddr 52 (.tmp 2) 1, 0, none, [], 8⟩,
  ⟨(some 28), .load 3 (.tmp 27), 3, none, [], 9⟩,
  ⟨(some 22), .call ⟨.value (.func 102), #[(.tmp 21)], #[52]⟩, 3, none, [(.tmp 27), (.tmp 3), (.tmp 19)], 3⟩,
  ⟨(some 23), .binOp .lss 3 (.tmp 20) (.tmp 22) 3, 4, none, [], 4⟩,
  ⟨(some 24), .call ⟨.value (.func 95), #[(.tmp 23), (.const (.int .i64 11))], #[4, 30]⟩, 30, none, [(.tmp 27), (.tmp 3)], 5⟩,
  ⟨(some 26), .call ⟨.value (.func 102), #[(.tmp 25)], #[52]⟩, 3, none, [(.tmp 27)], 7⟩,
  ⟨(some 29), .binOp .sub 3 (.tmp 26) (.tmp 28) 3, 3, none, [], 10⟩,
  ⟨(some 30), .binOp .gtr 3 (.tmp 29) (.const (.int .i64 4096)) 3, 4, none, [], 11⟩,
  ⟨(some 31), .call ⟨.value (.func 95), #[(.tmp 30), (.const (.int .i64 5))], #[4, 30]⟩, 30, none, [], 12⟩,
  ⟨(some 32), .buildSlice 195 2 #[(0, (.tmp 24)), (1, (.tmp 31))], 195, none, [], 13⟩,
  ⟨(some 33), .call ⟨.value (.func 89), #[(.tmp 32)], #[195]⟩, 30, none, [], 14⟩,
  ⟨(some 7), .assign (.tmp 33), 30, none, [], 15⟩]
def r52_5 : List TOper := [⟨(some 34), .move (.tmp 7), 30, none, [], 0⟩,
  ⟨(some 35), .binOp .neq 30 (.tmp 34) (.const (.int .i64 0)) 30, 4, none, [], 1⟩]
def r52_6 : List TOper := [⟨(some 36), .build 52 #[], 52, none, [], 0⟩,
  ⟨(some 37), .move (.tmp 7), 30, none, [], 1⟩,
  ⟨none, .store 52 (.tmp 4) (.tmp 36), 0, none, [], 2⟩,
  ⟨(some 5), .assign (.tmp 37), 30, none, [], 3⟩]
def r52_7 : List TOper := [⟨(some 38), .fieldAddr 52 (.tmp 3) 1, 0, none, [], 0⟩,
  ⟨(some 39), .load 3 (.tmp 38), 3, none, [], 1⟩,
  ⟨(some 40), .load 52 (.tmp 2), 52, none, [], 2⟩,
  ⟨(some 41), .call ⟨.value (.func 102), #[(.tmp 40)], #[52]⟩, 3, none, [(.tmp 38)], 3⟩,
  ⟨(some 42), .binOp .sub 3 (.tmp 39) (.tmp 41) 3, 3, none, [], 4⟩,
  ⟨(some 43), .makeSlice 164 (.tmp 42) (.tmp 42), 164, none, [], 5⟩,
  ⟨(some 8), .assign (.tmp 43), 164, none, [], 6⟩]
def r52_8 : List TOper := [⟨(some 44), .fieldAddr 52 (.tmp 2) 0, 0, none, [], 0⟩,
  ⟨(some 45), .load 9 (.tmp 44), 9, none, [], 1⟩,
  ⟨(some 46), .fieldAddr 52 (.tmp 2) 1, 0, none, [], 2⟩,
  ⟨(some 47), .load 3 (.tmp 46), 3, none, [], 3⟩,
  ⟨(some 48), .load 52 (.tmp 2), 52, none, [], 4⟩,
  ⟨(some 50), .move (.tmp 8), 164, none, [], 6⟩,
  ⟨(some 51), .load 52 (.tmp 3), 52, none, [], 7⟩,
  ⟨(some 49), .call ⟨.value (.func 103), #[(.tmp 48)], #[52]⟩, 164, none, [(.tmp 3), (.tmp 46), (.tmp 44)], 5⟩,
  ⟨(some 52), .call ⟨.value (.func 103), #[(.tmp 51)], #[52]⟩, 164, none, [(.tmp 46), (.tmp 44)], 8⟩,
  ⟨(some 53), .buildSlice 253 3 #[(0, (.tmp 49)), (1, (.tmp 50)), (2, (.tmp 52))], 253, none, [], 9⟩,
  ⟨(some 54), .call ⟨.value (.func 126), #[(.tmp 53)], #[253]⟩, 164, none, [(.tmp 46), (.tmp 44)], 10⟩,
  ⟨(some 55), .call ⟨.value (.func 107), #[(.tmp 45), (.tmp 47), (.tmp 54)], #[9, 3, 164]⟩, 52, none, [], 11⟩,
  ⟨none, .store 52 (.tmp 4) (.tmp 55), 0, none, [], 12⟩,
  ⟨(some 5), .assign (.const (.int .i64 0)), 30, none, [], 13⟩]
def c52 : TCode := (.seq (.reg r52_0) (.seq (.seq (.reg r52_1) (.seq (.reg r52_2) (.cond (.tmp 16) (.seq (.reg r52_3) .ret) .skip))) (.seq (.reg r52_4) (.seq (.seq (.reg r52_5) (.cond (.tmp 35) (.seq (.reg r52_6) .ret) .skip)) (.seq (.reg r52_7) (.seq (.reg r52_8) .ret))))))
def f52 : TFun := ⟨c52, 56, [.cell 4 52, .tmp 5]⟩
def r56_0 : List TOper := [⟨(some 2), .box 86 (.tmp 0), 0, none, [], 0⟩,
  ⟨(some 4), .alloc 52, 0, none, [], 1⟩,
  ⟨(some 5), .alloc 83, 0, none, [], 2⟩,
  ⟨(some 6), .assign (.const (.int .i64 0)), 30, none, [], 3⟩]
def r56_1 : List TOper := [⟨(some 14), .indexAddr 86 (.tmp 2) (.const (.int .i64 0)), 0, none, [], 0⟩,
  ⟨(some 15), .load 52 (.tmp 14), 52, none, [], 1⟩,
  ⟨(some 17), .indexAddr 86 (.tmp 2) (.const (.int .i64 1)), 0, none, [], 3⟩,
  ⟨(some 18), .load 52 (.tmp 17), 52, none, [], 4⟩,
  ⟨(some 20), .indexAddr 86 (.tmp 2) (.const (.int .i64 2)), 0, none, [], 6⟩,
  ⟨(some 21), .load 52 (.tmp 20), 52, none, [], 7⟩,
  ⟨(some 23), .indexAddr 86 (.tmp 2) (.const (.int .i64 0)), 0, none, [], 9⟩,
  ⟨(some 24), .load 52 (.tmp 23), 52, none, [], 10⟩,
  ⟨(some 25), .indexAddr 86 (.tmp 2) (.const (.int .i64 1)), 0, none, [], 11⟩,
  ⟨(some 26), .load 52 (.tmp 25), 52, none, [], 12⟩,
  ⟨(some 38), .move (.tmp 1), 25, none, [], 24⟩,
  ⟨(some 40), .move (.tmp 1), 25, none, [], 26⟩,
  ⟨(some 41), .binOp .lss 25 (.tmp 40) (.const (.float .f32 0)) 25, 4, none, [], 27⟩,
  ⟨(some 16), .call ⟨.value (.func 44), #[(.tmp 15)], #[52]⟩, 30, none, [(.tmp 25), (.tmp 23), (.tmp 20), (.tmp 17)], 2⟩,
  ⟨(some 19), .call ⟨.value (.func 44), #[(.tmp 18)], #[52]⟩, 30, none, [(.tmp 25), (.tmp 23), (.tmp 20)], 5⟩,
  ⟨(some 22), .call ⟨.value (.func 44), #[(.tmp 21)], #[52]⟩, 30, none, [(.tmp 25), (.tmp 23)], 8⟩,
  ⟨(some 27), .call ⟨.value (.func 127), #[(.tmp 24), (.tmp 26)], #[52, 52]⟩, 4, none, [], 13⟩,
  ⟨(some 28), .unOp .not 4 (.tmp 27), 4, none, [], 14⟩,
  ⟨(some 29), .move (.tmp 28), 4, none, [], 15⟩,
  ⟨(some 30), .indexAddr 86 (.tmp 2) (.const (.int .i64 0)), 0, (some (29, false)), [], 16⟩,
  ⟨(some 31), .load 52 (.tmp 30), 52, (some (29, false)), [], 17⟩,
  ⟨(some 32), .indexAddr 86 (.tmp 2) (.const (.int .i64 2)), 0, (some (29, false)), [], 18⟩,
  ⟨(some 33), .load 52 (.tmp 32), 52, (some (29, false)), [], 19⟩,
  ⟨(some 34), .call ⟨.value (.func 127), #[(.tmp 31), (.tmp 33)], #[52, 52]⟩, 4, (some (29, false)), [], 20⟩,
  ⟨(some 35), .unOp .not 4 (.tmp 34), 4, (some (29, false)), [], 21⟩,
  ⟨(some 36), .pick (.tmp 29) (.const (.bool true)) (.tmp 35), 4, none, [], 22⟩,
  ⟨(some 37), .call ⟨.value (.func 95), #[(.tmp 36), (.const (.int .i64 2))], #[4, 30]⟩, 30, none, [], 23⟩,
  ⟨(some 39), .call ⟨.value (.func 24), #[(.tmp 38)], #[25]⟩, 30, none, [], 25⟩,
  ⟨(some 42), .call ⟨.value (.func 95), #[(.tmp 41), (.const (.int .i64 3))], #[4, 30]⟩, 30, none, [], 28⟩,
  ⟨(some 43), .buildSlice 195 6 #[(0, (.tmp 16)), (1, (.tmp 19)), (2, (.tmp 22)), (3, (.tmp 37)), (4, (.tmp 39)), (5, (.tmp 42))], 195, none, [], 29⟩,
  ⟨(some 44), .call ⟨.value (.func 89), #[(.tmp 43)], #[195]⟩, 30, none, [], 30⟩,
  ⟨(some 7), .assign (.tmp 44), 30, none, [], 31⟩]
def r56_2 : List TOper := [⟨(some 45), .move (.tmp 7), 30, none, [], 0⟩,
  ⟨(some 46), .binOp .neq 30 (.tmp 45) (.const (.int .i64 0)) 30, 4, none, [], 1⟩]
def r56_3 : List TOper := [⟨(some 47), .build 52 #[], 52, none, [], 0⟩,
  ⟨(some 48), .build 83 #[], 83, none, [], 1⟩,
  ⟨(some 49), .move (.tmp 7), 30, none, [], 2⟩,
  ⟨none, .store 52 (.tmp 4) (.tmp 47), 0, none, [], 3⟩,
  ⟨none, .store 83 (.tmp 5) (.tmp 48), 0, none, [], 4⟩,
  ⟨(some 6), .assign (.tmp 49), 30, none, [], 5⟩]
def r56_4 : List TOper := [⟨(some 50), .move (.tmp 1), 25, none, [], 0⟩,
  ⟨(some 51), .call ⟨.value (.func 129), #[(.tmp 50)], #[25]⟩, 3, none, [], 1⟩,
  ⟨(some 8), .assign (.tmp 51), 3, none, [], 2⟩]
def r56_5 : List TOper := [⟨(some 52), .indexAddr 86 (.tmp 2) (.const (.int .i64 0)), 0, none, [], 0⟩,
  ⟨(some 53), .load 52 (.tmp 52), 52, none, [], 1⟩,
  ⟨(some 55), .indexAddr 86 (.tmp 2) (.const (.int .i64 1)), 0, none, [], 3⟩,
  ⟨(some 56), .load 52 (.tmp 55), 52, none, [], 4⟩,
  ⟨(some 58), .indexAddr 86 (.tmp 2) (.const (.int .i64 2)), 0, none, [], 6⟩,
  ⟨(some 59), .load 52 (.tmp 58), 52, none, [], 7⟩,
  ⟨(some 9), .alloc 187, 0, none, [], 10⟩,
  ⟨(some 54), .call ⟨.value (.func 103), #[(.tmp 53)], #[52]⟩, 164, none, [(.tmp 9), (.tmp 58), (.tmp 55)], 2⟩,
  ⟨(some 57), .call ⟨.value (.func 103), #[(.tmp 56)], #[52]⟩, 164, none, [(.tmp 9), (.tmp 58)], 5⟩,
  ⟨(some 60), .call ⟨.value (.func 103), #[(.tmp 59)], #[52]⟩, 164, none, [(.tmp 9)], 8⟩,
  ⟨(some 61), .build 187 #[(0, (.tmp 54)), (1, (.tmp 57)), (2, (.tmp 60))], 187, none, [], 9⟩,
  ⟨none, .store 187 (.tmp 9) (.tmp 61), 0, none, [], 11⟩]
def r56_6 : List TOper := [⟨(some 62), .indexAddr 187 (.tmp 9) (.const (.int .i64 0)), 0, none, [], 0⟩,
  ⟨(some 63), .load 164 (.tmp 62), 164, none, [], 1⟩,
  ⟨(some 64), .call ⟨.builtin .len, #[(.tmp 63)], #[164]⟩, 3, none, [], 2⟩,
  ⟨(some 65), .makeSlice 164 (.tmp 64) (.tmp 64), 164, none, [], 3⟩,
  ⟨(some 10), .assign (.tmp 65), 164, none, [], 4⟩]
def r56_7 : List TOper := [⟨(some 11), .alloc 83, 0, none, [], 0⟩]
def r56_8 : List TOper := [⟨(some 66), .move (.tmp 10), 164, none, [], 0⟩,
  ⟨(some 67), .call ⟨.builtin .len, #[(.tmp 66)], #[164]⟩, 3, none, [], 1⟩,
  ⟨(some 68), .move (.const (.int .i64 0)), 3, none, [], 2⟩]
def r56_9 : List TOper := [⟨(some 69), .binOp .lss 3 (.tmp 68) (.tmp 67) 3, 0, none, [], 0⟩]
def r56_10 : List TOper := [⟨(some 70), .move (.tmp 68), 3, none, [], 0⟩,
  ⟨(some 12), .assign (.tmp 70), 3, none, [], 1⟩]
def r56_11 : List TOper := [⟨(some 71), .move (.tmp 10), 164, none, [], 0⟩,
  ⟨(some 72), .move (.tmp 12), 3, none, [], 1⟩,
  ⟨(some 73), .move (.tmp 8), 3, none, [], 2⟩,
  ⟨(some 74), .indexAddr 187 (.tmp 9) (.const (.int .i64 0)), 0, none, [], 3⟩,
  ⟨(some 75), .load 164 (.tmp 74), 164, none, [], 4⟩,
  ⟨(some 76), .move (.tmp 12), 3, none, [], 5⟩,
  ⟨(some 77), .indexAddr 164 (.tmp 75) (.tmp 76), 0, none, [], 6⟩,
  ⟨(some 78), .load 163 (.tmp 77), 163, none, [], 7⟩,
  ⟨(some 79), .indexAddr 187 (.tmp 9) (.const (.int .i64 1)), 0, none, [], 8⟩,
  ⟨(some 80), .load 164 (.tmp 79), 164, none, [], 9⟩,
  ⟨(some 81), .move (.tmp 12), 3, none, [], 10⟩,
  ⟨(some 82), .indexAddr 164 (.tmp 80) (.tmp 81), 0, none, [], 11⟩,
  ⟨(some 83), .load 163 (.tmp 82), 163, none, [], 12⟩,
  ⟨(some 84), .indexAddr 187 (.tmp 9) (.const (.int .i64 2)), 0, none, [], 13⟩,
  ⟨(some 85), .load 164 (.tmp 84), 164, none, [], 14⟩,
  ⟨(some 86), .move (.tmp 12), 3, none, [], 15⟩,
  ⟨(some 87), .indexAddr 164 (.tmp 85) (.tmp 86), 0, none, [], 16⟩,
  ⟨(some 88), .load 163 (.tmp 87), 163, none, [], 17⟩,
  ⟨(some 89), .buildSlice 164 3 #[(0, (.tmp 78)), (1, (.tmp 83)), (2, (.tmp 88))], 164, none, [], 18⟩,
  ⟨(some 90), .call ⟨.value (.func 130), #[(.tmp 73), (.tmp 89)], #[3, 164]⟩, 163, none, [], 19⟩,
  ⟨(some 91), .indexAddr 164 (.tmp 71) (.tmp 72), 0, none, [], 20⟩,
  ⟨none, .store 163 (.tmp 91) (.tmp 90), 0, none, [], 21⟩]
def r56_12 : List TOper := [⟨(some 92), .move (.const (.int .i64 0)), 3, none, [], 0⟩]
def r56_13 : List TOper := [⟨(some 93), .binOp .lss 3 (.tmp 92) (.const (.int .i64 3)) 3, 0, none, [], 0⟩]
def r56_14 : List TOper := [⟨(some 94), .move (.tmp 92), 3, none, [], 0⟩,
  ⟨(some 13), .assign (.tmp 94), 3, none, [], 1⟩]
def r56_15 : List TOper := [⟨(some 95), .move (.tmp 13), 3, none, [], 0⟩,
  ⟨(some 96), .indexAddr 187 (.tmp 9) (.tmp 95), 0, none, [], 1⟩,
  ⟨(some 97), .load 164 (.tmp 96), 164, none, [], 2⟩,
  ⟨(some 98), .move (.tmp 12), 3, none, [], 3⟩,
  ⟨(some 99), .indexAddr 164 (.tmp 97) (.tmp 98), 0, none, [], 4⟩,
  ⟨(some 100), .load 163 (.tmp 99), 163, none, [], 5⟩,
  ⟨(some 101), .move (.tmp 10), 164, none, [], 6⟩,
  ⟨(some 102), .move (.tmp 12), 3, none, [], 7⟩,
  ⟨(some 103), .indexAddr 164 (.tmp 101) (.tmp 102), 0, none, [], 8⟩,
  ⟨(some 104), .load 163 (.tmp 103), 163, none, [], 9⟩,
  ⟨(some 105), .move (.tmp 8), 3, none, [], 10⟩,
  ⟨(some 106), .call ⟨.value (.func 131), #[(.tmp 100), (.tmp 104), (.tmp 105)], #[163, 163, 3]⟩, 4, none, [], 11⟩]
def r56_16 : List TOper := [⟨(some 107), .move (.tmp 13), 3, none, [], 0⟩,
  ⟨(some 108), .indexAddr 83 (.tmp 11) (.tmp 107), 0, none, [], 1⟩,
  ⟨(some 109), .load 3 (.tmp 108), 3, none, [], 2⟩,
  ⟨(some 110), .binOp .add 3 (.tmp 109) (.const (.int .i64 1)) 3, 3, none, [], 3⟩,
  ⟨(some 111), .indexAddr 83 (.tmp 11) (.tmp 107), 0, none, [], 4⟩,
  ⟨none, .store 3 (.tmp 111) (.tmp 110), 0, none, [], 5⟩]
def r56_17 : List TOper := [⟨(some 112), .binOp .add 3 (.tmp 92) (.const (.int .i64 1)) 3, 3, none, [], 0⟩,
  ⟨(some 92), .move (.tmp 112), 3, none, [], 1⟩]
def r56_18 : List TOper := [⟨(some 113), .binOp .add 3 (.tmp 68) (.const (.int .i64 1)) 3, 3, none, [], 0⟩,
  ⟨(some 68), .move (.tmp 113), 3, none, [], 1⟩]
def r56_19 : List TOper := [⟨(some 114), .indexAddr 86 (.tmp 2) (.const (.int .i64 0)), 0, none, [], 0⟩,
  ⟨(some 115), .fieldAddr 52 (.tmp 114) 0, 0, none, [], 1⟩,
  ⟨(some 116), .load 9 (.tmp 115), 9, none, [], 2⟩,
  ⟨(some 117), .indexAddr 86 (.tmp 2) (.const (.int .i64 0)), 0, none, [], 3⟩,
  ⟨(some 118), .fieldAddr 52 (.tmp 117) 1, 0, none, [], 4⟩,
  ⟨(some 119), .load 3 (.tmp 118), 3, none, [], 5⟩,
  ⟨(some 120), .move (.tmp 10), 164, none, [], 6⟩,
  ⟨(some 122), .load 83 (.tmp 11), 83, none, [], 8⟩,
  ⟨(some 121), .call ⟨.value (.func 107), #[(.tmp 116), (.tmp 119), (.tmp 120)], #[9, 3, 164]⟩, 52, none, [(.tmp 11)], 7⟩,
  ⟨none, .store 52 (.tmp 4) (.tmp 121), 0, none, [(.tmp 11)], 9⟩,
  ⟨none, .store 83 (.tmp 5) (.tmp 122), 0, none, [], 10⟩,
  ⟨(some 6), .assign (.const (.int .i64 0)), 30, none, [], 11⟩]
def c56 : TCode := (.seq (.reg r56_0) (.seq (.reg r56_1) (.seq (.seq (.reg r56_2) (.cond (.tmp 46) (.seq (.reg r56_3) .ret) .skip)) (.seq (.reg r56_4) (.seq (.reg r56_5) (.seq (.reg r56_6) (.seq (.reg r56_7) (.seq (.seq (.reg r56_8) (.block 0 (.loop (.seq (.reg r56_9) (.seq (.cond (.tmp 69) .skip (.exit 0)) (.seq (.block 1 (.seq (.reg r56_10) (.seq (.reg r56_11) (.seq (.reg r56_12) (.block 2 (.loop (.seq (.reg r56_13) (.seq (.cond (.tmp 93) .skip (.exit 2)) (.seq (.block 3 (.seq (.reg r56_14) (.seq (.reg r56_15) (.cond (.tmp 106) (.reg r56_16) .skip)))) (.reg r56_17)))))))))) (.reg r56_18))))))) (.seq (.reg r56_19) .ret)))))))))
def f56 : TFun := ⟨c56, 123, [.cell 4 52, .cell 5 83, .tmp 6]⟩
def r61_0 : List TOper := [⟨(some 1), .box 101 (.tmp 0), 0, none, [], 0⟩,
  ⟨(some 2), .alloc 94, 0, none, [], 1⟩,
  ⟨(some 3), .assign (.const (.int .i64 0)), 30, none, [], 2⟩]
def r61_1 : List TOper := [⟨(some 5), .load 101 (.tmp 1), 101, none, [], 0⟩,
  ⟨(some 6), .call ⟨.value (.func 133), #[(.tmp 5)], #[101]⟩, 30, none, [], 1⟩,
  ⟨(some 4), .assign (.tmp 6), 30, none, [], 2⟩]
def r61_2 : List TOper := [⟨(some 7), .move (.tmp 4), 30, none, [], 0⟩,
  ⟨(some 8), .binOp .neq 30 (.tmp 7) (.const (.int .i64 0)) 30, 4, none, [], 1⟩]
def r61_3 : List TOper := [⟨(some 9), .build 94 #[], 94, none, [], 0⟩,
  ⟨(some 10), .move (.tmp 4), 30, none, [], 1⟩,
  ⟨none, .store 94 (.tmp 2) (.tmp 9), 0, none, [], 2⟩,
  ⟨(some 3), .assign (.tmp 10), 30, none, [], 3⟩]
def r61_4 : List TOper := [⟨(some 11), .load 101 (.tmp 1), 101, none, [], 0⟩,
  ⟨(some 12), .call ⟨.value (.func 134), #[(.tmp 11)], #[101]⟩, 94, none, [], 1⟩,
  ⟨none, .store 94 (.tmp 2) (.tmp 12), 0, none, [], 2⟩,
  ⟨(some 3), .assign (.const (.int .i64 0)), 30, none, [], 3⟩]
def c61 : TCode := (.seq (.reg r61_0) (.seq (.seq (.reg r61_1) (.seq (.reg r61_2) (.cond (.tmp 8) (.seq (.reg r61_3) .ret) .skip))) (.seq (.reg r61_4) .ret)))
def f61 : TFun := ⟨c61, 13, [.cell 2 94, .tmp 3]⟩
def r62_0 : List TOper := [⟨(some 1), .box 94 (.tmp 0), 0, none, [], 0⟩,
  ⟨(some 2), .alloc 101, 0, none, [], 1⟩,
  ⟨(some 3), .assign (.const (.int .i64 0)), 30, none, [], 2⟩]
def r62_1 : List TOper := [⟨(some 9), .indexAddr 94 (.tmp 1) (.const (.int .i64 1)), 0, none, [], 0⟩,
  ⟨(some 10), .load 5 (.tmp 9), 5, none, [], 1⟩,
  ⟨(some 11), .convert 5 3 (.tmp 10), 3, none, [], 2⟩,
  ⟨(some 12), .slice 94 (.tmp 1) (some (.const (.int .i64 2))) (some (.const (.int .i64 4))) none, 115, none, [], 3⟩,
  ⟨(some 4), .alloc 101, 0, none, [], 6⟩,
  ⟨(some 13), .call ⟨.value (.func 135), #[(.tmp 12)], #[115]⟩, 3, none, [(.tmp 4), (.tmp 11), (.tmp 10), (.tmp 9)], 4⟩,
  ⟨(some 14), .build 101 #[(0, (.tmp 11)), (1, (.tmp 13))], 101, none, [], 5⟩,
  ⟨none, .store 101 (.tmp 4) (.tmp 14), 0, none, [], 7⟩]
def r62_2 : List TOper := [⟨(some 15), .move (.const (.int .i64 0)), 3, none, [], 0⟩]
def r62_3 : List TOper := [⟨(some 16), .binOp .lss 3 (.tmp 15) (.const (.int .i64 3)) 3, 0, none, [], 0⟩]
def r62_4 : List TOper := [⟨(some 17), .move (.tmp 15), 3, none, [], 0⟩,
  ⟨(some 5), .assign (.tmp 17), 3, none, [], 1⟩]
def r62_5 : List TOper := [⟨(some 18), .move (.tmp 5), 3, none, [], 0⟩,
  ⟨(some 19), .binOp .mul 3 (.const (.int .i64 4)) (.tmp 18) 3, 3, none, [], 1⟩,
  ⟨(some 20), .binOp .add 3 (.const (.int .i64 4)) (.tmp 19) 3, 3, none, [], 2⟩,
  ⟨(some 6), .assign (.tmp 20), 3, none, [], 3⟩]
def r62_6 : List TOper := [⟨(some 21), .move (.tmp 5), 3, none, [], 0⟩,
  ⟨(some 22), .move (.tmp 6), 3, none, [], 1⟩,
  ⟨(some 23), .move (.tmp 6), 3, none, [], 2⟩,
  ⟨(some 24), .binOp .add 3 (.tmp 23) (.const (.int .i64 4)) 3, 3, none, [], 3⟩,
  ⟨(some 25), .slice 94 (.tmp 1) (some (.tmp 22)) (some (.tmp 24)) none, 115, none, [], 4⟩,
  ⟨(some 26), .call ⟨.value (.func 136), #[(.tmp 25)], #[115]⟩, 25, none, [], 5⟩,
  ⟨(some 27), .fieldAddr 101 (.tmp 4) 2, 0, none, [], 6⟩,
  ⟨(some 28), .indexAddr 91 (.tmp 27) (.tmp 21), 0, none, [], 7⟩,
  ⟨none, .store 25 (.tmp 28) (.tmp 26), 0, none, [], 8⟩]
def r62_7 : List TOper := [⟨(some 29), .binOp .add 3 (.tmp 15) (.const (.int .i64 1)) 3, 3, none, [], 0⟩,
  ⟨(some 15), .move (.tmp 29), 3, none, [], 1⟩]
def r62_8 : List TOper := [⟨(some 30), .slice 94 (.tmp 1) none (some (.const (.int .i64 16))) none, 115, none, [], 0⟩,
  ⟨(some 7), .assign (.tmp 30), 115, none, [], 1⟩]
def r62_9 : List TOper := [⟨(some 31), .indexAddr 94 (.tmp 1) (.const (.int .i64 0)), 0, none, [], 0⟩,
  ⟨(some 32), .load 5 (.tmp 31), 5, none, [], 1⟩,
  ⟨(some 33), .binOp .neq 5 (.tmp 32) (.const (.int .u8 90)) 5, 4, none, [], 2⟩,
  ⟨(some 35), .slice 94 (.tmp 1) (some (.const (.int .i64 16))) none none, 115, none, [], 4⟩,
  ⟨(some 37), .move (.tmp 7), 115, none, [], 6⟩,
  ⟨(some 41), .fieldAddr 101 (.tmp 4) 2, 0, none, [], 10⟩,
  ⟨(some 42), .slice 91 (.tmp 41) none none none, 43, none, [], 11⟩,
  ⟨(some 44), .load 101 (.tmp 4), 101, none, [], 13⟩,
  ⟨(some 46), .load 94 (.tmp 1), 94, none, [], 15⟩,
  ⟨(some 34), .call ⟨.value (.func 95), #[(.tmp 33), (.const (.int .i64 1))], #[4, 30]⟩, 30, none, [(.tmp 1), (.tmp 4), (.tmp 41), (.tmp 1)], 3⟩,
  ⟨(some 36), .call ⟨.value (.func 135), #[(.tmp 35)], #[115]⟩, 3, none, [(.tmp 1), (.tmp 4), (.tmp 41)], 5⟩,
  ⟨(some 38), .call ⟨.value (.func 137), #[(.tmp 37)], #[115]⟩, 3, none, [(.tmp 1), (.tmp 4), (.tmp 41)], 7⟩,
  ⟨(some 39), .binOp .neq 3 (.tmp 36) (.tmp 38) 3, 4, none, [], 8⟩,
  ⟨(some 40), .call ⟨.value (.func 95), #[(.tmp 39), (.const (.int .i64 27))], #[4, 30]⟩, 30, none, [(.tmp 1), (.tmp 4), (.tmp 41)], 9⟩,
  ⟨(some 43), .call ⟨.value (.func 116), #[(.tmp 42)], #[43]⟩, 30, none, [(.tmp 1), (.tmp 4)], 12⟩,
  ⟨(some 45), .call ⟨.value (.func 134), #[(.tmp 44)], #[101]⟩, 94, none, [(.tmp 1)], 14⟩,
  ⟨(some 47), .binOp .neq 94 (.tmp 45) (.tmp 46) 94, 4, none, [], 16⟩,
  ⟨(some 48), .call ⟨.value (.func 95), #[(.tmp 47), (.const (.int .i64 1))], #[4, 30]⟩, 30, none, [], 17⟩,
  ⟨(some 49), .buildSlice 195 4 #[(0, (.tmp 34)), (1, (.tmp 40)), (2, (.tmp 43)), (3, (.tmp 48))], 195, none, [], 18⟩,
  ⟨(some 50), .call ⟨.value (.func 89), #[(.tmp 49)], #[195]⟩, 30, none, [], 19⟩,
  ⟨(some 8), .assign (.tmp 50), 30, none, [], 20⟩]
def r62_10 : List TOper := [⟨(some 51), .move (.tmp 8), 30, none, [], 0⟩,
  ⟨(some 52), .binOp .neq 30 (.tmp 51) (.const (.int .i64 0)) 30, 4, none, [], 1⟩]
def r62_11 : List TOper := [⟨(some 53), .build 101 #[], 101, none, [], 0⟩,
  ⟨(some 54), .move (.tmp 8), 30, none, [], 1⟩,
  ⟨none, .store 101 (.tmp 2) (.tmp 53), 0, none, [], 2⟩,
  ⟨(some 3), .assign (.tmp 54), 30, none, [], 3⟩]
def r62_12 : List TOper := [⟨(some 55), .load 101 (.tmp 4), 101, none, [], 0⟩,
  ⟨none, .store 101 (.tmp 2) (.tmp 55), 0, none, [], 1⟩,
  ⟨(some 3), .assign (.const (.int .i64 0)), 30, none, [], 2⟩]
def c62 : TCode := (.seq (.reg r62_0) (.seq (.reg r62_1) (.seq (.seq (.reg r62_2) (.block 0 (.loop (.seq (.reg r62_3) (.seq (.cond (.tmp 16) .skip (.exit 0)) (.seq (.block 1 (.seq (.reg r62_4) (.seq (.reg r62_5) (.reg r62_6)))) (.reg r62_7))))))) (.seq (.reg r62_8) (.seq (.reg r62_9) (.seq (.seq (.reg r62_10) (.cond (.tmp 52) (.seq (.reg r62_11) .ret) .skip)) (.seq (.reg r62_12) .ret)))))))
def f62 : TFun := ⟨c62, 56, [.cell 2 101, .tmp 3]⟩
def r63_0 : List TOper := [⟨(some 4), .assign (.const (.slice none 0 0)), 29, none, [], 0⟩,
  ⟨(some 5), .assign (.const (.int .i64 0)), 30, none, [], 1⟩]
def r63_1 : List TOper := [⟨(some 10), .move (.tmp 0), 105, none, [], 0⟩,
  ⟨(some 11), .call ⟨.builtin .len, #[(.tmp 10)], #[105]⟩, 3, none, [], 1⟩,
  ⟨(some 12), .binOp .gtr 3 (.tmp 11) (.const (.int .i64 1024)) 3, 4, none, [], 2⟩]
def r63_2 : List TOper := [⟨(some 4), .assign (.const (.slice none 0 0)), 29, none, [], 0⟩,
  ⟨(some 5), .assign (.const (.int .i64 5)), 30, none, [], 1⟩]
def r63_3 : List TOper := [⟨(some 13), .move (.tmp 0), 105, none, [], 0⟩,
  ⟨(some 14), .call ⟨.value (.func 138), #[(.tmp 13), (.func 133)], #[105, 192]⟩, 195, none, [], 1⟩,
  ⟨(some 6), .assign (.tmp 14), 195, none, [], 2⟩]
def r63_4 : List TOper := [⟨(some 15), .move (.tmp 6), 195, none, [], 0⟩,
  ⟨(some 16), .call ⟨.value (.func 89), #[(.tmp 15)], #[195]⟩, 30, none, [], 1⟩,
  ⟨(some 17), .move (.tmp 1), 3, none, [], 2⟩,
  ⟨(some 18), .call ⟨.value (.func 90), #[(.tmp 17), (.const (.int .i64 0)), (.const (.int .i64 255))], #[3, 3, 3]⟩, 30, none, [], 3⟩,
  ⟨(some 19), .buildSlice 195 2 #[(0, (.tmp 16)), (1, (.tmp 18))], 195, none, [], 4⟩,
  ⟨(some 20), .call ⟨.value (.func 89), #[(.tmp 19)], #[195]⟩, 30, none, [], 5⟩,
  ⟨(some 7), .assign (.tmp 20), 30, none, [], 6⟩]
def r63_5 : List TOper := [⟨(some 21), .move (.tmp 7), 30, none, [], 0⟩,
  ⟨(some 22), .binOp .neq 30 (.tmp 21) (.const (.int .i64 0)) 30, 4, none, [], 1⟩]
def r63_6 : List TOper := [⟨(some 23), .move (.tmp 7), 30, none, [], 0⟩,
  ⟨(some 4), .assign (.const (.slice none 0 0)), 29, none, [], 1⟩,
  ⟨(some 5), .assign (.tmp 23), 30, none, [], 2⟩]
def r63_7 : List TOper := [⟨(some 25), .move (.tmp 0), 105, none, [], 0⟩,
  ⟨(some 26), .move (.tmp 1), 3, none, [], 1⟩,
  ⟨(some 27), .call ⟨.value (.func 139), #[(.tmp 25), (.tmp 26)], #[105, 3]⟩, 197, none, [], 2⟩,
  ⟨(some 24), .move (.tmp 27), 197, none, [], 3⟩,
  ⟨(some 28), .extract (.tmp 24) 0, 29, none, [], 4⟩,
  ⟨(some 29), .extract (.tmp 24) 1, 4, none, [], 5⟩,
  ⟨(some 8), .assign (.tmp 28), 29, none, [], 6⟩,
  ⟨(some 9), .assign (.tmp 29), 4, none, [], 7⟩]
def r63_8 : List TOper := [⟨(some 30), .move (.tmp 9), 4, none, [], 0⟩,
  ⟨(some 31), .unOp .not 4 (.tmp 30), 4, none, [], 1⟩]
def r63_9 : List TOper := [⟨(some 4), .assign (.const (.slice none 0 0)), 29, none, [], 0⟩,
  ⟨(some 5), .assign (.const (.int .i64 5)), 30, none, [], 1⟩]
def r63_10 : List TOper := [⟨(some 32), .move (.tmp 8), 29, none, [], 0⟩,
  ⟨(some 4), .assign (.tmp 32), 29, none, [], 1⟩,
  ⟨(some 5), .assign (.const (.int .i64 0)), 30, none, [], 2⟩]
def c63 : TCode := (.seq (.reg r63_0) (.seq (.seq (.reg r63_1) (.cond (.tmp 12) (.seq (.reg r63_2) .ret) .skip)) (.seq (.reg r63_3) (.seq (.seq (.reg r63_4) (.seq (.reg r63_5) (.cond (.tmp 22) (.seq (.reg r63_6) .ret) .skip))) (.seq (.reg r63_7) (.seq (.seq (.reg r63_8) (.cond (.tmp 31) (.seq (.reg r63_9) .ret) .skip)) (.seq (.reg r63_10) .ret)))))))
def f63 : TFun := ⟨c63, 33, [.tmp 4, .tmp 5]⟩
def r70_0 : List TOper := [⟨(some 2), .assign (.const (.slice none 0 0)), 105, none, [], 0⟩,
  ⟨(some 3), .assign (.const (.slice none 0 0)), 44, none, [], 1⟩,
  ⟨(some 4), .assign (.const (.int .i64 0)), 30, none, [], 2⟩]
def r70_1 : List TOper := [⟨(some 10), .move (.tmp 0), 115, none, [], 0⟩,
  ⟨(some 11), .call ⟨.builtin .len, #[(.tmp 10)], #[115]⟩, 3, none, [], 1⟩,
  ⟨(some 12), .binOp .gtr 3 (.tmp 11) (.const (.int .i64 20480)) 3, 4, none, [], 2⟩]
def r70_2 : List TOper := [⟨(some 2), .assign (.const (.slice none 0 0)), 105, none, [], 0⟩,
  ⟨(some 3), .assign (.const (.slice none 0 0)), 44, none, [], 1⟩,
  ⟨(some 4), .assign (.const (.int .i64 26)), 30, none, [], 2⟩]
def r70_3 : List TOper := [⟨(some 5), .alloc 105, 0, none, [], 0⟩]
def r70_4 : List TOper := [⟨(some 6), .alloc 44, 0, none, [], 0⟩]
def r70_5 : List TOper := [⟨(some 7), .alloc 3, 0, none, [], 0⟩,
  ⟨none, .store 3 (.tmp 7) (.const (.int .i64 0)), 0, none, [], 1⟩]
def r70_6 : List TOper := [⟨(some 13), .move (.tmp 0), 115, none, [], 0⟩,
  ⟨(some 14), .call ⟨.value (.func 145), #[(.tmp 13)], #[115]⟩, 204, none, [], 1⟩]
def r70_7 : List TOper := [⟨(some 8), .assign (.tmp 15), 3, none, [], 0⟩]
def r70_8 : List TOper := [⟨(some 9), .alloc 101, 0, none, [], 0⟩,
  ⟨none, .store 101 (.tmp 9) (.tmp 16), 0, none, [], 1⟩]
def r70_9 : List TOper := [⟨(some 17), .load 44 (.tmp 6), 44, none, [], 0⟩,
  ⟨(some 18), .load 3 (.tmp 7), 3, none, [], 1⟩,
  ⟨(some 19), .move (.tmp 8), 3, none, [], 2⟩,
  ⟨(some 20), .call ⟨.value (.func 146), #[(.tmp 17), (.tmp 18), (.tmp 19)], #[44, 3, 3]⟩, 44, none, [], 3⟩,
  ⟨none, .store 44 (.tmp 6) (.tmp 20), 0, none, [], 4⟩]
def r70_10 : List TOper := [⟨(some 21), .load 105 (.tmp 5), 105, none, [], 0⟩,
  ⟨(some 22), .load 101 (.tmp 9), 101, none, [], 1⟩,
  ⟨(some 23), .buildSlice 105 1 #[(0, (.tmp 22))], 105, none, [], 2⟩,
  ⟨(some 24), .call ⟨.builtin .append, #[(.tmp 21), (.tmp 23)], #[105, 105]⟩, 105, none, [], 3⟩,
  ⟨none, .store 105 (.tmp 5) (.tmp 24), 0, none, [], 4⟩]
def r70_11 : List TOper := [⟨(some 25), .move (.tmp 8), 3, none, [], 0⟩,
  ⟨(some 26), .binOp .add 3 (.tmp 25) (.const (.int .i64 20)) 3, 3, none, [], 1⟩,
  ⟨none, .store 3 (.tmp 7) (.tmp 26), 0, none, [], 2⟩]
def r70_12 : List TOper := [⟨(some 27), .load 105 (.tmp 5), 105, none, [], 0⟩,
  ⟨(some 28), .load 44 (.tmp 6), 44, none, [], 1⟩,
  ⟨(some 29), .load 3 (.tmp 7), 3, none, [], 2⟩,
  ⟨(some 30), .move (.tmp 0), 115, none, [], 3⟩,
  ⟨(some 31), .call ⟨.builtin .len, #[(.tmp 30)], #[115]⟩, 3, none, [], 4⟩,
  ⟨(some 32), .call ⟨.value (.func 146), #[(.tmp 28), (.tmp 29), (.tmp 31)], #[44, 3, 3]⟩, 44, none, [(.tmp 5)], 5⟩,
  ⟨(some 2), .assign (.tmp 27), 105, none, [], 6⟩,
  ⟨(some 3), .assign (.tmp 32), 44, none, [], 7⟩,
  ⟨(some 4), .assign (.const (.int .i64 0)), 30, none, [], 8⟩]
def c70 : TCode := (.seq (.reg r70_0) (.seq (.seq (.reg r70_1) (.cond (.tmp 12) (.seq (.reg r70_2) .ret) .skip)) (.seq (.reg r70_3) (.seq (.reg r70_4) (.seq (.reg r70_5) (.seq (.seq (.reg r70_6) (.block 0 (.rangeFunc (.tmp 14) #[15, 16] (.seq (.reg r70_7) (.reg r70_8)) (.block 1 (.seq (.reg r70_9) (.seq (.reg r70_10) (.reg r70_11))))))) (.seq (.reg r70_12) .ret)))))))
def f70 : TFun := ⟨c70, 33, [.tmp 2, .tmp 3, .tmp 4]⟩
def r73_0 : List TOper := [⟨(some 4), .assign (.const (.bool false)), 4, none, [], 0⟩]
def r73_1 : List TOper := [⟨(some 6), .move (.tmp 0), 44, none, [], 0⟩,
  ⟨(some 7), .call ⟨.builtin .len, #[(.tmp 6)], #[44]⟩, 3, none, [], 1⟩,
  ⟨(some 8), .move (.tmp 1), 44, none, [], 2⟩,
  ⟨(some 9), .call ⟨.builtin .len, #[(.tmp 8)], #[44]⟩, 3, none, [], 3⟩,
  ⟨(some 10), .binOp .neq 3 (.tmp 7) (.tmp 9) 3, 4, none, [], 4⟩]
def r73_2 : List TOper := [⟨(some 4), .assign (.const (.bool false)), 4, none, [], 0⟩]
def r73_3 : List TOper := [⟨(some 5), .assign (.const (.int .i64 0)), 3, none, [], 0⟩]
def r73_4 : List TOper := [⟨(some 11), .move (.tmp 5), 3, none, [], 0⟩,
  ⟨(some 12), .move (.tmp 0), 44, none, [], 1⟩,
  ⟨(some 13), .call ⟨.builtin .len, #[(.tmp 12)], #[44]⟩, 3, none, [], 2⟩,
  ⟨(some 14), .binOp .lss 3 (.tmp 11) (.tmp 13) 3, 4, none, [], 3⟩]
def r73_5 : List TOper := [⟨(some 17), .move (.tmp 0), 44, none, [], 0⟩,
  ⟨(some 18), .move (.tmp 5), 3, none, [], 1⟩,
  ⟨(some 19), .indexAddr 44 (.tmp 17) (.tmp 18), 0, none, [], 2⟩,
  ⟨(some 20), .load 48 (.tmp 19), 48, none, [], 3⟩,
  ⟨(some 21), .move (.tmp 1), 44, none, [], 4⟩,
  ⟨(some 22), .move (.tmp 5), 3, none, [], 5⟩,
  ⟨(some 23), .indexAddr 44 (.tmp 21) (.tmp 22), 0, none, [], 6⟩,
  ⟨(some 24), .load 48 (.tmp 23), 48, none, [], 7⟩,
  ⟨(some 25), .binOp .neq 48 (.tmp 20) (.tmp 24) 48, 4, none, [], 8⟩]
def r73_6 : List TOper := [⟨(some 4), .assign (.const (.bool false)), 4, none, [], 0⟩]
def r73_7 : List TOper := [⟨(some 15), .move (.tmp 5), 3, none, [], 0⟩,
  ⟨(some 16), .binOp .add 3 (.tmp 15) (.const (.int .i64 1)) 3, 3, none, [], 1⟩,
  ⟨(some 5), .assign (.tmp 16), 3, none, [], 2⟩]
def r73_8 : List TOper := [⟨(some 4), .assign (.const (.bool true)), 4, none, [], 0⟩]
def c73 : TCode := (.seq (.reg r73_0) (.seq (.seq (.reg r73_1) (.cond (.tmp 10) (.seq (.reg r73_2) .ret) .skip)) (.seq (.seq (.reg r73_3) (.block 0 (.loop (.seq (.seq (.reg r73_4) (.cond (.tmp 14) .skip (.exit 0))) (.seq (.block 1 (.seq (.reg r73_5) (.cond (.tmp 25) (.seq (.reg r73_6) .ret) .skip))) (.reg r73_7)))))) (.seq (.reg r73_8) .ret))))
def f73 : TFun := ⟨c73, 26, [.tmp 4]⟩
def r74_0 : List TOper := [⟨(some 1), .box 52 (.tmp 0), 0, none, [], 0⟩,
  ⟨(some 2), .assign (.const (.slice none 0 0)), 115, none, [], 1⟩,
  ⟨(some 3), .assign (.const (.int .i64 0)), 30, none, [], 2⟩]
def r74_1 : List TOper := [⟨(some 10), .load 52 (.tmp 1), 52, none, [], 0⟩,
  ⟨(some 11), .call ⟨.value (.func 44), #[(.tmp 10)], #[52]⟩, 30, none, [], 1⟩,
  ⟨(some 4), .assign (.tmp 11), 30, none, [], 2⟩]
def r74_2 : List TOper := [⟨(some 12), .move (.tmp 4), 30, none, [], 0⟩,
  ⟨(some 13), .binOp .neq 30 (.tmp 12) (.const (.int .i64 0)) 30, 4, none, [], 1⟩]
def r74_3 : List TOper := [⟨(some 14), .move (.tmp 4), 30, none, [], 0⟩,
  ⟨(some 2), .assign (.const (.slice none 0 0)), 115, none, [], 1⟩,
  ⟨(some 3), .assign (.tmp 14), 30, none, [], 2⟩]
def r74_4 : List TOper := [⟨(some 15), .buildSlice 115 4 #[(0, (.const (.int .u8 82))), (1, (.const (.int .u8 85))), (2, (.const (.int .u8 78))), (3, (.const (.int .u8 83)))], 115, none, [], 0⟩,
  ⟨(some 16), .convert 115 115 (.tmp 15), 115, none, [], 1⟩,
  ⟨(some 17), .fieldAddr 52 (.tmp 1) 0, 0, none, [], 2⟩,
  ⟨(some 18), .load 9 (.tmp 17), 9, none, [], 3⟩,
  ⟨(some 19), .call ⟨.builtin .len, #[(.tmp 18)], #[9]⟩, 3, none, [], 4⟩,
  ⟨(some 20), .convert 3 5 (.tmp 19), 5, none, [], 5⟩,
  ⟨(some 21), .buildSlice 115 1 #[(0, (.tmp 20))], 115, none, [], 6⟩,
  ⟨(some 22), .call ⟨.builtin .append, #[(.tmp 16), (.tmp 21)], #[115, 115]⟩, 115, none, [], 7⟩,
  ⟨(some 5), .assign (.tmp 22), 115, none, [], 8⟩]
def r74_5 : List TOper := [⟨(some 23), .move (.tmp 5), 115, none, [], 0⟩,
  ⟨(some 24), .fieldAddr 52 (.tmp 1) 0, 0, none, [], 1⟩,
  ⟨(some 25), .load 9 (.tmp 24), 9, none, [], 2⟩,
  ⟨(some 26), .call ⟨.builtin .append, #[(.tmp 23), (.tmp 25)], #[115, 9]⟩, 115, none, [], 3⟩,
  ⟨(some 5), .assign (.tmp 26), 115, none, [], 4⟩]
def r74_6 : List TOper := [⟨(some 27), .move (.tmp 5), 115, none, [], 0⟩,
  ⟨(some 28), .fieldAddr 52 (.tmp 1) 1, 0, none, [], 1⟩,
  ⟨(some 29), .load 3 (.tmp 28), 3, none, [], 2⟩,
  ⟨(some 30), .call ⟨.value (.func 147), #[(.tmp 27), (.tmp 29), (.const (.int .i64 4))], #[115, 3, 3]⟩, 115, none, [], 3⟩,
  ⟨(some 5), .assign (.tmp 30), 115, none, [], 4⟩]
def r74_7 : List TOper := [⟨(some 31), .move (.tmp 5), 115, none, [], 0⟩,
  ⟨(some 32), .fieldAddr 52 (.tmp 1) 2, 0, none, [], 1⟩,
  ⟨(some 33), .load 43 (.tmp 32), 43, none, [], 2⟩,
  ⟨(some 34), .call ⟨.builtin .len, #[(.tmp 33)], #[43]⟩, 3, none, [], 3⟩,
  ⟨(some 35), .call ⟨.value (.func 147), #[(.tmp 31), (.tmp 34), (.const (.int .i64 2))], #[115, 3, 3]⟩, 115, none, [], 4⟩,
  ⟨(some 5), .assign (.tmp 35), 115, none, [], 5⟩]
def r74_8 : List TOper := [⟨(some 36), .fieldAddr 52 (.tmp 1) 2, 0, none, [], 0⟩,
  ⟨(some 37), .load 43 (.tmp 36), 43, none, [], 1⟩,
  ⟨(some 38), .call ⟨.builtin .len, #[(.tmp 37)], #[43]⟩, 3, none, [], 2⟩,
  ⟨(some 39), .move (.const (.int .i64 0)), 3, none, [], 3⟩]
def r74_9 : List TOper := [⟨(some 40), .binOp .lss 3 (.tmp 39) (.tmp 38) 3, 0, none, [], 0⟩]
def r74_10 : List TOper := [⟨(some 41), .indexAddr 43 (.tmp 37) (.tmp 39), 0, none, [], 0⟩,
  ⟨(some 42), .load 25 (.tmp 41), 25, none, [], 1⟩,
  ⟨(some 7), .assign (.tmp 42), 25, none, [], 2⟩]
def r74_11 : List TOper := [⟨(some 43), .move (.tmp 5), 115, none, [], 0⟩,
  ⟨(some 44), .move (.tmp 7), 25, none, [], 1⟩,
  ⟨(some 45), .call ⟨.value (.func 148), #[(.tmp 43), (.tmp 44)], #[115, 25]⟩, 115, none, [], 2⟩,
  ⟨(some 5), .assign (.tmp 45), 115, none, [], 3⟩]
def r74_12 : List TOper := [⟨(some 46), .binOp .add 3 (.tmp 39) (.const (.int .i64 1)) 3, 3, none, [], 0⟩,
  ⟨(some 39), .move (.tmp 46), 3, none, [], 1⟩]
def r74_13 : List TOper := [⟨(some 47), .move (.tmp 5), 115, none, [], 0⟩,
  ⟨(some 48), .fieldAddr 52 (.tmp 1) 3, 0, none, [], 1⟩,
  ⟨(some 49), .load 44 (.tmp 48), 44, none, [], 2⟩,
  ⟨(some 50), .call ⟨.builtin .len, #[(.tmp 49)], #[44]⟩, 3, none, [], 3⟩,
  ⟨(some 51), .call ⟨.value (.func 147), #[(.tmp 47), (.tmp 50), (.const (.int .i64 2))], #[115, 3, 3]⟩, 115, none, [], 4⟩,
  ⟨(some 5), .assign (.tmp 51), 115, none, [], 5⟩]
def r74_14 : List TOper := [⟨(some 52), .fieldAddr 52 (.tmp 1) 3, 0, none, [], 0⟩,
  ⟨(some 53), .load 44 (.tmp 52), 44, none, [], 1⟩,
  ⟨(some 54), .call ⟨.builtin .len, #[(.tmp 53)], #[44]⟩, 3, none, [], 2⟩,
  ⟨(some 55), .move (.const (.int .i64 0)), 3, none, [], 3⟩]
def r74_15 : List TOper := [⟨(some 56), .binOp .lss 3 (.tmp 55) (.tmp 54) 3, 0, none, [], 0⟩]
def r74_16 : List TOper := [⟨(some 57), .indexAddr 44 (.tmp 53) (.tmp 55), 0, none, [], 0⟩,
  ⟨(some 58), .load 48 (.tmp 57), 48, none, [], 1⟩,
  ⟨(some 9), .alloc 48, 0, none, [], 2⟩,
  ⟨none, .store 48 (.tmp 9) (.tmp 58), 0, none, [], 3⟩]
def r74_17 : List TOper := [⟨(some 59), .move (.tmp 5), 115, none, [], 0⟩,
  ⟨(some 60), .fieldAddr 48 (.tmp 9) 0, 0, none, [], 1⟩,
  ⟨(some 61), .load 3 (.tmp 60), 3, none, [], 2⟩,
  ⟨(some 62), .call ⟨.value (.func 147), #[(.tmp 59), (.tmp 61), (.const (.int .i64 2))], #[115, 3, 3]⟩, 115, none, [], 3⟩,
  ⟨(some 5), .assign (.tmp 62), 115, none, [], 4⟩]
def r74_18 : List TOper := [⟨(some 63), .move (.tmp 5), 115, none, [], 0⟩,
  ⟨(some 64), .fieldAddr 48 (.tmp 9) 1, 0, none, [], 1⟩,
  ⟨(some 65), .load 3 (.tmp 64), 3, none, [], 2⟩,
  ⟨(some 66), .call ⟨.value (.func 147), #[(.tmp 63), (.tmp 65), (.const (.int .i64 2))], #[115, 3, 3]⟩, 115, none, [], 3⟩,
  ⟨(some 5), .assign (.tmp 66), 115, none, [], 4⟩]
def r74_19 : List TOper := [⟨(some 67), .binOp .add 3 (.tmp 55) (.const (.int .i64 1)) 3, 3, none, [], 0⟩,
  ⟨(some 55), .move (.tmp 67), 3, none, [], 1⟩]
def r74_20 : List TOper := [⟨(some 68), .move (.tmp 5), 115, none, [], 0⟩,
  ⟨(some 69), .move (.tmp 5), 115, none, [], 1⟩,
  ⟨(some 70), .call ⟨.value (.func 137), #[(.tmp 69)], #[115]⟩, 3, none, [], 2⟩,
  ⟨(some 71), .call ⟨.value (.func 147), #[(.tmp 68), (.tmp 70), (.const (.int .i64 4))], #[115, 3, 3]⟩, 115, none, [], 3⟩,
  ⟨(some 2), .assign (.tmp 71), 115, none, [], 4⟩,
  ⟨(some 3), .assign (.const (.int .i64 0)), 30, none, [], 5⟩]
def c74 : TCode := (.seq (.reg r74_0) (.seq (.seq (.reg r74_1) (.seq (.reg r74_2) (.cond (.tmp 13) (.seq (.reg r74_3) .ret) .skip))) (.seq (.reg r74_4) (.seq (.reg r74_5) (.seq (.reg r74_6) (.seq (.reg r74_7) (.seq (.seq (.reg r74_8) (.block 0 (.loop (.seq (.reg r74_9) (.seq (.cond (.tmp 40) .skip (.exit 0)) (.seq (.block 1 (.seq (.reg r74_10) (.reg r74_11))) (.reg r74_12))))))) (.seq (.reg r74_13) (.seq (.seq (.reg r74_14) (.block 2 (.loop (.seq (.reg r74_15) (.seq (.cond (.tmp 56) .skip (.exit 2)) (.seq (.block 3 (.seq (.reg r74_16) (.seq (.reg r74_17) (.reg r74_18)))) (.reg r74_19))))))) (.seq (.reg r74_20) .ret))))))))))
def f74 : TFun := ⟨c74, 72, [.tmp 2, .tmp 3]⟩
def r78_0 : List TOper := [⟨(some 1), .box 52 (.tmp 0), 0, none, [], 0⟩,
  ⟨(some 2), .assign (.const (.string ⟨#[]⟩)), 9, none, [], 1⟩,
  ⟨(some 3), .assign (.const (.int .i64 0)), 30, none, [], 2⟩]
def r78_1 : List TOper := [⟨(some 9), .load 52 (.tmp 1), 52, none, [], 0⟩,
  ⟨(some 10), .call ⟨.value (.func 44), #[(.tmp 9)], #[52]⟩, 30, none, [], 1⟩,
  ⟨(some 4), .assign (.tmp 10), 30, none, [], 2⟩]
def r78_2 : List TOper := [⟨(some 11), .move (.tmp 4), 30, none, [], 0⟩,
  ⟨(some 12), .binOp .neq 30 (.tmp 11) (.const (.int .i64 0)) 30, 4, none, [], 1⟩]
def r78_3 : List TOper := [⟨(some 13), .move (.tmp 4), 30, none, [], 0⟩,
  ⟨(some 2), .assign (.const (.string ⟨#[]⟩)), 9, none, [], 1⟩,
  ⟨(some 3), .assign (.tmp 13), 30, none, [], 2⟩]
def r78_4 : List TOper := [⟨(some 5), .alloc 216, 0, none, [], 0⟩]
def r78_5 : List TOper := [⟨(some 14), .fieldAddr 52 (.tmp 1) 0, 0, none, [], 0⟩,
  ⟨(some 15), .load 9 (.tmp 14), 9, none, [], 1⟩,
  ⟨(some 16), .fieldAddr 52 (.tmp 1) 1, 0, none, [], 2⟩,
  ⟨(some 17), .load 3 (.tmp 16), 3, none, [], 3⟩,
  ⟨(some 18), .call ⟨.value (.func 156), #[(.tmp 17)], #[3]⟩, 9, none, [(.tmp 14)], 4⟩,
  ⟨(some 19), .buildSlice 225 3 #[(0, (.const (.string ⟨#[114, 117, 110]⟩))), (1, (.tmp 15)), (2, (.tmp 18))], 225, none, [], 5⟩,
  ⟨(some 20), .call ⟨.value (.func 155), #[(.tmp 19)], #[225]⟩, 9, none, [], 6⟩,
  ⟨(some 21), .call ⟨.value (.func 154), #[(.tmp 5), (.tmp 20)], #[216, 9]⟩, 219, none, [], 7⟩]
def r78_6 : List TOper := [⟨(some 6), .assign (.const (.int .i64 0)), 3, none, [], 0⟩]
def r78_7 : List TOper := [⟨(some 22), .fieldAddr 52 (.tmp 1) 3, 0, none, [], 0⟩,
  ⟨(some 23), .load 44 (.tmp 22), 44, none, [], 1⟩,
  ⟨(some 24), .call ⟨.builtin .len, #[(.tmp 23)], #[44]⟩, 3, none, [], 2⟩,
  ⟨(some 25), .move (.const (.int .i64 0)), 3, none, [], 3⟩]
def r78_8 : List TOper := [⟨(some 26), .binOp .lss 3 (.tmp 25) (.tmp 24) 3, 0, none, [], 0⟩]
def r78_9 : List TOper := [⟨(some 27), .indexAddr 44 (.tmp 23) (.tmp 25), 0, none, [], 0⟩,
  ⟨(some 28), .load 48 (.tmp 27), 48, none, [], 1⟩,
  ⟨(some 8), .alloc 48, 0, none, [], 2⟩,
  ⟨none, .store 48 (.tmp 8) (.tmp 28), 0, none, [], 3⟩]
def r78_10 : List TOper := [⟨(some 29), .fieldAddr 52 (.tmp 1) 2, 0, none, [], 0⟩,
  ⟨(some 30), .load 43 (.tmp 29), 43, none, [], 1⟩,
  ⟨(some 31), .move (.tmp 6), 3, none, [], 2⟩,
  ⟨(some 32), .fieldAddr 48 (.tmp 8) 0, 0, none, [], 3⟩,
  ⟨(some 33), .load 3 (.tmp 32), 3, none, [], 4⟩,
  ⟨(some 34), .slice 43 (.tmp 30) (some (.tmp 31)) (some (.tmp 33)) none, 43, none, [], 5⟩,
  ⟨(some 35), .call ⟨.value (.func 157), #[(.tmp 34)], #[43]⟩, 9, none, [], 6⟩,
  ⟨(some 36), .call ⟨.value (.func 154), #[(.tmp 5), (.tmp 35)], #[216, 9]⟩, 219, none, [], 7⟩]
def r78_11 : List TOper := [⟨(some 37), .fieldAddr 48 (.tmp 8) 1, 0, none, [], 0⟩,
  ⟨(some 38), .load 3 (.tmp 37), 3, none, [], 1⟩,
  ⟨(some 39), .fieldAddr 48 (.tmp 8) 0, 0, none, [], 2⟩,
  ⟨(some 40), .load 3 (.tmp 39), 3, none, [], 3⟩,
  ⟨(some 41), .binOp .sub 3 (.tmp 38) (.tmp 40) 3, 3, none, [], 4⟩,
  ⟨(some 42), .call ⟨.value (.func 156), #[(.tmp 41)], #[3]⟩, 9, none, [], 5⟩,
  ⟨(some 43), .buildSlice 225 2 #[(0, (.const (.string ⟨#[104, 111, 108, 101]⟩))), (1, (.tmp 42))], 225, none, [], 6⟩,
  ⟨(some 44), .call ⟨.value (.func 155), #[(.tmp 43)], #[225]⟩, 9, none, [], 7⟩,
  ⟨(some 45), .call ⟨.value (.func 154), #[(.tmp 5), (.tmp 44)], #[216, 9]⟩, 219, none, [], 8⟩]
def r78_12 : List TOper := [⟨(some 46), .fieldAddr 48 (.tmp 8) 1, 0, none, [], 0⟩,
  ⟨(some 47), .load 3 (.tmp 46), 3, none, [], 1⟩,
  ⟨(some 6), .assign (.tmp 47), 3, none, [], 2⟩]
def r78_13 : List TOper := [⟨(some 48), .binOp .add 3 (.tmp 25) (.const (.int .i64 1)) 3, 3, none, [], 0⟩,
  ⟨(some 25), .move (.tmp 48), 3, none, [], 1⟩]
def r78_14 : List TOper := [⟨(some 49), .fieldAddr 52 (.tmp 1) 2, 0, none, [], 0⟩,
  ⟨(some 50), .load 43 (.tmp 49), 43, none, [], 1⟩,
  ⟨(some 51), .move (.tmp 6), 3, none, [], 2⟩,
  ⟨(some 52), .slice 43 (.tmp 50) (some (.tmp 51)) none none, 43, none, [], 3⟩,
  ⟨(some 53), .call ⟨.value (.func 157), #[(.tmp 52)], #[43]⟩, 9, none, [], 4⟩,
  ⟨(some 54), .call ⟨.value (.func 154), #[(.tmp 5), (.tmp 53)], #[216, 9]⟩, 219, none, [], 5⟩]
def r78_15 : List TOper := [⟨(some 55), .call ⟨.value (.func 158), #[(.tmp 5)], #[216]⟩, 9, none, [], 0⟩,
  ⟨(some 2), .assign (.tmp 55), 9, none, [], 1⟩,
  ⟨(some 3), .assign (.const (.int .i64 0)), 30, none, [], 2⟩]
def c78 : TCode := (.seq (.reg r78_0) (.seq (.seq (.reg r78_1) (.seq (.reg r78_2) (.cond (.tmp 12) (.seq (.reg r78_3) .ret) .skip))) (.seq (.reg r78_4) (.seq (.reg r78_5) (.seq (.reg r78_6) (.seq (.seq (.reg r78_7) (.block 0 (.loop (.seq (.reg r78_8) (.seq (.cond (.tmp 26) .skip (.exit 0)) (.seq (.block 1 (.seq (.reg r78_9) (.seq (.reg r78_10) (.seq (.reg r78_11) (.reg r78_12))))) (.reg r78_13))))))) (.seq (.reg r78_14) (.seq (.reg r78_15) .ret))))))))
def f78 : TFun := ⟨c78, 56, [.tmp 2, .tmp 3]⟩
def r82_0 : List TOper := [⟨(some 2), .box 46 (.tmp 0), 0, none, [], 0⟩,
  ⟨(some 3), .box 46 (.tmp 1), 0, none, [], 1⟩,
  ⟨(some 4), .assign (.const (.bool false)), 4, none, [], 2⟩]
def r82_1 : List TOper := [⟨(some 5), .fieldAddr 46 (.tmp 2) 0, 0, none, [], 0⟩,
  ⟨(some 6), .load 9 (.tmp 5), 9, none, [], 1⟩,
  ⟨(some 7), .fieldAddr 46 (.tmp 3) 0, 0, none, [], 2⟩,
  ⟨(some 8), .load 9 (.tmp 7), 9, none, [], 3⟩,
  ⟨(some 9), .binOp .eql 9 (.tmp 6) (.tmp 8) 9, 4, none, [], 4⟩,
  ⟨(some 10), .move (.tmp 9), 4, none, [], 5⟩,
  ⟨(some 11), .fieldAddr 46 (.tmp 2) 1, 0, (some (10, true)), [], 6⟩,
  ⟨(some 12), .load 3 (.tmp 11), 3, (some (10, true)), [], 7⟩,
  ⟨(some 13), .fieldAddr 46 (.tmp 3) 1, 0, (some (10, true)), [], 8⟩,
  ⟨(some 14), .load 3 (.tmp 13), 3, (some (10, true)), [], 9⟩,
  ⟨(some 15), .binOp .eql 3 (.tmp 12) (.tmp 14) 3, 4, (some (10, true)), [], 10⟩,
  ⟨(some 16), .pick (.tmp 10) (.tmp 15) (.const (.bool false)), 4, none, [], 11⟩,
  ⟨(some 17), .move (.tmp 16), 4, none, [], 12⟩,
  ⟨(some 18), .fieldAddr 46 (.tmp 2) 2, 0, (some (17, true)), [], 13⟩,
  ⟨(some 19), .load 43 (.tmp 18), 43, (some (17, true)), [], 14⟩,
  ⟨(some 20), .fieldAddr 46 (.tmp 3) 2, 0, (some (17, true)), [], 15⟩,
  ⟨(some 21), .load 43 (.tmp 20), 43, (some (17, true)), [], 16⟩,
  ⟨(some 22), .call ⟨.value (.func 167), #[(.tmp 19), (.tmp 21)], #[43, 43]⟩, 4, (some (17, true)), [], 17⟩,
  ⟨(some 23), .pick (.tmp 17) (.tmp 22) (.const (.bool false)), 4, none, [], 18⟩,
  ⟨(some 24), .move (.tmp 23), 4, none, [], 19⟩,
  ⟨(some 25), .fieldAddr 46 (.tmp 2) 3, 0, (some (24, true)), [], 20⟩,
  ⟨(some 26), .load 44 (.tmp 25), 44, (some (24, true)), [], 21⟩,
  ⟨(some 27), .fieldAddr 46 (.tmp 3) 3, 0, (some (24, true)), [], 22⟩,
  ⟨(some 28), .load 44 (.tmp 27), 44, (some (24, true)), [], 23⟩,
  ⟨(some 29), .call ⟨.value (.func 73), #[(.tmp 26), (.tmp 28)], #[44, 44]⟩, 4, (some (24, true)), [], 24⟩,
  ⟨(some 30), .pick (.tmp 24) (.tmp 29) (.const (.bool false)), 4, none, [], 25⟩,
  ⟨(some 4), .assign (.tmp 30), 4, none, [], 26⟩]
def c82 : TCode := (.seq (.reg r82_0) (.seq (.reg r82_1) .ret))
def f82 : TFun := ⟨c82, 31, [.tmp 4]⟩
def r83_0 : List TOper := [⟨(some 0), .alloc 52, 0, none, [], 0⟩]
def r83_1 : List TOper := [⟨(some 1), .buildSlice 43 5 #[(0, (.const (.float .f32 1065353216))), (1, (.const (.float .f32 1073741824))), (2, (.const (.float .f32 0))), (3, (.const (.float .f32 0))), (4, (.const (.float .f32 1084227584)))], 43, none, [], 0⟩,
  ⟨(some 2), .build 48 #[(0, (.const (.int .i64 2))), (1, (.const (.int .i64 4)))], 48, none, [], 1⟩,
  ⟨(some 3), .buildSlice 44 1 #[(0, (.tmp 2))], 44, none, [], 2⟩,
  ⟨(some 4), .build 52 #[(0, (.const (.string ⟨#[114]⟩))), (1, (.const (.int .i64 100))), (2, (.tmp 1)), (3, (.tmp 3))], 52, none, [], 3⟩,
  ⟨none, .store 52 (.tmp 0) (.tmp 4), 0, none, [], 4⟩]
def c83 : TCode := (.seq (.reg r83_0) (.seq (.reg r83_1) .ret))
def f83 : TFun := ⟨c83, 5, [.cell 0 52]⟩
def r84_0 : List TOper := [⟨(some 5), .box 52 (.tmp 0), 0, none, [], 0⟩,
  ⟨(some 10), .assign (.const (.bool false)), 4, none, [], 1⟩]
def r84_1 : List TOper := [⟨(some 11), .load 52 (.tmp 5), 52, none, [], 0⟩,
  ⟨(some 12), .move (.tmp 1), 9, none, [], 1⟩,
  ⟨(some 13), .move (.tmp 2), 3, none, [], 2⟩,
  ⟨(some 14), .move (.tmp 3), 43, none, [], 3⟩,
  ⟨(some 15), .move (.tmp 4), 44, none, [], 4⟩,
  ⟨(some 16), .build 46 #[(0, (.tmp 12)), (1, (.tmp 13)), (2, (.tmp 14)), (3, (.tmp 15))], 46, none, [], 5⟩,
  ⟨(some 17), .call ⟨.value (.func 82), #[(.tmp 11), (.tmp 16)], #[46, 46]⟩, 4, none, [], 6⟩,
  ⟨(some 10), .assign (.tmp 17), 4, none, [], 7⟩]
def c84 : TCode := (.seq (.reg r84_0) (.seq (.reg r84_1) .ret))
def f84 : TFun := ⟨c84, 18, [.tmp 10]⟩
def r85_0 : List TOper := [⟨(some 2), .alloc 52, 0, none, [], 0⟩]
def r85_1 : List TOper := [⟨(some 3), .move (.tmp 0), 25, none, [], 0⟩,
  ⟨(some 4), .buildSlice 43 1 #[(0, (.tmp 3))], 43, none, [], 1⟩,
  ⟨(some 5), .build 52 #[(0, (.const (.string ⟨#[118]⟩))), (2, (.tmp 4))], 52, none, [], 2⟩,
  ⟨none, .store 52 (.tmp 2) (.tmp 5), 0, none, [], 3⟩]
def c85 : TCode := (.seq (.reg r85_0) (.seq (.reg r85_1) .ret))
def f85 : TFun := ⟨c85, 6, [.cell 2 52]⟩
def r86_0 : List TOper := [⟨(some 0), .alloc 52, 0, none, [], 0⟩]
def r86_1 : List TOper := [⟨(some 1), .buildSlice 43 1 #[(0, (.const (.float .f32 0)))], 43, none, [], 0⟩,
  ⟨(some 2), .build 48 #[(1, (.const (.int .i64 1)))], 48, none, [], 1⟩,
  ⟨(some 3), .buildSlice 44 1 #[(0, (.tmp 2))], 44, none, [], 2⟩,
  ⟨(some 4), .build 52 #[(0, (.const (.string ⟨#[118]⟩))), (2, (.tmp 1)), (3, (.tmp 3))], 52, none, [], 3⟩,
  ⟨none, .store 52 (.tmp 0) (.tmp 4), 0, none, [], 4⟩]
def c86 : TCode := (.seq (.reg r86_0) (.seq (.reg r86_1) .ret))
def f86 : TFun := ⟨c86, 5, [.cell 0 52]⟩
def r87_0 : List TOper := [⟨(some 1), .box 149 (.tmp 0), 0, none, [], 0⟩,
  ⟨(some 2), .alloc 146, 0, none, [], 1⟩,
  ⟨(some 3), .assign (.const (.int .i64 0)), 30, none, [], 2⟩]
def r87_1 : List TOper := [⟨(some 9), .slice 149 (.tmp 1) none none none, 43, none, [], 0⟩,
  ⟨(some 10), .call ⟨.value (.func 116), #[(.tmp 9)], #[43]⟩, 30, none, [], 1⟩,
  ⟨(some 4), .assign (.tmp 10), 30, none, [], 2⟩]
def r87_2 : List TOper := [⟨(some 11), .move (.tmp 4), 30, none, [], 0⟩,
  ⟨(some 12), .binOp .neq 30 (.tmp 11) (.const (.int .i64 0)) 30, 4, none, [], 1⟩]
def r87_3 : List TOper := [⟨(some 13), .build 146 #[], 146, none, [], 0⟩,
  ⟨(some 14), .move (.tmp 4), 30, none, [], 1⟩,
  ⟨none, .store 146 (.tmp 2) (.tmp 13), 0, none, [], 2⟩,
  ⟨(some 3), .assign (.tmp 14), 30, none, [], 3⟩]
def r87_4 : List TOper := [⟨(some 5), .alloc 146, 0, none, [], 0⟩]
def r87_5 : List TOper := [⟨(some 15), .move (.const (.int .i64 0)), 3, none, [], 0⟩]
def r87_6 : List TOper := [⟨(some 16), .binOp .lss 3 (.tmp 15) (.const (.int .i64 4)) 3, 0, none, [], 0⟩]
def r87_7 : List TOper := [⟨(some 17), .move (.tmp 15), 3, none, [], 0⟩,
  ⟨(some 6), .assign (.tmp 17), 3, none, [], 1⟩]
def r87_8 : List TOper := [⟨(some 18), .load 149 (.tmp 1), 149, none, [], 0⟩,
  ⟨(some 19), .move (.const (.int .i64 0)), 3, none, [], 1⟩]
def r87_9 : List TOper := [⟨(some 20), .binOp .lss 3 (.tmp 19) (.const (.int .i64 4)) 3, 0, none, [], 0⟩]
def r87_10 : List TOper := [⟨(some 21), .move (.tmp 19), 3, none, [], 0⟩,
  ⟨(some 22), .index 149 (.tmp 18) (.tmp 19), 25, none, [], 1⟩,
  ⟨(some 7), .assign (.tmp 21), 3, none, [], 2⟩,
  ⟨(some 8), .assign (.tmp 22), 25, none, [], 3⟩]
def r87_11 : List TOper := [⟨(some 23), .move (.tmp 6), 3, none, [], 0⟩,
  ⟨(some 24), .indexAddr 146 (.tmp 5) (.tmp 23), 0, none, [], 1⟩,
  ⟨(some 25), .load 145 (.tmp 24), 145, none, [], 2⟩,
  ⟨(some 26), .move (.tmp 8), 25, none, [], 3⟩,
  ⟨(some 27), .call ⟨.builtin .complex, #[(.tmp 26), (.const (.float .f32 0))], #[25, 25]⟩, 145, none, [], 4⟩,
  ⟨(some 28), .move (.tmp 6), 3, none, [], 5⟩,
  ⟨(some 29), .move (.tmp 7), 3, none, [], 6⟩,
  ⟨(some 30), .binOp .mul 3 (.tmp 28) (.tmp 29) 3, 3, none, [], 7⟩,
  ⟨(some 31), .call ⟨.value (.func 168), #[(.tmp 30)], #[3]⟩, 145, none, [(.tmp 24)], 8⟩,
  ⟨(some 32), .binOp .mul 145 (.tmp 27) (.tmp 31) 145, 145, none, [], 9⟩,
  ⟨(some 33), .binOp .add 145 (.tmp 25) (.tmp 32) 145, 145, none, [], 10⟩,
  ⟨(some 34), .indexAddr 146 (.tmp 5) (.tmp 23), 0, none, [], 11⟩,
  ⟨none, .store 145 (.tmp 34) (.tmp 33), 0, none, [], 12⟩]
def r87_12 : List TOper := [⟨(some 35), .binOp .add 3 (.tmp 19) (.const (.int .i64 1)) 3, 3, none, [], 0⟩,
  ⟨(some 19), .move (.tmp 35), 3, none, [], 1⟩]
def r87_13 : List TOper := [⟨(some 36), .binOp .add 3 (.tmp 15) (.const (.int .i64 1)) 3, 3, none, [], 0⟩,
  ⟨(some 15), .move (.tmp 36), 3, none, [], 1⟩]
def r87_14 : List TOper := [⟨(some 37), .load 146 (.tmp 5), 146, none, [], 0⟩,
  ⟨none, .store 146 (.tmp 2) (.tmp 37), 0, none, [], 1⟩,
  ⟨(some 3), .assign (.const (.int .i64 0)), 30, none, [], 2⟩]
def c87 : TCode := (.seq (.reg r87_0) (.seq (.seq (.reg r87_1) (.seq (.reg r87_2) (.cond (.tmp 12) (.seq (.reg r87_3) .ret) .skip))) (.seq (.reg r87_4) (.seq (.seq (.reg r87_5) (.block 0 (.loop (.seq (.reg r87_6) (.seq (.cond (.tmp 16) .skip (.exit 0)) (.seq (.block 1 (.seq (.reg r87_7) (.seq (.reg r87_8) (.block 2 (.loop (.seq (.reg r87_9) (.seq (.cond (.tmp 20) .skip (.exit 2)) (.seq (.block 3 (.seq (.reg r87_10) (.reg r87_11))) (.reg r87_12))))))))) (.reg r87_13))))))) (.seq (.reg r87_14) .ret)))))
def f87 : TFun := ⟨c87, 38, [.cell 2 146, .tmp 3]⟩
def r88_0 : List TOper := [⟨(some 2), .assign (.const (.int .i64 0)), 3, none, [], 0⟩]
def r88_1 : List TOper := [⟨(some 3), .assign (.const (.int .i64 1)), 3, none, [], 0⟩]
def r88_2 : List TOper := [⟨(some 4), .assign (.const (.int .i64 0)), 3, none, [], 0⟩]
def r88_3 : List TOper := [⟨(some 5), .move (.tmp 4), 3, none, [], 0⟩,
  ⟨(some 6), .move (.tmp 0), 115, none, [], 1⟩,
  ⟨(some 7), .call ⟨.builtin .len, #[(.tmp 6)], #[115]⟩, 3, none, [], 2⟩,
  ⟨(some 8), .binOp .lss 3 (.tmp 5) (.tmp 7) 3, 4, none, [], 3⟩]
def r88_4 : List TOper := [⟨(some 11), .move (.tmp 3), 3, none, [], 0⟩,
  ⟨(some 12), .binOp .mul 3 (.const (.int .i64 271)) (.tmp 11) 3, 3, none, [], 1⟩,
  ⟨(some 13), .move (.tmp 0), 115, none, [], 2⟩,
  ⟨(some 14), .move (.tmp 4), 3, none, [], 3⟩,
  ⟨(some 15), .indexAddr 115 (.tmp 13) (.tmp 14), 0, none, [], 4⟩,
  ⟨(some 16), .load 5 (.tmp 15), 5, none, [], 5⟩,
  ⟨(some 17), .convert 5 3 (.tmp 16), 3, none, [], 6⟩,
  ⟨(some 18), .binOp .add 3 (.tmp 12) (.tmp 17) 3, 3, none, [], 7⟩,
  ⟨(some 19), .binOp .rem 3 (.tmp 18) (.const (.int .i64 16777213)) 3, 3, none, [], 8⟩,
  ⟨(some 3), .assign (.tmp 19), 3, none, [], 9⟩]
def r88_5 : List TOper := [⟨(some 9), .move (.tmp 4), 3, none, [], 0⟩,
  ⟨(some 10), .binOp .add 3 (.tmp 9) (.const (.int .i64 1)) 3, 3, none, [], 1⟩,
  ⟨(some 4), .assign (.tmp 10), 3, none, [], 2⟩]
def r88_6 : List TOper := [⟨(some 20), .move (.tmp 3), 3, none, [], 0⟩,
  ⟨(some 2), .assign (.tmp 20), 3, none, [], 1⟩]
def c88 : TCode := (.seq (.reg r88_0) (.seq (.reg r88_1) (.seq (.seq (.reg r88_2) (.block 0 (.loop (.seq (.seq (.reg r88_3) (.cond (.tmp 8) .skip (.exit 0))) (.seq (.block 1 (.reg r88_4)) (.reg r88_5)))))) (.seq (.reg r88_6) .ret))))
def f88 : TFun := ⟨c88, 21, [.tmp 2]⟩
def r89_0 : List TOper := [⟨(some 2), .assign (.const (.int .i64 0)), 30, none, [], 0⟩]
def r89_1 : List TOper := [⟨(some 5), .move (.tmp 0), 195, none, [], 0⟩,
  ⟨(some 6), .call ⟨.builtin .len, #[(.tmp 5)], #[195]⟩, 3, none, [], 1⟩,
  ⟨(some 7), .move (.const (.int .i64 0)), 3, none, [], 2⟩]
def r89_2 : List TOper := [⟨(some 8), .binOp .lss 3 (.tmp 7) (.tmp 6) 3, 0, none, [], 0⟩]
def r89_3 : List TOper := [⟨(some 9), .indexAddr 195 (.tmp 5) (.tmp 7), 0, none, [], 0⟩,
  ⟨(some 10), .load 30 (.tmp 9), 30, none, [], 1⟩,
  ⟨(some 4), .assign (.tmp 10), 30, none, [], 2⟩]
def r89_4 : List TOper := [⟨(some 11), .move (.tmp 4), 30, none, [], 0⟩,
  ⟨(some 12), .binOp .neq 30 (.tmp 11) (.const (.int .i64 0)) 30, 4, none, [], 1⟩]
def r89_5 : List TOper := [⟨(some 13), .move (.tmp 4), 30, none, [], 0⟩,
  ⟨(some 2), .assign (.tmp 13), 30, none, [], 1⟩]
def r89_6 : List TOper := [⟨(some 14), .binOp .add 3 (.tmp 7) (.const (.int .i64 1)) 3, 3, none, [], 0⟩,
  ⟨(some 7), .move (.tmp 14), 3, none, [], 1⟩]
def r89_7 : List TOper := [⟨(some 2), .assign (.const (.int .i64 0)), 30, none, [], 0⟩]
def c89 : TCode := (.seq (.reg r89_0) (.seq (.seq (.reg r89_1) (.block 0 (.loop (.seq (.reg r89_2) (.seq (.cond (.tmp 8) .skip (.exit 0)) (.seq (.block 1 (.seq (.reg r89_3) (.seq (.reg r89_4) (.cond (.tmp 12) (.seq (.reg r89_5) .ret) .skip)))) (.reg r89_6))))))) (.seq (.reg r89_7) .ret)))
def f89 : TFun := ⟨c89, 15, [.tmp 2]⟩
def r90_0 : List TOper := [⟨(some 6), .assign (.const (.int .i64 0)), 30, none, [], 0⟩]
def r90_1 : List TOper := [⟨(some 7), .move (.tmp 0), 3, none, [], 0⟩,
  ⟨(some 8), .move (.tmp 1), 3, none, [], 1⟩,
  ⟨(some 9), .binOp .lss 3 (.tmp 7) (.tmp 8) 3, 4, none, [], 2⟩,
  ⟨(some 10), .move (.tmp 9), 4, none, [], 3⟩,
  ⟨(some 11), .move (.tmp 0), 3, (some (10, false)), [], 4⟩,
  ⟨(some 12), .move (.tmp 2), 3, (some (10, false)), [], 5⟩,
  ⟨(some 13), .binOp .gtr 3 (.tmp 11) (.tmp 12) 3, 4, (some (10, false)), [], 6⟩,
  ⟨(some 14), .pick (.tmp 10) (.const (.bool true)) (.tmp 13), 4, none, [], 7⟩,
  ⟨(some 15), .call ⟨.value (.func 95), #[(.tmp 14), (.const (.int .i64 3))], #[4, 30]⟩, 30, none, [], 8⟩,
  ⟨(some 6), .assign (.tmp 15), 30, none, [], 9⟩]
def c90 : TCode := (.seq (.reg r90_0) (.seq (.reg r90_1) .ret))
def f90 : TFun := ⟨c90, 16, [.tmp 6]⟩
def r91_0 : List TOper := [⟨(some 2), .assign (.const (.bool false)), 4, none, [], 0⟩]
def r91_1 : List TOper := [⟨(some 3), .move (.tmp 0), 21, none, [], 0⟩,
  ⟨(some 4), .binOp .leq 21 (.const (.int .i32 65)) (.tmp 3) 21, 4, none, [], 1⟩,
  ⟨(some 5), .move (.tmp 4), 4, none, [], 2⟩,
  ⟨(some 6), .move (.tmp 0), 21, (some (5, true)), [], 3⟩,
  ⟨(some 7), .binOp .leq 21 (.tmp 6) (.const (.int .i32 90)) 21, 4, (some (5, true)), [], 4⟩,
  ⟨(some 8), .pick (.tmp 5) (.tmp 7) (.const (.bool false)), 4, none, [], 5⟩,
  ⟨(some 9), .move (.tmp 8), 4, none, [], 6⟩,
  ⟨(some 10), .move (.tmp 0), 21, (some (9, false)), [], 7⟩,
  ⟨(some 11), .binOp .leq 21 (.const (.int .i32 97)) (.tmp 10) 21, 4, (some (9, false)), [], 8⟩,
  ⟨(some 12), .move (.tmp 11), 4, (some (9, false)), [], 9⟩,
  ⟨(some 13), .move (.tmp 0), 21, (some (12, true)), [], 10⟩,
  ⟨(some 14), .binOp .leq 21 (.tmp 13) (.const (.int .i32 122)) 21, 4, (some (12, true)), [], 11⟩,
  ⟨(some 15), .pick (.tmp 12) (.tmp 14) (.const (.bool false)), 4, (some (9, false)), [], 12⟩,
  ⟨(some 16), .pick (.tmp 9) (.const (.bool true)) (.tmp 15), 4, none, [], 13⟩,
  ⟨(some 2), .assign (.tmp 16), 4, none, [], 14⟩]
def c91 : TCode := (.seq (.reg r91_0) (.seq (.reg r91_1) .ret))
def f91 : TFun := ⟨c91, 17, [.tmp 2]⟩
def r92_0 : List TOper := [⟨(some 2), .assign (.const (.bool false)), 4, none, [], 0⟩]
def r92_1 : List TOper := [⟨(some 3), .move (.tmp 0), 21, none, [], 0⟩,
  ⟨(some 4), .binOp .leq 21 (.const (.int .i32 48)) (.tmp 3) 21, 4, none, [], 1⟩,
  ⟨(some 5), .move (.tmp 4), 4, none, [], 2⟩,
  ⟨(some 6), .move (.tmp 0), 21, (some (5, true)), [], 3⟩,
  ⟨(some 7), .binOp .leq 21 (.tmp 6) (.const (.int .i32 57)) 21, 4, (some (5, true)), [], 4⟩,
  ⟨(some 8), .pick (.tmp 5) (.tmp 7) (.const (.bool false)), 4, none, [], 5⟩,
  ⟨(some 2), .assign (.tmp 8), 4, none, [], 6⟩]
def c92 : TCode := (.seq (.reg r92_0) (.seq (.reg r92_1) .ret))
def f92 : TFun := ⟨c92, 9, [.tmp 2]⟩
def r93_0 : List TOper := [⟨(some 2), .assign (.const (.bool false)), 4, none, [], 0⟩]
def r93_1 : List TOper := [⟨(some 3), .move (.tmp 0), 5, none, [], 0⟩,
  ⟨(some 4), .binOp .leq 5 (.const (.int .u8 65)) (.tmp 3) 5, 4, none, [], 1⟩,
  ⟨(some 5), .move (.tmp 4), 4, none, [], 2⟩,
  ⟨(some 6), .move (.tmp 0), 5, (some (5, true)), [], 3⟩,
  ⟨(some 7), .binOp .leq 5 (.tmp 6) (.const (.int .u8 90)) 5, 4, (some (5, true)), [], 4⟩,
  ⟨(some 8), .pick (.tmp 5) (.tmp 7) (.const (.bool false)), 4, none, [], 5⟩,
  ⟨(some 9), .move (.tmp 8), 4, none, [], 6⟩,
  ⟨(some 10), .move (.tmp 0), 5, (some (9, false)), [], 7⟩,
  ⟨(some 11), .binOp .leq 5 (.const (.int .u8 97)) (.tmp 10) 5, 4, (some (9, false)), [], 8⟩,
  ⟨(some 12), .move (.tmp 11), 4, (some (9, false)), [], 9⟩,
  ⟨(some 13), .move (.tmp 0), 5, (some (12, true)), [], 10⟩,
  ⟨(some 14), .binOp .leq 5 (.tmp 13) (.const (.int .u8 122)) 5, 4, (some (12, true)), [], 11⟩,
  ⟨(some 15), .pick (.tmp 12) (.tmp 14) (.const (.bool false)), 4, (some (9, false)), [], 12⟩,
  ⟨(some 16), .pick (.tmp 9) (.const (.bool true)) (.tmp 15), 4, none, [], 13⟩,
  ⟨(some 2), .assign (.tmp 16), 4, none, [], 14⟩]
def c93 : TCode := (.seq (.reg r93_0) (.seq (.reg r93_1) .ret))
def f93 : TFun := ⟨c93, 17, [.tmp 2]⟩
def r94_0 : List TOper := [⟨(some 2), .assign (.const (.bool false)), 4, none, [], 0⟩]
def r94_1 : List TOper := [⟨(some 3), .move (.tmp 0), 5, none, [], 0⟩,
  ⟨(some 4), .binOp .leq 5 (.const (.int .u8 48)) (.tmp 3) 5, 4, none, [], 1⟩,
  ⟨(some 5), .move (.tmp 4), 4, none, [], 2⟩,
  ⟨(some 6), .move (.tmp 0), 5, (some (5, true)), [], 3⟩,
  ⟨(some 7), .binOp .leq 5 (.tmp 6) (.const (.int .u8 57)) 5, 4, (some (5, true)), [], 4⟩,
  ⟨(some 8), .pick (.tmp 5) (.tmp 7) (.const (.bool false)), 4, none, [], 5⟩,
  ⟨(some 2), .assign (.tmp 8), 4, none, [], 6⟩]
def c94 : TCode := (.seq (.reg r94_0) (.seq (.reg r94_1) .ret))
def f94 : TFun := ⟨c94, 9, [.tmp 2]⟩
def r95_0 : List TOper := [⟨(some 4), .assign (.const (.int .i64 0)), 30, none, [], 0⟩]
def r95_1 : List TOper := [⟨(some 5), .move (.tmp 0), 4, none, [], 0⟩]
def r95_2 : List TOper := [⟨(some 6), .move (.tmp 1), 30, none, [], 0⟩,
  ⟨(some 4), .assign (.tmp 6), 30, none, [], 1⟩]
def r95_3 : List TOper := [⟨(some 4), .assign (.const (.int .i64 0)), 30, none, [], 0⟩]
def c95 : TCode := (.seq (.reg r95_0) (.seq (.seq (.reg r95_1) (.cond (.tmp 5) (.seq (.reg r95_2) .ret) .skip)) (.seq (.reg r95_3) .ret)))
def f95 : TFun := ⟨c95, 7, [.tmp 4]⟩
def r96_0 : List TOper := [⟨(some 4), .assign (.const (.int .i64 0)), 3, none, [], 0⟩]
def r96_1 : List TOper := [⟨(some 5), .move (.tmp 0), 3, none, [], 0⟩,
  ⟨(some 6), .move (.tmp 0), 3, none, [], 1⟩,
  ⟨(some 7), .unOp .neg 3 (.tmp 6), 3, none, [], 2⟩,
  ⟨(some 8), .call ⟨.builtin .max, #[(.tmp 5), (.tmp 7)], #[3, 3]⟩, 3, none, [], 3⟩,
  ⟨(some 0), .assign (.tmp 8), 3, none, [], 4⟩]
def r96_2 : List TOper := [⟨(some 9), .move (.tmp 0), 3, none, [], 0⟩,
  ⟨(some 10), .binOp .neq 3 (.tmp 9) (.const (.int .i64 0)) 3, 4, none, [], 1⟩]
def r96_3 : List TOper := [⟨(some 11), .move (.tmp 1), 3, none, [], 0⟩,
  ⟨(some 12), .move (.tmp 0), 3, none, [], 1⟩,
  ⟨(some 13), .binOp .rem 3 (.tmp 11) (.tmp 12) 3, 3, none, [], 2⟩,
  ⟨(some 14), .move (.tmp 0), 3, none, [], 3⟩,
  ⟨(some 0), .assign (.tmp 13), 3, none, [], 4⟩,
  ⟨(some 1), .assign (.tmp 14), 3, none, [], 5⟩]
def r96_4 : List TOper := [⟨(some 15), .move (.tmp 1), 3, none, [], 0⟩,
  ⟨(some 4), .assign (.tmp 15), 3, none, [], 1⟩]
def c96 : TCode := (.seq (.reg r96_0) (.seq (.reg r96_1) (.seq (.block 0 (.loop (.seq (.seq (.reg r96_2) (.cond (.tmp 10) .skip (.exit 0))) (.block 1 (.reg r96_3))))) (.seq (.reg r96_4) .ret))))
def f96 : TFun := ⟨c96, 16, [.tmp 4]⟩
def r97_0 : List TOper := [⟨(some 4), .assign (.const (.int .i64 0)), 3, none, [], 0⟩]
def r97_1 : List TOper := [⟨(some 5), .move (.tmp 0), 3, none, [], 0⟩,
  ⟨(some 6), .move (.tmp 0), 3, none, [], 1⟩,
  ⟨(some 7), .binOp .sub 3 (.const (.int .i64 0)) (.tmp 6) 3, 3, none, [], 2⟩,
  ⟨(some 8), .call ⟨.builtin .max, #[(.tmp 5), (.tmp 7)], #[3, 3]⟩, 3, none, [], 3⟩,
  ⟨(some 9), .move (.tmp 1), 3, none, [], 4⟩,
  ⟨(some 10), .move (.tmp 1), 3, none, [], 5⟩,
  ⟨(some 11), .binOp .sub 3 (.const (.int .i64 0)) (.tmp 10) 3, 3, none, [], 6⟩,
  ⟨(some 12), .call ⟨.builtin .max, #[(.tmp 9), (.tmp 11)], #[3, 3]⟩, 3, none, [], 7⟩,
  ⟨(some 0), .assign (.tmp 8), 3, none, [], 8⟩,
  ⟨(some 1), .assign (.tmp 12), 3, none, [], 9⟩]
def r97_2 : List TOper := [⟨(some 13), .move (.tmp 1), 3, none, [], 0⟩,
  ⟨(some 14), .binOp .gtr 3 (.tmp 13) (.const (.int .i64 0)) 3, 4, none, [], 1⟩]
def r97_3 : List TOper := [⟨(some 15), .move (.tmp 1), 3, none, [], 0⟩,
  ⟨(some 16), .move (.tmp 0), 3, none, [], 1⟩,
  ⟨(some 17), .move (.tmp 1), 3, none, [], 2⟩,
  ⟨(some 18), .binOp .rem 3 (.tmp 16) (.tmp 17) 3, 3, none, [], 3⟩,
  ⟨(some 0), .assign (.tmp 15), 3, none, [], 4⟩,
  ⟨(some 1), .assign (.tmp 18), 3, none, [], 5⟩]
def r97_4 : List TOper := [⟨(some 19), .move (.tmp 0), 3, none, [], 0⟩,
  ⟨(some 4), .assign (.tmp 19), 3, none, [], 1⟩]
def c97 : TCode := (.seq (.reg r97_0) (.seq (.reg r97_1) (.seq (.block 0 (.loop (.seq (.seq (.reg r97_2) (.cond (.tmp 14) .skip (.exit 0))) (.block 1 (.reg r97_3))))) (.seq (.reg r97_4) .ret))))
def f97 : TFun := ⟨c97, 20, [.tmp 4]⟩
def r98_0 : List TOper := [⟨(some 2), .assign (.const (.bool false)), 4, none, [], 0⟩]
def r98_1 : List TOper := [⟨(some 3), .move (.tmp 0), 25, none, [], 0⟩,
  ⟨(some 4), .convert 25 241 (.tmp 3), 241, none, [], 1⟩,
  ⟨(some 5), .call ⟨.value (.func 169), #[(.tmp 4)], #[241]⟩, 4, none, [], 2⟩,
  ⟨(some 6), .unOp .not 4 (.tmp 5), 4, none, [], 3⟩,
  ⟨(some 7), .move (.tmp 6), 4, none, [], 4⟩,
  ⟨(some 8), .move (.tmp 0), 25, (some (7, true)), [], 5⟩,
  ⟨(some 9), .convert 25 241 (.tmp 8), 241, (some (7, true)), [], 6⟩,
  ⟨(some 10), .call ⟨.value (.func 170), #[(.tmp 9), (.const (.int .i64 0))], #[241, 3]⟩, 4, (some (7, true)), [], 7⟩,
  ⟨(some 11), .unOp .not 4 (.tmp 10), 4, (some (7, true)), [], 8⟩,
  ⟨(some 12), .pick (.tmp 7) (.tmp 11) (.const (.bool false)), 4, none, [], 9⟩,
  ⟨(some 2), .assign (.tmp 12), 4, none, [], 10⟩]
def c98 : TCode := (.seq (.reg r98_0) (.seq (.reg r98_1) .ret))
def f98 : TFun := ⟨c98, 13, [.tmp 2]⟩
def r99_0 : List TOper := [⟨(some 4), .assign (.const (.bool false)), 4, none, [], 0⟩]
def r99_1 : List TOper := [⟨(some 6), .move (.tmp 0), 25, none, [], 0⟩,
  ⟨(some 7), .convert 25 241 (.tmp 6), 241, none, [], 1⟩,
  ⟨(some 8), .binOp .mul 241 (.const (.float .f64 4625196817309499392)) (.tmp 7) 241, 241, none, [], 2⟩,
  ⟨(some 5), .assign (.tmp 8), 241, none, [], 3⟩]
def r99_2 : List TOper := [⟨(some 9), .move (.tmp 5), 241, none, [], 0⟩,
  ⟨(some 10), .call ⟨.value (.func 171), #[(.tmp 9)], #[241]⟩, 241, none, [], 1⟩,
  ⟨(some 11), .move (.tmp 1), 3, none, [], 2⟩,
  ⟨(some 12), .binOp .mul 3 (.const (.int .i64 16)) (.tmp 11) 3, 3, none, [], 3⟩,
  ⟨(some 13), .convert 3 241 (.tmp 12), 241, none, [], 4⟩,
  ⟨(some 14), .binOp .leq 241 (.tmp 10) (.tmp 13) 241, 4, none, [], 5⟩,
  ⟨(some 15), .move (.tmp 14), 4, none, [], 6⟩,
  ⟨(some 16), .move (.tmp 5), 241, (some (15, true)), [], 7⟩,
  ⟨(some 17), .move (.tmp 5), 241, (some (15, true)), [], 8⟩,
  ⟨(some 18), .call ⟨.value (.func 172), #[(.tmp 17)], #[241]⟩, 241, (some (15, true)), [], 9⟩,
  ⟨(some 19), .binOp .eql 241 (.tmp 16) (.tmp 18) 241, 4, (some (15, true)), [], 10⟩,
  ⟨(some 20), .pick (.tmp 15) (.tmp 19) (.const (.bool false)), 4, none, [], 11⟩,
  ⟨(some 4), .assign (.tmp 20), 4, none, [], 12⟩]
def c99 : TCode := (.seq (.reg r99_0) (.seq (.reg r99_1) (.seq (.reg r99_2) .ret)))
def f99 : TFun := ⟨c99, 21, [.tmp 4]⟩
def r100_0 : List TOper := [⟨(some 4), .assign (.const (.int .i64 0)), 3, none, [], 0⟩]
def r100_1 : List TOper := [⟨(some 5), .move (.tmp 0), 25, none, [], 0⟩,
  ⟨(some 6), .move (.tmp 0), 25, none, [], 1⟩,
  ⟨(some 7), .binOp .neq 25 (.tmp 5) (.tmp 6) 25, 4, none, [], 2⟩,
  ⟨(some 8), .move (.tmp 7), 4, none, [], 3⟩,
  ⟨(some 9), .move (.tmp 0), 25, (some (8, false)), [], 4⟩,
  ⟨(some 10), .binOp .gtr 25 (.tmp 9) (.const (.float .f32 2139095039)) 25, 4, (some (8, false)), [], 5⟩,
  ⟨(some 11), .pick (.tmp 8) (.const (.bool true)) (.tmp 10), 4, none, [], 6⟩,
  ⟨(some 12), .move (.tmp 11), 4, none, [], 7⟩,
  ⟨(some 13), .move (.tmp 0), 25, (some (12, false)), [], 8⟩,
  ⟨(some 14), .binOp .lss 25 (.tmp 13) (.const (.float .f32 4286578687)) 25, 4, (some (12, false)), [], 9⟩,
  ⟨(some 15), .pick (.tmp 12) (.const (.bool true)) (.tmp 14), 4, none, [], 10⟩]
def r100_2 : List TOper := [⟨(some 4), .assign (.const (.int .i64 1)), 3, none, [], 0⟩]
def r100_3 : List TOper := [⟨(some 16), .move (.tmp 0), 25, none, [], 0⟩,
  ⟨(some 17), .move (.tmp 1), 3, none, [], 1⟩,
  ⟨(some 18), .binOp .sub 3 (.const (.int .i64 0)) (.tmp 17) 3, 3, none, [], 2⟩,
  ⟨(some 19), .convert 3 25 (.tmp 18), 25, none, [], 3⟩,
  ⟨(some 20), .binOp .lss 25 (.tmp 16) (.tmp 19) 25, 4, none, [], 4⟩,
  ⟨(some 21), .move (.tmp 20), 4, none, [], 5⟩,
  ⟨(some 22), .move (.tmp 0), 25, (some (21, false)), [], 6⟩,
  ⟨(some 23), .move (.tmp 1), 3, (some (21, false)), [], 7⟩,
  ⟨(some 24), .convert 3 25 (.tmp 23), 25, (some (21, false)), [], 8⟩,
  ⟨(some 25), .binOp .gtr 25 (.tmp 22) (.tmp 24) 25, 4, (some (21, false)), [], 9⟩,
  ⟨(some 26), .pick (.tmp 21) (.const (.bool true)) (.tmp 25), 4, none, [], 10⟩,
  ⟨(some 27), .move (.tmp 26), 4, none, [], 11⟩,
  ⟨(some 28), .move (.tmp 0), 25, (some (27, false)), [], 12⟩,
  ⟨(some 29), .binOp .mul 25 (.const (.float .f32 1098907648)) (.tmp 28) 25, 25, (some (27, false)), [], 13⟩,
  ⟨(some 30), .convert 25 3 (.tmp 29), 3, (some (27, false)), [], 14⟩,
  ⟨(some 31), .convert 3 25 (.tmp 30), 25, (some (27, false)), [], 15⟩,
  ⟨(some 32), .move (.tmp 0), 25, (some (27, false)), [], 16⟩,
  ⟨(some 33), .binOp .mul 25 (.const (.float .f32 1098907648)) (.tmp 32) 25, 25, (some (27, false)), [], 17⟩,
  ⟨(some 34), .binOp .neq 25 (.tmp 31) (.tmp 33) 25, 4, (some (27, false)), [], 18⟩,
  ⟨(some 35), .pick (.tmp 27) (.const (.bool true)) (.tmp 34), 4, none, [], 19⟩]
def r100_4 : List TOper := [⟨(some 4), .assign (.const (.int .i64 3)), 3, none, [], 0⟩]
def r100_5 : List TOper := [⟨(some 4), .assign (.const (.int .i64 0)), 3, none, [], 0⟩]
def c100 : TCode := (.seq (.reg r100_0) (.seq (.seq (.reg r100_1) (.cond (.tmp 15) (.seq (.reg r100_2) .ret) .skip)) (.seq (.seq (.reg r100_3) (.cond (.tmp 35) (.seq (.reg r100_4) .ret) .skip)) (.seq (.reg r100_5) .ret))))
def f100 : TFun := ⟨c100, 36, [.tmp 4]⟩
def r102_0 : List TOper := [⟨(some 1), .box 52 (.tmp 0), 0, none, [], 0⟩,
  ⟨(some 2), .assign (.const (.int .i64 0)), 3, none, [], 1⟩]
def r102_1 : List TOper := [⟨(some 3), .fieldAddr 52 (.tmp 1) 1, 0, none, [], 0⟩,
  ⟨(some 4), .load 3 (.tmp 3), 3, none, [], 1⟩,
  ⟨(some 5), .fieldAddr 52 (.tmp 1) 2, 0, none, [], 2⟩,
  ⟨(some 6), .load 43 (.tmp 5), 43, none, [], 3⟩,
  ⟨(some 7), .call ⟨.builtin .len, #[(.tmp 6)], #[43]⟩, 3, none, [], 4⟩,
  ⟨(some 8), .binOp .add 3 (.tmp 4) (.tmp 7) 3, 3, none, [], 5⟩,
  ⟨(some 2), .assign (.tmp 8), 3, none, [], 6⟩]
def c102 : TCode := (.seq (.reg r102_0) (.seq (.reg r102_1) .ret))
def f102 : TFun := ⟨c102, 9, [.tmp 2]⟩
def r103_0 : List TOper := [⟨(some 1), .box 52 (.tmp 0), 0, none, [], 0⟩,
  ⟨(some 2), .assign (.const (.slice none 0 0)), 164, none, [], 1⟩]
def r103_1 : List TOper := [⟨(some 6), .fieldAddr 52 (.tmp 1) 2, 0, none, [], 0⟩,
  ⟨(some 7), .load 43 (.tmp 6), 43, none, [], 1⟩,
  ⟨(some 8), .call ⟨.value (.func 173), #[(.tmp 7), (.func 174)], #[43, 245]⟩, 164, none, [], 2⟩,
  ⟨(some 3), .assign (.tmp 8), 164, none, [], 3⟩]
def r103_2 : List TOper := [⟨(some 9), .fieldAddr 52 (.tmp 1) 3, 0, none, [], 0⟩,
  ⟨(some 10), .load 44 (.tmp 9), 44, none, [], 1⟩,
  ⟨(some 11), .call ⟨.builtin .len, #[(.tmp 10)], #[44]⟩, 3, none, [], 2⟩,
  ⟨(some 12), .move (.const (.int .i64 0)), 3, none, [], 3⟩]
def r103_3 : List TOper := [⟨(some 13), .binOp .lss 3 (.tmp 12) (.tmp 11) 3, 0, none, [], 0⟩]
def r103_4 : List TOper := [⟨(some 14), .indexAddr 44 (.tmp 10) (.tmp 12), 0, none, [], 0⟩,
  ⟨(some 15), .load 48 (.tmp 14), 48, none, [], 1⟩,
  ⟨(some 5), .alloc 48, 0, none, [], 2⟩,
  ⟨none, .store 48 (.tmp 5) (.tmp 15), 0, none, [], 3⟩]
def r103_5 : List TOper := [⟨(some 16), .move (.tmp 3), 164, none, [], 0⟩,
  ⟨(some 17), .fieldAddr 48 (.tmp 5) 0, 0, none, [], 1⟩,
  ⟨(some 18), .load 3 (.tmp 17), 3, none, [], 2⟩,
  ⟨(some 19), .fieldAddr 48 (.tmp 5) 1, 0, none, [], 3⟩,
  ⟨(some 20), .load 3 (.tmp 19), 3, none, [], 4⟩,
  ⟨(some 21), .slice 164 (.tmp 16) (some (.tmp 18)) (some (.tmp 20)) none, 164, none, [], 5⟩,
  ⟨none, .call ⟨.builtin .clear, #[(.tmp 21)], #[164]⟩, 0, none, [], 6⟩]
def r103_6 : List TOper := [⟨(some 22), .binOp .add 3 (.tmp 12) (.const (.int .i64 1)) 3, 3, none, [], 0⟩,
  ⟨(some 12), .move (.tmp 22), 3, none, [], 1⟩]
def r103_7 : List TOper := [⟨(some 23), .move (.tmp 3), 164, none, [], 0⟩,
  ⟨(some 2), .assign (.tmp 23), 164, none, [], 1⟩]
def c103 : TCode := (.seq (.reg r103_0) (.seq (.reg r103_1) (.seq (.seq (.reg r103_2) (.block 0 (.loop (.seq (.reg r103_3) (.seq (.cond (.tmp 13) .skip (.exit 0)) (.seq (.block 1 (.seq (.reg r103_4) (.reg r103_5))) (.reg r103_6))))))) (.seq (.reg r103_7) .ret))))
def f103 : TFun := ⟨c103, 24, [.tmp 2]⟩
def r104_0 : List TOper := [⟨(some 2), .assign (.const (.float .f32 0)), 25, none, [], 0⟩]
def r104_1 : List TOper := [⟨(some 3), .move (.tmp 0), 3, none, [], 0⟩,
  ⟨(some 4), .convert 3 25 (.tmp 3), 25, none, [], 1⟩,
  ⟨(some 5), .binOp .quo 25 (.tmp 4) (.const (.float .f32 1098907648)) 25, 25, none, [], 2⟩,
  ⟨(some 2), .assign (.tmp 5), 25, none, [], 3⟩]
def c104 : TCode := (.seq (.reg r104_0) (.seq (.reg r104_1) .ret))
def f104 : TFun := ⟨c104, 6, [.tmp 2]⟩
def r106_0 : List TOper := [⟨(some 2), .assign (.const (.slice none 0 0)), 29, none, [], 0⟩]
def r106_1 : List TOper := [⟨(some 3), .assign (.const (.slice none 0 0)), 29, none, [], 0⟩]
def r106_2 : List TOper := [⟨(some 6), .move (.tmp 0), 164, none, [], 0⟩,
  ⟨(some 7), .call ⟨.builtin .len, #[(.tmp 6)], #[164]⟩, 3, none, [], 1⟩,
  ⟨(some 8), .move (.const (.int .i64 0)), 3, none, [], 2⟩]
def r106_3 : List TOper := [⟨(some 9), .binOp .lss 3 (.tmp 8) (.tmp 7) 3, 0, none, [], 0⟩]
def r106_4 : List TOper := [⟨(some 10), .indexAddr 164 (.tmp 6) (.tmp 8), 0, none, [], 0⟩,
  ⟨(some 11), .load 163 (.tmp 10), 163, none, [], 1⟩,
  ⟨(some 5), .alloc 163, 0, none, [], 2⟩,
  ⟨none, .store 163 (.tmp 5) (.tmp 11), 0, none, [], 3⟩]
def r106_5 : List TOper := [⟨(some 12), .fieldAddr 163 (.tmp 5) 1, 0, none, [], 0⟩,
  ⟨(some 13), .load 4 (.tmp 12), 4, none, [], 1⟩]
def r106_6 : List TOper := [⟨(some 14), .move (.tmp 3), 29, none, [], 0⟩,
  ⟨(some 15), .fieldAddr 163 (.tmp 5) 0, 0, none, [], 1⟩,
  ⟨(some 16), .load 3 (.tmp 15), 3, none, [], 2⟩,
  ⟨(some 17), .buildSlice 29 1 #[(0, (.tmp 16))], 29, none, [], 3⟩,
  ⟨(some 18), .call ⟨.builtin .append, #[(.tmp 14), (.tmp 17)], #[29, 29]⟩, 29, none, [], 4⟩,
  ⟨(some 3), .assign (.tmp 18), 29, none, [], 5⟩]
def r106_7 : List TOper := [⟨(some 19), .binOp .add 3 (.tmp 8) (.const (.int .i64 1)) 3, 3, none, [], 0⟩,
  ⟨(some 8), .move (.tmp 19), 3, none, [], 1⟩]
def r106_8 : List TOper := [⟨(some 20), .move (.tmp 3), 29, none, [], 0⟩,
  ⟨(some 2), .assign (.tmp 20), 29, none, [], 1⟩]
def c106 : TCode := (.seq (.reg r106_0) (.seq (.reg r106_1) (.seq (.seq (.reg r106_2) (.block 0 (.loop (.seq (.reg r106_3) (.seq (.cond (.tmp 9) .skip (.exit 0)) (.seq (.block 1 (.seq (.reg r106_4) (.seq (.reg r106_5) (.cond (.tmp 13) (.reg r106_6) .skip)))) (.reg r106_7))))))) (.seq (.reg r106_8) .ret))))
def f106 : TFun := ⟨c106, 21, [.tmp 2]⟩
def r107_0 : List TOper := [⟨(some 6), .alloc 52, 0, none, [], 0⟩]
def r107_1 : List TOper := [⟨(some 8), .move (.tmp 2), 164, none, [], 0⟩,
  ⟨(some 9), .call ⟨.value (.func 175), #[(.tmp 8), (.func 176)], #[164, 247]⟩, 43, none, [], 1⟩,
  ⟨(some 7), .assign (.tmp 9), 43, none, [], 2⟩]
def r107_2 : List TOper := [⟨(some 10), .move (.tmp 0), 9, none, [], 0⟩,
  ⟨(some 11), .move (.tmp 1), 3, none, [], 1⟩,
  ⟨(some 12), .move (.tmp 7), 43, none, [], 2⟩,
  ⟨(some 13), .move (.tmp 2), 164, none, [], 3⟩,
  ⟨(some 14), .call ⟨.value (.func 177), #[(.tmp 13)], #[164]⟩, 44, none, [], 4⟩,
  ⟨(some 15), .build 52 #[(0, (.tmp 10)), (1, (.tmp 11)), (2, (.tmp 12)), (3, (.tmp 14))], 52, none, [], 5⟩,
  ⟨none, .store 52 (.tmp 6) (.tmp 15), 0, none, [], 6⟩]
def c107 : TCode := (.seq (.reg r107_0) (.seq (.reg r107_1) (.seq (.reg r107_2) .ret)))
def f107 : TFun := ⟨c107, 16, [.cell 6 52]⟩
def r108_0 : List TOper := [⟨(some 4), .move (.tmp 0), 164, none, [], 0⟩,
  ⟨(some 5), .call ⟨.builtin .len, #[(.tmp 4)], #[164]⟩, 3, none, [], 1⟩,
  ⟨(some 6), .binOp .sub 3 (.tmp 5) (.const (.int .i64 1)) 3, 3, none, [], 2⟩,
  ⟨(some 2), .assign (.const (.int .i64 0)), 3, none, [], 3⟩,
  ⟨(some 3), .assign (.tmp 6), 3, none, [], 4⟩]
def r108_1 : List TOper := [⟨(some 7), .move (.tmp 2), 3, none, [], 0⟩,
  ⟨(some 8), .move (.tmp 3), 3, none, [], 1⟩,
  ⟨(some 9), .binOp .lss 3 (.tmp 7) (.tmp 8) 3, 4, none, [], 2⟩]
def r108_2 : List TOper := [⟨(some 14), .move (.tmp 0), 164, none, [], 0⟩,
  ⟨(some 15), .move (.tmp 2), 3, none, [], 1⟩,
  ⟨(some 16), .move (.tmp 0), 164, none, [], 2⟩,
  ⟨(some 17), .move (.tmp 3), 3, none, [], 3⟩,
  ⟨(some 18), .move (.tmp 0), 164, none, [], 4⟩,
  ⟨(some 19), .move (.tmp 3), 3, none, [], 5⟩,
  ⟨(some 20), .indexAddr 164 (.tmp 18) (.tmp 19), 0, none, [], 6⟩,
  ⟨(some 21), .load 163 (.tmp 20), 163, none, [], 7⟩,
  ⟨(some 22), .move (.tmp 0), 164, none, [], 8⟩,
  ⟨(some 23), .move (.tmp 2), 3, none, [], 9⟩,
  ⟨(some 24), .indexAddr 164 (.tmp 22) (.tmp 23), 0, none, [], 10⟩,
  ⟨(some 25), .load 163 (.tmp 24), 163, none, [], 11⟩,
  ⟨(some 26), .indexAddr 164 (.tmp 14) (.tmp 15), 0, none, [], 12⟩,
  ⟨none, .store 163 (.tmp 26) (.tmp 21), 0, none, [], 13⟩,
  ⟨(some 27), .indexAddr 164 (.tmp 16) (.tmp 17), 0, none, [], 14⟩,
  ⟨none, .store 163 (.tmp 27) (.tmp 25), 0, none, [], 15⟩]
def r108_3 : List TOper := [⟨(some 10), .move (.tmp 2), 3, none, [], 0⟩,
  ⟨(some 11), .binOp .add 3 (.tmp 10) (.const (.int .i64 1)) 3, 3, none, [], 1⟩,
  ⟨(some 12), .move (.tmp 3), 3, none, [], 2⟩,
  ⟨(some 13), .binOp .sub 3 (.tmp 12) (.const (.int .i64 1)) 3, 3, none, [], 3⟩,
  ⟨(some 2), .assign (.tmp 11), 3, none, [], 4⟩,
  ⟨(some 3), .assign (.tmp 13), 3, none, [], 5⟩]
def c108 : TCode := (.seq (.reg r108_0) (.block 0 (.loop (.seq (.seq (.reg r108_1) (.cond (.tmp 9) .skip (.exit 0))) (.seq (.block 1 (.reg r108_2)) (.reg r108_3))))))
def f108 : TFun := ⟨c108, 28, []⟩
def r112_0 : List TOper := [⟨(some 2), .assign (.const (.int .i64 0)), 3, none, [], 0⟩]
def r112_1 : List TOper := [⟨(some 3), .move (.tmp 0), 25, none, [], 0⟩,
  ⟨(some 4), .binOp .mul 25 (.const (.float .f32 1098907648)) (.tmp 3) 25, 25, none, [], 1⟩,
  ⟨(some 5), .convert 25 3 (.tmp 4), 3, none, [], 2⟩,
  ⟨(some 2), .assign (.tmp 5), 3, none, [], 3⟩]
def c112 : TCode := (.seq (.reg r112_0) (.seq (.reg r112_1) .ret))
def f112 : TFun := ⟨c112, 6, [.tmp 2]⟩
def r114_0 : List TOper := [⟨(some 8), .alloc 46, 0, none, [], 0⟩]
def r114_1 : List TOper := [⟨(some 12), .move (.tmp 0), 9, none, [], 0⟩,
  ⟨(some 13), .move (.tmp 1), 3, none, [], 1⟩,
  ⟨(some 14), .build 46 #[(0, (.tmp 12)), (1, (.tmp 13))], 46, none, [], 2⟩,
  ⟨(some 9), .alloc 46, 0, none, [], 3⟩,
  ⟨none, .store 46 (.tmp 9) (.tmp 14), 0, none, [], 4⟩]
def r114_2 : List TOper := [⟨(some 10), .assign (.const (.int .i64 0)), 3, none, [], 0⟩]
def r114_3 : List TOper := [⟨(some 15), .move (.tmp 10), 3, none, [], 0⟩,
  ⟨(some 16), .move (.tmp 2), 29, none, [], 1⟩,
  ⟨(some 17), .call ⟨.builtin .len, #[(.tmp 16)], #[29]⟩, 3, none, [], 2⟩,
  ⟨(some 18), .binOp .lss 3 (.tmp 15) (.tmp 17) 3, 4, none, [], 3⟩]
def r114_4 : List TOper := [⟨(some 21), .move (.tmp 3), 173, none, [], 0⟩,
  ⟨(some 22), .move (.tmp 10), 3, none, [], 1⟩,
  ⟨(some 23), .indexAddr 173 (.tmp 21) (.tmp 22), 0, none, [], 2⟩,
  ⟨(some 24), .load 4 (.tmp 23), 4, none, [], 3⟩]
def r114_5 : List TOper := [⟨(some 25), .fieldAddr 46 (.tmp 9) 2, 0, none, [], 0⟩,
  ⟨(some 26), .load 43 (.tmp 25), 43, none, [], 1⟩,
  ⟨(some 27), .move (.tmp 2), 29, none, [], 2⟩,
  ⟨(some 28), .move (.tmp 10), 3, none, [], 3⟩,
  ⟨(some 29), .indexAddr 29 (.tmp 27) (.tmp 28), 0, none, [], 4⟩,
  ⟨(some 30), .load 3 (.tmp 29), 3, none, [], 5⟩,
  ⟨(some 31), .call ⟨.value (.func 179), #[(.tmp 30)], #[3]⟩, 25, none, [(.tmp 25)], 6⟩,
  ⟨(some 32), .buildSlice 43 1 #[(0, (.tmp 31))], 43, none, [], 7⟩,
  ⟨(some 33), .call ⟨.builtin .append, #[(.tmp 26), (.tmp 32)], #[43, 43]⟩, 43, none, [], 8⟩,
  ⟨(some 34), .fieldAddr 46 (.tmp 9) 2, 0, none, [], 9⟩,
  ⟨none, .store 43 (.tmp 34) (.tmp 33), 0, none, [], 10⟩]
def r114_6 : List TOper := [⟨(some 35), .fieldAddr 46 (.tmp 9) 2, 0, none, [], 0⟩,
  ⟨(some 36), .load 43 (.tmp 35), 43, none, [], 1⟩,
  ⟨(some 37), .buildSlice 43 1 #[(0, (.const (.float .f32 0)))], 43, none, [], 2⟩,
  ⟨(some 38), .call ⟨.builtin .append, #[(.tmp 36), (.tmp 37)], #[43, 43]⟩, 43, none, [], 3⟩,
  ⟨(some 39), .fieldAddr 46 (.tmp 9) 2, 0, none, [], 4⟩,
  ⟨none, .store 43 (.tmp 39) (.tmp 38), 0, none, [], 5⟩]
def r114_7 : List TOper := [⟨(some 40), .fieldAddr 46 (.tmp 9) 3, 0, none, [], 0⟩,
  ⟨(some 41), .load 44 (.tmp 40), 44, none, [], 1⟩,
  ⟨(some 42), .call ⟨.builtin .len, #[(.tmp 41)], #[44]⟩, 3, none, [], 2⟩,
  ⟨(some 11), .assign (.tmp 42), 3, none, [], 3⟩]
def r114_8 : List TOper := [⟨(some 43), .move (.tmp 11), 3, none, [], 0⟩,
  ⟨(some 44), .binOp .gtr 3 (.tmp 43) (.const (.int .i64 0)) 3, 4, none, [], 1⟩,
  ⟨(some 45), .move (.tmp 44), 4, none, [], 2⟩,
  ⟨(some 46), .fieldAddr 46 (.tmp 9) 3, 0, (some (45, true)), [], 3⟩,
  ⟨(some 47), .load 44 (.tmp 46), 44, (some (45, true)), [], 4⟩,
  ⟨(some 48), .move (.tmp 11), 3, (some (45, true)), [], 5⟩,
  ⟨(some 49), .binOp .sub 3 (.tmp 48) (.const (.int .i64 1)) 3, 3, (some (45, true)), [], 6⟩,
  ⟨(some 50), .indexAddr 44 (.tmp 47) (.tmp 49), 0, (some (45, true)), [], 7⟩,
  ⟨(some 51), .fieldAddr 48 (.tmp 50) 1, 0, (some (45, true)), [], 8⟩,
  ⟨(some 52), .load 3 (.tmp 51), 3, (some (45, true)), [], 9⟩,
  ⟨(some 53), .move (.tmp 10), 3, (some (45, true)), [], 10⟩,
  ⟨(some 54), .binOp .eql 3 (.tmp 52) (.tmp 53) 3, 4, (some (45, true)), [], 11⟩,
  ⟨(some 55), .pick (.tmp 45) (.tmp 54) (.const (.bool false)), 4, none, [], 12⟩]
def r114_9 : List TOper := [⟨(some 56), .fieldAddr 46 (.tmp 9) 3, 0, none, [], 0⟩,
  ⟨(some 57), .load 44 (.tmp 56), 44, none, [], 1⟩,
  ⟨(some 58), .move (.tmp 11), 3, none, [], 2⟩,
  ⟨(some 59), .binOp .sub 3 (.tmp 58) (.const (.int .i64 1)) 3, 3, none, [], 3⟩,
  ⟨(some 60), .move (.tmp 10), 3, none, [], 4⟩,
  ⟨(some 61), .binOp .add 3 (.tmp 60) (.const (.int .i64 1)) 3, 3, none, [], 5⟩,
  ⟨(some 62), .indexAddr 44 (.tmp 57) (.tmp 59), 0, none, [], 6⟩,
  ⟨(some 63), .fieldAddr 48 (.tmp 62) 1, 0, none, [], 7⟩,
  ⟨none, .store 3 (.tmp 63) (.tmp 61), 0, none, [], 8⟩]
def r114_10 : List TOper := [⟨(some 64), .fieldAddr 46 (.tmp 9) 3, 0, none, [], 0⟩,
  ⟨(some 65), .load 44 (.tmp 64), 44, none, [], 1⟩,
  ⟨(some 66), .move (.tmp 10), 3, none, [], 2⟩,
  ⟨(some 67), .move (.tmp 10), 3, none, [], 3⟩,
  ⟨(some 68), .binOp .add 3 (.tmp 67) (.const (.int .i64 1)) 3, 3, none, [], 4⟩,
  ⟨(some 69), .build 48 #[(0, (.tmp 66)), (1, (.tmp 68))], 48, none, [], 5⟩,
  ⟨(some 70), .buildSlice 44 1 #[(0, (.tmp 69))], 44, none, [], 6⟩,
  ⟨(some 71), .call ⟨.builtin .append, #[(.tmp 65), (.tmp 70)], #[44, 44]⟩, 44, none, [], 7⟩,
  ⟨(some 72), .fieldAddr 46 (.tmp 9) 3, 0, none, [], 8⟩,
  ⟨none, .store 44 (.tmp 72) (.tmp 71), 0, none, [], 9⟩]
def r114_11 : List TOper := [⟨(some 19), .move (.tmp 10), 3, none, [], 0⟩,
  ⟨(some 20), .binOp .add 3 (.tmp 19) (.const (.int .i64 1)) 3, 3, none, [], 1⟩,
  ⟨(some 10), .assign (.tmp 20), 3, none, [], 2⟩]
def r114_12 : List TOper := [⟨(some 73), .load 46 (.tmp 9), 46, none, [], 0⟩,
  ⟨none, .store 46 (.tmp 8) (.tmp 73), 0, none, [], 1⟩]
def c114 : TCode := (.seq (.reg r114_0) (.seq (.reg r114_1) (.seq (.seq (.reg r114_2) (.block 0 (.loop (.seq (.seq (.reg r114_3) (.cond (.tmp 18) .skip (.exit 0))) (.seq (.block 1 (.seq (.seq (.reg r114_4) (.cond (.tmp 24) (.seq (.reg r114_5) (.exit 1)) .skip)) (.seq (.reg r114_6) (.seq (.reg r114_7) (.seq (.reg r114_8) (.cond (.tmp 55) (.reg r114_9) (.reg r114_10))))))) (.reg r114_11)))))) (.seq (.reg r114_12) .ret))))
def f114 : TFun := ⟨c114, 74, [.cell 8 46]⟩
def r116_0 : List TOper := [⟨(some 2), .assign (.const (.int .i64 0)), 30, none, [], 0⟩]
def r116_1 : List TOper := [⟨(some 3), .move (.tmp 0), 43, none, [], 0⟩,
  ⟨(some 4), .call ⟨.value (.func 180), #[(.tmp 3), (.func 24)], #[43, 40]⟩, 30, none, [], 1⟩,
  ⟨(some 2), .assign (.tmp 4), 30, none, [], 2⟩]
def c116 : TCode := (.seq (.reg r116_0) (.seq (.reg r116_1) .ret))
def f116 : TFun := ⟨c116, 5, [.tmp 2]⟩
end Tab
end Go.Tidy
