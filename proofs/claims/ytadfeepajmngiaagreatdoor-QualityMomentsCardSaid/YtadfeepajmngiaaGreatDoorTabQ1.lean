/- A part of the proof. -/
import Derived.Test.YtadfeepajmngiaaGreatDoorTabQ0
set_option linter.all false
namespace Go.Tidy
open Go
namespace Tab
def r1714_0:List TOper:=[Oo 2 (.box 99 (Ot 0)) 0 0,Oo 3 (.box 99 (Ot 1)) 0 1,Oo 4 (.alloc 181) 0 2]
def r1714_1:List TOper:=[Oo 6 (.fieldAddr 99 (Ot 3) 0) 0 0,Ol 7 3 6 3 1,Oo 8 (.fieldAddr 99 (Ot 2) 0) 0 2,Ol 9 3 8 3 3,Oo 10 (Ob .sub 3 7 9) 3 4,Os 5 10 3 5]
def r1714_2:List TOper:=[Oo 11 (.fieldAddr 99 (Ot 2) 0) 0 0,Ol 12 3 11 3 1,Oo 13 (.fieldAddr 99 (Ot 2) 1) 0 2,Ol 14 3 13 3 3,Om 15 5 3 4,Oo 16 (Ob .mul 3 14 15) 3 5,Oo 17 (.fieldAddr 99 (Ot 3) 1) 0 6,Ol 18 3 17 3 7,Oo 19 (.fieldAddr 99 (Ot 2) 1) 0 8,Ol 20 3 19 3 9,Oo 21 (Ob .sub 3 18 20) 3 10,Om 22 5 3 11,Oo 23 (.build 181 #[(0,(Ot 12)),(1,(Ot 16)),(2,(Ot 21)),(3,(Ot 22))]) 181 12,On (.store 181 (Ot 4) (Ot 23)) 0 13]
def c1714:TCode:=(.seq (.reg r1714_0) (.seq (.reg r1714_1) (.seq (.reg r1714_2) .ret)))
def f1714:TFun:=⟨c1714,24,[.cell 4 181]⟩
def r1715_0:List TOper:=[Oo 2 (.box 99 (Ot 0)) 0 0,Oo 4 (.alloc 99) 0 1]
def r1715_1:List TOper:=[Oo 5 (.fieldAddr 99 (Ot 2) 0) 0 0,Ol 6 3 5 3 1,Oo 7 (.fieldAddr 99 (Ot 2) 1) 0 2,Ol 8 3 7 3 3,Om 9 1 3 4,Oo 10 (Ob .add 3 8 9) 3 5,Oo 11 (.build 99 #[(0,(Ot 6)),(1,(Ot 10))]) 99 6,On (.store 99 (Ot 4) (Ot 11)) 0 7]
def c1715:TCode:=(.seq (.reg r1715_0) (.seq (.reg r1715_1) .ret))
def f1715:TFun:=⟨c1715,12,[.cell 4 99]⟩
def r1716_0:List TOper:=[Oo 4 (.assign (Oc 0)) 32 0]
def r1716_1:List TOper:=[Om 8 0 130 0,Oo 9 (.call ⟨.builtin .len,#[(Ot 8)],#[130]⟩) 3 1,Oo 10 (.move (Oc 0)) 3 2]
def r1716_2:List TOper:=[Oo 11 (Ob .lss 3 10 9) 0 0]
def r1716_3:List TOper:=[Oo 12 (.indexAddr 130 (Ot 8) (Ot 10)) 0 0,Ol 13 88 12 88 1,Oo 6 (.alloc 88) 0 2,On (.store 88 (Ot 6) (Ot 13)) 0 3]
def r1716_4:List TOper:=[Om 14 1 92 0,Ol 15 88 6 88 1,Oo 16 (.call ⟨.value (Ot 14),#[(Ot 15)],#[88]⟩) 32 2,Os 7 16 32 3]
def r1716_5:List TOper:=[Om 17 7 32 0,Oo 18 (.binOp .neq 32 (Ot 17) (Oc 0) 32) 4 1]
def r1716_6:List TOper:=[Om 19 7 32 0,Os 4 19 32 1]
def r1716_7:List TOper:=[Oo 20 (.binOp .add 3 (Ot 10) (Oc 1) 3) 3 0,Om 10 20 3 1]
def r1716_8:List TOper:=[Oo 4 (.assign (Oc 0)) 32 0]
def c1716:TCode:=(.seq (.reg r1716_0) (.seq (.seq (.reg r1716_1) (.block 0 (.loop (.seq (.reg r1716_2) (.seq (.cond (Ot 11) .skip (.exit 0)) (.seq (.block 1 (.seq (.reg r1716_3) (.seq (.reg r1716_4) (.seq (.reg r1716_5) (.cond (Ot 18) (.seq (.reg r1716_6) .ret) .skip))))) (.reg r1716_7))))))) (.seq (.reg r1716_8) .ret)))
def f1716:TFun:=⟨c1716,21,[.tmp 4]⟩
def r1717_0:List TOper:=[Oo 4 (.box 88 (Ot 0)) 0 0,Oo 5 (.assign (Oc 0)) 32 1]
def r1717_1:List TOper:=[Ol 6 92 1 92 0,Ol 7 88 4 88 1,Ol 9 271 2 271 3,Ol 10 255 3 255 4,Ol 11 88 4 88 5,⟨(some 8),.call ⟨.value (Ot 6),#[(Ot 7)],#[88]⟩,32,none,[(Ot 4),(Ot 3),(Ot 2)],2⟩,⟨(some 12),.call ⟨.value (Ot 10),#[(Ot 11)],#[88]⟩,9,none,[(Ot 2)],6⟩,Of 13 205 #[(Ot 9),(Ot 12)] #[271,9] 32 7,Oo 14 (.buildSlice 221 2 #[(0,(Ot 8)),(1,(Ot 13))]) 221 8,Of 15 69 #[(Ot 14)] #[221] 32 9,Os 5 15 32 10]
def c1717:TCode:=(.seq (.reg r1717_0) (.seq (.reg r1717_1) .ret))
def f1717:TFun:=⟨c1717,16,[.tmp 5]⟩
def r1718_0:List TOper:=[Om 10 1 3 0,Oo 11 (.binOp .add 3 (Ot 10) (Oc 1) 3) 3 1,Os 8 11 3 2]
def r1718_1:List TOper:=[Om 12 8 3 0,Om 13 2 3 1,Oo 14 (Ob .lss 3 12 13) 4 2]
def r1718_2:List TOper:=[Om 17 8 3 0,Os 9 17 3 1]
def r1718_3:List TOper:=[Om 18 9 3 0,Om 19 1 3 1,Oo 20 (Ob .gtr 3 18 19) 4 2,Om 21 20 4 3,Mg 22 3 207 21 true 4,Mg 23 0 202 21 true 5,Mg 24 9 3 21 true 6,Og 25 (.indexAddr 202 (Ot 23) (Ot 24)) 0 21 true 7,Og 26 (.load 204 (Ot 25)) 204 21 true 8,Mg 27 0 202 21 true 9,Mg 28 9 3 21 true 10,Og 29 (.binOp .sub 3 (Ot 28) (Oc 1) 3) 3 21 true 11,Og 30 (.indexAddr 202 (Ot 27) (Ot 29)) 0 21 true 12,Og 31 (.load 204 (Ot 30)) 204 21 true 13,Og 32 (.call ⟨.value (Ot 22),#[(Ot 26),(Ot 31)],#[204,204]⟩) 3 21 true 14,Og 33 (.binOp .lss 3 (Ot 32) (Oc 0) 3) 4 21 true 15,Oo 34 (.pick (Ot 21) (Ot 33) (.const (.bool false))) 4 16]
def r1718_4:List TOper:=[Om 37 0 202 0,Om 38 9 3 1,Om 39 0 202 2,Om 40 9 3 3,Oo 41 (.binOp .sub 3 (Ot 40) (Oc 1) 3) 3 4,Om 42 0 202 5,Om 43 9 3 6,Oo 44 (.binOp .sub 3 (Ot 43) (Oc 1) 3) 3 7,Oo 45 (.indexAddr 202 (Ot 42) (Ot 44)) 0 8,Ol 46 204 45 204 9,Om 47 0 202 10,Om 48 9 3 11,Oo 49 (.indexAddr 202 (Ot 47) (Ot 48)) 0 12,Ol 50 204 49 204 13,Oo 51 (.indexAddr 202 (Ot 37) (Ot 38)) 0 14,On (.store 204 (Ot 51) (Ot 46)) 0 15,Oo 52 (.indexAddr 202 (Ot 39) (Ot 41)) 0 16,On (.store 204 (Ot 52) (Ot 50)) 0 17]
def r1718_5:List TOper:=[Om 35 9 3 0,Oo 36 (.binOp .sub 3 (Ot 35) (Oc 1) 3) 3 1,Os 9 36 3 2]
def r1718_6:List TOper:=[Om 15 8 3 0,Oo 16 (.binOp .add 3 (Ot 15) (Oc 1) 3) 3 1,Os 8 16 3 2]
def c1718:TCode:=(.seq (.reg r1718_0) (.block 0 (.loop (.seq (.seq (.reg r1718_1) (.cond (Ot 14) .skip (.exit 0))) (.seq (.block 1 (.seq (.reg r1718_2) (.block 2 (.loop (.seq (.seq (.reg r1718_3) (.cond (Ot 34) .skip (.exit 2))) (.seq (.block 3 (.reg r1718_4)) (.reg r1718_5))))))) (.reg r1718_6))))))
def f1718:TFun:=⟨c1718,53,[]⟩
def r1722_0:List TOper:=[Oo 1 (.box 99 (Ot 0)) 0 0,Oo 2 (.assign (Oc 0)) 3 1]
def r1722_1:List TOper:=[Oo 3 (.fieldAddr 99 (Ot 1) 0) 0 0,Ol 4 3 3 3 1,Os 2 4 3 2]
def c1722:TCode:=(.seq (.reg r1722_0) (.seq (.reg r1722_1) .ret))
def f1722:TFun:=⟨c1722,5,[.tmp 2]⟩
def r1723_0:List TOper:=[Oo 1 (.box 101 (Ot 0)) 0 0,Oo 2 (.assign (Oc 0)) 3 1]
def r1723_1:List TOper:=[Oo 3 (.fieldAddr 101 (Ot 1) 0) 0 0,Ol 4 3 3 3 1,Os 2 4 3 2]
def c1723:TCode:=(.seq (.reg r1723_0) (.seq (.reg r1723_1) .ret))
def f1723:TFun:=⟨c1723,5,[.tmp 2]⟩
end Tab
end Go.Tidy
