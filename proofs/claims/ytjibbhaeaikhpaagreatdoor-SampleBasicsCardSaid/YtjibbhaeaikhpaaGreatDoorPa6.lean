/- A part of the proof. -/
import Derived.Test.YtjibbhaeaikhpaaGreatDoorPa5
set_option linter.all false
namespace Go.Tidy
open Go Go.Proofs Tab
variable {tp:TProg}
theorem c3_eq:c3 = .seq (.reg r3_0) (.seq (.seq (.reg r3_1) (.cond (.tmp 23) (.seq (.reg r3_2) .ret) .skip)) rest3):=rfl
attribute [local irreducible] rest3
set_option maxRecDepth 100000 in
set_option maxHeartbeats 4000000 in
theorem k3all (H:Has tp) (X:HasX tp) (A:Awk tp) (s:ByteArray) (key n p q:Int) (b:Nat) (h:TH) (f:Free0 h.next h):CallW Tryz.prog tp (.func (.func 3) #[] #[]) #[.string s,.agg #[.int .i64 key,.int .i64 n],.agg #[.int .i64 p,.int .i64 q,.float .f32 b]] h fun v _ => v = .bool true:=by
 refine CallW.full (H.fn 3 f3 rfl rfl) rfl ?_
 show W Tryz.prog tp false c3 _ h _
 rw [c3_eq]
 refine W.seq (W.reg ?_)
 refine WO.box rfl ?_
 have hg4:(h.new (.cells (Value.agg #[.int .i64 key,.int .i64 n]).cells.toList true true 22)).get h.next = some (.cells [.int .i64 key,.int .i64 n] true true 22):=TH.get_self _ _
 have hx4:=HX.new h (.cells (Value.agg #[.int .i64 key,.int .i64 n]).cells.toList true true 22)
 have hn4:h.next < (h.new (.cells (Value.agg #[.int .i64 key,.int .i64 n]).cells.toList true true 22)).next:=Nat.lt_succ_self _
 generalize h.new (.cells (Value.agg #[.int .i64 key,.int .i64 n]).cells.toList true true 22) = h1 at hg4 hx4 hn4 ⊢
 replace f:=(f.hx hx4).up hx4.next
 generalize h.next = c5 at *
 clear hx4 h
 refine WO.box rfl ?_
 have hg5:(h1.new (.cells (Value.agg #[.int .i64 p,.int .i64 q,.float .f32 b]).cells.toList true true 27)).get h1.next = some (.cells [.int .i64 p,.int .i64 q,.float .f32 b] true true 27):=TH.get_self _ _
 have hx5:=HX.new h1 (.cells (Value.agg #[.int .i64 p,.int .i64 q,.float .f32 b]).cells.toList true true 27)
 have hn5:h1.next < (h1.new (.cells (Value.agg #[.int .i64 p,.int .i64 q,.float .f32 b]).cells.toList true true 27)).next:=Nat.lt_succ_self _
 generalize h1.new (.cells (Value.agg #[.int .i64 p,.int .i64 q,.float .f32 b]).cells.toList true true 27) = h2 at hg5 hx5 hn5 ⊢
 replace hg4:=hx5.get hn4 hg4
 replace hn4:=Nat.lt_of_lt_of_le hn4 hx5.next
 replace f:=(f.hx hx5).up hx5.next
 generalize h1.next = c6 at *
 refine WO.as rfl (WO.nil ?_)
 repeat' (first
  | refine WO.mv rfl ?_ | refine WO.as rfl ?_ | refine WO.bi rfl rfl rfl ?_
  | refine WO.nil ?_
  | refine W.seq ?_ | refine W.reg ?_ | refine W.ret ?_ | refine W.skip ?_ | refine W.exit ?_ | refine W.block ?_
  | refine WO.nt rfl ?_
  | (refine WO.cl0 rfl ?_; refine (k11 A _).mono ?_; rintro _ _ ⟨rfl,rfl⟩)
  | (refine WO.ix rfl rfl iy22 ?_)
  | (refine WO.ld rfl (load_sc sc3 hg4 rfl) ?_)
  | (refine WO.lenS rfl u9 ?_)
  | with_reducible refine OnB.yes ?_ | with_reducible refine OnB.no ?_ | with_reducible refine OnB.way (fun hb => ?_) (fun hb => ?_)
  | refine WO.gu rfl rfl ?_ | refine WO.gt rfl rfl ?_ | refine WO.gf rfl rfl ?_
  | refine WO.pk rfl rfl rfl ?_
  | refine W.cd rfl ?_)
 all_goals first
  | exact ⟨.inr rfl,_,rfl,rfl⟩
  | exact k3r H X A hg4 hg5 hn4 hn5 f (by repeat (first | with_reducible refine Full.put ?_ (by decide) _ | with_reducible refine Full.putn ?_ _ | with_reducible exact Full.of _ _ rfl | with_reducible exact Full.start _ _ (Nat.le_of_ble_eq_true rfl) | exact Full.start _ _ (Nat.le_of_ble_eq_true rfl))) rfl rfl rfl
end Go.Tidy
namespace Go.Tidy
open Go Go.Proofs Tab
attribute [local irreducible] Ty valOf
theorem law3:Law tpE 3 5 [9,22,27]:=by
 intro h us f ha
 match us,ha with
 | [a0,a1,a2],⟨⟨p0,y0,e0⟩,⟨p1,y1,e1⟩,⟨p2,y2,e2⟩,_⟩ =>
  obtain ⟨s,rfl,_⟩:=ty_str y0
  obtain ⟨q0,q1,rfl,_,z0,q2,q3,rfl,_,z1,rfl⟩:=tyg_array Tryz.underlying22 y1
  obtain ⟨key,rfl,_⟩:=ty_int z0
  obtain ⟨n,rfl,_⟩:=ty_int z1
  obtain ⟨r0,r1,rfl,_,x0,r2,r3,rfl,_,x1,rfl⟩:=tyg_struct Tryz.underlying27 y2
  obtain ⟨t0,t1,rfl,_,w0,t2,t3,rfl,_,w1,rfl⟩:=tyg_struct Tryz.underlying24 x0
  obtain ⟨p,rfl,_⟩:=ty_int w0
  obtain ⟨q,rfl,_⟩:=ty_int w1
  obtain ⟨b,rfl,_⟩:=ty_float x1
  rw [val_str] at e0
  rw [val_agg (.inr ⟨_,_,Tryz.underlying22⟩)] at e1
  rw [val_agg (.inl ⟨_,Tryz.underlying27⟩)] at e2
  subst e0 e1 e2
  exact k3all hasE hasXE awkE s key n p q b h f
end Go.Tidy
