/- A part of the proof. -/
import Derived.Test.YtmafhkcdhpkliaaGreatDoorPa6
set_option linter.all false
namespace Go.Tidy
open Go Go.Proofs Tab
variable {tp:TProg}
def oneR:ByteArray:=⟨#[114]⟩
theorem oneR_name:nameB oneR=true:=by kernel_rfl
theorem bd52j {b m k:Nat}:buildT Tryz.prog 211 [(0,.string ⟨#[114]⟩),(1,.int .i64 100),(2,.slice (some ⟨b,0,none⟩) m k)]=some (runV oneR 100 (.slice (some ⟨b,0,none⟩) m k) (.slice none 0 0)):=by kernel_rfl
section
variable {h:TH} {v v1 v2:Value} {F:List Nat} {es L D:List Int} {m n:Int} {fb:Nat}
set_option maxHeartbeats 2000000 in
theorem k1377 (H:Has tp) (s:SlL encF 1 h v F) (hE:SErr F es) (hL:firstNZ es=0→Lev F L) (hb:Sx fb m) :
    CallW Tryz.prog tp (.func (.func 56) #[] #[]) #[v,.float .f32 fb] h fun u h'=>h'=h∧∃ b,u=.bool b∧(b=true→(4≤F.length∧F.length≤24)∧firstNZ es=0∧∀ j,j < F.length→-m≤L.getD j 0∧L.getD j 0≤m):=by
  refine CallW.fnL (H.fn 56 f1377 rfl rfl) ?_
  by_cases c1:(F.length:Int) < 4
  · repeat' (first
    | refine WOL.len rfl s u43 ?_
    | refine WL.sr ?_
    | refine WL.seq ?_
    | refine WL.reg ?_
    | refine WOL.nil ?_
    | refine WL.skip ?_
    | refine WOL.now (b:=true) rfl rfl ?_
    | refine WOL.now (b:=false) rfl rfl ?_
    | refine WOL.skp (b:=true) rfl rfl ?_
    | refine WOL.skp (b:=false) rfl rfl ?_
    | refine WOL.gu rfl rfl ?_
    | refine WOL.mv rfl ?_
    | refine WOL.as rfl ?_
    | refine WOL.ex rfl rfl ?_
    | refine WOL.nt rfl ?_
    | refine WOL.pkt rfl rfl ?_
    | refine WOL.pkf rfl rfl ?_
    | refine WL.yes rfl ?_
    | refine WL.no rfl ?_
    | refine WOL.ld rfl (load_one (by first | exact tp25 | exact tp3) (by first | with_reducible assumption | assumption) (by rfl)) ?_
    | refine WOL.ld rfl (load_row (by first | exact tp25 | exact tp3) (by first | with_reducible assumption | assumption) rfl (Nat.le_of_ble_eq_true rfl)) ?_
    | refine WOL.len rfl (by first | with_reducible assumption | assumption) (by first | exact u43 | exact u29 | exact u44) ?_
    | refine WOL.add rfl rfl (by omega) (by omega) ?_
    | refine WOL.sub rfl rfl (by omega) (by omega) ?_
    | refine WOL.mul rfl rfl (by omega) (by omega) ?_
    | refine WOL.bt rfl rfl rfl (by first | exact decide_eq_true (by omega) | exact beq_iff_eq.2 (by omega) | exact bne_iff_ne.2 (by omega)) ?_
    | refine WOL.bf rfl rfl rfl (by first | exact decide_eq_false (by omega) | exact beq_eq_false_iff_ne.2 (by omega) | exact bne_eq_false_iff_eq.2 (by omega)) ?_)
    exact WL.ret (WL.end_ rfl ⟨rfl,false,rfl,fun c=>nomatch c⟩)
  by_cases c2:(F.length:Int) > 24
  · repeat' (first
    | refine WOL.len rfl s u43 ?_
    | refine WL.sr ?_
    | refine WL.seq ?_
    | refine WL.reg ?_
    | refine WOL.nil ?_
    | refine WL.skip ?_
    | refine WOL.now (b:=true) rfl rfl ?_
    | refine WOL.now (b:=false) rfl rfl ?_
    | refine WOL.skp (b:=true) rfl rfl ?_
    | refine WOL.skp (b:=false) rfl rfl ?_
    | refine WOL.gu rfl rfl ?_
    | refine WOL.mv rfl ?_
    | refine WOL.as rfl ?_
    | refine WOL.ex rfl rfl ?_
    | refine WOL.nt rfl ?_
    | refine WOL.pkt rfl rfl ?_
    | refine WOL.pkf rfl rfl ?_
    | refine WL.yes rfl ?_
    | refine WL.no rfl ?_
    | refine WOL.ld rfl (load_one (by first | exact tp25 | exact tp3) (by first | with_reducible assumption | assumption) (by rfl)) ?_
    | refine WOL.ld rfl (load_row (by first | exact tp25 | exact tp3) (by first | with_reducible assumption | assumption) rfl (Nat.le_of_ble_eq_true rfl)) ?_
    | refine WOL.len rfl (by first | with_reducible assumption | assumption) (by first | exact u43 | exact u29 | exact u44) ?_
    | refine WOL.add rfl rfl (by omega) (by omega) ?_
    | refine WOL.sub rfl rfl (by omega) (by omega) ?_
    | refine WOL.mul rfl rfl (by omega) (by omega) ?_
    | refine WOL.bt rfl rfl rfl (by first | exact decide_eq_true (by omega) | exact beq_iff_eq.2 (by omega) | exact bne_iff_ne.2 (by omega)) ?_
    | refine WOL.bf rfl rfl rfl (by first | exact decide_eq_false (by omega) | exact beq_eq_false_iff_ne.2 (by omega) | exact bne_eq_false_iff_eq.2 (by omega)) ?_)
    exact WL.ret (WL.end_ rfl ⟨rfl,false,rfl,fun c=>nomatch c⟩)
  repeat' (first
    | refine WOL.len rfl s u43 ?_
    | refine WL.sr ?_
    | refine WL.seq ?_
    | refine WL.reg ?_
    | refine WOL.nil ?_
    | refine WL.skip ?_
    | refine WOL.now (b:=true) rfl rfl ?_
    | refine WOL.now (b:=false) rfl rfl ?_
    | refine WOL.skp (b:=true) rfl rfl ?_
    | refine WOL.skp (b:=false) rfl rfl ?_
    | refine WOL.gu rfl rfl ?_
    | refine WOL.mv rfl ?_
    | refine WOL.as rfl ?_
    | refine WOL.ex rfl rfl ?_
    | refine WOL.nt rfl ?_
    | refine WOL.pkt rfl rfl ?_
    | refine WOL.pkf rfl rfl ?_
    | refine WL.yes rfl ?_
    | refine WL.no rfl ?_
    | refine WOL.ld rfl (load_one (by first | exact tp25 | exact tp3) (by first | with_reducible assumption | assumption) (by rfl)) ?_
    | refine WOL.ld rfl (load_row (by first | exact tp25 | exact tp3) (by first | with_reducible assumption | assumption) rfl (Nat.le_of_ble_eq_true rfl)) ?_
    | refine WOL.len rfl (by first | with_reducible assumption | assumption) (by first | exact u43 | exact u29 | exact u44) ?_
    | refine WOL.add rfl rfl (by omega) (by omega) ?_
    | refine WOL.sub rfl rfl (by omega) (by omega) ?_
    | refine WOL.mul rfl rfl (by omega) (by omega) ?_
    | refine WOL.bt rfl rfl rfl (by first | exact decide_eq_true (by omega) | exact beq_iff_eq.2 (by omega) | exact bne_iff_ne.2 (by omega)) ?_
    | refine WOL.bf rfl rfl rfl (by first | exact decide_eq_false (by omega) | exact beq_eq_false_iff_ne.2 (by omega) | exact bne_eq_false_iff_eq.2 (by omega)) ?_)
  refine WOL.cl1 rfl rfl ((k141 H s hE (by omega)).mono ?_)
  rintro u h ⟨rfl,rfl⟩
  by_cases e0:firstNZ es=0
  · have lv:=hL e0
    have ll:=lv.1
    rw [e0]
    repeat' (first
    | refine WOL.len rfl s u43 ?_
    | refine WL.sr ?_
    | refine WL.seq ?_
    | refine WL.reg ?_
    | refine WOL.nil ?_
    | refine WL.skip ?_
    | refine WOL.now (b:=true) rfl rfl ?_
    | refine WOL.now (b:=false) rfl rfl ?_
    | refine WOL.skp (b:=true) rfl rfl ?_
    | refine WOL.skp (b:=false) rfl rfl ?_
    | refine WOL.gu rfl rfl ?_
    | refine WOL.mv rfl ?_
    | refine WOL.as rfl ?_
    | refine WOL.ex rfl rfl ?_
    | refine WOL.nt rfl ?_
    | refine WOL.pkt rfl rfl ?_
    | refine WOL.pkf rfl rfl ?_
    | refine WL.yes rfl ?_
    | refine WL.no rfl ?_
    | refine WOL.ld rfl (load_one (by first | exact tp25 | exact tp3) (by first | with_reducible assumption | assumption) (by rfl)) ?_
    | refine WOL.ld rfl (load_row (by first | exact tp25 | exact tp3) (by first | with_reducible assumption | assumption) rfl (Nat.le_of_ble_eq_true rfl)) ?_
    | refine WOL.len rfl (by first | with_reducible assumption | assumption) (by first | exact u43 | exact u29 | exact u44) ?_
    | refine WOL.add rfl rfl (by omega) (by omega) ?_
    | refine WOL.sub rfl rfl (by omega) (by omega) ?_
    | refine WOL.mul rfl rfl (by omega) (by omega) ?_
    | refine WOL.bt rfl rfl rfl (by first | exact decide_eq_true (by omega) | exact beq_iff_eq.2 (by omega) | exact bne_iff_ne.2 (by omega)) ?_
    | refine WOL.bf rfl rfl rfl (by first | exact decide_eq_false (by omega) | exact beq_eq_false_iff_ne.2 (by omega) | exact bne_eq_false_iff_eq.2 (by omega)) ?_)
    refine keep [(1,_),(20,_),(21,_),(22,_)] ⟨rfl,rfl,rfl,rfl,trivial⟩ ?_
    refine WL.upto (α:=Unit) F.length (fun j _ g=>g=h∧∀ i,i < j→-m≤L.getD i 0∧L.getD i 0≤m) (fun _ _=>[(1,.float .f32 fb),(20,v),(21,zi (F.length:Nat))]) () rfl rfl (by omega) ⟨rfl,fun i hi=>absurd hi (by omega)⟩ ⟨rfl,rfl,rfl,rfl,trivial⟩ (fun _ _=>rfl) (fun _ _ _=>⟨rfl,rfl,rfl,rfl,trivial⟩) (fun _ _ _=>⟨rfl,rfl,rfl,rfl,trivial⟩) ?_ ?_
    · rintro j _ g hj ⟨rfl,hz⟩
      obtain ⟨p1,q1,a1,l1,s1⟩:=RF.at ⟨F,s,lv⟩ (i:=(j:Nat)) (by omega) (by omega)
      rw [Int.toNat_natCast] at s1
      repeat' (first
    | refine WOL.ix rfl rfl a1 ?_
    | refine WOL.ld rfl l1 ?_
    | refine WL.sr ?_
    | refine WL.seq ?_
    | refine WL.reg ?_
    | refine WOL.nil ?_
    | refine WL.skip ?_
    | refine WOL.now (b:=true) rfl rfl ?_
    | refine WOL.now (b:=false) rfl rfl ?_
    | refine WOL.skp (b:=true) rfl rfl ?_
    | refine WOL.skp (b:=false) rfl rfl ?_
    | refine WOL.gu rfl rfl ?_
    | refine WOL.mv rfl ?_
    | refine WOL.as rfl ?_
    | refine WOL.ex rfl rfl ?_
    | refine WOL.nt rfl ?_
    | refine WOL.pkt rfl rfl ?_
    | refine WOL.pkf rfl rfl ?_
    | refine WL.yes rfl ?_
    | refine WL.no rfl ?_
    | refine WOL.ld rfl (load_one (by first | exact tp25 | exact tp3) (by first | with_reducible assumption | assumption) (by rfl)) ?_
    | refine WOL.ld rfl (load_row (by first | exact tp25 | exact tp3) (by first | with_reducible assumption | assumption) rfl (Nat.le_of_ble_eq_true rfl)) ?_
    | refine WOL.len rfl (by first | with_reducible assumption | assumption) (by first | exact u43 | exact u29 | exact u44) ?_
    | refine WOL.add rfl rfl (by omega) (by omega) ?_
    | refine WOL.sub rfl rfl (by omega) (by omega) ?_
    | refine WOL.mul rfl rfl (by omega) (by omega) ?_
    | refine WOL.bt rfl rfl rfl (by first | exact decide_eq_true (by omega) | exact beq_iff_eq.2 (by omega) | exact bne_iff_ne.2 (by omega)) ?_
    | refine WOL.bf rfl rfl rfl (by first | exact decide_eq_false (by omega) | exact beq_eq_false_iff_ne.2 (by omega) | exact bne_eq_false_iff_eq.2 (by omega)) ?_)
      refine WOL.fgx s1.x hb rfl rfl ?_
      by_cases d1:m < L.getD j 0
      · rw [decide_eq_true d1]
        repeat' (first
    | refine WL.sr ?_
    | refine WL.seq ?_
    | refine WL.reg ?_
    | refine WOL.nil ?_
    | refine WL.skip ?_
    | refine WOL.now (b:=true) rfl rfl ?_
    | refine WOL.now (b:=false) rfl rfl ?_
    | refine WOL.skp (b:=true) rfl rfl ?_
    | refine WOL.skp (b:=false) rfl rfl ?_
    | refine WOL.gu rfl rfl ?_
    | refine WOL.mv rfl ?_
    | refine WOL.as rfl ?_
    | refine WOL.ex rfl rfl ?_
    | refine WOL.nt rfl ?_
    | refine WOL.pkt rfl rfl ?_
    | refine WOL.pkf rfl rfl ?_
    | refine WL.yes rfl ?_
    | refine WL.no rfl ?_
    | refine WOL.ld rfl (load_one (by first | exact tp25 | exact tp3) (by first | with_reducible assumption | assumption) (by rfl)) ?_
    | refine WOL.ld rfl (load_row (by first | exact tp25 | exact tp3) (by first | with_reducible assumption | assumption) rfl (Nat.le_of_ble_eq_true rfl)) ?_
    | refine WOL.len rfl (by first | with_reducible assumption | assumption) (by first | exact u43 | exact u29 | exact u44) ?_
    | refine WOL.add rfl rfl (by omega) (by omega) ?_
    | refine WOL.sub rfl rfl (by omega) (by omega) ?_
    | refine WOL.mul rfl rfl (by omega) (by omega) ?_
    | refine WOL.bt rfl rfl rfl (by first | exact decide_eq_true (by omega) | exact beq_iff_eq.2 (by omega) | exact bne_iff_ne.2 (by omega)) ?_
    | refine WOL.bf rfl rfl rfl (by first | exact decide_eq_false (by omega) | exact beq_eq_false_iff_ne.2 (by omega) | exact bne_eq_false_iff_eq.2 (by omega)) ?_)
        exact WL.ret (WL.end_ rfl ⟨rfl,false,rfl,fun c=>nomatch c⟩)
      rw [decide_eq_false d1]
      repeat' (first
    | (refine WOL.fneg hb rfl ?_;intro q2 n2)
    | refine WL.sr ?_
    | refine WL.seq ?_
    | refine WL.reg ?_
    | refine WOL.nil ?_
    | refine WL.skip ?_
    | refine WOL.now (b:=true) rfl rfl ?_
    | refine WOL.now (b:=false) rfl rfl ?_
    | refine WOL.skp (b:=true) rfl rfl ?_
    | refine WOL.skp (b:=false) rfl rfl ?_
    | refine WOL.gu rfl rfl ?_
    | refine WOL.mv rfl ?_
    | refine WOL.as rfl ?_
    | refine WOL.ex rfl rfl ?_
    | refine WOL.nt rfl ?_
    | refine WOL.pkt rfl rfl ?_
    | refine WOL.pkf rfl rfl ?_
    | refine WL.yes rfl ?_
    | refine WL.no rfl ?_
    | refine WOL.ld rfl (load_one (by first | exact tp25 | exact tp3) (by first | with_reducible assumption | assumption) (by rfl)) ?_
    | refine WOL.ld rfl (load_row (by first | exact tp25 | exact tp3) (by first | with_reducible assumption | assumption) rfl (Nat.le_of_ble_eq_true rfl)) ?_
    | refine WOL.len rfl (by first | with_reducible assumption | assumption) (by first | exact u43 | exact u29 | exact u44) ?_
    | refine WOL.add rfl rfl (by omega) (by omega) ?_
    | refine WOL.sub rfl rfl (by omega) (by omega) ?_
    | refine WOL.mul rfl rfl (by omega) (by omega) ?_
    | refine WOL.bt rfl rfl rfl (by first | exact decide_eq_true (by omega) | exact beq_iff_eq.2 (by omega) | exact bne_iff_ne.2 (by omega)) ?_
    | refine WOL.bf rfl rfl rfl (by first | exact decide_eq_false (by omega) | exact beq_eq_false_iff_ne.2 (by omega) | exact bne_eq_false_iff_eq.2 (by omega)) ?_)
      refine WOL.flx s1.x n2 rfl rfl ?_
      by_cases d2:L.getD j 0 < -m
      · rw [decide_eq_true d2]
        repeat' (first
    | refine WL.sr ?_
    | refine WL.seq ?_
    | refine WL.reg ?_
    | refine WOL.nil ?_
    | refine WL.skip ?_
    | refine WOL.now (b:=true) rfl rfl ?_
    | refine WOL.now (b:=false) rfl rfl ?_
    | refine WOL.skp (b:=true) rfl rfl ?_
    | refine WOL.skp (b:=false) rfl rfl ?_
    | refine WOL.gu rfl rfl ?_
    | refine WOL.mv rfl ?_
    | refine WOL.as rfl ?_
    | refine WOL.ex rfl rfl ?_
    | refine WOL.nt rfl ?_
    | refine WOL.pkt rfl rfl ?_
    | refine WOL.pkf rfl rfl ?_
    | refine WL.yes rfl ?_
    | refine WL.no rfl ?_
    | refine WOL.ld rfl (load_one (by first | exact tp25 | exact tp3) (by first | with_reducible assumption | assumption) (by rfl)) ?_
    | refine WOL.ld rfl (load_row (by first | exact tp25 | exact tp3) (by first | with_reducible assumption | assumption) rfl (Nat.le_of_ble_eq_true rfl)) ?_
    | refine WOL.len rfl (by first | with_reducible assumption | assumption) (by first | exact u43 | exact u29 | exact u44) ?_
    | refine WOL.add rfl rfl (by omega) (by omega) ?_
    | refine WOL.sub rfl rfl (by omega) (by omega) ?_
    | refine WOL.mul rfl rfl (by omega) (by omega) ?_
    | refine WOL.bt rfl rfl rfl (by first | exact decide_eq_true (by omega) | exact beq_iff_eq.2 (by omega) | exact bne_iff_ne.2 (by omega)) ?_
    | refine WOL.bf rfl rfl rfl (by first | exact decide_eq_false (by omega) | exact beq_eq_false_iff_ne.2 (by omega) | exact bne_eq_false_iff_eq.2 (by omega)) ?_)
        exact WL.ret (WL.end_ rfl ⟨rfl,false,rfl,fun c=>nomatch c⟩)
      rw [decide_eq_false d2]
      repeat' (first
    | refine WL.sr ?_
    | refine WL.seq ?_
    | refine WL.reg ?_
    | refine WOL.nil ?_
    | refine WL.skip ?_
    | refine WOL.now (b:=true) rfl rfl ?_
    | refine WOL.now (b:=false) rfl rfl ?_
    | refine WOL.skp (b:=true) rfl rfl ?_
    | refine WOL.skp (b:=false) rfl rfl ?_
    | refine WOL.gu rfl rfl ?_
    | refine WOL.mv rfl ?_
    | refine WOL.as rfl ?_
    | refine WOL.ex rfl rfl ?_
    | refine WOL.nt rfl ?_
    | refine WOL.pkt rfl rfl ?_
    | refine WOL.pkf rfl rfl ?_
    | refine WL.yes rfl ?_
    | refine WL.no rfl ?_
    | refine WOL.ld rfl (load_one (by first | exact tp25 | exact tp3) (by first | with_reducible assumption | assumption) (by rfl)) ?_
    | refine WOL.ld rfl (load_row (by first | exact tp25 | exact tp3) (by first | with_reducible assumption | assumption) rfl (Nat.le_of_ble_eq_true rfl)) ?_
    | refine WOL.len rfl (by first | with_reducible assumption | assumption) (by first | exact u43 | exact u29 | exact u44) ?_
    | refine WOL.add rfl rfl (by omega) (by omega) ?_
    | refine WOL.sub rfl rfl (by omega) (by omega) ?_
    | refine WOL.mul rfl rfl (by omega) (by omega) ?_
    | refine WOL.bt rfl rfl rfl (by first | exact decide_eq_true (by omega) | exact beq_iff_eq.2 (by omega) | exact bne_iff_ne.2 (by omega)) ?_
    | refine WOL.bf rfl rfl rfl (by first | exact decide_eq_false (by omega) | exact beq_eq_false_iff_ne.2 (by omega) | exact bne_eq_false_iff_eq.2 (by omega)) ?_)
      refine fun a q=>⟨(),⟨rfl,fun i hi=>?_⟩,q.sub ⟨rfl,rfl,rfl,rfl,trivial⟩⟩
      by_cases e:i=j
      · subst e;omega
      · exact hz i (by omega)
    · rintro _ g ⟨rfl,hz⟩
      repeat' (first
    | refine WL.sr ?_
    | refine WL.seq ?_
    | refine WL.reg ?_
    | refine WOL.nil ?_
    | refine WL.skip ?_
    | refine WOL.now (b:=true) rfl rfl ?_
    | refine WOL.now (b:=false) rfl rfl ?_
    | refine WOL.skp (b:=true) rfl rfl ?_
    | refine WOL.skp (b:=false) rfl rfl ?_
    | refine WOL.gu rfl rfl ?_
    | refine WOL.mv rfl ?_
    | refine WOL.as rfl ?_
    | refine WOL.ex rfl rfl ?_
    | refine WOL.nt rfl ?_
    | refine WOL.pkt rfl rfl ?_
    | refine WOL.pkf rfl rfl ?_
    | refine WL.yes rfl ?_
    | refine WL.no rfl ?_
    | refine WOL.ld rfl (load_one (by first | exact tp25 | exact tp3) (by first | with_reducible assumption | assumption) (by rfl)) ?_
    | refine WOL.ld rfl (load_row (by first | exact tp25 | exact tp3) (by first | with_reducible assumption | assumption) rfl (Nat.le_of_ble_eq_true rfl)) ?_
    | refine WOL.len rfl (by first | with_reducible assumption | assumption) (by first | exact u43 | exact u29 | exact u44) ?_
    | refine WOL.add rfl rfl (by omega) (by omega) ?_
    | refine WOL.sub rfl rfl (by omega) (by omega) ?_
    | refine WOL.mul rfl rfl (by omega) (by omega) ?_
    | refine WOL.bt rfl rfl rfl (by first | exact decide_eq_true (by omega) | exact beq_iff_eq.2 (by omega) | exact bne_iff_ne.2 (by omega)) ?_
    | refine WOL.bf rfl rfl rfl (by first | exact decide_eq_false (by omega) | exact beq_eq_false_iff_ne.2 (by omega) | exact bne_eq_false_iff_eq.2 (by omega)) ?_)
      exact WL.ret (WL.end_ rfl ⟨rfl,true,rfl,fun _=>⟨⟨by omega,by omega⟩,rfl,hz⟩⟩)
  · repeat' (first
    | refine WL.sr ?_
    | refine WL.seq ?_
    | refine WL.reg ?_
    | refine WOL.nil ?_
    | refine WL.skip ?_
    | refine WOL.now (b:=true) rfl rfl ?_
    | refine WOL.now (b:=false) rfl rfl ?_
    | refine WOL.skp (b:=true) rfl rfl ?_
    | refine WOL.skp (b:=false) rfl rfl ?_
    | refine WOL.gu rfl rfl ?_
    | refine WOL.mv rfl ?_
    | refine WOL.as rfl ?_
    | refine WOL.ex rfl rfl ?_
    | refine WOL.nt rfl ?_
    | refine WOL.pkt rfl rfl ?_
    | refine WOL.pkf rfl rfl ?_
    | refine WL.yes rfl ?_
    | refine WL.no rfl ?_
    | refine WOL.ld rfl (load_one (by first | exact tp25 | exact tp3) (by first | with_reducible assumption | assumption) (by rfl)) ?_
    | refine WOL.ld rfl (load_row (by first | exact tp25 | exact tp3) (by first | with_reducible assumption | assumption) rfl (Nat.le_of_ble_eq_true rfl)) ?_
    | refine WOL.len rfl (by first | with_reducible assumption | assumption) (by first | exact u43 | exact u29 | exact u44) ?_
    | refine WOL.add rfl rfl (by omega) (by omega) ?_
    | refine WOL.sub rfl rfl (by omega) (by omega) ?_
    | refine WOL.mul rfl rfl (by omega) (by omega) ?_
    | refine WOL.bt rfl rfl rfl (by first | exact decide_eq_true (by omega) | exact beq_iff_eq.2 (by omega) | exact bne_iff_ne.2 (by omega)) ?_
    | refine WOL.bf rfl rfl rfl (by first | exact decide_eq_false (by omega) | exact beq_eq_false_iff_ne.2 (by omega) | exact bne_eq_false_iff_eq.2 (by omega)) ?_)
    exact WL.ret (WL.end_ rfl ⟨rfl,false,rfl,fun c=>nomatch c⟩)
theorem jrun (s:SlL encF 1 h v F) (ft:Fits h v 76) (lv:Lev F L) (h24:F.length≤4096):RunC oneR 100 h v (.slice none 0 0) (cellsL L [])∧(cellsL L []).length=L.length∧lvC (cellsL L [])=L∧hoC (cellsL L [])=[]:=by
 obtain ⟨es,hE,z⟩:=serr_zero lv
 have V:Valid oneR 100 F [] L:=⟨lv,by decide,by omega,h24,rfl,rfl⟩
 have r0:runE oneR 100 F.length [] es L=0:=by
  unfold runE headE tailE outB
  rw [z,oneR_name,decide_eq_false (show ¬ (100:Int) < 0 by decide),decide_eq_false (show ¬ (100:Int) > 100000000 by decide),decide_eq_false (show ¬ (F.length:Int) > 4096 by omega),decide_eq_false (show ¬ 100+(F.length:Int) > 100000000 by omega)];rfl
 obtain ⟨b1,b2⟩:=V.back
 refine ⟨⟨F,es,⟨s,by rw [b2];exact SlL.nil,ft⟩,Cel.of V hE r0⟩,?_,b1,b2⟩
 have:=congrArg List.length b1
 rwa [List.length_map] at this
theorem TrcH.put {g g':TH} {c:Nat} {x:TB} {S:List (Int × Int)} (r:TrcH g v1 v2 L S) (p:Put g g' c x) (h1:bl v1≠some c) (h2:bl v2≠some c):TrcH g' v1 v2 L S :=
 ⟨slC_keep r.l fun b x hb a=>p.oth _ _ (fun e=>h1 (by rw [hb,e])) a,slC_keep r.s fun b x hb a=>p.oth _ _ (fun e=>h2 (by rw [hb,e])) a,fun b off m cap e=>by
  obtain ⟨cc,fix,wr,el,r1,r2⟩:=r.g b off m cap e
  exact ⟨cc,fix,wr,el,p.oth _ _ (fun e'=>h1 (by rw [e,e'];rfl)) r1,r2⟩⟩
set_option maxHeartbeats 2000000 in
set_option maxRecDepth 100000 in
theorem k1379 (H:Has tp) (X:HasX tp) (s:SlL encF 1 h v F) (lv:Lev F L) (h24:F.length≤24) (f:Free0 h.next h) :
  CallW Tryz.prog tp (.func (.func 66) #[] #[]) #[v] h fun u h'=>HX h h'∧∃ c b m k,u=.tuple #[trcV 100 (slA c L.length) (.slice b m k),.bool true]∧TrcH h' (slA c L.length) (.slice b m k) L []:=by
 have ll:=lv.1
 refine CallW.fnL (H.fn 66 f1379 rfl rfl) ?_
 refine WL.sr<|WOL.al tp1117 fun h1 N1=>WOL.as rfl<|WOL.nil<|keep [(0,_),(2,_)] ⟨rfl,rfl,trivial⟩ ?_
 have n1:=N1.next
 refine WL.sr<|WOL.bs0 u43 tp25 (by decide) (by decide) fun h2 N2=>WOL.mv rfl ?_
 have Y2:=N1.hx.trans N2.hx
 obtain ⟨u2,h3,ap3,X3,s3,b3,rfl,hb3,F3⟩:=append_own u43 tp25 N2.at_ (s.hx Y2) (by omega) (eF.all _)
 have Y3:=Y2.trans X3
 obtain ⟨rc,lc,e1,e2⟩:=jrun s3 F3 lv (by omega)
 refine WOL.ap rfl rfl ap3<|WOL.bd rfl bd52j<|WOL.cl1 rfl rfl ((k1146c H X rc (f.on Y3)).mono ?_)
 rintro u g4 ⟨X4,c,b,m,k,rfl,T,tc,tb⟩
 rw [e1,e2] at T
 rw [lc] at T ⊢
 have Y4:=Y3.trans X4
 have y4:=Y4.next
 refine WOL.mv rfl<|WOL.ex rfl rfl<|WOL.ex rfl rfl<|WOL.al tp1117 fun h5 N5=>WOL.sto (vs:=[zi 100,slA c L.length,.slice b m k]) rfl rfl tp1117 N5.at_ rfl rfl (Nat.le_of_ble_eq_true rfl) rfl ((f.on Y4).hx N5.hx) (Nat.le_refl _) fun g5 P5=>WOL.as rfl<|WOL.nil<|keep [(0,_),(2,_),(4,_),(5,_)] ⟨rfl,rfl,rfl,rfl,trivial⟩ ?_
 have X5:=P5.hx _ N5.hx (Nat.le_refl _)
 have Y5:=Y4.trans X5
 have A4:At g5 g4.next (.cells [zi 100,slA c L.length,.slice b m k] true true 121):=P5.at_
 have A2:At g5 h.next _:=(N1.at_.hx ((N2.hx.trans X3).trans X4)).hx X5
 have T5:=T.hx X5
 have s5:=s.hx Y5
 have tI:=T5.l
 have tS:SlC g5 (.slice b m k) 2 0 []:=T5.s
 have x3:=X3.next
 have n2:=N2.next
 have ne:h.next≠g4.next:=by have:=(N2.hx.trans X3).trans X4;have:=this.next;omega
 refine WL.sr<|WOL.ld rfl (load_row tp1117 A4 rfl (Nat.le_of_ble_eq_true rfl)) ?_
 repeat' (first
  | refine WOL.fa rfl (fa_of fo1117_0) ?_
  | refine WOL.fa rfl (fa_of fo1117_1) ?_
  | refine WOL.fa rfl (fa_of fo1117_2) ?_
  | refine WOL.ld rfl (load_one tp3 A4 rfl) ?_
  | refine WOL.ld rfl (load_one tp29 A4 rfl) ?_
  | refine WOL.ld rfl (load_one tp44 A4 rfl) ?_
  | refine WOL.len rfl tI u29 ?_
  | refine WOL.len rfl s5 u43 ?_
  | refine WOL.len rfl tS u44 ?_
  | refine WL.sr ?_
  | refine WL.seq ?_
  | refine WL.reg ?_
  | refine WOL.nil ?_
  | refine WL.skip ?_
  | refine WOL.now (b:=true) rfl rfl ?_
  | refine WOL.now (b:=false) rfl rfl ?_
  | refine WOL.skp (b:=true) rfl rfl ?_
  | refine WOL.skp (b:=false) rfl rfl ?_
  | refine WOL.gu rfl rfl ?_
  | refine WOL.mv rfl ?_
  | refine WOL.as rfl ?_
  | refine WOL.ex rfl rfl ?_
  | refine WOL.nt rfl ?_
  | refine WOL.pkt rfl rfl ?_
  | refine WOL.pkf rfl rfl ?_
  | refine WL.yes rfl ?_
  | refine WL.no rfl ?_
  | refine WOL.ld rfl (load_one (by first | exact tp25 | exact tp3) (by first | with_reducible assumption | assumption) (by rfl)) ?_
  | refine WOL.ld rfl (load_row (by first | exact tp25 | exact tp3) (by first | with_reducible assumption | assumption) rfl (Nat.le_of_ble_eq_true rfl)) ?_
  | refine WOL.len rfl (by first | with_reducible assumption | assumption) (by first | exact u43 | exact u29 | exact u44) ?_
  | refine WOL.add rfl rfl (by omega) (by omega) ?_
  | refine WOL.sub rfl rfl (by omega) (by omega) ?_
  | refine WOL.mul rfl rfl (by omega) (by omega) ?_
  | refine WOL.bt rfl rfl rfl (by first | exact decide_eq_true (by omega) | exact beq_iff_eq.2 (by omega) | exact bne_iff_ne.2 (by omega)) ?_
  | refine WOL.bf rfl rfl rfl (by first | exact decide_eq_false (by omega) | exact beq_eq_false_iff_ne.2 (by omega) | exact bne_eq_false_iff_eq.2 (by omega)) ?_)
 refine WOL.stQ (vs:=[zi 100,slA c L.length,.slice b m k]) [g4.next] rfl rfl rfl tp1117 A2 rfl rfl (Nat.le_of_ble_eq_true rfl) rfl (f.hx Y5) (Nat.le_refl _) (by simp;omega) fun h6 P6=>WOL.as rfl<|WOL.nil ?_
 exact WL.ret (WL.endC1 rfl rfl (load_row tp1117 P6.at_ rfl (Nat.le_of_ble_eq_true rfl)) ⟨P6.hx _ Y5 (Nat.le_refl _),c,b,m,k,rfl,T5.put P6 (fun e=>by have e:c=h.next:=Option.some.inj e;omega) (fun e=>by have:=tb _ e;omega)⟩)
end
end Go.Tidy
namespace Go.Tidy
open Go Go.Proofs Tab
variable {tp:TProg}
theorem WOL.alS {P:Program} {tp:TProg} {h:TH} {K:Regs→TH→Prop} {rest:List TOper} {d:Nat} {d':Option Tmp} {ty ty':TypeId} {i i':Nat} {y:Operand} {L:Rg} {t:TypeId} {n:Nat} {z vs:List Value} {row:Bool} {v:Value} (he:Tp P t n z row) (hy:getL (putL L (some d) (.pointer (some ⟨h.next,0,none⟩))) y=some v) (hv:v.cells.toList=vs) (hn:vs.length=n) (h1:vs.all oneCell=true) (f:Free0 h.next h)
  (w:∀ g,HX h g→At g h.next (.cells vs true true t)→∀ a,Kn (putL (putL L (some d) (.pointer (some ⟨h.next,0,none⟩))) d' undef) a→WO P tp rest a g K):∀ a,Kn L a→WO P tp (⟨some d,.alloc t,ty,none,[],i⟩::⟨d',.store t (.tmp d) y,ty',none,[],i'⟩::rest) a h K :=
 WOL.al he fun hh N=>WOL.sto (b:=h.next) (off:=0) (by show lkR ((d,_)::L) d=_;simp [lkR]) hy he N.at_ hv hn (by rw [he.n];omega) h1 (f.hx N.hx) (Nat.le_refl _) fun g P1=>w g (P1.hx _ N.hx (Nat.le_refl _)) (by
  have:=P1.at_
  rwa [splice_all _ _ (by rw [he.n];exact hn)] at this)
theorem long_core6 {p q:Nat} (hp:1≤p) (hp':p≤6) (hq:1≤q) (hq':q≤6) (Z:Nat→Int):(List.range (p+q - 1)).foldl (fun s i=>s+wgt p q i*(-(Z i)+2*Z (i+1) - Z (i+2))) 0=-(q:Int)*Z 0+((p:Int)+q)*Z p - (p:Int)*Z (p+q):=by
 obtain rfl | rfl | rfl | rfl | rfl | rfl:p=1∨p=2∨p=3∨p=4∨p=5∨p=6:=by omega
 all_goals
  obtain rfl | rfl | rfl | rfl | rfl | rfl:q=1∨q=2∨q=3∨q=4∨q=5∨q=6:=by omega
  all_goals
   simp [List.range,List.range.loop,wgt]
   try omega
section
variable {h:TH} {v v9 v1 v2 w1 w2:Value} {F:List Nat} {es L D V B:List Int} {S:List (Int × Int)} {m n a b:Int} {fb c3 p q M j:Nat}
def cuvL (L:List Int):List Int:=valC (tapC L [] (vTn 1 1) (L.length - 2))
theorem cuv_len:(cuvL L).length=L.length - 2:=by unfold cuvL;rw [valC_len,tapC_len]
theorem cuv_get (hj:j < L.length - 2):(cuvL L).getD j 0=-(L.getD j 0)+2*L.getD (j+1) 0 - L.getD (j+2) 0:=by
 unfold cuvL
 rw [vers_all hj,vTn_val]
 show -((1:Nat):Int)*L.getD j 0+(((1:Nat):Int)+((1:Nat):Int))*L.getD (j+1) 0 - ((1:Nat):Int)*L.getD (j+2) 0=_
 omega
theorem cuv_ben (hj:j < L.length - 2):(cuvL L).getD j 0=-((benL L).getD j 0):=by
 rw [cuv_get hj,ben_get hj];omega
theorem cuv_eq (hp:1≤p) (hp':p≤6) (hq:1≤q) (hq':q≤6) (hj:j+(p+q) < L.length):tapN (cuvL L) j (wTp p q 1) 0=tapN L j (vTn p q) 0:=by
 have hi:∀ i,i ∈ List.range (p+q - 1)→(cuvL L).getD (j+i*1) 0=-((fun i=>L.getD (j+i) 0) i)+2*((fun i=>L.getD (j+i) 0) (i+1)) - ((fun i=>L.getD (j+i) 0) (i+2)):=fun i hi=>by
  have hi:=List.mem_range.1 hi
  rw [Nat.mul_one,cuv_get (by omega)]
  rfl
 unfold wTp
 rw [fold_taps _ _ hi,long_core6 hp hp' hq hq' (fun i=>L.getD (j+i) 0),vTn_val]
 rfl
theorem cuv_both (hp:1≤p) (hp':p≤6) (hq:1≤q) (hq':q≤6) (hM:M+(p+q)≤L.length):valC (tapC (cuvL L) [] (wTp p q 1) M)=valC (tapC L [] (vTn p q) M):=by
 refine list_ext (by rw [valC_len,valC_len,tapC_len,tapC_len]) fun i hi=>?_
 rw [valC_len,tapC_len] at hi
 rw [tapV_get hi,tapV_get hi,tapK_nil,tapK_nil,cuv_eq hp hp' hq hq' (by omega)]
theorem wT_flags {T:List (Nat × Int)}:holesOf ((tapC L [] T M).map fun c=>c.2)=[]:=by
 have:((tapC L [] T M).map fun c=>c.2)=List.replicate M true:=by
  refine List.ext_getElem? fun i=>?_
  by_cases h:i < M
  ·rw [List.getElem?_map,tapC_get h,tapK_nil,List.getElem?_replicate,if_pos h];rfl
  ·rw [List.getElem?_eq_none (by rw [List.length_map,tapC_len];omega),List.getElem?_eq_none (by rw [List.length_replicate];omega)]
 rw [this,← known_nil]
 exact holes_back rfl
theorem cuv_small (hp:1≤p) (hp':p≤6) (hq:1≤q) (hq':q≤6) (hM:M+(p+q)≤L.length) (hL:∀ j,-20000≤L.getD j 0∧L.getD j 0≤20000):bigC (tapC (cuvL L) [] (wTp p q 1) M)=false:=big_not fun i hi _=>by
 rw [cuv_eq hp hp' hq hq' (by omega)]
 exact vers_lim (by omega) (by omega) hL
end
end Go.Tidy
namespace Go.Tidy
open Go Go.Proofs Tab
variable {tp:TProg}
section
variable {h:TH} {v v9 v1 v2 w1 w2 v18 v20:Value} {F B:List Nat} {es L:List Int} {a b:Int} {c3 c5 c7 c11 c13 c16 cb p q:Nat} {n1 k1 n2 k2 m:Nat} {b2:Option Addr}
theorem trace_small (hl:∀ j,-20000≤L.getD j 0∧L.getD j 0≤20000) (h24:L.length≤24):traceE 100 L []=0:=by
 have:=traceE_made (n:=100) (C:=allK L L.length) (allK_big hl) (by decide) (by rw [allK_len (Nat.le_refl _)];omega) (by rw [allK_len (Nat.le_refl _)];omega)
 rwa [allK_val,allK_holes] at this
end
end Go.Tidy
namespace Go.Tidy
open Go Go.Proofs Tab
variable {tp:TProg}
section
variable {h h0:TH} {v w:Value} {F B:List Nat} {es L D S:List Int} {c p q M j:Nat}
theorem k1311b (H:Has tp) (s:SlL encI 1 h v L) (hl:L.length≤1000000) (ok:∀ x,x ∈ L→okI x=true) (f:Free0 h.next h) :
  CallW Tryz.prog tp (.func (.func 90) #[] #[]) #[v] h fun u h'=>HX h h'∧∃ c,u=.tuple #[slA c L.length,zi 0]∧h.next≤c∧At h' c (.cells (cat encF (L.map smp)) true true 76):=by
 have hb:(L.any fun n=>!okI n)=false:=by
  rw [List.any_eq_false]
  intro x hx
  rw [ok x hx];decide
 refine CallW.fnL (H.fn 90 f1311 rfl rfl) ?_
 refine WL.sr<|WOL.as rfl<|WOL.as rfl<|WOL.nil<|keep [(0,_)] ⟨rfl,trivial⟩ ?_
 refine WL.sr<|WOL.as rfl<|WOL.nil<|keep [(0,_),(4,_)] ⟨rfl,rfl,trivial⟩ ?_
 refine WL.seq<|WL.sr<|WOL.mv rfl<|WOL.mv rfl<|WOL.cl2 rfl rfl rfl ((k1190 H s hl (fun x=>k1352 H x h)).mono ?_)
 rintro u g ⟨rfl,rfl⟩
 rw [fNZ_const (c:=4) (by decide),hb]
 refine WOL.as rfl<|WOL.nil<|keep [(0,_),(5,_)] ⟨rfl,rfl,trivial⟩ ?_
 refine WL.sr<|WOL.mv rfl<|WOL.bf rfl rfl rfl rfl<|WOL.nil<|WL.no rfl<|WL.skip ?_
 refine WL.sr<|WOL.mv rfl<|WOL.cl2 rfl rfl rfl ((k1353 H s hl f (any_notI hb)).mono ?_)
 rintro u g2 ⟨X,c,rfl,hc,A⟩
 exact WOL.as rfl<|WOL.as rfl<|WOL.nil<|WL.ret (WL.end_ rfl ⟨X,c,rfl,hc,A⟩)
theorem k1259b (H:Has tp) (X:HasX tp) (s:SlL encF 1 h v F) (lv:Lev F L) (hF:F.length≤4096) (ok:∀ x,x ∈ trnL L→okI x=true) (f:Free0 h.next h) :
  CallW Tryz.prog tp (.func (.func 59) #[] #[]) #[v] h fun u h'=>HX h h'∧∃ c,u=.tuple #[slA c L.length,zi 0]∧h.next≤c∧At h' c (.cells (cat encF ((trnL L).map smp)) true true 76):=by
 obtain ⟨es,hE,z⟩:=serr_zero lv
 have ll:=lv.1
 refine CallW.fnL (H.fn 59 f1259 rfl rfl) ?_
 refine WL.sr<|WOL.as rfl<|WOL.as rfl<|WOL.nil<|keep [(0,_)] ⟨rfl,trivial⟩ ?_
 refine WL.seq<|WL.sr<|WOL.mv rfl<|WOL.cl1 rfl rfl ((k1268 H X s hE (by omega)).mono ?_)
 rintro u h ⟨rfl,rfl⟩
 rw [sig0 hF z]
 refine WOL.as rfl<|WOL.nil<|keep [(0,_),(4,_)] ⟨rfl,rfl,trivial⟩ ?_
 refine WL.sr<|WOL.mv rfl<|WOL.bf rfl rfl rfl rfl<|WOL.nil<|WL.no rfl<|WL.skip<|keep [(0,_)] ⟨rfl,trivial⟩ ?_
 refine WL.sr<|WOL.mv rfl<|WOL.cl1 rfl rfl ((k1313 H s lv (by omega) f).mono ?_)
 rintro u h3 ⟨X3,c,rfl,hc,Ac⟩
 have y3:=X3.next
 refine WOL.cl2 rfl rfl rfl ((k1312 (φ:=fun x=>-x) H (SlL.own eI Ac rfl) (by omega) (f.on X3) (fun x hx g _=>(k1315 H (by have:=lev_limI lv x hx;omega) g).mono fun v h' q=>⟨q.1,by rw [q.2];exact HX.refl _⟩)).mono ?_)
 rintro u h4 ⟨X4,d,rfl,hd,Ad⟩
 have y4:=X4.next
 have Y4:=X3.trans X4
 have lz:(L.map fun x=>-x).length=L.length:=List.length_map ..
 rw [← lz]
 refine WOL.as rfl<|WOL.nil<|keep [(5,_)] ⟨rfl,trivial⟩ ?_
 refine WL.sr<|WOL.mv rfl<|WOL.cl1 rfl rfl ((k1184 (n0:=h.next) H Ad (by omega) (f.hx Y4) (by omega)).mono ?_)
 rintro u h5 ⟨A5,x5,_,f5,n5⟩
 refine WOL.nil<|keep [(5,_)] ⟨rfl,trivial⟩ ?_
 have Y5:=x5 h Y4 (by omega)
 refine WL.sr<|WOL.mv rfl<|WOL.cl1 rfl rfl ((k1311b H (SlL.own eI A5 (by unfold trnL;rw [List.length_reverse]):SlL encI 1 h5 _ (trnL L)) (by unfold trnL;rw [List.length_reverse];omega) ok (f5.up (by omega))).mono ?_)
 rintro u h6 ⟨X6,c6,rfl,hc6,A6⟩
 rw [trn_len]
 exact WOL.ex rfl rfl<|WOL.ex rfl rfl<|WOL.as rfl<|WOL.as rfl<|WOL.nil<|WL.ret (WL.end_ rfl ⟨Y5.trans X6,c6,(by rw [lz];rfl),by omega,A6⟩)
theorem trn_vers (hM:M+(p+q)=L.length) (hj:j < M):(valC (tapC (trnL L) [] (vTn q p) M)).getD (M - 1 - j) 0=-((valC (tapC L [] (vTn p q) M)).getD j 0):=by
 rw [vers_all (by omega),vers_all hj,vTn_val,vTn_val]
 have tl:=trn_len (L:=L)
 rw [trn_get (by omega),trn_get (by omega),trn_get (by omega),show L.length - 1 - (M - 1 - j)=j+(p+q) by omega,show L.length - 1 - (M - 1 - j+q)=j+p by omega,show L.length - 1 - (M - 1 - j+(q+p))=j by omega]
 grind
def spd6 (U:List (_root_.Fin 256)):List Int:=U.map fun b=>1+((b.val:Nat):Int) % 6
theorem spd6_lim {U:List (_root_.Fin 256)}:∀ j,j < (spd6 U).length→1≤(spd6 U).getD j 0∧(spd6 U).getD j 0≤6:=fun j hj=>by
 have hj':j < U.length:=by unfold spd6 at hj;rw [List.length_map] at hj;exact hj
 rw [List.getD_eq_getElem?_getD]
 unfold spd6
 rw [List.getElem?_map,List.getElem?_eq_getElem hj']
 show 1≤1+((U[j].val:Nat):Int) % 6∧1+((U[j].val:Nat):Int) % 6≤6
 omega
theorem spd6_take {U:List (_root_.Fin 256)} {j:Nat} (hj:j < U.length):(spd6 U).take (j+1)=(spd6 U).take j ++ [1+((U[j].val:Nat):Int) % 6]:=by
 rw [List.take_add_one]
 unfold spd6
 rw [List.getElem?_map,List.getElem?_eq_getElem hj]
 rfl
theorem feq6_lim {n s:Int} (hn:n.natAbs≤320) (h1:1≤s) (h2:s≤6):(feQ n s).natAbs≤16384:=by
 unfold feQ
 have a:=mulb (w:=n) (x:=s) (a:=320) (b:=6) hn (by omega)
 have b:=mulb (w:=n*s) (x:=s) (a:=1920) (b:=6) a (by omega)
 omega
end
end Go.Tidy
namespace Go.Tidy
open Go Go.Proofs Tab
variable {tp:TProg}
theorem bd1117_101:buildT Tryz.prog 121 [(0,zi 101)]=some (trcV 101 (.slice none 0 0) (.slice none 0 0)):=by kernel_rfl
def cb1366:TCode:=(.seq (.reg r1366_13) (.seq (.reg r1366_14) (.seq (.seq (.reg r1366_15) (.block 2 (.loop (.seq (.reg r1366_16) (.seq (.cond (.tmp 119) .skip (.exit 2)) (.seq (.block 3 (.seq (.reg r1366_17) (.reg r1366_18))) (.reg r1366_19))))))) (.seq (.reg r1366_20) (.seq (.seq (.reg r1366_21) (.cond (.tmp 149) (.seq (.reg r1366_22) .ret) .skip)) (.seq (.reg r1366_23) (.seq (.seq (.reg r1366_24) (.cond (.tmp 174) (.seq (.reg r1366_25) .ret) .skip)) (.seq (.reg r1366_26) (.seq (.seq (.reg r1366_27) (.block 4 (.loop (.seq (.reg r1366_28) (.seq (.cond (.tmp 179) .skip (.exit 4)) (.seq (.block 5 (.seq (.reg r1366_29) (.reg r1366_30))) (.reg r1366_31))))))) (.seq (.reg r1366_32) (.seq (.seq (.reg r1366_33) (.cond (.tmp 193) (.reg r1366_34) .skip)) (.seq (.reg r1366_35) (.seq (.reg r1366_36) (.seq (.seq (.reg r1366_37) (.cond (.tmp 224) (.seq (.reg r1366_38) .ret) .skip)) (.reg r1366_39)))))))))))))))
attribute [irreducible] cb1366
section
theorem RF.apart {g:TH} {c:Nat} {v:Value} {D:List Int} {l:List Value} {fx wr:Bool} {el:TypeId} (r:RF g v D) (A:At g c (.cells l fx wr el)) (hl:∀ y,y ∈ l→∀ b,y≠.float .f32 b) (hD:0 < D.length):bl v≠some c:=by
 obtain ⟨F,s,lv⟩:=r
 have ll:=lv.1
 obtain ⟨bo,cap,rfl,h2,h3,h4⟩:=s
 rcases h4 with ⟨rfl,_⟩ | ⟨b,off,cc,fix,wr',el',rfl,q2,q3,q4⟩
 ·exact fun e=>nomatch e
 intro e
 have e:b=c:=Option.some.inj e
 subst e
 have e:=Option.some.inj (q2.get.symm.trans A.get)
 cases e
 match F,q3,ll with
 | [],_,ll=>simp at ll;omega
 | f::F,q3,_ =>
  have m:Value.float .f32 f ∈ cat encF (f::F):=List.Mem.head _
  rw [← q3] at m
  exact hl _ (List.mem_of_mem_drop (List.mem_of_mem_take m)) f rfl
theorem RF.keep {g g':TH} {v:Value} {D:List Int} (r:RF g v D) (k:∀ b x,bl v=some b→At g b x→At g' b x):RF g' v D:=by
 obtain ⟨F,s,lv⟩:=r
 exact ⟨F,slC_keep s k,lv⟩
theorem RF.put {g g':TH} {c:Nat} {x:TB} {v:Value} {D:List Int} {l:List Value} {fx wr:Bool} {el:TypeId} (r:RF g v D) (p:Put g g' c x) (A:At g c (.cells l fx wr el)) (hl:∀ y,y ∈ l→∀ b,y≠.float .f32 b) (hD:0 < D.length):RF g' v D :=
 r.keep fun b y hb a=>p.oth _ _ (fun e=>r.apart A hl hD (by rw [hb,e])) a
end
section
variable {h0 g:TH} {v v1 w:Value} {cs:Array Value} {F Fi:List Nat} {U:List (_root_.Fin 256)} {D:List Int} {c5 c9 c11 c12 p q P Q n j:Nat} {a11 b12:List Value}
set_option maxHeartbeats 8000000 in
set_option maxRecDepth 100000 in
theorem k1366y (H:Has tp) (X:HasX tp) (Gl:Glob h0) (X0:HX h0 g) (f:Free0 h0.next h0) (n11:h0.next≤c11) (n12:h0.next≤c12) (ne:c11≠c12) (s:SlL encF 1 h0 v F) (lF:F.length=n+2) (h2:2≤n) (h24:n≤22) (sW:SlL encF 1 h0 w Fi) (fW:Fits h0 w 76) (lW:Lev Fi D) (lD:D.length=n+2) (hD:∀ j,j < D.length→-80≤D.getD j 0∧D.getD j 0≤80) (t:SlL encU 1 h0 v1 U) (ft:Fits h0 v1 5) (hn:v1=.slice none 0 0∨∃ b m c,v1=.slice (some b) m c) (hU:n≤U.length)
  (A5:At h0 c5 (.cells [zi (p:Nat),zi (q:Nat)] true true 115)) (A9:At h0 c9 (.cells [zi (q:Nat),zi (p:Nat)] true true 117)) (hp:1≤p) (hp':p≤6) (hq:1≤q) (hq':q≤6) (hpq:p+q < n+2)
  (B11:At g c11 (.cells a11 true true 122)) (la:a11.length=6) (B12:At g c12 (.cells b12 true true 104)) (lb:b12.length=2) (nf11:∀ y,y ∈ a11→∀ b,y≠.float .f32 b) (nf12:∀ y,y ∈ b12→∀ b,y≠.float .f32 b)
  (ij:indexT Tryz.prog 104 (.agg cs) (zi (j:Nat))=some w) (i1:indexAddrT Tryz.prog 122 (.pointer (some ⟨c11,0,none⟩)) (zi (j:Nat))=some (.pointer (some ⟨c11,3*j,none⟩))) (i2:indexAddrT Tryz.prog 104 (.pointer (some ⟨c12,0,none⟩)) (zi (j:Nat))=some (.pointer (some ⟨c12,j,none⟩))) (hj:(j=0∧P=p∧Q=q)∨(j=1∧P=q∧Q=p))
  {Q':Exit→Regs→TH→Prop}
  (fin:∀ g' b1 x1 k1 w28,HX h0 g'→g.next≤g'.next→At g' c11 (.cells (splice a11 (3*j) [zi (100+(P:Int)),slA b1 (n+2 - (p+q)),.slice x1 0 k1]) true true 122)→At g' c12 (.cells (splice b12 j [w28]) true true 104)→TrcH g' (slA b1 (n+2 - (p+q))) (.slice x1 0 k1) (valC (tapC D [] (vTn P Q) (n+2 - (p+q)))) []→RF g' w28 D→g.next≤b1→(∀ z,bl (.slice x1 0 k1)=some z→g.next≤z)→(∀ x y,x≠c11→x≠c12→At g x y→At g' x y)→∀ r,Kn [(108,zi (j:Nat)),(0,v),(1,v1),(5,ptr c5),(9,ptr c9),(11,ptr c11),(12,ptr c12),(107,.agg cs)] r→Q' .normal r g') :
  ∀ r,Kn [(108,zi (j:Nat)),(0,v),(1,v1),(5,ptr c5),(9,ptr c9),(11,ptr c11),(12,ptr c12),(107,.agg cs)] r→W Tryz.prog tp false cb1366 r g Q':=by
 unfold cb1366
 have lWl:=lW.1
 have bn:=ben_len (L:=D)
 have cl:=cuv_len (L:=D)
 have hD':∀ j,-20000≤D.getD j 0∧D.getD j 0≤20000:=fun j=>by
  by_cases hj:j < D.length
  ·have:=hD j hj;omega
  ·rw [List.getD_eq_getElem?_getD,List.getElem?_eq_none (by omega)];decide
 have bo:∀ x,x ∈ benL D→x.natAbs≤320:=fun x hx=>by
  obtain ⟨i,hi⟩:=List.mem_iff_getElem?.1 hx
  have hlt:=(List.getElem?_eq_some_iff.1 hi).1
  rw [bn] at hlt
  have e:=ben_get hlt
  rw [List.getD_eq_getElem?_getD,hi] at e
  replace e:x=_:=e
  have a:=hD i (by omega)
  have b:=hD (i+1) (by omega)
  have c:=hD (i+2) (by omega)
  omega
 have okB:∀ x,x ∈ benL D→okI x=true:=fun x hx=>okI_iff.2 (by have:=bo x hx;omega)
 have smp_at:∀ j,j < Fi.length→Samp (Fi.getD j 0) (D.getD j 0):=fun j hj=>lW.2 j _ _ (by rw [List.getD_eq_getElem?_getD,List.getElem?_eq_getElem hj];rfl) (at_getD (by omega))
 have okD:∀ x,x ∈ D→okI x=true:=fun x hx=>okI_iff.2 (by have:=lev_limI lW x hx;omega)
 have e1:dblL (D.getD 0 0) (D.getD 1 0) (benL D)=D:=dbl_ben (by omega)
 obtain ⟨v',hv,t'⟩:=sl_toI (k:=.i64) eU u116i tp5i (t.hx X0) (ft.hx X0) hU
 have hk:v1=.slice none 0 0→n=0:=fun e=>by
  subst e
  obtain ⟨bo,cap,e1,_⟩:=t
  have:U.length=0:=by injection e1 with _ e2 _;exact e2.symm
  omega
 refine WL.sr<|WOL.mv rfl<|WOL.idx rfl rfl ij<|WOL.as rfl<|WOL.as rfl<|WOL.nil ?_
 refine WL.sr<|WOL.as rfl<|WOL.nil ?_
 have lU:(U.take n).length=n:=by rw [List.length_take];omega
 generalize hW:U.take n=W at *
 refine WL.seq<|WL.sr<|WOL.mv rfl<|WOL.mv rfl<|WOL.len rfl (s.hx X0) u43<|WOL.sub rfl rfl (by omega) (by omega) ?_
 rw [show ((F.length:Nat):Int) - 2=(n:Nat) by omega]
 refine WOL.slU rfl hn hk rfl hv<|WOL.len rfl t' u116i<|WOL.mv rfl<|WOL.nil<|keep [(0,_),(1,_),(5,_),(9,_),(11,_),(12,_),(13,_),(14,_),(15,_),(107,_),(108,_),(116,_),(117,_),(118,_)] ⟨rfl,rfl,rfl,rfl,rfl,rfl,rfl,rfl,rfl,rfl,rfl,rfl,rfl,rfl,trivial⟩ ?_
 rw [lU]
 have x0:=X0.next
 refine WL.upto (α:=Value) n (fun j' u g'=>HX g g'∧OwnL encI g.next g' u 3 ((spd6 W).take j')) (fun _ u=>[(0,v),(1,v1),(5,ptr c5),(9,ptr c9),(11,ptr c11),(12,ptr c12),(13,zi (j:Nat)),(14,w),(15,u),(107,.agg cs),(108,zi (j:Nat)),(116,v'),(117,zi (n:Nat))]) (.slice none 0 0) rfl rfl (by omega) ⟨HX.refl _,.inl ⟨rfl,rfl⟩⟩ ⟨rfl,rfl,rfl,rfl,rfl,rfl,rfl,rfl,rfl,rfl,rfl,rfl,rfl,rfl,trivial⟩ (fun _ _=>rfl) (fun _ _ _=>⟨rfl,rfl,rfl,rfl,rfl,rfl,rfl,rfl,rfl,rfl,rfl,rfl,rfl,rfl,trivial⟩) (fun _ _ _=>⟨rfl,rfl,rfl,rfl,rfl,rfl,rfl,rfl,rfl,rfl,rfl,rfl,rfl,rfl,trivial⟩) ?_ ?_
 ·rintro k u i0 hk ⟨Xg,O⟩
  have hjW:k < W.length:=by omega
  have hq:W[k]?=some W[k]:=List.getElem?_eq_getElem _
  obtain ⟨_,_,cb,fb',wb,elb,c1,c2,c3,c4,c5'⟩:=(t'.hx Xg).at eU u116i tp5i hq .i64
  have gxb:=c5' 0 (by decide)
  rw [Nat.add_zero] at gxb
  have xg:=Xg.next
  have wk:=byte_wrap W[k]
  refine WL.sr<|WOL.ix rfl rfl c1<|WOL.ld rfl (load_one tp5i c2 gxb)<|WOL.as rfl<|WOL.nil ?_
  refine WL.reg<|WOL.mv rfl<|WOL.mv rfl<|WOL.cvK u5i Tryz.underlying3 rfl wk<|WOL.rem (m:=((W[k].val:Nat):Int)) (n:=6) rfl rfl (by omega) (by decide)<|WOL.add (m:=1) (n:=((W[k].val:Nat):Int) % 6) rfl rfl (by omega) (by omega)<|WOL.bs1 rfl u29 tp3 rfl fun i1 M1=>?_
  have m1:=M1.next
  obtain ⟨w',i2,ap,O',x2,_⟩:=own_push (sT:=35) (x:=1+((W[k].val:Nat):Int) % 6) eI u29 tp3 (O.hx M1.hx) (SlC.own (sz:=1) (m:=1) rfl M1.at_) (((f.hx X0).up x0).hx (Xg.trans M1.hx)) (by rw [List.length_take];omega) (by omega)
  rw [← spd6_take hjW] at O'
  exact WOL.ap rfl rfl ap<|WOL.as rfl<|WOL.nil fun y k=>⟨w',⟨x2 _ (Xg.trans M1.hx) (Nat.le_refl _),O'⟩,k.sub ⟨rfl,rfl,rfl,rfl,rfl,rfl,rfl,rfl,rfl,rfl,rfl,rfl,rfl,rfl,trivial⟩⟩
 rintro u g1 ⟨X1,O⟩
 have lS:(spd6 W).length=n:=by unfold spd6;rw [List.length_map];omega
 rw [List.take_of_length_le (by omega)] at O
 have hs:=spd6_lim (U:=W)
 generalize spd6 W=S at *
 have hs':∀ j,j < S.length→1≤S.getD j 0∧S.getD j 0≤100:=fun j hj=>by have:=hs j hj;omega
 have sS:=O.sl eI
 have Y1:=X0.trans X1
 have ok1:∀ x,x ∈ List.zipWith feQ (benL D) S→okI x=true:=fun x hx=>by
  obtain ⟨a,b,ha,hb,rfl⟩:=zw_mem hx
  have h1:=bo a ha
  obtain ⟨i,hi⟩:=List.mem_iff_getElem?.1 hb
  have hi':=(List.getElem?_eq_some_iff.1 hi).1
  have h3:=hs i hi'
  rw [List.getD_eq_getElem?_getD,hi] at h3
  exact okI_iff.2 (feq6_lim h1 h3.1 h3.2)
 have eb:List.zipWith frQ (List.zipWith feQ (benL D) S) S=benL D:=frq_feq (by omega) fun j hj=>(hs j hj).1
 refine keep [(0,_),(1,_),(5,_),(9,_),(11,_),(12,_),(13,_),(14,_),(15,_),(107,_),(108,_)] ⟨rfl,rfl,rfl,rfl,rfl,rfl,rfl,rfl,rfl,rfl,rfl,trivial⟩ ?_
 -- felt
 refine WL.sr<|WOL.bs0 u43 tp25 (by decide) (by decide) fun g2 N2=>WOL.mv rfl ?_
 have Y2:=Y1.trans N2.hx
 obtain ⟨u3,g3,ap3,X3,s3,b3,rfl,hb3,F3⟩:=append_own u43 tp25 N2.at_ (sW.hx Y2) (by omega) (eF.all _)
 refine WOL.ap rfl rfl ap3<|WOL.bs0 u29 tp3 (by decide) (by decide) fun g4 N4=>WOL.mv rfl ?_
 have Z4:=(N2.hx.trans X3).trans N4.hx
 obtain ⟨u5,g5,ap5,X5,s5,b5,rfl,hb5,F5⟩:=append_own u29 tp3 N4.at_ (sS.hx Z4) (by omega) (eI.all _)
 have Z5:=Z4.trans X5
 have Y5:=Y1.trans Z5
 have q3:SlL encF 1 g5 (.slice (some ⟨b3,0,none⟩) Fi.length Fi.length) Fi:=(show SlL encF 1 g3 _ Fi from s3).hx (N4.hx.trans X5)
 refine WOL.ap rfl rfl ap5<|WOL.cl2 rfl rfl rfl ((k1292o H X (Gl.hx Y5) q3 (show SlL encI 1 g5 _ S from s5) lW (by omega) (by omega) hs' ok1 (f.on Y5)).mono ?_)
 rintro u g6 ⟨X6,v18,rfl,r18⟩
 have Z6:=Z5.trans X6
 have Y6:=Y1.trans Z6
 obtain ⟨F18,s18,l18⟩:=id r18
 have e18:((F18.length:Nat):Int)=((F.length:Nat):Int) - 2:=by have:=l18.1;rw [List.length_zipWith] at this;omega
 have s6:=s.hx Y6
 have l18':F18.length=S.length:=by have:=l18.1;rw [List.length_zipWith] at this;omega
 repeat' (first
  | refine WOL.len rfl s18 u43 ?_
  | refine WOL.len rfl s6 u43 ?_
  | refine WOL.bf rfl rfl rfl (bne_eq_false_iff_eq.2 e18) ?_
  | refine WL.sr ?_
  | refine WL.seq ?_
  | refine WL.reg ?_
  | refine WOL.nil ?_
  | refine WL.skip ?_
  | refine WOL.now (b:=true) rfl rfl ?_
  | refine WOL.now (b:=false) rfl rfl ?_
  | refine WOL.skp (b:=true) rfl rfl ?_
  | refine WOL.skp (b:=false) rfl rfl ?_
  | refine WOL.gu rfl rfl ?_
  | refine WOL.mv rfl ?_
  | refine WOL.as rfl ?_
  | refine WOL.ex rfl rfl ?_
  | refine WOL.nt rfl ?_
  | refine WOL.pkt rfl rfl ?_
  | refine WOL.pkf rfl rfl ?_
  | refine WL.yes rfl ?_
  | refine WL.no rfl ?_
  | refine WOL.ld rfl (load_one (by first | exact tp25 | exact tp3) (by first | with_reducible assumption | assumption) (by rfl)) ?_
  | refine WOL.ld rfl (load_row (by first | exact tp25 | exact tp3) (by first | with_reducible assumption | assumption) rfl (Nat.le_of_ble_eq_true rfl)) ?_
  | refine WOL.len rfl (by first | with_reducible assumption | assumption) (by first | exact u43 | exact u29 | exact u44) ?_
  | refine WOL.add rfl rfl (by omega) (by omega) ?_
  | refine WOL.sub rfl rfl (by omega) (by omega) ?_
  | refine WOL.mul rfl rfl (by omega) (by omega) ?_
  | refine WOL.bt rfl rfl rfl (by first | exact decide_eq_true (by omega) | exact beq_iff_eq.2 (by omega) | exact bne_iff_ne.2 (by omega)) ?_
  | refine WOL.bf rfl rfl rfl (by first | exact decide_eq_false (by omega) | exact beq_eq_false_iff_ne.2 (by omega) | exact bne_eq_false_iff_eq.2 (by omega)) ?_)
 -- freed
 refine WOL.bs0 u43 tp25 (by decide) (by decide) fun g7 N7=>WOL.mv rfl ?_
 obtain ⟨u8,g8,ap8,X8,s8,b8,rfl,hb8,F8⟩:=append_own u43 tp25 N7.at_ (s18.hx N7.hx) (by omega) (eF.all _)
 refine WOL.ap rfl rfl ap8<|WOL.bs0 u29 tp3 (by decide) (by decide) fun g9 N9=>WOL.mv rfl ?_
 have Z9:=((Z6.trans N7.hx).trans X8).trans N9.hx
 obtain ⟨u10,g10,ap10,X10,s10,b10,rfl,hb10,F10⟩:=append_own u29 tp3 N9.at_ (sS.hx Z9) (by omega) (eI.all _)
 have Z10:=Z9.trans X10
 have Y10:=Y1.trans Z10
 refine WOL.ap rfl rfl ap10<|WOL.cl2 rfl rfl rfl ((k1294o H X ((show SlL encF 1 g8 _ F18 from s8).hx (N9.hx.trans X10)) (show SlL encI 1 g10 _ S from s10) l18 (by omega) (by omega) hs' (by rw [eb];exact okB) (f.on Y10)).mono ?_)
 rintro u g11 ⟨X11,v20,rfl,r20⟩
 rw [eb] at r20
 have Z11:=Z10.trans X11
 have Y11:=Y1.trans Z11
 obtain ⟨F20,s20,l20⟩:=id r20
 have l20':=l20.1
 obtain ⟨es20,hE20,z20⟩:=serr_zero l20
 have e20:((F20.length:Nat):Int)=((F.length:Nat):Int) - 2:=by omega
 have s11:=s.hx Y11
 repeat' (first
  | refine WOL.len rfl s20 u43 ?_
  | refine WOL.len rfl s11 u43 ?_
  | refine WOL.bf rfl rfl rfl (bne_eq_false_iff_eq.2 e20) ?_
  | (refine WOL.cl1 rfl rfl ((k141 H s20 hE20 (by omega)).mono ?_);rintro _ g11 ⟨rfl,rfl⟩;rw [z20])
  | refine WL.sr ?_
  | refine WL.seq ?_
  | refine WL.reg ?_
  | refine WOL.nil ?_
  | refine WL.skip ?_
  | refine WOL.now (b:=true) rfl rfl ?_
  | refine WOL.now (b:=false) rfl rfl ?_
  | refine WOL.skp (b:=true) rfl rfl ?_
  | refine WOL.skp (b:=false) rfl rfl ?_
  | refine WOL.gu rfl rfl ?_
  | refine WOL.mv rfl ?_
  | refine WOL.as rfl ?_
  | refine WOL.ex rfl rfl ?_
  | refine WOL.nt rfl ?_
  | refine WOL.pkt rfl rfl ?_
  | refine WOL.pkf rfl rfl ?_
  | refine WL.yes rfl ?_
  | refine WL.no rfl ?_
  | refine WOL.ld rfl (load_one (by first | exact tp25 | exact tp3) (by first | with_reducible assumption | assumption) (by rfl)) ?_
  | refine WOL.ld rfl (load_row (by first | exact tp25 | exact tp3) (by first | with_reducible assumption | assumption) rfl (Nat.le_of_ble_eq_true rfl)) ?_
  | refine WOL.len rfl (by first | with_reducible assumption | assumption) (by first | exact u43 | exact u29 | exact u44) ?_
  | refine WOL.add rfl rfl (by omega) (by omega) ?_
  | refine WOL.sub rfl rfl (by omega) (by omega) ?_
  | refine WOL.mul rfl rfl (by omega) (by omega) ?_
  | refine WOL.bt rfl rfl rfl (by first | exact decide_eq_true (by omega) | exact beq_iff_eq.2 (by omega) | exact bne_iff_ne.2 (by omega)) ?_
  | refine WOL.bf rfl rfl rfl (by first | exact decide_eq_false (by omega) | exact beq_eq_false_iff_ne.2 (by omega) | exact bne_eq_false_iff_eq.2 (by omega)) ?_)
 refine WOL.bd rfl bd1117_101 ?_
 refine WOL.alS (vs:=[zi 101,.slice none 0 0,.slice none 0 0]) tp1117 rfl rfl rfl rfl (f.on Y11) fun g12 X12 A22=>WOL.nil ?_
 have Y12:=Y11.trans X12
 have y12:=A22.lt
 have lm:∀ j,((benL D).getD j 0).natAbs≤16384:=fun j=>lev_getD l20 j
 have s12:=s20.hx X12
 refine WL.seq<|WL.sr<|WOL.mv rfl<|WOL.len rfl s12 u43<|WOL.mv rfl<|WOL.nil<|keep [(0,_),(1,_),(5,_),(9,_),(11,_),(12,_),(13,_),(14,_),(20,_),(22,_),(107,_),(108,_),(176,_),(177,_),(178,_)] ⟨rfl,rfl,rfl,rfl,rfl,rfl,rfl,rfl,rfl,rfl,rfl,rfl,rfl,rfl,rfl,trivial⟩ ?_
 have z11:=Z11.next
 have w1:=Y11.next
 refine WL.upto (α:=Value) F20.length (fun j' u g'=>HX g11 g'∧g12.next≤g'.next∧At g' g11.next (.cells [zi 101,u,.slice none 0 0] true true 121)∧OwnL encI g12.next g' u 3 ((cuvL D).take j')) (fun _ _=>[(0,v),(1,v1),(5,ptr c5),(9,ptr c9),(11,ptr c11),(12,ptr c12),(13,zi (j:Nat)),(14,w),(20,v20),(22,ptr g11.next),(107,.agg cs),(108,zi (j:Nat)),(176,v20),(177,zi (F20.length:Nat))]) (.slice none 0 0) rfl rfl (by omega) ⟨X12,Nat.le_refl _,A22,.inl ⟨rfl,rfl⟩⟩ ⟨rfl,rfl,rfl,rfl,rfl,rfl,rfl,rfl,rfl,rfl,rfl,rfl,rfl,rfl,rfl,trivial⟩ (fun _ _=>rfl) (fun _ _ _=>⟨rfl,rfl,rfl,rfl,rfl,rfl,rfl,rfl,rfl,rfl,rfl,rfl,rfl,rfl,rfl,trivial⟩) (fun _ _ _=>⟨rfl,rfl,rfl,rfl,rfl,rfl,rfl,rfl,rfl,rfl,rfl,rfl,rfl,rfl,rfl,trivial⟩) ?_ ?_
 ·rintro k u i0 hk ⟨Xg,nx,W22,O⟩
  obtain ⟨p1,d1,a1,l1,s1⟩:=(r20.hx Xg).at (i:=(k:Nat)) (by omega) (by omega)
  rw [Int.toNat_natCast] at s1
  have b1:=lm k
  have Yi:=Y11.trans Xg
  repeat' (first
  | refine WOL.ix rfl rfl a1 ?_
  | refine WOL.ld rfl l1 ?_
  | refine WOL.fa rfl (fa_of fo1117_1) ?_
  | refine WOL.ld rfl (load_one tp29 W22 rfl) ?_
  | (refine WOL.lk1 rfl rfl fun ml=>((k95 H s1 _).mono ?_);rintro _ _ ⟨rfl,rfl⟩;rw [TH.relock])
  | refine WOL.neg rfl (by omega) (by omega) ?_
  | refine WL.sr ?_
  | refine WL.seq ?_
  | refine WL.reg ?_
  | refine WOL.nil ?_
  | refine WL.skip ?_
  | refine WOL.now (b:=true) rfl rfl ?_
  | refine WOL.now (b:=false) rfl rfl ?_
  | refine WOL.skp (b:=true) rfl rfl ?_
  | refine WOL.skp (b:=false) rfl rfl ?_
  | refine WOL.gu rfl rfl ?_
  | refine WOL.mv rfl ?_
  | refine WOL.as rfl ?_
  | refine WOL.ex rfl rfl ?_
  | refine WOL.nt rfl ?_
  | refine WOL.pkt rfl rfl ?_
  | refine WOL.pkf rfl rfl ?_
  | refine WL.yes rfl ?_
  | refine WL.no rfl ?_
  | refine WOL.ld rfl (load_one (by first | exact tp25 | exact tp3) (by first | with_reducible assumption | assumption) (by rfl)) ?_
  | refine WOL.ld rfl (load_row (by first | exact tp25 | exact tp3) (by first | with_reducible assumption | assumption) rfl (Nat.le_of_ble_eq_true rfl)) ?_
  | refine WOL.len rfl (by first | with_reducible assumption | assumption) (by first | exact u43 | exact u29 | exact u44) ?_
  | refine WOL.add rfl rfl (by omega) (by omega) ?_
  | refine WOL.sub rfl rfl (by omega) (by omega) ?_
  | refine WOL.mul rfl rfl (by omega) (by omega) ?_
  | refine WOL.bt rfl rfl rfl (by first | exact decide_eq_true (by omega) | exact beq_iff_eq.2 (by omega) | exact bne_iff_ne.2 (by omega)) ?_
  | refine WOL.bf rfl rfl rfl (by first | exact decide_eq_false (by omega) | exact beq_eq_false_iff_ne.2 (by omega) | exact bne_eq_false_iff_eq.2 (by omega)) ?_)
  refine WOL.bs1 rfl u29 tp3 rfl fun i1 M1=>?_
  have m1:=M1.next
  obtain ⟨w',i2,ap,O',x2,kp,_,nx2⟩:=own_push (sT:=35) (x:=-((benL D).getD k 0)) eI u29 tp3 (O.hx M1.hx) (SlC.own (sz:=1) (m:=1) rfl M1.at_) ((f.hx (Yi.trans M1.hx)).up (by omega)) (by rw [List.length_take];omega) (by omega)
  have et:(cuvL D).take k ++ [-((benL D).getD k 0)]=(cuvL D).take (k+1):=by
   rw [← cuv_ben (by omega),take_succ_get (at_getD (by omega))]
  rw [et] at O'
  have A2:=kp g11.next _ (fun e=>by have:=((O.hx M1.hx).lt e).1;omega) (W22.hx M1.hx)
  refine WOL.ap rfl rfl ap<|WOL.fa rfl (fa_of fo1117_1) ?_
  obtain ⟨fo,fe⟩:∃ bo m,w'=.slice bo m m:=by
   rcases O' with ⟨e,_⟩ | ⟨_,b,e,_⟩
   ·exact ⟨_,_,e⟩
   ·exact ⟨_,_,e⟩
  obtain ⟨fm,rfl⟩:=fe
  refine WOL.sto (vs:=[.slice fo fm fm]) rfl rfl tp29 A2 rfl rfl (Nat.le_of_ble_eq_true rfl) rfl (f.hx (Y11.trans (x2 _ (Xg.trans M1.hx) (by omega)))) (show h0.next≤g11.next by omega) fun i3 P3=>WOL.nil fun y k=>⟨.slice fo fm fm,⟨P3.hx _ (x2 _ (Xg.trans M1.hx) (by omega)) (Nat.le_refl _),by rw [P3.next];omega,P3.at_,O'.keep fun z y hz a=>P3.oth _ _ (by have:=(O'.lt hz).1;omega) a⟩,k.sub ⟨rfl,rfl,rfl,rfl,rfl,rfl,rfl,rfl,rfl,rfl,rfl,rfl,rfl,rfl,rfl,trivial⟩⟩
 rintro u g13 ⟨Xg,nx,W22,O⟩
 rw [List.take_of_length_le (by omega)] at O
 obtain ⟨b22,rfl,hb22,Ab⟩:=own_at O (j:=0) (by omega)
 have T22:TrcH g13 (slA b22 (cuvL D).length) (.slice none 0 0) (cuvL D) []:=⟨SlL.own eI Ab rfl,SlL.nil,fun b off m cap e=>by
  cases e
  exact ⟨_,_,_,_,Ab,.inr rfl⟩⟩
 have Yg:=Y11.trans Xg
 have xg:=Yg.next
 have l11:=B11.lt
 have l12:=B12.lt
 have x1:=X1.next
 obtain ⟨M,hM⟩:∃ M,n+2 - (p+q)=M:=⟨_,rfl⟩
 rw [hM] at fin
 have hPQ:1≤P∧P≤6∧1≤Q∧Q≤6∧P+Q=p+q:=by omega
 have te7:traceE 101 (cuvL D) []=0:=by
  have:=traceE_made (n:=101) (C:=tapC D [] (vTn 1 1) (D.length - 2)) (vers_small (by decide) (by decide) hD') (by decide) (by rw [tapC_len];omega) (by rw [tapC_len];omega)
  rwa [vers_holes] at this
 have ce:chordE (P:Int) (Q:Int)=0:=chordE_in (by omega) (by omega) (by omega) (by omega)
 obtain ⟨bw,off,cap,cc,fix,wr,el,rfl,hc,gA,gA2,gA3⟩:=sl_ad sW (by omega)
 obtain ⟨cc',fix',wr',el',gF,hf⟩:=fW bw off Fi.length cap rfl
 refine keep [(0,_),(1,_),(5,_),(9,_),(11,_),(12,_),(13,_),(14,_),(20,_),(22,_),(107,_),(108,_)] ⟨rfl,rfl,rfl,rfl,rfl,rfl,rfl,rfl,rfl,rfl,rfl,rfl,trivial⟩ ?_
 rcases hj with ⟨j0,hP,hQ⟩ | ⟨j1,hP,hQ⟩
 focus
  subst hP hQ
  repeat' (first
  | refine WOL.ld rfl (load_row tp1112 (A5.hx Yg) rfl (Nat.le_of_ble_eq_true rfl)) ?_
  | (refine WOL.alS (vs:=[zi (P:Nat),zi (Q:Nat)]) tp1128 rfl rfl rfl rfl (f.on Yg) ?_;intro g14 X14 A25)
  | refine WOL.bf rfl rfl rfl (beq_eq_false_iff_ne.2 (by omega)) ?_
  | refine WOL.ld rfl (load_row tp1128 A25 rfl (Nat.le_of_ble_eq_true rfl)) ?_
  | refine WOL.ld rfl (load_row tp1117 (W22.hx X14) rfl (Nat.le_of_ble_eq_true rfl)) ?_
  | refine WL.sr ?_
  | refine WL.seq ?_
  | refine WL.reg ?_
  | refine WOL.nil ?_
  | refine WL.skip ?_
  | refine WOL.now (b:=true) rfl rfl ?_
  | refine WOL.now (b:=false) rfl rfl ?_
  | refine WOL.skp (b:=true) rfl rfl ?_
  | refine WOL.skp (b:=false) rfl rfl ?_
  | refine WOL.gu rfl rfl ?_
  | refine WOL.mv rfl ?_
  | refine WOL.as rfl ?_
  | refine WOL.ex rfl rfl ?_
  | refine WOL.nt rfl ?_
  | refine WOL.pkt rfl rfl ?_
  | refine WOL.pkf rfl rfl ?_
  | refine WL.yes rfl ?_
  | refine WL.no rfl ?_
  | refine WOL.ld rfl (load_one (by first | exact tp25 | exact tp3) (by first | with_reducible assumption | assumption) (by rfl)) ?_
  | refine WOL.ld rfl (load_row (by first | exact tp25 | exact tp3) (by first | with_reducible assumption | assumption) rfl (Nat.le_of_ble_eq_true rfl)) ?_
  | refine WOL.len rfl (by first | with_reducible assumption | assumption) (by first | exact u43 | exact u29 | exact u44) ?_
  | refine WOL.add rfl rfl (by omega) (by omega) ?_
  | refine WOL.sub rfl rfl (by omega) (by omega) ?_
  | refine WOL.mul rfl rfl (by omega) (by omega) ?_
  | refine WOL.bt rfl rfl rfl (by first | exact decide_eq_true (by omega) | exact beq_iff_eq.2 (by omega) | exact bne_iff_ne.2 (by omega)) ?_
  | refine WOL.bf rfl rfl rfl (by first | exact decide_eq_false (by omega) | exact beq_eq_false_iff_ne.2 (by omega) | exact bne_eq_false_iff_eq.2 (by omega)) ?_)
  have Z14:=X14
 rotate_left
 focus
  subst hP hQ
  repeat' (first
  | refine WOL.ld rfl (load_row tp1112 (A5.hx Yg) rfl (Nat.le_of_ble_eq_true rfl)) ?_
  | (refine WOL.alS (vs:=[zi (Q:Nat),zi (P:Nat)]) tp1128 rfl rfl rfl rfl (f.on Yg) ?_;intro g14 X14 A25)
  | refine WOL.bt rfl rfl rfl (beq_iff_eq.2 (by omega)) ?_
  | refine WOL.ld rfl (load_row tp1128 P15.at_ rfl (Nat.le_of_ble_eq_true rfl)) ?_
  | refine WOL.ld rfl (load_row tp1128 (A9.hx (Yg.trans X14)) rfl (Nat.le_of_ble_eq_true rfl)) ?_
  | (refine WOL.sto (vs:=[zi (P:Nat),zi (Q:Nat)]) rfl rfl tp1128 A25 rfl rfl (Nat.le_of_ble_eq_true rfl) rfl (f.hx (Yg.trans X14)) (show h0.next≤g13.next by omega) ?_;intro g15 P15)
  | refine WOL.ld rfl (load_row tp1117 (W22.hx (P15.hx _ X14 (Nat.le_refl _))) rfl (Nat.le_of_ble_eq_true rfl)) ?_
  | refine WL.sr ?_
  | refine WL.seq ?_
  | refine WL.reg ?_
  | refine WOL.nil ?_
  | refine WL.skip ?_
  | refine WOL.now (b:=true) rfl rfl ?_
  | refine WOL.now (b:=false) rfl rfl ?_
  | refine WOL.skp (b:=true) rfl rfl ?_
  | refine WOL.skp (b:=false) rfl rfl ?_
  | refine WOL.gu rfl rfl ?_
  | refine WOL.mv rfl ?_
  | refine WOL.as rfl ?_
  | refine WOL.ex rfl rfl ?_
  | refine WOL.nt rfl ?_
  | refine WOL.pkt rfl rfl ?_
  | refine WOL.pkf rfl rfl ?_
  | refine WL.yes rfl ?_
  | refine WL.no rfl ?_
  | refine WOL.ld rfl (load_one (by first | exact tp25 | exact tp3) (by first | with_reducible assumption | assumption) (by rfl)) ?_
  | refine WOL.ld rfl (load_row (by first | exact tp25 | exact tp3) (by first | with_reducible assumption | assumption) rfl (Nat.le_of_ble_eq_true rfl)) ?_
  | refine WOL.len rfl (by first | with_reducible assumption | assumption) (by first | exact u43 | exact u29 | exact u44) ?_
  | refine WOL.add rfl rfl (by omega) (by omega) ?_
  | refine WOL.sub rfl rfl (by omega) (by omega) ?_
  | refine WOL.mul rfl rfl (by omega) (by omega) ?_
  | refine WOL.bt rfl rfl rfl (by first | exact decide_eq_true (by omega) | exact beq_iff_eq.2 (by omega) | exact bne_iff_ne.2 (by omega)) ?_
  | refine WOL.bf rfl rfl rfl (by first | exact decide_eq_false (by omega) | exact beq_eq_false_iff_ne.2 (by omega) | exact bne_eq_false_iff_eq.2 (by omega)) ?_)
  have Z14:=P15.hx _ X14 (Nat.le_refl _)
 all_goals
  have Y14:=Yg.trans Z14
  have z14:=Z14.next
  refine WOL.cl2 rfl rfl rfl ((k1131 (n:=101) (a:=(P:Int)) (b:=(Q:Int)) H (T22.hx Z14) (by omega) (by decide) (f.on Y14)).mono ?_)
  rintro u g16 ⟨X16,R⟩
  have Y16:=Y14.trans X16
  rw [Int.toNat_natCast,Int.toNat_natCast,errV_in (by rw [ce,te7];rfl) (by omega),show (cuvL D).length - (P+Q - 2)*1=M by omega,show (101:Int) - (1 - (P:Int))*1=100+(P:Int) by omega] at R
  obtain ⟨b26,x26,m26,k26,rfl,hb26,to26⟩:=R.ok rfl (cuv_small (by omega) (by omega) (by omega) (by omega) (by omega) hD')
  rw [tapC_len]
  have lo26:∀ z,bl (.slice x26 m26 k26)=some z→g.next≤z:=fun z hz=>by have:=(to26.s.lt hz).1;omega
  have T26:=to26.trcC
  rw [tapC_len,wT_flags,cuv_both (by omega) (by omega) (by omega) (by omega) (by omega)] at T26
  obtain ⟨_,_,ee⟩:=T26.s.form
  cases ee
  repeat' (first
  | (refine WOL.alS (vs:=[zi (100+(P:Int)),slA b26 M,.slice x26 0 k26]) tp1117 rfl rfl rfl rfl (f.on Y16) ?_;intro g17 X17 A26)
  | refine WL.sr ?_
  | refine WL.seq ?_
  | refine WL.reg ?_
  | refine WOL.nil ?_
  | refine WL.skip ?_
  | refine WOL.now (b:=true) rfl rfl ?_
  | refine WOL.now (b:=false) rfl rfl ?_
  | refine WOL.skp (b:=true) rfl rfl ?_
  | refine WOL.skp (b:=false) rfl rfl ?_
  | refine WOL.gu rfl rfl ?_
  | refine WOL.mv rfl ?_
  | refine WOL.as rfl ?_
  | refine WOL.ex rfl rfl ?_
  | refine WOL.nt rfl ?_
  | refine WOL.pkt rfl rfl ?_
  | refine WOL.pkf rfl rfl ?_
  | refine WL.yes rfl ?_
  | refine WL.no rfl ?_
  | refine WOL.ld rfl (load_one (by first | exact tp25 | exact tp3) (by first | with_reducible assumption | assumption) (by rfl)) ?_
  | refine WOL.ld rfl (load_row (by first | exact tp25 | exact tp3) (by first | with_reducible assumption | assumption) rfl (Nat.le_of_ble_eq_true rfl)) ?_
  | refine WOL.len rfl (by first | with_reducible assumption | assumption) (by first | exact u43 | exact u29 | exact u44) ?_
  | refine WOL.add rfl rfl (by omega) (by omega) ?_
  | refine WOL.sub rfl rfl (by omega) (by omega) ?_
  | refine WOL.mul rfl rfl (by omega) (by omega) ?_
  | refine WOL.bt rfl rfl rfl (by first | exact decide_eq_true (by omega) | exact beq_iff_eq.2 (by omega) | exact bne_iff_ne.2 (by omega)) ?_
  | refine WOL.bf rfl rfl rfl (by first | exact decide_eq_false (by omega) | exact beq_eq_false_iff_ne.2 (by omega) | exact bne_eq_false_iff_eq.2 (by omega)) ?_)
  refine WOL.bs0 u43 tp25 (by decide) (by decide) fun g18 N18=>?_
  have Y17:=Y16.trans X17
  have Y18:=Y17.trans N18.hx
  have Z18:=((((Xg.trans Z14).trans X16).trans X17).trans N18.hx)
  refine WOL.mv rfl<|WOL.mv rfl<|WOL.slG rfl rfl rfl rfl (sliceT_to (k:=.i64) (hi:=2) u43 tp25 hc (by omega) (gF.hx Y18) hf)<|WOL.s2a rfl u1294a (by decide) (by decide)<|WOL.ld rfl (load_row (l:=[.float .f32 (Fi.getD 0 0),.float .f32 (Fi.getD 1 0)]) tp1294 (gA.hx Y18) (two_at (off:=off) (j:=0) (by omega) gA2 (by omega)) (by omega)) ?_
  refine WOL.apO rfl rfl u43 tp25 N18.at_ (s20.hx Z18) (by omega) (eF.all _) fun g19 b19 X19 hb19 s19=>?_
  have Y19:=Y18.trans X19
  refine WOL.cl2 rfl rfl rfl ((k1278o H X s19 l20 (by omega) (smp_at 0 (by omega)) (smp_at 1 (by omega)) (by rw [e1];exact okD) (f.on Y19)).mono ?_)
  rintro u g20 ⟨X20,v28,rfl,r28⟩
  rw [e1] at r28
  have Y20:=Y19.trans X20
  have Z20:=(N18.hx.trans X19).trans X20
  have W20:=X1.trans (Z11.trans (Z18.trans (X19.trans X20)))
  obtain ⟨F28,s28,l28⟩:=id r28
  have e28:((F28.length:Nat):Int)=((F.length:Nat):Int):=by have:=l28.1;omega
  obtain ⟨bo28,cap28,rfl⟩:=s28.form
  have s0':=s.hx Y20
  repeat' (first
  | refine WOL.len rfl s28 u43 ?_
  | refine WOL.len rfl s0' u43 ?_
  | refine WOL.bf rfl rfl rfl (bne_eq_false_iff_eq.2 e28) ?_
  | refine WOL.ld rfl (load_row tp1117 (A26.hx Z20) rfl (Nat.le_of_ble_eq_true rfl)) ?_
  | refine WOL.ix rfl rfl i1 ?_
  | refine WOL.ix rfl rfl i2 ?_
  | (refine WOL.sto (vs:=[zi (100+(P:Int)),slA b26 M,.slice x26 0 k26]) rfl rfl tp1117 (B11.hx W20) rfl rfl (by omega) rfl (f.hx Y20) n11 ?_;intro g21 P21)
  | refine WL.sr ?_
  | refine WL.seq ?_
  | refine WL.reg ?_
  | refine WOL.nil ?_
  | refine WL.skip ?_
  | refine WOL.now (b:=true) rfl rfl ?_
  | refine WOL.now (b:=false) rfl rfl ?_
  | refine WOL.skp (b:=true) rfl rfl ?_
  | refine WOL.skp (b:=false) rfl rfl ?_
  | refine WOL.gu rfl rfl ?_
  | refine WOL.mv rfl ?_
  | refine WOL.as rfl ?_
  | refine WOL.ex rfl rfl ?_
  | refine WOL.nt rfl ?_
  | refine WOL.pkt rfl rfl ?_
  | refine WOL.pkf rfl rfl ?_
  | refine WL.yes rfl ?_
  | refine WL.no rfl ?_
  | refine WOL.ld rfl (load_one (by first | exact tp25 | exact tp3) (by first | with_reducible assumption | assumption) (by rfl)) ?_
  | refine WOL.ld rfl (load_row (by first | exact tp25 | exact tp3) (by first | with_reducible assumption | assumption) rfl (Nat.le_of_ble_eq_true rfl)) ?_
  | refine WOL.len rfl (by first | with_reducible assumption | assumption) (by first | exact u43 | exact u29 | exact u44) ?_
  | refine WOL.add rfl rfl (by omega) (by omega) ?_
  | refine WOL.sub rfl rfl (by omega) (by omega) ?_
  | refine WOL.mul rfl rfl (by omega) (by omega) ?_
  | refine WOL.bt rfl rfl rfl (by first | exact decide_eq_true (by omega) | exact beq_iff_eq.2 (by omega) | exact bne_iff_ne.2 (by omega)) ?_
  | refine WOL.bf rfl rfl rfl (by first | exact decide_eq_false (by omega) | exact beq_eq_false_iff_ne.2 (by omega) | exact bne_eq_false_iff_eq.2 (by omega)) ?_)
  have Y21:=P21.hx _ Y20 n11
  have C12:=P21.oth c12 _ ne.symm (B12.hx W20)
  repeat' (first
  | refine WOL.ix rfl rfl i2 ?_
  | refine WL.sr ?_
  | refine WL.seq ?_
  | refine WL.reg ?_
  | refine WOL.nil ?_
  | refine WL.skip ?_
  | refine WOL.now (b:=true) rfl rfl ?_
  | refine WOL.now (b:=false) rfl rfl ?_
  | refine WOL.skp (b:=true) rfl rfl ?_
  | refine WOL.skp (b:=false) rfl rfl ?_
  | refine WOL.gu rfl rfl ?_
  | refine WOL.mv rfl ?_
  | refine WOL.as rfl ?_
  | refine WOL.ex rfl rfl ?_
  | refine WOL.nt rfl ?_
  | refine WOL.pkt rfl rfl ?_
  | refine WOL.pkf rfl rfl ?_
  | refine WL.yes rfl ?_
  | refine WL.no rfl ?_
  | refine WOL.ld rfl (load_one (by first | exact tp25 | exact tp3) (by first | with_reducible assumption | assumption) (by rfl)) ?_
  | refine WOL.ld rfl (load_row (by first | exact tp25 | exact tp3) (by first | with_reducible assumption | assumption) rfl (Nat.le_of_ble_eq_true rfl)) ?_
  | refine WOL.len rfl (by first | with_reducible assumption | assumption) (by first | exact u43 | exact u29 | exact u44) ?_
  | refine WOL.add rfl rfl (by omega) (by omega) ?_
  | refine WOL.sub rfl rfl (by omega) (by omega) ?_
  | refine WOL.mul rfl rfl (by omega) (by omega) ?_
  | refine WOL.bt rfl rfl rfl (by first | exact decide_eq_true (by omega) | exact beq_iff_eq.2 (by omega) | exact bne_iff_ne.2 (by omega)) ?_
  | refine WOL.bf rfl rfl rfl (by first | exact decide_eq_false (by omega) | exact beq_eq_false_iff_ne.2 (by omega) | exact bne_eq_false_iff_eq.2 (by omega)) ?_)
  refine WOL.sto (vs:=[.slice bo28 F28.length cap28]) rfl rfl tp43 C12 rfl rfl (by omega) rfl (f.hx Y21) n12 fun g22 P22=>WOL.nil ?_
  have n21:=P21.next
  have n22:=P22.next
  have w20:=W20.next
  have R28:=(r28.put P21 (B11.hx W20) nf11 (by omega)).put P22 C12 nf12 (by omega)
  have T28:=((T26.hx (X17.trans Z20)).put P21 (fun e=>by have e:b26=c11:=Option.some.inj e;omega) (fun e=>by have:=lo26 _ e;omega)).put P22 (fun e=>by have e:b26=c12:=Option.some.inj e;omega) (fun e=>by have:=lo26 _ e;omega)
  exact kto (fin g22 b26 x26 k26 _ (P22.hx _ Y21 n12) (by omega) (P22.oth c11 _ ne P21.at_) P22.at_ T28 R28 (by omega) lo26 fun x y h1 h2 A=>P22.oth _ _ h2 (P21.oth _ _ h1 (A.hx W20))) ⟨rfl,rfl,rfl,rfl,rfl,rfl,rfl,rfl,trivial⟩
end
end Go.Tidy
namespace Go.Tidy
open Go Go.Proofs Tab
variable {tp:TProg}
theorem five_x:Sx 1084227584 80:=by
 have h:=(smp_ok (n:=80) (by decide)).2.2.x
 have e:smp 80=1084227584:=by kernel_rfl
 rwa [e] at h
theorem tp1184:Tp Tryz.prog 122 6 [.int .i64 0,.slice none 0 0,.slice none 0 0,.int .i64 0,.slice none 0 0,.slice none 0 0] true:=tp_of (by kernel_rfl) (by kernel_rfl) rfl
theorem ix1184_0 {c:Nat}:indexAddrT Tryz.prog 122 (.pointer (some ⟨c,0,none⟩)) (.int .i64 0)=some (.pointer (some ⟨c,0,none⟩)):=by kernel_rfl
theorem ix1184_1 {c:Nat}:indexAddrT Tryz.prog 122 (.pointer (some ⟨c,0,none⟩)) (.int .i64 1)=some (.pointer (some ⟨c,3,none⟩)):=by kernel_rfl
theorem bd1327v {a b:Option Addr} {m n k l:Nat}:buildT Tryz.prog 104 [(0,.slice a m k),(1,.slice b n l)]=some (.agg #[.slice a m k,.slice b n l]):=by kernel_rfl
theorem iv1327_0 {x y:Value}:indexT Tryz.prog 104 (.agg #[x,y]) (zi 0)=some x:=by kernel_rfl
theorem iv1327_1 {x y:Value}:indexT Tryz.prog 104 (.agg #[x,y]) (zi 1)=some y:=by kernel_rfl
def notF:Value→Bool
 | .float _ _=>false
 | _=>true
theorem nf_of {l:List Value} (h:l.all notF=true):∀ y,y ∈ l→∀ b,y≠.float .f32 b:=fun y hy b e=>by
 subst e
 have:=List.all_eq_true.1 h _ hy
 exact Bool.noConfusion this
theorem TrcH.keep {g g':TH} {v1 v2:Value} {L:List Int} {S:List (Int × Int)} (r:TrcH g v1 v2 L S) (k:∀ b x,(bl v1=some b∨bl v2=some b)→At g b x→At g' b x):TrcH g' v1 v2 L S :=
 ⟨slC_keep r.l fun b y hb=>k b y (.inl hb),slC_keep r.s fun b y hb=>k b y (.inr hb),fun b off m cap e=>by
  obtain ⟨cc,fix,wr,el,r1,r2⟩:=r.g b off m cap e
  exact ⟨cc,fix,wr,el,k b _ (.inl (by rw [e];rfl)) r1,r2⟩⟩
def cd1366d:TCode:=.seq (.reg r1366_53) (.seq (.seq (.reg r1366_54) (.cond (.tmp 329) (.seq (.reg r1366_55) .ret) .skip)) (.seq (.reg r1366_56) (.seq (.reg r1366_57) .ret)))
def cd1366c:TCode:=.seq (.seq (.reg r1366_47) (.block 6 (.loop (.seq (.reg r1366_48) (.seq (.cond (.tmp 294) .skip (.exit 6)) (.seq (.block 7 (.seq (.reg r1366_49) (.seq (.reg r1366_50) (.cond (.tmp 311) (.seq (.reg r1366_51) .ret) .skip)))) (.reg r1366_52))))))) cd1366d
def cd1366b:TCode:=.seq (.reg r1366_41) (.seq (.seq (.reg r1366_42) (.cond (.tmp 238) (.seq (.reg r1366_43) .ret) .skip)) (.seq (.reg r1366_44) (.seq (.seq (.reg r1366_45) (.cond (.tmp 289) (.seq (.reg r1366_46) .ret) .skip)) cd1366c)))
def cd1366a:TCode:=.seq (.reg r1366_3) (.seq (.seq (.reg r1366_4) (.cond (.tmp 97) (.seq (.reg r1366_5) .ret) .skip)) (.seq (.reg r1366_6) (.seq (.seq (.reg r1366_7) (.cond (.tmp 104) (.seq (.reg r1366_8) .ret) .skip)) (.seq (.reg r1366_9) (.seq (.reg r1366_10) (.seq (.seq (.reg r1366_11) (.block 0 (.loop (.seq (.reg r1366_12) (.seq (.cond (.tmp 109) .skip (.exit 0)) (.seq (.block 1 (.seq (.reg r1366_13) (.seq (.reg r1366_14) (.seq (.seq (.reg r1366_15) (.block 2 (.loop (.seq (.reg r1366_16) (.seq (.cond (.tmp 119) .skip (.exit 2)) (.seq (.block 3 (.seq (.reg r1366_17) (.reg r1366_18))) (.reg r1366_19))))))) (.seq (.reg r1366_20) (.seq (.seq (.reg r1366_21) (.cond (.tmp 149) (.seq (.reg r1366_22) .ret) .skip)) (.seq (.reg r1366_23) (.seq (.seq (.reg r1366_24) (.cond (.tmp 174) (.seq (.reg r1366_25) .ret) .skip)) (.seq (.reg r1366_26) (.seq (.seq (.reg r1366_27) (.block 4 (.loop (.seq (.reg r1366_28) (.seq (.cond (.tmp 179) .skip (.exit 4)) (.seq (.block 5 (.seq (.reg r1366_29) (.reg r1366_30))) (.reg r1366_31))))))) (.seq (.reg r1366_32) (.seq (.seq (.reg r1366_33) (.cond (.tmp 193) (.reg r1366_34) .skip)) (.seq (.reg r1366_35) (.seq (.reg r1366_36) (.seq (.seq (.reg r1366_37) (.cond (.tmp 224) (.seq (.reg r1366_38) .ret) .skip)) (.reg r1366_39)))))))))))))))) (.reg r1366_40))))))) cd1366b))))))
attribute [irreducible] cd1366a cd1366b cd1366c cd1366d
section
variable {h:TH} {v v1 w0 w1:Value} {F:List Nat} {U:List (_root_.Fin 256)} {es L V1 V2:List Int} {a b:Int} {c5 c11 c12 c32 p q M b0 b1 b2 k0 k1 k2:Nat} {x0 x1 x2:Option Addr}
set_option maxHeartbeats 4000000 in
set_option maxRecDepth 100000 in
theorem k1366d (H:Has tp) (X:HasX tp) (K:Awk tp) (f:Free0 h.next h) (s:SlL encF 1 h v F) (lv:Lev F L) (h24:F.length≤24) (okL:∀ x,x ∈ L→okI x=true) (A12:At h c12 (.cells [w0,w1] true true 104)) (r0:RF h w0 L) (r1:RF h w1 (trnL L)) :
  ∀ r,Kn [(0,v),(12,ptr c12)] r→W Tryz.prog tp false cd1366d r h (Fin Tryz.prog [.tmp 6] fun v _=>v=.bool true):=by
 unfold cd1366d
 have ll:=lv.1
 have tl:=trn_len (L:=L)
 obtain ⟨F0,s0,l0⟩:=id r0
 obtain ⟨F1,s1,l1⟩:=id r1
 have ll0:=l0.1
 have ll1:=l1.1
 refine WL.sr<|WOL.bs0 u43 tp25 (by decide) (by decide) fun g1 N1=>?_
 refine WOL.ix rfl rfl ix1327_1<|WOL.ld rfl (load_one tp43 (A12.hx N1.hx) rfl) ?_
 obtain ⟨u2,g2,ap2,X2,s2,b2,rfl,hb2,F2⟩:=append_own u43 tp25 N1.at_ (s1.hx N1.hx) (by omega) (eF.all _)
 have Y2:=N1.hx.trans X2
 refine WOL.ap rfl rfl ap2<|WOL.cl1 rfl rfl ((k1259o H X s2 l1 (by omega) (by rw [trn_trn];exact okL) (f.on Y2)).mono ?_)
 rintro u g3 ⟨X3,v36,rfl,r36⟩
 rw [trn_trn] at r36
 have Y3:=Y2.trans X3
 obtain ⟨F36,s36,l36⟩:=id r36
 have ll36:=l36.1
 have e36:((F36.length:Nat):Int)=((F.length:Nat):Int):=by omega
 have s3:=s.hx Y3
 repeat' (first
  | refine WOL.len rfl s36 u43 ?_
  | refine WOL.len rfl s3 u43 ?_
  | refine WOL.bf rfl rfl rfl (bne_eq_false_iff_eq.2 e36) ?_
  | refine WL.sr ?_
  | refine WL.seq ?_
  | refine WL.reg ?_
  | refine WOL.nil ?_
  | refine WL.skip ?_
  | refine WOL.now (b:=true) rfl rfl ?_
  | refine WOL.now (b:=false) rfl rfl ?_
  | refine WOL.skp (b:=true) rfl rfl ?_
  | refine WOL.skp (b:=false) rfl rfl ?_
  | refine WOL.gu rfl rfl ?_
  | refine WOL.mv rfl ?_
  | refine WOL.as rfl ?_
  | refine WOL.ex rfl rfl ?_
  | refine WOL.nt rfl ?_
  | refine WOL.pkt rfl rfl ?_
  | refine WOL.pkf rfl rfl ?_
  | refine WL.yes rfl ?_
  | refine WL.no rfl ?_
  | refine WOL.ld rfl (load_one (by first | exact tp25 | exact tp3) (by first | with_reducible assumption | assumption) (by rfl)) ?_
  | refine WOL.ld rfl (load_row (by first | exact tp25 | exact tp3) (by first | with_reducible assumption | assumption) rfl (Nat.le_of_ble_eq_true rfl)) ?_
  | refine WOL.len rfl (by first | with_reducible assumption | assumption) (by first | exact u43 | exact u29 | exact u44) ?_
  | refine WOL.add rfl rfl (by omega) (by omega) ?_
  | refine WOL.sub rfl rfl (by omega) (by omega) ?_
  | refine WOL.mul rfl rfl (by omega) (by omega) ?_
  | refine WOL.bt rfl rfl rfl (by first | exact decide_eq_true (by omega) | exact beq_iff_eq.2 (by omega) | exact bne_iff_ne.2 (by omega)) ?_
  | refine WOL.bf rfl rfl rfl (by first | exact decide_eq_false (by omega) | exact beq_eq_false_iff_ne.2 (by omega) | exact bne_eq_false_iff_eq.2 (by omega)) ?_)
 refine WOL.bs0 u43 tp25 (by decide) (by decide) fun g4 N4=>?_
 have Y4:=Y3.trans N4.hx
 refine WOL.ix rfl rfl ix1327_0<|WOL.ld rfl (load_one tp43 (A12.hx Y4) rfl) ?_
 obtain ⟨u5,g5,ap5,X5,s5,b5,rfl,hb5,F5⟩:=append_own u43 tp25 N4.at_ (s0.hx Y4) (by omega) (eF.all _)
 refine WOL.ap rfl rfl ap5<|WOL.bs0 u43 tp25 (by decide) (by decide) fun g6 N6=>WOL.mv rfl ?_
 have Z6:=(N4.hx.trans X5).trans N6.hx
 obtain ⟨u7,g7,ap7,X7,s7,b7,rfl,hb7,F7⟩:=append_own u43 tp25 N6.at_ (s36.hx Z6) (by omega) (eF.all _)
 have Y7:=Y3.trans (Z6.trans X7)
 refine WOL.ap rfl rfl ap7<|WOL.cl2 rfl rfl rfl ((k1280o H X ((show SlL encF 1 g5 _ F0 from s5).hx (N6.hx.trans X7)) (show SlL encF 1 g7 _ F36 from s7) l0 l36 (by omega) (by omega) (f.on Y7)).mono ?_)
 rintro u g8 ⟨X8,v38,rfl,r38⟩
 rw [hlf_self] at r38
 have s8:=s.hx (Y7.trans X8)
 repeat' (first
  | refine WL.sr ?_
  | refine WL.seq ?_
  | refine WL.reg ?_
  | refine WOL.nil ?_
  | refine WL.skip ?_
  | refine WOL.now (b:=true) rfl rfl ?_
  | refine WOL.now (b:=false) rfl rfl ?_
  | refine WOL.skp (b:=true) rfl rfl ?_
  | refine WOL.skp (b:=false) rfl rfl ?_
  | refine WOL.gu rfl rfl ?_
  | refine WOL.mv rfl ?_
  | refine WOL.as rfl ?_
  | refine WOL.ex rfl rfl ?_
  | refine WOL.nt rfl ?_
  | refine WOL.pkt rfl rfl ?_
  | refine WOL.pkf rfl rfl ?_
  | refine WL.yes rfl ?_
  | refine WL.no rfl ?_
  | refine WOL.ld rfl (load_one (by first | exact tp25 | exact tp3) (by first | with_reducible assumption | assumption) (by rfl)) ?_
  | refine WOL.ld rfl (load_row (by first | exact tp25 | exact tp3) (by first | with_reducible assumption | assumption) rfl (Nat.le_of_ble_eq_true rfl)) ?_
  | refine WOL.len rfl (by first | with_reducible assumption | assumption) (by first | exact u43 | exact u29 | exact u44) ?_
  | refine WOL.add rfl rfl (by omega) (by omega) ?_
  | refine WOL.sub rfl rfl (by omega) (by omega) ?_
  | refine WOL.mul rfl rfl (by omega) (by omega) ?_
  | refine WOL.bt rfl rfl rfl (by first | exact decide_eq_true (by omega) | exact beq_iff_eq.2 (by omega) | exact bne_iff_ne.2 (by omega)) ?_
  | refine WOL.bf rfl rfl rfl (by first | exact decide_eq_false (by omega) | exact beq_eq_false_iff_ne.2 (by omega) | exact bne_eq_false_iff_eq.2 (by omega)) ?_)
 refine WOL.cl2 rfl rfl rfl ((k58r H r38 ⟨F,s8,lv⟩ (by omega)).mono ?_)
 rintro _ g8 ⟨rfl,rfl⟩
 repeat' (first
  | (refine WOL.cl0 rfl ((k11t K _).mono ?_);rintro _ g8 ⟨rfl,rfl⟩)
  | refine WL.sr ?_
  | refine WL.seq ?_
  | refine WL.reg ?_
  | refine WOL.nil ?_
  | refine WL.skip ?_
  | refine WOL.now (b:=true) rfl rfl ?_
  | refine WOL.now (b:=false) rfl rfl ?_
  | refine WOL.skp (b:=true) rfl rfl ?_
  | refine WOL.skp (b:=false) rfl rfl ?_
  | refine WOL.gu rfl rfl ?_
  | refine WOL.mv rfl ?_
  | refine WOL.as rfl ?_
  | refine WOL.ex rfl rfl ?_
  | refine WOL.nt rfl ?_
  | refine WOL.pkt rfl rfl ?_
  | refine WOL.pkf rfl rfl ?_
  | refine WL.yes rfl ?_
  | refine WL.no rfl ?_
  | refine WOL.ld rfl (load_one (by first | exact tp25 | exact tp3) (by first | with_reducible assumption | assumption) (by rfl)) ?_
  | refine WOL.ld rfl (load_row (by first | exact tp25 | exact tp3) (by first | with_reducible assumption | assumption) rfl (Nat.le_of_ble_eq_true rfl)) ?_
  | refine WOL.len rfl (by first | with_reducible assumption | assumption) (by first | exact u43 | exact u29 | exact u44) ?_
  | refine WOL.add rfl rfl (by omega) (by omega) ?_
  | refine WOL.sub rfl rfl (by omega) (by omega) ?_
  | refine WOL.mul rfl rfl (by omega) (by omega) ?_
  | refine WOL.bt rfl rfl rfl (by first | exact decide_eq_true (by omega) | exact beq_iff_eq.2 (by omega) | exact bne_iff_ne.2 (by omega)) ?_
  | refine WOL.bf rfl rfl rfl (by first | exact decide_eq_false (by omega) | exact beq_eq_false_iff_ne.2 (by omega) | exact bne_eq_false_iff_eq.2 (by omega)) ?_)
 exact WL.ret (WL.end_ rfl rfl)
set_option maxHeartbeats 4000000 in
set_option maxRecDepth 100000 in
theorem k1366c (H:Has tp) (X:HasX tp) (K:Awk tp) (f:Free0 h.next h) (s:SlL encF 1 h v F) (lv:Lev F L) (h24:F.length≤24) (okL:∀ x,x ∈ L→okI x=true) (A12:At h c12 (.cells [w0,w1] true true 104)) (r0:RF h w0 L) (r1:RF h w1 (trnL L))
  (A11:At h c11 (.cells [zi (100+(p:Int)),slA b0 M,.slice x0 0 k0,zi (100+(q:Int)),slA b1 M,.slice x1 0 k1] true true 122)) (T1:SlL encI 1 h (slA b1 M) V1) (A32:At h c32 (.cells [zi (100+(p:Int)),slA b2 M,.slice x2 0 k2] true true 121)) (T2:SlL encI 1 h (slA b2 M) V2) (e1:V1.length=M) (e2:V2.length=M) (hM:M≤24) (hv:∀ j,j < M→V1.getD (M - 1 - j) 0=-(V2.getD j 0)) (hlim:∀ j,j < M→(V2.getD j 0).natAbs≤1000000) :
  ∀ r,Kn [(0,v),(11,ptr c11),(12,ptr c12),(32,ptr c32)] r→W Tryz.prog tp false cd1366c r h (Fin Tryz.prog [.tmp 6] fun v _=>v=.bool true):=by
 unfold cd1366c
 subst e2
 refine WL.seq<|WL.sr<|WOL.fa rfl (fa_of fo1117_1)<|WOL.ld rfl (load_one tp29 A32 rfl)<|WOL.len rfl T2 u29<|WOL.mv rfl<|WOL.nil<|keep [(0,_),(11,_),(12,_),(32,_),(291,_),(292,_),(293,_)] ⟨rfl,rfl,rfl,rfl,rfl,rfl,rfl,trivial⟩ ?_
 refine WL.upto (α:=Unit) V2.length (fun _ _ g=>g=h) (fun _ _=>[(0,v),(11,ptr c11),(12,ptr c12),(32,ptr c32),(291,slA b2 V2.length),(292,zi (V2.length:Nat))]) () rfl rfl (by omega) rfl ⟨rfl,rfl,rfl,rfl,rfl,rfl,rfl,trivial⟩ (fun _ _=>rfl) (fun _ _ _=>⟨rfl,rfl,rfl,rfl,rfl,rfl,rfl,trivial⟩) (fun _ _ _=>⟨rfl,rfl,rfl,rfl,rfl,rfl,rfl,trivial⟩) ?_ ?_
 ·rintro j _ g hj rfl
  obtain ⟨p1,a1,l1⟩:=T2.ati hj
  obtain ⟨p2,a2,l2⟩:=T1.ati (j:=V2.length - 1 - j) (by omega)
  rw [show ((V2.length - 1 - j:Nat):Int)=(V2.length:Int) - 1 - (j:Int) by omega] at a2
  have b:=hlim j hj
  rw [hv j hj] at l2
  repeat' (first
  | refine WOL.ix rfl rfl a1 ?_
  | refine WOL.ix rfl rfl a2 ?_
  | refine WOL.ix rfl rfl ix1184_1 ?_
  | refine WOL.ld rfl l1 ?_
  | refine WOL.ld rfl l2 ?_
  | refine WOL.fa rfl (fa_of fo1117_1) ?_
  | refine WOL.ld rfl (load_one tp29 A32 rfl) ?_
  | refine WOL.ld rfl (load_one tp29 A11 rfl) ?_
  | refine WOL.len rfl T2 u29 ?_
  | refine WOL.neg rfl (by omega) (by omega) ?_
  | refine WL.sr ?_
  | refine WL.seq ?_
  | refine WL.reg ?_
  | refine WOL.nil ?_
  | refine WL.skip ?_
  | refine WOL.now (b:=true) rfl rfl ?_
  | refine WOL.now (b:=false) rfl rfl ?_
  | refine WOL.skp (b:=true) rfl rfl ?_
  | refine WOL.skp (b:=false) rfl rfl ?_
  | refine WOL.gu rfl rfl ?_
  | refine WOL.mv rfl ?_
  | refine WOL.as rfl ?_
  | refine WOL.ex rfl rfl ?_
  | refine WOL.nt rfl ?_
  | refine WOL.pkt rfl rfl ?_
  | refine WOL.pkf rfl rfl ?_
  | refine WL.yes rfl ?_
  | refine WL.no rfl ?_
  | refine WOL.ld rfl (load_one (by first | exact tp25 | exact tp3) (by first | with_reducible assumption | assumption) (by rfl)) ?_
  | refine WOL.ld rfl (load_row (by first | exact tp25 | exact tp3) (by first | with_reducible assumption | assumption) rfl (Nat.le_of_ble_eq_true rfl)) ?_
  | refine WOL.len rfl (by first | with_reducible assumption | assumption) (by first | exact u43 | exact u29 | exact u44) ?_
  | refine WOL.add rfl rfl (by omega) (by omega) ?_
  | refine WOL.sub rfl rfl (by omega) (by omega) ?_
  | refine WOL.mul rfl rfl (by omega) (by omega) ?_
  | refine WOL.bt rfl rfl rfl (by first | exact decide_eq_true (by omega) | exact beq_iff_eq.2 (by omega) | exact bne_iff_ne.2 (by omega)) ?_
  | refine WOL.bf rfl rfl rfl (by first | exact decide_eq_false (by omega) | exact beq_eq_false_iff_ne.2 (by omega) | exact bne_eq_false_iff_eq.2 (by omega)) ?_)
  exact fun y k=>⟨(),rfl,k.sub ⟨rfl,rfl,rfl,rfl,rfl,rfl,rfl,trivial⟩⟩
 ·rintro _ g rfl
  exact kto (k1366d H X K f s lv h24 okL A12 r0 r1) ⟨rfl,rfl,trivial⟩
set_option maxHeartbeats 4000000 in
set_option maxRecDepth 100000 in
theorem k1366b (H:Has tp) (X:HasX tp) (K:Awk tp) (f:Free0 h.next h) (s:SlL encF 1 h v F) (lv:Lev F L) (h4:4≤F.length) (h24:F.length≤24) (hl:∀ j,-20000≤L.getD j 0∧L.getD j 0≤20000) (okL:∀ x,x ∈ L→okI x=true) (hp:1≤p) (hp':p≤6) (hq:1≤q) (hq':q≤6) (hM:M+(p+q)=F.length) (hM0:0 < M) (A5:At h c5 (.cells [zi (p:Nat),zi (q:Nat)] true true 115)) (A12:At h c12 (.cells [w0,w1] true true 104)) (r0:RF h w0 L) (r1:RF h w1 (trnL L))
  (A11:At h c11 (.cells [zi (100+(p:Int)),slA b0 M,.slice x0 0 k0,zi (100+(q:Int)),slA b1 M,.slice x1 0 k1] true true 122)) (T0:TrcH h (slA b0 M) (.slice x0 0 k0) (valC (tapC L [] (vTn p q) M)) []) (T1:TrcH h (slA b1 M) (.slice x1 0 k1) (valC (tapC (trnL L) [] (vTn q p) M)) []) :
  ∀ r,Kn [(0,v),(5,ptr c5),(11,ptr c11),(12,ptr c12)] r→W Tryz.prog tp false cd1366b r h (Fin Tryz.prog [.tmp 6] fun v _=>v=.bool true):=by
 unfold cd1366b
 have ll:=lv.1
 have te:=trace_small hl (by omega)
 have ce:chordE (p:Int) (q:Int)=0:=chordE_in (by omega) (by omega) (by omega) (by omega)
 have hlim:∀ j,j < M→((valC (tapC L [] (vTn p q) M)).getD j 0).natAbs≤1000000:=fun j hj=>by
  rw [vers_all hj,vTn_val]
  have a1:=mulb (w:=-(q:Int)) (x:=L.getD j 0) (a:=6) (b:=20000) (by omega) (by have:=hl j;omega)
  have a2:=mulb (w:=(p:Int)+q) (x:=L.getD (j+p) 0) (a:=12) (b:=20000) (by omega) (by have:=hl (j+p);omega)
  have a3:=mulb (w:=(p:Int)) (x:=L.getD (j+(p+q)) 0) (a:=6) (b:=20000) (by omega) (by have:=hl (j+(p+q));omega)
  omega
 repeat' (first
  | refine WL.sr ?_
  | refine WL.seq ?_
  | refine WL.reg ?_
  | refine WOL.nil ?_
  | refine WL.skip ?_
  | refine WOL.now (b:=true) rfl rfl ?_
  | refine WOL.now (b:=false) rfl rfl ?_
  | refine WOL.skp (b:=true) rfl rfl ?_
  | refine WOL.skp (b:=false) rfl rfl ?_
  | refine WOL.gu rfl rfl ?_
  | refine WOL.mv rfl ?_
  | refine WOL.as rfl ?_
  | refine WOL.ex rfl rfl ?_
  | refine WOL.nt rfl ?_
  | refine WOL.pkt rfl rfl ?_
  | refine WOL.pkf rfl rfl ?_
  | refine WL.yes rfl ?_
  | refine WL.no rfl ?_
  | refine WOL.ld rfl (load_one (by first | exact tp25 | exact tp3) (by first | with_reducible assumption | assumption) (by rfl)) ?_
  | refine WOL.ld rfl (load_row (by first | exact tp25 | exact tp3) (by first | with_reducible assumption | assumption) rfl (Nat.le_of_ble_eq_true rfl)) ?_
  | refine WOL.len rfl (by first | with_reducible assumption | assumption) (by first | exact u43 | exact u29 | exact u44) ?_
  | refine WOL.add rfl rfl (by omega) (by omega) ?_
  | refine WOL.sub rfl rfl (by omega) (by omega) ?_
  | refine WOL.mul rfl rfl (by omega) (by omega) ?_
  | refine WOL.bt rfl rfl rfl (by first | exact decide_eq_true (by omega) | exact beq_iff_eq.2 (by omega) | exact bne_iff_ne.2 (by omega)) ?_
  | refine WOL.bf rfl rfl rfl (by first | exact decide_eq_false (by omega) | exact beq_eq_false_iff_ne.2 (by omega) | exact bne_eq_false_iff_eq.2 (by omega)) ?_)
 refine WOL.cl1 rfl rfl ((k1379 H X s lv h24 f).mono ?_)
 rintro u g1 ⟨X1,c,x,m,k,rfl,T5⟩
 obtain ⟨_,_,ee⟩:=T5.s.form
 cases ee
 repeat' (first
  | (refine WOL.alS (vs:=[zi 100,slA c L.length,.slice x 0 k]) tp1117 rfl rfl rfl rfl (f.on X1) ?_;intro g2 X2 A30)
  | refine WL.sr ?_
  | refine WL.seq ?_
  | refine WL.reg ?_
  | refine WOL.nil ?_
  | refine WL.skip ?_
  | refine WOL.now (b:=true) rfl rfl ?_
  | refine WOL.now (b:=false) rfl rfl ?_
  | refine WOL.skp (b:=true) rfl rfl ?_
  | refine WOL.skp (b:=false) rfl rfl ?_
  | refine WOL.gu rfl rfl ?_
  | refine WOL.mv rfl ?_
  | refine WOL.as rfl ?_
  | refine WOL.ex rfl rfl ?_
  | refine WOL.nt rfl ?_
  | refine WOL.pkt rfl rfl ?_
  | refine WOL.pkf rfl rfl ?_
  | refine WL.yes rfl ?_
  | refine WL.no rfl ?_
  | refine WOL.ld rfl (load_one (by first | exact tp25 | exact tp3) (by first | with_reducible assumption | assumption) (by rfl)) ?_
  | refine WOL.ld rfl (load_row (by first | exact tp25 | exact tp3) (by first | with_reducible assumption | assumption) rfl (Nat.le_of_ble_eq_true rfl)) ?_
  | refine WOL.len rfl (by first | with_reducible assumption | assumption) (by first | exact u43 | exact u29 | exact u44) ?_
  | refine WOL.add rfl rfl (by omega) (by omega) ?_
  | refine WOL.sub rfl rfl (by omega) (by omega) ?_
  | refine WOL.mul rfl rfl (by omega) (by omega) ?_
  | refine WOL.bt rfl rfl rfl (by first | exact decide_eq_true (by omega) | exact beq_iff_eq.2 (by omega) | exact bne_iff_ne.2 (by omega)) ?_
  | refine WOL.bf rfl rfl rfl (by first | exact decide_eq_false (by omega) | exact beq_eq_false_iff_ne.2 (by omega) | exact bne_eq_false_iff_eq.2 (by omega)) ?_)
 have Y2:=X1.trans X2
 refine WOL.ld rfl (load_row tp1112 (A5.hx Y2) rfl (Nat.le_of_ble_eq_true rfl))<|WOL.ld rfl (load_row tp1117 A30 rfl (Nat.le_of_ble_eq_true rfl))<|WOL.cl2 rfl rfl rfl ((k1125 (n:=100) (a:=(p:Int)) (b:=(q:Int)) H (T5.hx X2) (by omega) (by decide) (f.on Y2)).mono ?_)
 rintro u g3 ⟨X3,R⟩
 have Y3:=Y2.trans X3
 rw [Int.toNat_natCast,Int.toNat_natCast,errV_in (by rw [ce,te];rfl) (by omega),show L.length - (p+q)=M by omega] at R
 obtain ⟨b2,x2,m2,k2,rfl,_,to2⟩:=R.ok rfl (vers_small (by omega) (by omega) hl)
 rw [tapC_len]
 have T32:=to2.trcC
 rw [tapC_len,vers_holes] at T32
 obtain ⟨_,_,ee⟩:=T32.s.form
 cases ee
 repeat' (first
  | (refine WOL.alS (vs:=[zi (100+(p:Int)),slA b2 M,.slice x2 0 k2]) tp1117 rfl rfl rfl rfl (f.on Y3) ?_;intro g4 X4 A32)
  | refine WL.sr ?_
  | refine WL.seq ?_
  | refine WL.reg ?_
  | refine WOL.nil ?_
  | refine WL.skip ?_
  | refine WOL.now (b:=true) rfl rfl ?_
  | refine WOL.now (b:=false) rfl rfl ?_
  | refine WOL.skp (b:=true) rfl rfl ?_
  | refine WOL.skp (b:=false) rfl rfl ?_
  | refine WOL.gu rfl rfl ?_
  | refine WOL.mv rfl ?_
  | refine WOL.as rfl ?_
  | refine WOL.ex rfl rfl ?_
  | refine WOL.nt rfl ?_
  | refine WOL.pkt rfl rfl ?_
  | refine WOL.pkf rfl rfl ?_
  | refine WL.yes rfl ?_
  | refine WL.no rfl ?_
  | refine WOL.ld rfl (load_one (by first | exact tp25 | exact tp3) (by first | with_reducible assumption | assumption) (by rfl)) ?_
  | refine WOL.ld rfl (load_row (by first | exact tp25 | exact tp3) (by first | with_reducible assumption | assumption) rfl (Nat.le_of_ble_eq_true rfl)) ?_
  | refine WOL.len rfl (by first | with_reducible assumption | assumption) (by first | exact u43 | exact u29 | exact u44) ?_
  | refine WOL.add rfl rfl (by omega) (by omega) ?_
  | refine WOL.sub rfl rfl (by omega) (by omega) ?_
  | refine WOL.mul rfl rfl (by omega) (by omega) ?_
  | refine WOL.bt rfl rfl rfl (by first | exact decide_eq_true (by omega) | exact beq_iff_eq.2 (by omega) | exact bne_iff_ne.2 (by omega)) ?_
  | refine WOL.bf rfl rfl rfl (by first | exact decide_eq_false (by omega) | exact beq_eq_false_iff_ne.2 (by omega) | exact bne_eq_false_iff_eq.2 (by omega)) ?_)
 have Y4:=Y3.trans X4
 replace A11:=A11.hx Y4
 replace T0:=T0.hx Y4
 replace T1:=T1.hx Y4
 replace T32:=T32.hx X4
 have i0:=T0.l
 have i1:=T1.l
 have i2:=T32.l
 have j0:SlC g4 (.slice x0 0 k0) 2 0 []:=T0.s
 have j1:SlC g4 (.slice x1 0 k1) 2 0 []:=T1.s
 have j2:SlC g4 (.slice x2 0 k2) 2 0 []:=T32.s
 have lV1:(valC (tapC (trnL L) [] (vTn q p) M)).length=M:=by rw [valC_len,tapC_len]
 have lV2:(valC (tapC L [] (vTn p q) M)).length=M:=by rw [valC_len,tapC_len]
 repeat' (first
  | refine WOL.fa rfl (fa_of fo1117_0) ?_
  | refine WOL.fa rfl (fa_of fo1117_1) ?_
  | refine WOL.fa rfl (fa_of fo1117_2) ?_
  | refine WOL.ix rfl rfl ix1184_0 ?_
  | refine WOL.ix rfl rfl ix1184_1 ?_
  | refine WOL.ld rfl (load_one tp3 A32 rfl) ?_
  | refine WOL.ld rfl (load_one tp29 A32 rfl) ?_
  | refine WOL.ld rfl (load_one tp44 A32 rfl) ?_
  | refine WOL.ld rfl (load_one tp3 A11 rfl) ?_
  | refine WOL.ld rfl (load_one tp29 A11 rfl) ?_
  | refine WOL.ld rfl (load_one tp44 A11 rfl) ?_
  | refine WOL.len rfl i1 u29 ?_
  | refine WOL.len rfl i2 u29 ?_
  | refine WOL.len rfl j0 u44 ?_
  | refine WOL.len rfl j1 u44 ?_
  | refine WOL.len rfl j2 u44 ?_
  | (refine WOL.cl2 rfl rfl rfl ((k18L H i2 i0 (by omega) (by omega)).mono ?_);rintro _ g4 ⟨rfl,rfl⟩;rw [decide_eq_true rfl])
  | refine WL.sr ?_
  | refine WL.seq ?_
  | refine WL.reg ?_
  | refine WOL.nil ?_
  | refine WL.skip ?_
  | refine WOL.now (b:=true) rfl rfl ?_
  | refine WOL.now (b:=false) rfl rfl ?_
  | refine WOL.skp (b:=true) rfl rfl ?_
  | refine WOL.skp (b:=false) rfl rfl ?_
  | refine WOL.gu rfl rfl ?_
  | refine WOL.mv rfl ?_
  | refine WOL.as rfl ?_
  | refine WOL.ex rfl rfl ?_
  | refine WOL.nt rfl ?_
  | refine WOL.pkt rfl rfl ?_
  | refine WOL.pkf rfl rfl ?_
  | refine WL.yes rfl ?_
  | refine WL.no rfl ?_
  | refine WOL.ld rfl (load_one (by first | exact tp25 | exact tp3) (by first | with_reducible assumption | assumption) (by rfl)) ?_
  | refine WOL.ld rfl (load_row (by first | exact tp25 | exact tp3) (by first | with_reducible assumption | assumption) rfl (Nat.le_of_ble_eq_true rfl)) ?_
  | refine WOL.len rfl (by first | with_reducible assumption | assumption) (by first | exact u43 | exact u29 | exact u44) ?_
  | refine WOL.add rfl rfl (by omega) (by omega) ?_
  | refine WOL.sub rfl rfl (by omega) (by omega) ?_
  | refine WOL.mul rfl rfl (by omega) (by omega) ?_
  | refine WOL.bt rfl rfl rfl (by first | exact decide_eq_true (by omega) | exact beq_iff_eq.2 (by omega) | exact bne_iff_ne.2 (by omega)) ?_
  | refine WOL.bf rfl rfl rfl (by first | exact decide_eq_false (by omega) | exact beq_eq_false_iff_ne.2 (by omega) | exact bne_eq_false_iff_eq.2 (by omega)) ?_)
 exact kto (k1366c H X K (f.on Y4) (s.hx Y4) lv h24 okL (A12.hx Y4) (r0.hx Y4) (r1.hx Y4) A11 T1.l A32 T32.l lV1 lV2 (by omega) (fun j hj=>trn_vers (by omega) hj) hlim) ⟨rfl,rfl,rfl,rfl,trivial⟩
unseal cb1366 in
set_option maxHeartbeats 8000000 in
set_option maxRecDepth 100000 in
theorem k1366a (H:Has tp) (X:HasX tp) (K:Awk tp) (Gl:Glob h) (f:Free0 h.next h) (s:SlL encF 1 h v F) (fF:Fits h v 76) (lv:Lev F L) (h4:4≤F.length) (h24:F.length≤24) (hl:∀ j,j < F.length→-80≤L.getD j 0∧L.getD j 0≤80) (t:SlL encU 1 h v1 U) (ft:Fits h v1 5) (hn:v1=.slice none 0 0∨∃ b m c,v1=.slice (some b) m c) (hU:F.length - 2≤U.length) (hp:1≤p) (hp':p≤6) (hq:1≤q) (hq':q≤6) (hpq:p+q < F.length) (A5:At h c5 (.cells [zi (p:Nat),zi (q:Nat)] true true 115)) :
    ∀ r,Kn [(0,v),(1,v1),(5,ptr c5)] r→W Tryz.prog tp false cd1366a r h (Fin Tryz.prog [.tmp 6] fun v _=>v=.bool true):=by
  unfold cd1366a
  have ll:=lv.1
  have tl:=trn_len (L:=L)
  obtain ⟨n,hF⟩:∃ n,F.length=n+2:=⟨F.length - 2,by omega⟩
  have hl':∀ j,-20000≤L.getD j 0∧L.getD j 0≤20000:=fun j=>by
    by_cases hj:j < F.length
    · have:=hl j hj;omega
    · rw [List.getD_eq_getElem?_getD,List.getElem?_eq_none (by omega)];decide
  have hT:∀ j,j < (trnL L).length→-80≤(trnL L).getD j 0∧(trnL L).getD j 0≤80:=fun j hj=>by
    rw [trn_get (by omega)]
    have:=hl (L.length - 1 - j) (by omega)
    omega
  have okL:∀ x,x ∈ L→okI x=true:=fun x hx=>okI_iff.2 (by have:=lev_limI lv x hx;omega)
  have okT:∀ x,x ∈ trnL L→okI x=true:=mem_ok (B:=80) (by decide) fun j hj=>by have:=hT j hj;omega
  have ce:chordE (p:Int) (q:Int)=0:=chordE_in (by omega) (by omega) (by omega) (by omega)
  have tv:turV (p:Int) (q:Int)=.agg #[zi (q:Nat),zi (p:Nat)]:=by unfold turV;rw [ce];rfl
  obtain ⟨bv,kv,rfl⟩:=s.form
  refine WL.sr<|WOL.bs0 u43 tp25 (by decide) (by decide) fun g1 N1=>WOL.mv rfl ?_
  obtain ⟨u2,g2,ap2,X2,s2,b2,rfl,hb2,F2⟩:=append_own u43 tp25 N1.at_ (s.hx N1.hx) (by omega) (eF.all _)
  have Y2:=N1.hx.trans X2
  refine WOL.ap rfl rfl ap2<|WOL.cl1 rfl rfl ((k1259b H X s2 lv (by omega) okT (f.on Y2)).mono ?_)
  rintro u g3 ⟨X3,c7,rfl,hc7,A7⟩
  have Y3:=Y2.trans X3
  have s7:SlL encF 1 g3 (slA c7 L.length) ((trnL L).map smp):=SlL.own eF A7 (by rw [List.length_map];exact tl)
  have l7:Lev ((trnL L).map smp) (trnL L):=lev_smpI okT
  have f7:Fits g3 (slA c7 L.length) 76:=fun b off m cap e=>by
    cases e
    exact ⟨_,_,_,_,A7,.inl rfl⟩
  have ll7:=l7.1
  obtain ⟨es7,hE7,z7⟩:=serr_zero l7
  have e7:((((trnL L).map smp).length:Nat):Int)=((F.length:Nat):Int):=by omega
  have s3:=s.hx Y3
  clear A7
  repeat' (first
    | refine WOL.len rfl s7 u43 ?_
    | refine WOL.len rfl s3 u43 ?_
    | refine WOL.bf rfl rfl rfl (bne_eq_false_iff_eq.2 e7) ?_
    | (refine WOL.cl1 rfl rfl ((k141 H s7 hE7 (by omega)).mono ?_);rintro _ g3 ⟨rfl,rfl⟩;rw [z7])
    | refine WOL.ld rfl (load_row tp1112 (A5.hx Y3) rfl (Nat.le_of_ble_eq_true rfl)) ?_
    | refine WL.sr ?_
    | refine WL.seq ?_
    | refine WL.reg ?_
    | refine WOL.nil ?_
    | refine WL.skip ?_
    | refine WOL.now (b:=true) rfl rfl ?_
    | refine WOL.now (b:=false) rfl rfl ?_
    | refine WOL.skp (b:=true) rfl rfl ?_
    | refine WOL.skp (b:=false) rfl rfl ?_
    | refine WOL.gu rfl rfl ?_
    | refine WOL.mv rfl ?_
    | refine WOL.as rfl ?_
    | refine WOL.ex rfl rfl ?_
    | refine WOL.nt rfl ?_
    | refine WOL.pkt rfl rfl ?_
    | refine WOL.pkf rfl rfl ?_
    | refine WL.yes rfl ?_
    | refine WL.no rfl ?_
    | refine WOL.ld rfl (load_one (by first | exact tp25 | exact tp3) (by first | with_reducible assumption | assumption) (by rfl)) ?_
    | refine WOL.ld rfl (load_row (by first | exact tp25 | exact tp3) (by first | with_reducible assumption | assumption) rfl (Nat.le_of_ble_eq_true rfl)) ?_
    | refine WOL.len rfl (by first | with_reducible assumption | assumption) (by first | exact u43 | exact u29 | exact u44) ?_
    | refine WOL.add rfl rfl (by omega) (by omega) ?_
    | refine WOL.sub rfl rfl (by omega) (by omega) ?_
    | refine WOL.mul rfl rfl (by omega) (by omega) ?_
    | refine WOL.bt rfl rfl rfl (by first | exact decide_eq_true (by omega) | exact beq_iff_eq.2 (by omega) | exact bne_iff_ne.2 (by omega)) ?_
    | refine WOL.bf rfl rfl rfl (by first | exact decide_eq_false (by omega) | exact beq_eq_false_iff_ne.2 (by omega) | exact bne_eq_false_iff_eq.2 (by omega)) ?_)
  refine WOL.cl1 rfl rfl ((k1147 H (f.on Y3)).mono ?_)
  rintro u g4 ⟨rfl,X4⟩
  rw [tv,ce]
  have Y4:=Y3.trans X4
  repeat' (first
    | (refine WOL.alS (vs:=[zi (q:Nat),zi (p:Nat)]) tp1128 rfl rfl rfl rfl (f.on Y4) ?_;intro g5 X5 A9)
    | refine WL.sr ?_
    | refine WL.seq ?_
    | refine WL.reg ?_
    | refine WOL.nil ?_
    | refine WL.skip ?_
    | refine WOL.now (b:=true) rfl rfl ?_
    | refine WOL.now (b:=false) rfl rfl ?_
    | refine WOL.skp (b:=true) rfl rfl ?_
    | refine WOL.skp (b:=false) rfl rfl ?_
    | refine WOL.gu rfl rfl ?_
    | refine WOL.mv rfl ?_
    | refine WOL.as rfl ?_
    | refine WOL.ex rfl rfl ?_
    | refine WOL.nt rfl ?_
    | refine WOL.pkt rfl rfl ?_
    | refine WOL.pkf rfl rfl ?_
    | refine WL.yes rfl ?_
    | refine WL.no rfl ?_
    | refine WOL.ld rfl (load_one (by first | exact tp25 | exact tp3) (by first | with_reducible assumption | assumption) (by rfl)) ?_
    | refine WOL.ld rfl (load_row (by first | exact tp25 | exact tp3) (by first | with_reducible assumption | assumption) rfl (Nat.le_of_ble_eq_true rfl)) ?_
    | refine WOL.len rfl (by first | with_reducible assumption | assumption) (by first | exact u43 | exact u29 | exact u44) ?_
    | refine WOL.add rfl rfl (by omega) (by omega) ?_
    | refine WOL.sub rfl rfl (by omega) (by omega) ?_
    | refine WOL.mul rfl rfl (by omega) (by omega) ?_
    | refine WOL.bt rfl rfl rfl (by first | exact decide_eq_true (by omega) | exact beq_iff_eq.2 (by omega) | exact bne_iff_ne.2 (by omega)) ?_
    | refine WOL.bf rfl rfl rfl (by first | exact decide_eq_false (by omega) | exact beq_eq_false_iff_ne.2 (by omega) | exact bne_eq_false_iff_eq.2 (by omega)) ?_)
  have Y5:=Y4.trans X5
  refine WOL.al tp1184 fun g6 N6=>?_
  repeat' (first
    | refine WL.sr ?_
    | refine WL.seq ?_
    | refine WL.reg ?_
    | refine WOL.nil ?_
    | refine WL.skip ?_
    | refine WOL.now (b:=true) rfl rfl ?_
    | refine WOL.now (b:=false) rfl rfl ?_
    | refine WOL.skp (b:=true) rfl rfl ?_
    | refine WOL.skp (b:=false) rfl rfl ?_
    | refine WOL.gu rfl rfl ?_
    | refine WOL.mv rfl ?_
    | refine WOL.as rfl ?_
    | refine WOL.ex rfl rfl ?_
    | refine WOL.nt rfl ?_
    | refine WOL.pkt rfl rfl ?_
    | refine WOL.pkf rfl rfl ?_
    | refine WL.yes rfl ?_
    | refine WL.no rfl ?_
    | refine WOL.ld rfl (load_one (by first | exact tp25 | exact tp3) (by first | with_reducible assumption | assumption) (by rfl)) ?_
    | refine WOL.ld rfl (load_row (by first | exact tp25 | exact tp3) (by first | with_reducible assumption | assumption) rfl (Nat.le_of_ble_eq_true rfl)) ?_
    | refine WOL.len rfl (by first | with_reducible assumption | assumption) (by first | exact u43 | exact u29 | exact u44) ?_
    | refine WOL.add rfl rfl (by omega) (by omega) ?_
    | refine WOL.sub rfl rfl (by omega) (by omega) ?_
    | refine WOL.mul rfl rfl (by omega) (by omega) ?_
    | refine WOL.bt rfl rfl rfl (by first | exact decide_eq_true (by omega) | exact beq_iff_eq.2 (by omega) | exact bne_iff_ne.2 (by omega)) ?_
    | refine WOL.bf rfl rfl rfl (by first | exact decide_eq_false (by omega) | exact beq_eq_false_iff_ne.2 (by omega) | exact bne_eq_false_iff_eq.2 (by omega)) ?_)
  refine WOL.al tp1327 fun g7 N7=>?_
  have n6:=N6.next
  have n7:=N7.next
  have C11:=N6.at_.hx N7.hx
  have C12:=N7.at_
  refine WOL.nil ?_
  refine WL.seq<|WL.sr<|WOL.mv rfl<|WOL.mv rfl<|WOL.bd rfl bd1327v<|WOL.mv rfl<|WOL.nil<|keep [(0,_),(1,_),(5,_),(9,_),(11,_),(12,_),(107,_),(108,_)] ⟨rfl,rfl,rfl,rfl,rfl,rfl,rfl,rfl,trivial⟩ ?_
  obtain ⟨M,hM⟩:∃ M,n+2 - (p+q)=M:=⟨_,rfl⟩
  refine WL.upto (α:=Unit) 2 (fun j _ g=>HX g5 g∧(j=0→At g g5.next (.cells [.int .i64 0,.slice none 0 0,.slice none 0 0,.int .i64 0,.slice none 0 0,.slice none 0 0] true true 122)∧At g g6.next (.cells [.slice none 0 0,.slice none 0 0] true true 104)) ∧
      (j=1→∃ b0 x0 k0 w0,At g g5.next (.cells [zi (100+(p:Int)),slA b0 M,.slice x0 0 k0,.int .i64 0,.slice none 0 0,.slice none 0 0] true true 122)∧At g g6.next (.cells [w0,.slice none 0 0] true true 104)∧TrcH g (slA b0 M) (.slice x0 0 k0) (valC (tapC L [] (vTn p q) M)) []∧RF g w0 L∧∀ z,(bl (slA b0 M)=some z∨bl (.slice x0 0 k0)=some z)→z≠g5.next∧z≠g6.next) ∧
      (j=2→∃ b0 x0 k0 w0 b1 x1 k1 w1,At g g5.next (.cells [zi (100+(p:Int)),slA b0 M,.slice x0 0 k0,zi (100+(q:Int)),slA b1 M,.slice x1 0 k1] true true 122)∧At g g6.next (.cells [w0,w1] true true 104)∧TrcH g (slA b0 M) (.slice x0 0 k0) (valC (tapC L [] (vTn p q) M)) []∧TrcH g (slA b1 M) (.slice x1 0 k1) (valC (tapC (trnL L) [] (vTn q p) M)) []∧RF g w0 L∧RF g w1 (trnL L)))
    (fun _ _=>[(0,.slice bv F.length kv),(1,v1),(5,ptr c5),(9,ptr g4.next),(11,ptr g5.next),(12,ptr g6.next),(107,.agg #[.slice bv F.length kv,slA c7 L.length])]) () rfl rfl (by decide) ⟨N6.hx.trans N7.hx,fun _=>⟨C11,C12⟩,fun e=>(nomatch e),fun e=>(nomatch e)⟩ ⟨rfl,rfl,rfl,rfl,rfl,rfl,rfl,rfl,trivial⟩ (fun _ _=>rfl) (fun _ _ _=>⟨rfl,rfl,rfl,rfl,rfl,rfl,rfl,rfl,trivial⟩) (fun _ _ _=>⟨rfl,rfl,rfl,rfl,rfl,rfl,rfl,rfl,trivial⟩) ?_ ?_
  · rintro j _ g hj ⟨XG,J0,J1,J2⟩
    obtain rfl | rfl:j=0∨j=1:=by omega
    · obtain ⟨B11,B12⟩:=J0 rfl
      have l11:=B11.lt
      have l12:=B12.lt
      refine kto (k1366y (j:=0) (P:=p) (Q:=q) (n:=n) H X (Gl.hx Y5) XG (f.on Y5) (Nat.le_refl _) (by omega) (by omega) (s.hx Y5) hF (by omega) (by omega) (s.hx Y5) (fF.hx Y5) lv (by omega) (fun j hj=>hl j (by omega)) (t.hx Y5) (ft.hx Y5) hn (by omega) (A5.hx Y5) A9 hp hp' hq hq' (by omega) B11 rfl B12 rfl (nf_of rfl) (nf_of rfl) iv1327_0 ix1184_0 ix1327_0 (.inl ⟨rfl,rfl,rfl⟩) ?_) ⟨rfl,rfl,rfl,rfl,rfl,rfl,rfl,rfl,trivial⟩
      rw [hM]
      intro g' b1 x1 k1 w28 XG' gn B1 B2 T R hb lo kp r k
      exact ⟨(),⟨XG',fun e=>(nomatch e),fun _=>⟨b1,x1,k1,w28,B1,B2,T,R,fun z hz=>by
        rcases hz with hz | hz
        · have hz:b1=z:=Option.some.inj hz;omega
        · have:=lo z hz;omega⟩,fun e=>(nomatch e)⟩,k.sub ⟨rfl,rfl,rfl,rfl,rfl,rfl,rfl,rfl,trivial⟩⟩
    · obtain ⟨b0,x0,k0,w0,B11,B12,T0,R0,hz0⟩:=J1 rfl
      have l11:=B11.lt
      have l12:=B12.lt
      obtain ⟨F0,s0,l0⟩:=id R0
      obtain ⟨bo,ko,rfl⟩:=s0.form
      refine kto (k1366y (j:=1) (P:=q) (Q:=p) (n:=n) H X (Gl.hx Y5) XG (f.on Y5) (Nat.le_refl _) (by omega) (by omega) (s.hx Y5) hF (by omega) (by omega) (s7.hx (X4.trans X5)) (f7.hx (X4.trans X5)) l7 (by omega) hT (t.hx Y5) (ft.hx Y5) hn (by omega) (A5.hx Y5) A9 hp hp' hq hq' (by omega) B11 rfl B12 rfl (nf_of rfl) (nf_of rfl) iv1327_1 ix1184_1 ix1327_1 (.inr ⟨rfl,rfl,rfl⟩) ?_) ⟨rfl,rfl,rfl,rfl,rfl,rfl,rfl,rfl,trivial⟩
      rw [hM]
      intro g' b1 x1 k1 w28 XG' gn B1 B2 T R hb lo kp r k
      have a1:=R0.apart B11 (nf_of rfl) (by omega)
      have a2:=R0.apart B12 (nf_of rfl) (by omega)
      exact ⟨(),⟨XG',fun e=>(nomatch e),fun e=>(nomatch e),fun _=>⟨b0,x0,k0,_,b1,x1,k1,w28,B1,B2,T0.keep fun b y hb A=>kp b y (hz0 b hb).1 (hz0 b hb).2 A,T,R0.keep fun b y hb A=>kp b y (fun e=>a1 (by rw [hb,e])) (fun e=>a2 (by rw [hb,e])) A,R⟩⟩,k.sub ⟨rfl,rfl,rfl,rfl,rfl,rfl,rfl,rfl,trivial⟩⟩
  · rintro _ g ⟨XG,_,_,J2⟩
    obtain ⟨b0,x0,k0,w0,b1,x1,k1,w1,B11,B12,T0,T1,R0,R1⟩:=J2 rfl
    have Yg:=Y5.trans XG
    exact kto (k1366b H X K (f.on Yg) (s.hx Yg) lv h4 h24 hl' okL hp hp' hq hq' (by omega) (by omega) (A5.hx Yg) B12 R0 R1 B11 T0 T1) ⟨rfl,rfl,rfl,rfl,trivial⟩
set_option maxHeartbeats 4000000 in
set_option maxRecDepth 100000 in
theorem k1366 (H:Has tp) (X:HasX tp) (K:Awk tp) (Gl:Glob h) (s:SlL encF 1 h v F) (fF:Fits h v 76) (t:SlL encU 1 h v1 U) (ft:Fits h v1 5) (hn:v1=.slice none 0 0∨∃ b m c,v1=.slice (some b) m c) (f:Free0 h.next h):CallW Tryz.prog tp (.func (.func 12) #[] #[]) #[v,v1,.agg #[zi a,zi b]] h fun v _=>v=.bool true:=by
  obtain ⟨es,L,hE,hL⟩:=lev_some F
  refine CallW.fnL (H.fn 12 f1366 rfl rfl) ?_
  refine WL.sr<|WOL.box rfl fun h1 N1=>WOL.as rfl<|WOL.nil<|keep [(0,_),(1,_),(5,_)] ⟨rfl,rfl,rfl,trivial⟩ ?_
  have A5:At h1 h.next (.cells [zi a,zi b] true true 115):=N1.at_
  have X1:=N1.hx
  have s1:=s.hx X1
  have t1:=t.hx X1
  repeat' (first
    | refine WL.sr ?_
    | refine WL.seq ?_
    | refine WL.reg ?_
    | refine WOL.nil ?_
    | refine WL.skip ?_
    | refine WOL.now (b:=true) rfl rfl ?_
    | refine WOL.now (b:=false) rfl rfl ?_
    | refine WOL.skp (b:=true) rfl rfl ?_
    | refine WOL.skp (b:=false) rfl rfl ?_
    | refine WOL.gu rfl rfl ?_
    | refine WOL.mv rfl ?_
    | refine WOL.as rfl ?_
    | refine WOL.ex rfl rfl ?_
    | refine WOL.nt rfl ?_
    | refine WOL.pkt rfl rfl ?_
    | refine WOL.pkf rfl rfl ?_
    | refine WL.yes rfl ?_
    | refine WL.no rfl ?_
    | refine WOL.ld rfl (load_one (by first | exact tp25 | exact tp3) (by first | with_reducible assumption | assumption) (by rfl)) ?_
    | refine WOL.ld rfl (load_row (by first | exact tp25 | exact tp3) (by first | with_reducible assumption | assumption) rfl (Nat.le_of_ble_eq_true rfl)) ?_
    | refine WOL.len rfl (by first | with_reducible assumption | assumption) (by first | exact u43 | exact u29 | exact u44) ?_
    | refine WOL.add rfl rfl (by omega) (by omega) ?_
    | refine WOL.sub rfl rfl (by omega) (by omega) ?_
    | refine WOL.mul rfl rfl (by omega) (by omega) ?_
    | refine WOL.bt rfl rfl rfl (by first | exact decide_eq_true (by omega) | exact beq_iff_eq.2 (by omega) | exact bne_iff_ne.2 (by omega)) ?_
    | refine WOL.bf rfl rfl rfl (by first | exact decide_eq_false (by omega) | exact beq_eq_false_iff_ne.2 (by omega) | exact bne_eq_false_iff_eq.2 (by omega)) ?_)
  refine WOL.cl2 rfl rfl rfl ((k1377 H s1 hE hL five_x).mono ?_)
  rintro u h1 ⟨rfl,bb,rfl,hfine⟩
  cases bb with
  | false =>
    repeat' (first
    | (refine WOL.cl0 rfl ((k11t K _).mono ?_);rintro _ h1 ⟨rfl,rfl⟩)
    | refine WL.sr ?_
    | refine WL.seq ?_
    | refine WL.reg ?_
    | refine WOL.nil ?_
    | refine WL.skip ?_
    | refine WOL.now (b:=true) rfl rfl ?_
    | refine WOL.now (b:=false) rfl rfl ?_
    | refine WOL.skp (b:=true) rfl rfl ?_
    | refine WOL.skp (b:=false) rfl rfl ?_
    | refine WOL.gu rfl rfl ?_
    | refine WOL.mv rfl ?_
    | refine WOL.as rfl ?_
    | refine WOL.ex rfl rfl ?_
    | refine WOL.nt rfl ?_
    | refine WOL.pkt rfl rfl ?_
    | refine WOL.pkf rfl rfl ?_
    | refine WL.yes rfl ?_
    | refine WL.no rfl ?_
    | refine WOL.ld rfl (load_one (by first | exact tp25 | exact tp3) (by first | with_reducible assumption | assumption) (by rfl)) ?_
    | refine WOL.ld rfl (load_row (by first | exact tp25 | exact tp3) (by first | with_reducible assumption | assumption) rfl (Nat.le_of_ble_eq_true rfl)) ?_
    | refine WOL.len rfl (by first | with_reducible assumption | assumption) (by first | exact u43 | exact u29 | exact u44) ?_
    | refine WOL.add rfl rfl (by omega) (by omega) ?_
    | refine WOL.sub rfl rfl (by omega) (by omega) ?_
    | refine WOL.mul rfl rfl (by omega) (by omega) ?_
    | refine WOL.bt rfl rfl rfl (by first | exact decide_eq_true (by omega) | exact beq_iff_eq.2 (by omega) | exact bne_iff_ne.2 (by omega)) ?_
    | refine WOL.bf rfl rfl rfl (by first | exact decide_eq_false (by omega) | exact beq_eq_false_iff_ne.2 (by omega) | exact bne_eq_false_iff_eq.2 (by omega)) ?_)
    exact WL.ret (WL.end_ rfl rfl)
  | true =>
  obtain ⟨⟨q1,q2⟩,q3,q4⟩:=hfine rfl
  have lv:=hL q3
  have ll:=lv.1
  by_cases c1:(U.length:Int) < (F.length:Int) - 2
  · repeat' (first
    | refine WOL.len rfl s1 u43 ?_
    | refine WOL.len rfl t1 u116i ?_
    | (refine WOL.cl0 rfl ((k11t K _).mono ?_);rintro _ h1 ⟨rfl,rfl⟩)
    | refine WL.sr ?_
    | refine WL.seq ?_
    | refine WL.reg ?_
    | refine WOL.nil ?_
    | refine WL.skip ?_
    | refine WOL.now (b:=true) rfl rfl ?_
    | refine WOL.now (b:=false) rfl rfl ?_
    | refine WOL.skp (b:=true) rfl rfl ?_
    | refine WOL.skp (b:=false) rfl rfl ?_
    | refine WOL.gu rfl rfl ?_
    | refine WOL.mv rfl ?_
    | refine WOL.as rfl ?_
    | refine WOL.ex rfl rfl ?_
    | refine WOL.nt rfl ?_
    | refine WOL.pkt rfl rfl ?_
    | refine WOL.pkf rfl rfl ?_
    | refine WL.yes rfl ?_
    | refine WL.no rfl ?_
    | refine WOL.ld rfl (load_one (by first | exact tp25 | exact tp3) (by first | with_reducible assumption | assumption) (by rfl)) ?_
    | refine WOL.ld rfl (load_row (by first | exact tp25 | exact tp3) (by first | with_reducible assumption | assumption) rfl (Nat.le_of_ble_eq_true rfl)) ?_
    | refine WOL.len rfl (by first | with_reducible assumption | assumption) (by first | exact u43 | exact u29 | exact u44) ?_
    | refine WOL.add rfl rfl (by omega) (by omega) ?_
    | refine WOL.sub rfl rfl (by omega) (by omega) ?_
    | refine WOL.mul rfl rfl (by omega) (by omega) ?_
    | refine WOL.bt rfl rfl rfl (by first | exact decide_eq_true (by omega) | exact beq_iff_eq.2 (by omega) | exact bne_iff_ne.2 (by omega)) ?_
    | refine WOL.bf rfl rfl rfl (by first | exact decide_eq_false (by omega) | exact beq_eq_false_iff_ne.2 (by omega) | exact bne_eq_false_iff_eq.2 (by omega)) ?_)
    exact WL.ret (WL.end_ rfl rfl)
  repeat' (first
    | refine WOL.len rfl s1 u43 ?_
    | refine WOL.len rfl t1 u116i ?_
    | refine WOL.ld rfl (load_row tp1112 A5 rfl (Nat.le_of_ble_eq_true rfl)) ?_
    | refine WL.sr ?_
    | refine WL.seq ?_
    | refine WL.reg ?_
    | refine WOL.nil ?_
    | refine WL.skip ?_
    | refine WOL.now (b:=true) rfl rfl ?_
    | refine WOL.now (b:=false) rfl rfl ?_
    | refine WOL.skp (b:=true) rfl rfl ?_
    | refine WOL.skp (b:=false) rfl rfl ?_
    | refine WOL.gu rfl rfl ?_
    | refine WOL.mv rfl ?_
    | refine WOL.as rfl ?_
    | refine WOL.ex rfl rfl ?_
    | refine WOL.nt rfl ?_
    | refine WOL.pkt rfl rfl ?_
    | refine WOL.pkf rfl rfl ?_
    | refine WL.yes rfl ?_
    | refine WL.no rfl ?_
    | refine WOL.ld rfl (load_one (by first | exact tp25 | exact tp3) (by first | with_reducible assumption | assumption) (by rfl)) ?_
    | refine WOL.ld rfl (load_row (by first | exact tp25 | exact tp3) (by first | with_reducible assumption | assumption) rfl (Nat.le_of_ble_eq_true rfl)) ?_
    | refine WOL.len rfl (by first | with_reducible assumption | assumption) (by first | exact u43 | exact u29 | exact u44) ?_
    | refine WOL.add rfl rfl (by omega) (by omega) ?_
    | refine WOL.sub rfl rfl (by omega) (by omega) ?_
    | refine WOL.mul rfl rfl (by omega) (by omega) ?_
    | refine WOL.bt rfl rfl rfl (by first | exact decide_eq_true (by omega) | exact beq_iff_eq.2 (by omega) | exact bne_iff_ne.2 (by omega)) ?_
    | refine WOL.bf rfl rfl rfl (by first | exact decide_eq_false (by omega) | exact beq_eq_false_iff_ne.2 (by omega) | exact bne_eq_false_iff_eq.2 (by omega)) ?_)
  refine WOL.cl1 rfl rfl ((k1122 H a b _).mono ?_)
  rintro _ h2 ⟨rfl,X2⟩
  have s2:=s1.hx X2
  replace A5:=A5.hx X2
  by_cases e0:chordE a b=0
  · obtain ⟨o1,o2,o3,o4⟩:=chord_ok e0
    rw [e0]
    by_cases d1:a≤6
    · by_cases d2:b≤6
      · obtain ⟨p,rfl⟩:∃ p:Nat,a=p:=⟨a.toNat,by omega⟩
        obtain ⟨q,rfl⟩:∃ q:Nat,b=q:=⟨b.toNat,by omega⟩
        by_cases d3:p+q < F.length
        · repeat' (first
    | refine WOL.fa rfl (fa_of fo1112_0) ?_
    | refine WOL.fa rfl (fa_of fo1112_1) ?_
    | refine WOL.ld rfl (load_one tp3 A5 rfl) ?_
    | refine WOL.len rfl s2 u43 ?_
    | refine WL.sr ?_
    | refine WL.seq ?_
    | refine WL.reg ?_
    | refine WOL.nil ?_
    | refine WOL.now (b:=true) rfl rfl ?_
    | refine WOL.now (b:=false) rfl rfl ?_
    | refine WOL.skp (b:=true) rfl rfl ?_
    | refine WOL.skp (b:=false) rfl rfl ?_
    | refine WOL.gu rfl rfl ?_
    | refine WOL.mv rfl ?_
    | refine WOL.as rfl ?_
    | refine WOL.ex rfl rfl ?_
    | refine WOL.nt rfl ?_
    | refine WOL.pkt rfl rfl ?_
    | refine WOL.pkf rfl rfl ?_
    | refine WOL.ld rfl (load_one (by first | exact tp25 | exact tp3) (by first | with_reducible assumption | assumption) (by rfl)) ?_
    | refine WOL.ld rfl (load_row (by first | exact tp25 | exact tp3) (by first | with_reducible assumption | assumption) rfl (Nat.le_of_ble_eq_true rfl)) ?_
    | refine WOL.len rfl (by first | with_reducible assumption | assumption) (by first | exact u43 | exact u29 | exact u44) ?_
    | refine WOL.add rfl rfl (by omega) (by omega) ?_
    | refine WOL.sub rfl rfl (by omega) (by omega) ?_
    | refine WOL.mul rfl rfl (by omega) (by omega) ?_
    | refine WOL.bt rfl rfl rfl (by first | exact decide_eq_true (by omega) | exact beq_iff_eq.2 (by omega) | exact bne_iff_ne.2 (by omega)) ?_
    | refine WOL.bf rfl rfl rfl (by first | exact decide_eq_false (by omega) | exact beq_eq_false_iff_ne.2 (by omega) | exact bne_eq_false_iff_eq.2 (by omega)) ?_)
          have qq:=k1366a H X K (Gl.hx (X1.trans X2)) (f.on (X1.trans X2)) s2 (fF.hx (X1.trans X2)) lv q1 q2 q4 (t1.hx X2) (ft.hx (X1.trans X2)) hn (by omega) (by omega) (by omega) (by omega) (by omega) d3 A5
          unfold cd1366a cd1366b cd1366c cd1366d at qq
          exact WL.no rfl<|WL.skip<|kto qq ⟨rfl,rfl,rfl,trivial⟩
        · repeat' (first
    | refine WOL.fa rfl (fa_of fo1112_0) ?_
    | refine WOL.fa rfl (fa_of fo1112_1) ?_
    | refine WOL.ld rfl (load_one tp3 A5 rfl) ?_
    | refine WOL.len rfl s2 u43 ?_
    | (refine WOL.cl0 rfl ((k11t K _).mono ?_);rintro _ h1 ⟨rfl,rfl⟩)
    | refine WL.sr ?_
    | refine WL.seq ?_
    | refine WL.reg ?_
    | refine WOL.nil ?_
    | refine WL.skip ?_
    | refine WOL.now (b:=true) rfl rfl ?_
    | refine WOL.now (b:=false) rfl rfl ?_
    | refine WOL.skp (b:=true) rfl rfl ?_
    | refine WOL.skp (b:=false) rfl rfl ?_
    | refine WOL.gu rfl rfl ?_
    | refine WOL.mv rfl ?_
    | refine WOL.as rfl ?_
    | refine WOL.ex rfl rfl ?_
    | refine WOL.nt rfl ?_
    | refine WOL.pkt rfl rfl ?_
    | refine WOL.pkf rfl rfl ?_
    | refine WL.yes rfl ?_
    | refine WL.no rfl ?_
    | refine WOL.ld rfl (load_one (by first | exact tp25 | exact tp3) (by first | with_reducible assumption | assumption) (by rfl)) ?_
    | refine WOL.ld rfl (load_row (by first | exact tp25 | exact tp3) (by first | with_reducible assumption | assumption) rfl (Nat.le_of_ble_eq_true rfl)) ?_
    | refine WOL.len rfl (by first | with_reducible assumption | assumption) (by first | exact u43 | exact u29 | exact u44) ?_
    | refine WOL.add rfl rfl (by omega) (by omega) ?_
    | refine WOL.sub rfl rfl (by omega) (by omega) ?_
    | refine WOL.mul rfl rfl (by omega) (by omega) ?_
    | refine WOL.bt rfl rfl rfl (by first | exact decide_eq_true (by omega) | exact beq_iff_eq.2 (by omega) | exact bne_iff_ne.2 (by omega)) ?_
    | refine WOL.bf rfl rfl rfl (by first | exact decide_eq_false (by omega) | exact beq_eq_false_iff_ne.2 (by omega) | exact bne_eq_false_iff_eq.2 (by omega)) ?_)
          exact WL.ret (WL.end_ rfl rfl)
      · repeat' (first
    | refine WOL.fa rfl (fa_of fo1112_0) ?_
    | refine WOL.fa rfl (fa_of fo1112_1) ?_
    | refine WOL.ld rfl (load_one tp3 A5 rfl) ?_
    | refine WOL.len rfl s2 u43 ?_
    | (refine WOL.cl0 rfl ((k11t K _).mono ?_);rintro _ h1 ⟨rfl,rfl⟩)
    | refine WL.sr ?_
    | refine WL.seq ?_
    | refine WL.reg ?_
    | refine WOL.nil ?_
    | refine WL.skip ?_
    | refine WOL.now (b:=true) rfl rfl ?_
    | refine WOL.now (b:=false) rfl rfl ?_
    | refine WOL.skp (b:=true) rfl rfl ?_
    | refine WOL.skp (b:=false) rfl rfl ?_
    | refine WOL.gu rfl rfl ?_
    | refine WOL.mv rfl ?_
    | refine WOL.as rfl ?_
    | refine WOL.ex rfl rfl ?_
    | refine WOL.nt rfl ?_
    | refine WOL.pkt rfl rfl ?_
    | refine WOL.pkf rfl rfl ?_
    | refine WL.yes rfl ?_
    | refine WL.no rfl ?_
    | refine WOL.ld rfl (load_one (by first | exact tp25 | exact tp3) (by first | with_reducible assumption | assumption) (by rfl)) ?_
    | refine WOL.ld rfl (load_row (by first | exact tp25 | exact tp3) (by first | with_reducible assumption | assumption) rfl (Nat.le_of_ble_eq_true rfl)) ?_
    | refine WOL.len rfl (by first | with_reducible assumption | assumption) (by first | exact u43 | exact u29 | exact u44) ?_
    | refine WOL.add rfl rfl (by omega) (by omega) ?_
    | refine WOL.sub rfl rfl (by omega) (by omega) ?_
    | refine WOL.mul rfl rfl (by omega) (by omega) ?_
    | refine WOL.bt rfl rfl rfl (by first | exact decide_eq_true (by omega) | exact beq_iff_eq.2 (by omega) | exact bne_iff_ne.2 (by omega)) ?_
    | refine WOL.bf rfl rfl rfl (by first | exact decide_eq_false (by omega) | exact beq_eq_false_iff_ne.2 (by omega) | exact bne_eq_false_iff_eq.2 (by omega)) ?_)
        exact WL.ret (WL.end_ rfl rfl)
    · repeat' (first
    | refine WOL.fa rfl (fa_of fo1112_0) ?_
    | refine WOL.fa rfl (fa_of fo1112_1) ?_
    | refine WOL.ld rfl (load_one tp3 A5 rfl) ?_
    | refine WOL.len rfl s2 u43 ?_
    | (refine WOL.cl0 rfl ((k11t K _).mono ?_);rintro _ h1 ⟨rfl,rfl⟩)
    | refine WL.sr ?_
    | refine WL.seq ?_
    | refine WL.reg ?_
    | refine WOL.nil ?_
    | refine WL.skip ?_
    | refine WOL.now (b:=true) rfl rfl ?_
    | refine WOL.now (b:=false) rfl rfl ?_
    | refine WOL.skp (b:=true) rfl rfl ?_
    | refine WOL.skp (b:=false) rfl rfl ?_
    | refine WOL.gu rfl rfl ?_
    | refine WOL.mv rfl ?_
    | refine WOL.as rfl ?_
    | refine WOL.ex rfl rfl ?_
    | refine WOL.nt rfl ?_
    | refine WOL.pkt rfl rfl ?_
    | refine WOL.pkf rfl rfl ?_
    | refine WL.yes rfl ?_
    | refine WL.no rfl ?_
    | refine WOL.ld rfl (load_one (by first | exact tp25 | exact tp3) (by first | with_reducible assumption | assumption) (by rfl)) ?_
    | refine WOL.ld rfl (load_row (by first | exact tp25 | exact tp3) (by first | with_reducible assumption | assumption) rfl (Nat.le_of_ble_eq_true rfl)) ?_
    | refine WOL.len rfl (by first | with_reducible assumption | assumption) (by first | exact u43 | exact u29 | exact u44) ?_
    | refine WOL.add rfl rfl (by omega) (by omega) ?_
    | refine WOL.sub rfl rfl (by omega) (by omega) ?_
    | refine WOL.mul rfl rfl (by omega) (by omega) ?_
    | refine WOL.bt rfl rfl rfl (by first | exact decide_eq_true (by omega) | exact beq_iff_eq.2 (by omega) | exact bne_iff_ne.2 (by omega)) ?_
    | refine WOL.bf rfl rfl rfl (by first | exact decide_eq_false (by omega) | exact beq_eq_false_iff_ne.2 (by omega) | exact bne_eq_false_iff_eq.2 (by omega)) ?_)
      exact WL.ret (WL.end_ rfl rfl)
  · repeat' (first
    | (refine WOL.cl0 rfl ((k11t K _).mono ?_);rintro _ h1 ⟨rfl,rfl⟩)
    | refine WL.sr ?_
    | refine WL.seq ?_
    | refine WL.reg ?_
    | refine WOL.nil ?_
    | refine WL.skip ?_
    | refine WOL.now (b:=true) rfl rfl ?_
    | refine WOL.now (b:=false) rfl rfl ?_
    | refine WOL.skp (b:=true) rfl rfl ?_
    | refine WOL.skp (b:=false) rfl rfl ?_
    | refine WOL.gu rfl rfl ?_
    | refine WOL.mv rfl ?_
    | refine WOL.as rfl ?_
    | refine WOL.ex rfl rfl ?_
    | refine WOL.nt rfl ?_
    | refine WOL.pkt rfl rfl ?_
    | refine WOL.pkf rfl rfl ?_
    | refine WL.yes rfl ?_
    | refine WL.no rfl ?_
    | refine WOL.ld rfl (load_one (by first | exact tp25 | exact tp3) (by first | with_reducible assumption | assumption) (by rfl)) ?_
    | refine WOL.ld rfl (load_row (by first | exact tp25 | exact tp3) (by first | with_reducible assumption | assumption) rfl (Nat.le_of_ble_eq_true rfl)) ?_
    | refine WOL.len rfl (by first | with_reducible assumption | assumption) (by first | exact u43 | exact u29 | exact u44) ?_
    | refine WOL.add rfl rfl (by omega) (by omega) ?_
    | refine WOL.sub rfl rfl (by omega) (by omega) ?_
    | refine WOL.mul rfl rfl (by omega) (by omega) ?_
    | refine WOL.bt rfl rfl rfl (by first | exact decide_eq_true (by omega) | exact beq_iff_eq.2 (by omega) | exact bne_iff_ne.2 (by omega)) ?_
    | refine WOL.bf rfl rfl rfl (by first | exact decide_eq_false (by omega) | exact beq_eq_false_iff_ne.2 (by omega) | exact bne_eq_false_iff_eq.2 (by omega)) ?_)
    exact WL.ret (WL.end_ rfl rfl)
end
set_option maxRecDepth 100000 in
theorem law1366:LawG tpE 12 5 [25,93,115]:=by
 intro h us f Gl ha
 obtain ⟨x0,x1,x2,rfl,⟨p0,y0,e0⟩,⟨p1,y1,e1⟩,⟨p2,y2,e2⟩⟩:=args3 ha
 have q2:=tyg_struct Tryz.underlying115 y2
 rw [val_agg (.inl ⟨_,Tryz.underlying115⟩)] at e2
 obtain ⟨w0,F,rfl,s,fs⟩:=tyg_slice eF u43 (fun p y=>by obtain ⟨b,e,_⟩:=ty_float y;exact ⟨b,e⟩) y0
 obtain ⟨w1,U,rfl,t,ft⟩:=tyg_slice eU u116i (fun p y=>by obtain ⟨b,e,hw⟩:=tyg_int u5i y;obtain ⟨c,rfl⟩:=u8_fin hw;exact ⟨c,e⟩) y1
 have hn:=tyg_nil u116i y1
 rw [val_fls] at e0
 rw [val_bts] at e1
 obtain ⟨c0,d0,rfl,_,t0,c1,d1,rfl,_,t1,rfl⟩:=q2
 obtain ⟨a,rfl,_⟩:=ty_int t0
 obtain ⟨b,rfl,_⟩:=ty_int t1
 subst e0 e1 e2
 exact k1366 hasE hasXE awkE Gl s (fs _) t (ft _) hn f
end Go.Tidy
