/- A part of the proof. -/
import Derived.Test.YtmafhkcdhpkliaaDoorPa6
set_option linter.all false
namespace Go.Tidy
open Go Go.Proofs Tab
variable {tp:TProg}
def oneR:ByteArray:=⟨#[114]⟩
theorem oneR_name:nameB oneR=true:=by kernel_rfl
theorem bd52j {b m k:Nat}:buildT Tryd.prog 55 [(0,.string ⟨#[114]⟩),(1,.int .i64 100),(2,.slice (some ⟨b,0,none⟩) m k)]=some (runV oneR 100 (.slice (some ⟨b,0,none⟩) m k) (.slice none 0 0)):=by kernel_rfl
section
variable {h:TH} {v v1 v2:Value} {F:List Nat} {es L D:List Int} {m n:Int} {fb:Nat}
set_option maxHeartbeats 2000000 in
theorem k1377 (H:Has tp) (s:SlL encF 1 h v F) (hE:SErr F es) (hL:firstNZ es=0→Lev F L) (hb:Sx fb m) :
    CallW Tryd.prog tp (.func (.func 4) #[] #[]) #[v,.float .f32 fb] h fun u h'=>h'=h∧∃ b,u=.bool b∧(b=true→(4≤F.length∧F.length≤24)∧firstNZ es=0∧∀ j,j < F.length→-m≤L.getD j 0∧L.getD j 0≤m):=by
  refine CallW.fnL (H.fn 4 f1377 rfl rfl) ?_
  by_cases c1:(F.length:Int) < 4
  · repeat' (first
    | refine WOL.len rfl s u43 ?_
    | refine WL.sr ?_
    | refine WL.seq ?_
    | refine WL.reg ?_
    | refine WOL.nil ?_
    | refine WL.skip ?_
    | refine WOL.now (b:=true) rfl rfl ?_
    | refine WOL.now (b:=false) rfl rfl ?_
    | refine WOL.skp (b:=true) rfl rfl ?_
    | refine WOL.skp (b:=false) rfl rfl ?_
    | refine WOL.gu rfl rfl ?_
    | refine WOL.mv rfl ?_
    | refine WOL.as rfl ?_
    | refine WOL.ex rfl rfl ?_
    | refine WOL.nt rfl ?_
    | refine WOL.pkt rfl rfl ?_
    | refine WOL.pkf rfl rfl ?_
    | refine WL.yes rfl ?_
    | refine WL.no rfl ?_
    | refine WOL.ld rfl (load_one (by first | exact tp25 | exact tp3) (by first | with_reducible assumption | assumption) (by rfl)) ?_
    | refine WOL.ld rfl (load_row (by first | exact tp25 | exact tp3) (by first | with_reducible assumption | assumption) rfl (Nat.le_of_ble_eq_true rfl)) ?_
    | refine WOL.len rfl (by first | with_reducible assumption | assumption) (by first | exact u43 | exact u29 | exact u44) ?_
    | refine WOL.add rfl rfl (by omega) (by omega) ?_
    | refine WOL.sub rfl rfl (by omega) (by omega) ?_
    | refine WOL.mul rfl rfl (by omega) (by omega) ?_
    | refine WOL.bt rfl rfl rfl (by first | exact decide_eq_true (by omega) | exact beq_iff_eq.2 (by omega) | exact bne_iff_ne.2 (by omega)) ?_
    | refine WOL.bf rfl rfl rfl (by first | exact decide_eq_false (by omega) | exact beq_eq_false_iff_ne.2 (by omega) | exact bne_eq_false_iff_eq.2 (by omega)) ?_)
    exact WL.ret (WL.end_ rfl ⟨rfl,false,rfl,fun c=>nomatch c⟩)
  by_cases c2:(F.length:Int) > 24
  · repeat' (first
    | refine WOL.len rfl s u43 ?_
    | refine WL.sr ?_
    | refine WL.seq ?_
    | refine WL.reg ?_
    | refine WOL.nil ?_
    | refine WL.skip ?_
    | refine WOL.now (b:=true) rfl rfl ?_
    | refine WOL.now (b:=false) rfl rfl ?_
    | refine WOL.skp (b:=true) rfl rfl ?_
    | refine WOL.skp (b:=false) rfl rfl ?_
    | refine WOL.gu rfl rfl ?_
    | refine WOL.mv rfl ?_
    | refine WOL.as rfl ?_
    | refine WOL.ex rfl rfl ?_
    | refine WOL.nt rfl ?_
    | refine WOL.pkt rfl rfl ?_
    | refine WOL.pkf rfl rfl ?_
    | refine WL.yes rfl ?_
    | refine WL.no rfl ?_
    | refine WOL.ld rfl (load_one (by first | exact tp25 | exact tp3) (by first | with_reducible assumption | assumption) (by rfl)) ?_
    | refine WOL.ld rfl (load_row (by first | exact tp25 | exact tp3) (by first | with_reducible assumption | assumption) rfl (Nat.le_of_ble_eq_true rfl)) ?_
    | refine WOL.len rfl (by first | with_reducible assumption | assumption) (by first | exact u43 | exact u29 | exact u44) ?_
    | refine WOL.add rfl rfl (by omega) (by omega) ?_
    | refine WOL.sub rfl rfl (by omega) (by omega) ?_
    | refine WOL.mul rfl rfl (by omega) (by omega) ?_
    | refine WOL.bt rfl rfl rfl (by first | exact decide_eq_true (by omega) | exact beq_iff_eq.2 (by omega) | exact bne_iff_ne.2 (by omega)) ?_
    | refine WOL.bf rfl rfl rfl (by first | exact decide_eq_false (by omega) | exact beq_eq_false_iff_ne.2 (by omega) | exact bne_eq_false_iff_eq.2 (by omega)) ?_)
    exact WL.ret (WL.end_ rfl ⟨rfl,false,rfl,fun c=>nomatch c⟩)
  repeat' (first
    | refine WOL.len rfl s u43 ?_
    | refine WL.sr ?_
    | refine WL.seq ?_
    | refine WL.reg ?_
    | refine WOL.nil ?_
    | refine WL.skip ?_
    | refine WOL.now (b:=true) rfl rfl ?_
    | refine WOL.now (b:=false) rfl rfl ?_
    | refine WOL.skp (b:=true) rfl rfl ?_
    | refine WOL.skp (b:=false) rfl rfl ?_
    | refine WOL.gu rfl rfl ?_
    | refine WOL.mv rfl ?_
    | refine WOL.as rfl ?_
    | refine WOL.ex rfl rfl ?_
    | refine WOL.nt rfl ?_
    | refine WOL.pkt rfl rfl ?_
    | refine WOL.pkf rfl rfl ?_
    | refine WL.yes rfl ?_
    | refine WL.no rfl ?_
    | refine WOL.ld rfl (load_one (by first | exact tp25 | exact tp3) (by first | with_reducible assumption | assumption) (by rfl)) ?_
    | refine WOL.ld rfl (load_row (by first | exact tp25 | exact tp3) (by first | with_reducible assumption | assumption) rfl (Nat.le_of_ble_eq_true rfl)) ?_
    | refine WOL.len rfl (by first | with_reducible assumption | assumption) (by first | exact u43 | exact u29 | exact u44) ?_
    | refine WOL.add rfl rfl (by omega) (by omega) ?_
    | refine WOL.sub rfl rfl (by omega) (by omega) ?_
    | refine WOL.mul rfl rfl (by omega) (by omega) ?_
    | refine WOL.bt rfl rfl rfl (by first | exact decide_eq_true (by omega) | exact beq_iff_eq.2 (by omega) | exact bne_iff_ne.2 (by omega)) ?_
    | refine WOL.bf rfl rfl rfl (by first | exact decide_eq_false (by omega) | exact beq_eq_false_iff_ne.2 (by omega) | exact bne_eq_false_iff_eq.2 (by omega)) ?_)
  refine WOL.cl1 rfl rfl ((k141 H s hE (by omega)).mono ?_)
  rintro u h ⟨rfl,rfl⟩
  by_cases e0:firstNZ es=0
  · have lv:=hL e0
    have ll:=lv.1
    rw [e0]
    repeat' (first
    | refine WOL.len rfl s u43 ?_
    | refine WL.sr ?_
    | refine WL.seq ?_
    | refine WL.reg ?_
    | refine WOL.nil ?_
    | refine WL.skip ?_
    | refine WOL.now (b:=true) rfl rfl ?_
    | refine WOL.now (b:=false) rfl rfl ?_
    | refine WOL.skp (b:=true) rfl rfl ?_
    | refine WOL.skp (b:=false) rfl rfl ?_
    | refine WOL.gu rfl rfl ?_
    | refine WOL.mv rfl ?_
    | refine WOL.as rfl ?_
    | refine WOL.ex rfl rfl ?_
    | refine WOL.nt rfl ?_
    | refine WOL.pkt rfl rfl ?_
    | refine WOL.pkf rfl rfl ?_
    | refine WL.yes rfl ?_
    | refine WL.no rfl ?_
    | refine WOL.ld rfl (load_one (by first | exact tp25 | exact tp3) (by first | with_reducible assumption | assumption) (by rfl)) ?_
    | refine WOL.ld rfl (load_row (by first | exact tp25 | exact tp3) (by first | with_reducible assumption | assumption) rfl (Nat.le_of_ble_eq_true rfl)) ?_
    | refine WOL.len rfl (by first | with_reducible assumption | assumption) (by first | exact u43 | exact u29 | exact u44) ?_
    | refine WOL.add rfl rfl (by omega) (by omega) ?_
    | refine WOL.sub rfl rfl (by omega) (by omega) ?_
    | refine WOL.mul rfl rfl (by omega) (by omega) ?_
    | refine WOL.bt rfl rfl rfl (by first | exact decide_eq_true (by omega) | exact beq_iff_eq.2 (by omega) | exact bne_iff_ne.2 (by omega)) ?_
    | refine WOL.bf rfl rfl rfl (by first | exact decide_eq_false (by omega) | exact beq_eq_false_iff_ne.2 (by omega) | exact bne_eq_false_iff_eq.2 (by omega)) ?_)
    refine keep [(1,_),(20,_),(21,_),(22,_)] ⟨rfl,rfl,rfl,rfl,trivial⟩ ?_
    refine WL.upto (α:=Unit) F.length (fun j _ g=>g=h∧∀ i,i < j→-m≤L.getD i 0∧L.getD i 0≤m) (fun _ _=>[(1,.float .f32 fb),(20,v),(21,zi (F.length:Nat))]) () rfl rfl (by omega) ⟨rfl,fun i hi=>absurd hi (by omega)⟩ ⟨rfl,rfl,rfl,rfl,trivial⟩ (fun _ _=>rfl) (fun _ _ _=>⟨rfl,rfl,rfl,rfl,trivial⟩) (fun _ _ _=>⟨rfl,rfl,rfl,rfl,trivial⟩) ?_ ?_
    · rintro j _ g hj ⟨rfl,hz⟩
      obtain ⟨p1,q1,a1,l1,s1⟩:=RF.at ⟨F,s,lv⟩ (i:=(j:Nat)) (by omega) (by omega)
      rw [Int.toNat_natCast] at s1
      repeat' (first
    | refine WOL.ix rfl rfl a1 ?_
    | refine WOL.ld rfl l1 ?_
    | refine WL.sr ?_
    | refine WL.seq ?_
    | refine WL.reg ?_
    | refine WOL.nil ?_
    | refine WL.skip ?_
    | refine WOL.now (b:=true) rfl rfl ?_
    | refine WOL.now (b:=false) rfl rfl ?_
    | refine WOL.skp (b:=true) rfl rfl ?_
    | refine WOL.skp (b:=false) rfl rfl ?_
    | refine WOL.gu rfl rfl ?_
    | refine WOL.mv rfl ?_
    | refine WOL.as rfl ?_
    | refine WOL.ex rfl rfl ?_
    | refine WOL.nt rfl ?_
    | refine WOL.pkt rfl rfl ?_
    | refine WOL.pkf rfl rfl ?_
    | refine WL.yes rfl ?_
    | refine WL.no rfl ?_
    | refine WOL.ld rfl (load_one (by first | exact tp25 | exact tp3) (by first | with_reducible assumption | assumption) (by rfl)) ?_
    | refine WOL.ld rfl (load_row (by first | exact tp25 | exact tp3) (by first | with_reducible assumption | assumption) rfl (Nat.le_of_ble_eq_true rfl)) ?_
    | refine WOL.len rfl (by first | with_reducible assumption | assumption) (by first | exact u43 | exact u29 | exact u44) ?_
    | refine WOL.add rfl rfl (by omega) (by omega) ?_
    | refine WOL.sub rfl rfl (by omega) (by omega) ?_
    | refine WOL.mul rfl rfl (by omega) (by omega) ?_
    | refine WOL.bt rfl rfl rfl (by first | exact decide_eq_true (by omega) | exact beq_iff_eq.2 (by omega) | exact bne_iff_ne.2 (by omega)) ?_
    | refine WOL.bf rfl rfl rfl (by first | exact decide_eq_false (by omega) | exact beq_eq_false_iff_ne.2 (by omega) | exact bne_eq_false_iff_eq.2 (by omega)) ?_)
      refine WOL.fgx s1.x hb rfl rfl ?_
      by_cases d1:m < L.getD j 0
      · rw [decide_eq_true d1]
        repeat' (first
    | refine WL.sr ?_
    | refine WL.seq ?_
    | refine WL.reg ?_
    | refine WOL.nil ?_
    | refine WL.skip ?_
    | refine WOL.now (b:=true) rfl rfl ?_
    | refine WOL.now (b:=false) rfl rfl ?_
    | refine WOL.skp (b:=true) rfl rfl ?_
    | refine WOL.skp (b:=false) rfl rfl ?_
    | refine WOL.gu rfl rfl ?_
    | refine WOL.mv rfl ?_
    | refine WOL.as rfl ?_
    | refine WOL.ex rfl rfl ?_
    | refine WOL.nt rfl ?_
    | refine WOL.pkt rfl rfl ?_
    | refine WOL.pkf rfl rfl ?_
    | refine WL.yes rfl ?_
    | refine WL.no rfl ?_
    | refine WOL.ld rfl (load_one (by first | exact tp25 | exact tp3) (by first | with_reducible assumption | assumption) (by rfl)) ?_
    | refine WOL.ld rfl (load_row (by first | exact tp25 | exact tp3) (by first | with_reducible assumption | assumption) rfl (Nat.le_of_ble_eq_true rfl)) ?_
    | refine WOL.len rfl (by first | with_reducible assumption | assumption) (by first | exact u43 | exact u29 | exact u44) ?_
    | refine WOL.add rfl rfl (by omega) (by omega) ?_
    | refine WOL.sub rfl rfl (by omega) (by omega) ?_
    | refine WOL.mul rfl rfl (by omega) (by omega) ?_
    | refine WOL.bt rfl rfl rfl (by first | exact decide_eq_true (by omega) | exact beq_iff_eq.2 (by omega) | exact bne_iff_ne.2 (by omega)) ?_
    | refine WOL.bf rfl rfl rfl (by first | exact decide_eq_false (by omega) | exact beq_eq_false_iff_ne.2 (by omega) | exact bne_eq_false_iff_eq.2 (by omega)) ?_)
        exact WL.ret (WL.end_ rfl ⟨rfl,false,rfl,fun c=>nomatch c⟩)
      rw [decide_eq_false d1]
      repeat' (first
    | (refine WOL.fneg hb rfl ?_;intro q2 n2)
    | refine WL.sr ?_
    | refine WL.seq ?_
    | refine WL.reg ?_
    | refine WOL.nil ?_
    | refine WL.skip ?_
    | refine WOL.now (b:=true) rfl rfl ?_
    | refine WOL.now (b:=false) rfl rfl ?_
    | refine WOL.skp (b:=true) rfl rfl ?_
    | refine WOL.skp (b:=false) rfl rfl ?_
    | refine WOL.gu rfl rfl ?_
    | refine WOL.mv rfl ?_
    | refine WOL.as rfl ?_
    | refine WOL.ex rfl rfl ?_
    | refine WOL.nt rfl ?_
    | refine WOL.pkt rfl rfl ?_
    | refine WOL.pkf rfl rfl ?_
    | refine WL.yes rfl ?_
    | refine WL.no rfl ?_
    | refine WOL.ld rfl (load_one (by first | exact tp25 | exact tp3) (by first | with_reducible assumption | assumption) (by rfl)) ?_
    | refine WOL.ld rfl (load_row (by first | exact tp25 | exact tp3) (by first | with_reducible assumption | assumption) rfl (Nat.le_of_ble_eq_true rfl)) ?_
    | refine WOL.len rfl (by first | with_reducible assumption | assumption) (by first | exact u43 | exact u29 | exact u44) ?_
    | refine WOL.add rfl rfl (by omega) (by omega) ?_
    | refine WOL.sub rfl rfl (by omega) (by omega) ?_
    | refine WOL.mul rfl rfl (by omega) (by omega) ?_
    | refine WOL.bt rfl rfl rfl (by first | exact decide_eq_true (by omega) | exact beq_iff_eq.2 (by omega) | exact bne_iff_ne.2 (by omega)) ?_
    | refine WOL.bf rfl rfl rfl (by first | exact decide_eq_false (by omega) | exact beq_eq_false_iff_ne.2 (by omega) | exact bne_eq_false_iff_eq.2 (by omega)) ?_)
      refine WOL.flx s1.x n2 rfl rfl ?_
      by_cases d2:L.getD j 0 < -m
      · rw [decide_eq_true d2]
        repeat' (first
    | refine WL.sr ?_
    | refine WL.seq ?_
    | refine WL.reg ?_
    | refine WOL.nil ?_
    | refine WL.skip ?_
    | refine WOL.now (b:=true) rfl rfl ?_
    | refine WOL.now (b:=false) rfl rfl ?_
    | refine WOL.skp (b:=true) rfl rfl ?_
    | refine WOL.skp (b:=false) rfl rfl ?_
    | refine WOL.gu rfl rfl ?_
    | refine WOL.mv rfl ?_
    | refine WOL.as rfl ?_
    | refine WOL.ex rfl rfl ?_
    | refine WOL.nt rfl ?_
    | refine WOL.pkt rfl rfl ?_
    | refine WOL.pkf rfl rfl ?_
    | refine WL.yes rfl ?_
    | refine WL.no rfl ?_
    | refine WOL.ld rfl (load_one (by first | exact tp25 | exact tp3) (by first | with_reducible assumption | assumption) (by rfl)) ?_
    | refine WOL.ld rfl (load_row (by first | exact tp25 | exact tp3) (by first | with_reducible assumption | assumption) rfl (Nat.le_of_ble_eq_true rfl)) ?_
    | refine WOL.len rfl (by first | with_reducible assumption | assumption) (by first | exact u43 | exact u29 | exact u44) ?_
    | refine WOL.add rfl rfl (by omega) (by omega) ?_
    | refine WOL.sub rfl rfl (by omega) (by omega) ?_
    | refine WOL.mul rfl rfl (by omega) (by omega) ?_
    | refine WOL.bt rfl rfl rfl (by first | exact decide_eq_true (by omega) | exact beq_iff_eq.2 (by omega) | exact bne_iff_ne.2 (by omega)) ?_
    | refine WOL.bf rfl rfl rfl (by first | exact decide_eq_false (by omega) | exact beq_eq_false_iff_ne.2 (by omega) | exact bne_eq_false_iff_eq.2 (by omega)) ?_)
        exact WL.ret (WL.end_ rfl ⟨rfl,false,rfl,fun c=>nomatch c⟩)
      rw [decide_eq_false d2]
      repeat' (first
    | refine WL.sr ?_
    | refine WL.seq ?_
    | refine WL.reg ?_
    | refine WOL.nil ?_
    | refine WL.skip ?_
    | refine WOL.now (b:=true) rfl rfl ?_
    | refine WOL.now (b:=false) rfl rfl ?_
    | refine WOL.skp (b:=true) rfl rfl ?_
    | refine WOL.skp (b:=false) rfl rfl ?_
    | refine WOL.gu rfl rfl ?_
    | refine WOL.mv rfl ?_
    | refine WOL.as rfl ?_
    | refine WOL.ex rfl rfl ?_
    | refine WOL.nt rfl ?_
    | refine WOL.pkt rfl rfl ?_
    | refine WOL.pkf rfl rfl ?_
    | refine WL.yes rfl ?_
    | refine WL.no rfl ?_
    | refine WOL.ld rfl (load_one (by first | exact tp25 | exact tp3) (by first | with_reducible assumption | assumption) (by rfl)) ?_
    | refine WOL.ld rfl (load_row (by first | exact tp25 | exact tp3) (by first | with_reducible assumption | assumption) rfl (Nat.le_of_ble_eq_true rfl)) ?_
    | refine WOL.len rfl (by first | with_reducible assumption | assumption) (by first | exact u43 | exact u29 | exact u44) ?_
    | refine WOL.add rfl rfl (by omega) (by omega) ?_
    | refine WOL.sub rfl rfl (by omega) (by omega) ?_
    | refine WOL.mul rfl rfl (by omega) (by omega) ?_
    | refine WOL.bt rfl rfl rfl (by first | exact decide_eq_true (by omega) | exact beq_iff_eq.2 (by omega) | exact bne_iff_ne.2 (by omega)) ?_
    | refine WOL.bf rfl rfl rfl (by first | exact decide_eq_false (by omega) | exact beq_eq_false_iff_ne.2 (by omega) | exact bne_eq_false_iff_eq.2 (by omega)) ?_)
      refine fun a q=>⟨(),⟨rfl,fun i hi=>?_⟩,q.sub ⟨rfl,rfl,rfl,rfl,trivial⟩⟩
      by_cases e:i=j
      · subst e;omega
      · exact hz i (by omega)
    · rintro _ g ⟨rfl,hz⟩
      repeat' (first
    | refine WL.sr ?_
    | refine WL.seq ?_
    | refine WL.reg ?_
    | refine WOL.nil ?_
    | refine WL.skip ?_
    | refine WOL.now (b:=true) rfl rfl ?_
    | refine WOL.now (b:=false) rfl rfl ?_
    | refine WOL.skp (b:=true) rfl rfl ?_
    | refine WOL.skp (b:=false) rfl rfl ?_
    | refine WOL.gu rfl rfl ?_
    | refine WOL.mv rfl ?_
    | refine WOL.as rfl ?_
    | refine WOL.ex rfl rfl ?_
    | refine WOL.nt rfl ?_
    | refine WOL.pkt rfl rfl ?_
    | refine WOL.pkf rfl rfl ?_
    | refine WL.yes rfl ?_
    | refine WL.no rfl ?_
    | refine WOL.ld rfl (load_one (by first | exact tp25 | exact tp3) (by first | with_reducible assumption | assumption) (by rfl)) ?_
    | refine WOL.ld rfl (load_row (by first | exact tp25 | exact tp3) (by first | with_reducible assumption | assumption) rfl (Nat.le_of_ble_eq_true rfl)) ?_
    | refine WOL.len rfl (by first | with_reducible assumption | assumption) (by first | exact u43 | exact u29 | exact u44) ?_
    | refine WOL.add rfl rfl (by omega) (by omega) ?_
    | refine WOL.sub rfl rfl (by omega) (by omega) ?_
    | refine WOL.mul rfl rfl (by omega) (by omega) ?_
    | refine WOL.bt rfl rfl rfl (by first | exact decide_eq_true (by omega) | exact beq_iff_eq.2 (by omega) | exact bne_iff_ne.2 (by omega)) ?_
    | refine WOL.bf rfl rfl rfl (by first | exact decide_eq_false (by omega) | exact beq_eq_false_iff_ne.2 (by omega) | exact bne_eq_false_iff_eq.2 (by omega)) ?_)
      exact WL.ret (WL.end_ rfl ⟨rfl,true,rfl,fun _=>⟨⟨by omega,by omega⟩,rfl,hz⟩⟩)
  · repeat' (first
    | refine WL.sr ?_
    | refine WL.seq ?_
    | refine WL.reg ?_
    | refine WOL.nil ?_
    | refine WL.skip ?_
    | refine WOL.now (b:=true) rfl rfl ?_
    | refine WOL.now (b:=false) rfl rfl ?_
    | refine WOL.skp (b:=true) rfl rfl ?_
    | refine WOL.skp (b:=false) rfl rfl ?_
    | refine WOL.gu rfl rfl ?_
    | refine WOL.mv rfl ?_
    | refine WOL.as rfl ?_
    | refine WOL.ex rfl rfl ?_
    | refine WOL.nt rfl ?_
    | refine WOL.pkt rfl rfl ?_
    | refine WOL.pkf rfl rfl ?_
    | refine WL.yes rfl ?_
    | refine WL.no rfl ?_
    | refine WOL.ld rfl (load_one (by first | exact tp25 | exact tp3) (by first | with_reducible assumption | assumption) (by rfl)) ?_
    | refine WOL.ld rfl (load_row (by first | exact tp25 | exact tp3) (by first | with_reducible assumption | assumption) rfl (Nat.le_of_ble_eq_true rfl)) ?_
    | refine WOL.len rfl (by first | with_reducible assumption | assumption) (by first | exact u43 | exact u29 | exact u44) ?_
    | refine WOL.add rfl rfl (by omega) (by omega) ?_
    | refine WOL.sub rfl rfl (by omega) (by omega) ?_
    | refine WOL.mul rfl rfl (by omega) (by omega) ?_
    | refine WOL.bt rfl rfl rfl (by first | exact decide_eq_true (by omega) | exact beq_iff_eq.2 (by omega) | exact bne_iff_ne.2 (by omega)) ?_
    | refine WOL.bf rfl rfl rfl (by first | exact decide_eq_false (by omega) | exact beq_eq_false_iff_ne.2 (by omega) | exact bne_eq_false_iff_eq.2 (by omega)) ?_)
    exact WL.ret (WL.end_ rfl ⟨rfl,false,rfl,fun c=>nomatch c⟩)
theorem jrun (s:SlL encF 1 h v F) (ft:Fits h v 26) (lv:Lev F L) (h24:F.length≤4096):RunC oneR 100 h v (.slice none 0 0) (cellsL L [])∧(cellsL L []).length=L.length∧lvC (cellsL L [])=L∧hoC (cellsL L [])=[]:=by
 obtain ⟨es,hE,z⟩:=serr_zero lv
 have V:Valid oneR 100 F [] L:=⟨lv,by decide,by omega,h24,rfl,rfl⟩
 have r0:runE oneR 100 F.length [] es L=0:=by
  unfold runE headE tailE outB
  rw [z,oneR_name,decide_eq_false (show ¬ (100:Int) < 0 by decide),decide_eq_false (show ¬ (100:Int) > 100000000 by decide),decide_eq_false (show ¬ (F.length:Int) > 4096 by omega),decide_eq_false (show ¬ 100+(F.length:Int) > 100000000 by omega)];rfl
 obtain ⟨b1,b2⟩:=V.back
 refine ⟨⟨F,es,⟨s,by rw [b2];exact SlL.nil,ft⟩,Cel.of V hE r0⟩,?_,b1,b2⟩
 have:=congrArg List.length b1
 rwa [List.length_map] at this
theorem TrcH.put {g g':TH} {c:Nat} {x:TB} {S:List (Int × Int)} (r:TrcH g v1 v2 L S) (p:Put g g' c x) (h1:bl v1≠some c) (h2:bl v2≠some c):TrcH g' v1 v2 L S :=
 ⟨slC_keep r.l fun b x hb a=>p.oth _ _ (fun e=>h1 (by rw [hb,e])) a,slC_keep r.s fun b x hb a=>p.oth _ _ (fun e=>h2 (by rw [hb,e])) a,fun b off m cap e=>by
  obtain ⟨cc,fix,wr,el,r1,r2⟩:=r.g b off m cap e
  exact ⟨cc,fix,wr,el,p.oth _ _ (fun e'=>h1 (by rw [e,e'];rfl)) r1,r2⟩⟩
set_option maxHeartbeats 2000000 in
set_option maxRecDepth 100000 in
theorem k1379 (H:Has tp) (X:HasX tp) (s:SlL encF 1 h v F) (lv:Lev F L) (h24:F.length≤24) (f:Free0 h.next h) :
  CallW Tryd.prog tp (.func (.func 7) #[] #[]) #[v] h fun u h'=>HX h h'∧∃ c b m k,u=.tuple #[trcV 100 (slA c L.length) (.slice b m k),.bool true]∧TrcH h' (slA c L.length) (.slice b m k) L []:=by
 have ll:=lv.1
 refine CallW.fnL (H.fn 7 f1379 rfl rfl) ?_
 refine WL.sr<|WOL.al tp1117 fun h1 N1=>WOL.as rfl<|WOL.nil<|keep [(0,_),(2,_)] ⟨rfl,rfl,trivial⟩ ?_
 have n1:=N1.next
 refine WL.sr<|WOL.bs0 u43 tp25 (by decide) (by decide) fun h2 N2=>WOL.mv rfl ?_
 have Y2:=N1.hx.trans N2.hx
 obtain ⟨u2,h3,ap3,X3,s3,b3,rfl,hb3,F3⟩:=append_own u43 tp25 N2.at_ (s.hx Y2) (by omega) (eF.all _)
 have Y3:=Y2.trans X3
 obtain ⟨rc,lc,e1,e2⟩:=jrun s3 F3 lv (by omega)
 refine WOL.ap rfl rfl ap3<|WOL.bd rfl bd52j<|WOL.cl1 rfl rfl ((k1146c H X rc (f.on Y3)).mono ?_)
 rintro u g4 ⟨X4,c,b,m,k,rfl,T,tc,tb⟩
 rw [e1,e2] at T
 rw [lc] at T ⊢
 have Y4:=Y3.trans X4
 have y4:=Y4.next
 refine WOL.mv rfl<|WOL.ex rfl rfl<|WOL.ex rfl rfl<|WOL.al tp1117 fun h5 N5=>WOL.sto (vs:=[zi 100,slA c L.length,.slice b m k]) rfl rfl tp1117 N5.at_ rfl rfl (Nat.le_of_ble_eq_true rfl) rfl ((f.on Y4).hx N5.hx) (Nat.le_refl _) fun g5 P5=>WOL.as rfl<|WOL.nil<|keep [(0,_),(2,_),(4,_),(5,_)] ⟨rfl,rfl,rfl,rfl,trivial⟩ ?_
 have X5:=P5.hx _ N5.hx (Nat.le_refl _)
 have Y5:=Y4.trans X5
 have A4:At g5 g4.next (.cells [zi 100,slA c L.length,.slice b m k] true true 32):=P5.at_
 have A2:At g5 h.next _:=(N1.at_.hx ((N2.hx.trans X3).trans X4)).hx X5
 have T5:=T.hx X5
 have s5:=s.hx Y5
 have tI:=T5.l
 have tS:SlC g5 (.slice b m k) 2 0 []:=T5.s
 have x3:=X3.next
 have n2:=N2.next
 have ne:h.next≠g4.next:=by have:=(N2.hx.trans X3).trans X4;have:=this.next;omega
 refine WL.sr<|WOL.ld rfl (load_row tp1117 A4 rfl (Nat.le_of_ble_eq_true rfl)) ?_
 repeat' (first
  | refine WOL.fa rfl (fa_of fo1117_0) ?_
  | refine WOL.fa rfl (fa_of fo1117_1) ?_
  | refine WOL.fa rfl (fa_of fo1117_2) ?_
  | refine WOL.ld rfl (load_one tp3 A4 rfl) ?_
  | refine WOL.ld rfl (load_one tp29 A4 rfl) ?_
  | refine WOL.ld rfl (load_one tp44 A4 rfl) ?_
  | refine WOL.len rfl tI u29 ?_
  | refine WOL.len rfl s5 u43 ?_
  | refine WOL.len rfl tS u44 ?_
  | refine WL.sr ?_
  | refine WL.seq ?_
  | refine WL.reg ?_
  | refine WOL.nil ?_
  | refine WL.skip ?_
  | refine WOL.now (b:=true) rfl rfl ?_
  | refine WOL.now (b:=false) rfl rfl ?_
  | refine WOL.skp (b:=true) rfl rfl ?_
  | refine WOL.skp (b:=false) rfl rfl ?_
  | refine WOL.gu rfl rfl ?_
  | refine WOL.mv rfl ?_
  | refine WOL.as rfl ?_
  | refine WOL.ex rfl rfl ?_
  | refine WOL.nt rfl ?_
  | refine WOL.pkt rfl rfl ?_
  | refine WOL.pkf rfl rfl ?_
  | refine WL.yes rfl ?_
  | refine WL.no rfl ?_
  | refine WOL.ld rfl (load_one (by first | exact tp25 | exact tp3) (by first | with_reducible assumption | assumption) (by rfl)) ?_
  | refine WOL.ld rfl (load_row (by first | exact tp25 | exact tp3) (by first | with_reducible assumption | assumption) rfl (Nat.le_of_ble_eq_true rfl)) ?_
  | refine WOL.len rfl (by first | with_reducible assumption | assumption) (by first | exact u43 | exact u29 | exact u44) ?_
  | refine WOL.add rfl rfl (by omega) (by omega) ?_
  | refine WOL.sub rfl rfl (by omega) (by omega) ?_
  | refine WOL.mul rfl rfl (by omega) (by omega) ?_
  | refine WOL.bt rfl rfl rfl (by first | exact decide_eq_true (by omega) | exact beq_iff_eq.2 (by omega) | exact bne_iff_ne.2 (by omega)) ?_
  | refine WOL.bf rfl rfl rfl (by first | exact decide_eq_false (by omega) | exact beq_eq_false_iff_ne.2 (by omega) | exact bne_eq_false_iff_eq.2 (by omega)) ?_)
 refine WOL.stQ (vs:=[zi 100,slA c L.length,.slice b m k]) [g4.next] rfl rfl rfl tp1117 A2 rfl rfl (Nat.le_of_ble_eq_true rfl) rfl (f.hx Y5) (Nat.le_refl _) (by simp;omega) fun h6 P6=>WOL.as rfl<|WOL.nil ?_
 exact WL.ret (WL.endC1 rfl rfl (load_row tp1117 P6.at_ rfl (Nat.le_of_ble_eq_true rfl)) ⟨P6.hx _ Y5 (Nat.le_refl _),c,b,m,k,rfl,T5.put P6 (fun e=>by have e:c=h.next:=Option.some.inj e;omega) (fun e=>by have:=tb _ e;omega)⟩)
end
end Go.Tidy
namespace Go.Tidy
open Go Go.Proofs Tab
variable {tp:TProg}
theorem WOL.alS {P:Program} {tp:TProg} {h:TH} {K:Regs→TH→Prop} {rest:List TOper} {d:Nat} {d':Option Tmp} {ty ty':TypeId} {i i':Nat} {y:Operand} {L:Rg} {t:TypeId} {n:Nat} {z vs:List Value} {row:Bool} {v:Value} (he:Tp P t n z row) (hy:getL (putL L (some d) (.pointer (some ⟨h.next,0,none⟩))) y=some v) (hv:v.cells.toList=vs) (hn:vs.length=n) (h1:vs.all oneCell=true) (f:Free0 h.next h)
  (w:∀ g,HX h g→At g h.next (.cells vs true true t)→∀ a,Kn (putL (putL L (some d) (.pointer (some ⟨h.next,0,none⟩))) d' undef) a→WO P tp rest a g K):∀ a,Kn L a→WO P tp (⟨some d,.alloc t,ty,none,[],i⟩::⟨d',.store t (.tmp d) y,ty',none,[],i'⟩::rest) a h K :=
 WOL.al he fun hh N=>WOL.sto (b:=h.next) (off:=0) (by show lkR ((d,_)::L) d=_;simp [lkR]) hy he N.at_ hv hn (by rw [he.n];omega) h1 (f.hx N.hx) (Nat.le_refl _) fun g P1=>w g (P1.hx _ N.hx (Nat.le_refl _)) (by
  have:=P1.at_
  rwa [splice_all _ _ (by rw [he.n];exact hn)] at this)
theorem long_core6 {p q:Nat} (hp:1≤p) (hp':p≤6) (hq:1≤q) (hq':q≤6) (Z:Nat→Int):(List.range (p+q - 1)).foldl (fun s i=>s+wgt p q i*(-(Z i)+2*Z (i+1) - Z (i+2))) 0=-(q:Int)*Z 0+((p:Int)+q)*Z p - (p:Int)*Z (p+q):=by
 obtain rfl | rfl | rfl | rfl | rfl | rfl:p=1∨p=2∨p=3∨p=4∨p=5∨p=6:=by omega
 all_goals
  obtain rfl | rfl | rfl | rfl | rfl | rfl:q=1∨q=2∨q=3∨q=4∨q=5∨q=6:=by omega
  all_goals
   simp [List.range,List.range.loop,wgt]
   try omega
section
variable {h:TH} {v v9 v1 v2 w1 w2:Value} {F:List Nat} {es L D V B:List Int} {S:List (Int × Int)} {m n a b:Int} {fb c3 p q M j:Nat}
def cuvL (L:List Int):List Int:=valC (tapC L [] (vTn 1 1) (L.length - 2))
theorem cuv_len:(cuvL L).length=L.length - 2:=by unfold cuvL;rw [valC_len,tapC_len]
theorem cuv_get (hj:j < L.length - 2):(cuvL L).getD j 0=-(L.getD j 0)+2*L.getD (j+1) 0 - L.getD (j+2) 0:=by
 unfold cuvL
 rw [vers_all hj,vTn_val]
 show -((1:Nat):Int)*L.getD j 0+(((1:Nat):Int)+((1:Nat):Int))*L.getD (j+1) 0 - ((1:Nat):Int)*L.getD (j+2) 0=_
 omega
theorem cuv_ben (hj:j < L.length - 2):(cuvL L).getD j 0=-((benL L).getD j 0):=by
 rw [cuv_get hj,ben_get hj];omega
theorem cuv_eq (hp:1≤p) (hp':p≤6) (hq:1≤q) (hq':q≤6) (hj:j+(p+q) < L.length):tapN (cuvL L) j (wTp p q 1) 0=tapN L j (vTn p q) 0:=by
 have hi:∀ i,i ∈ List.range (p+q - 1)→(cuvL L).getD (j+i*1) 0=-((fun i=>L.getD (j+i) 0) i)+2*((fun i=>L.getD (j+i) 0) (i+1)) - ((fun i=>L.getD (j+i) 0) (i+2)):=fun i hi=>by
  have hi:=List.mem_range.1 hi
  rw [Nat.mul_one,cuv_get (by omega)]
  rfl
 unfold wTp
 rw [fold_taps _ _ hi,long_core6 hp hp' hq hq' (fun i=>L.getD (j+i) 0),vTn_val]
 rfl
theorem cuv_both (hp:1≤p) (hp':p≤6) (hq:1≤q) (hq':q≤6) (hM:M+(p+q)≤L.length):valC (tapC (cuvL L) [] (wTp p q 1) M)=valC (tapC L [] (vTn p q) M):=by
 refine list_ext (by rw [valC_len,valC_len,tapC_len,tapC_len]) fun i hi=>?_
 rw [valC_len,tapC_len] at hi
 rw [tapV_get hi,tapV_get hi,tapK_nil,tapK_nil,cuv_eq hp hp' hq hq' (by omega)]
theorem wT_flags {T:List (Nat × Int)}:holesOf ((tapC L [] T M).map fun c=>c.2)=[]:=by
 have:((tapC L [] T M).map fun c=>c.2)=List.replicate M true:=by
  refine List.ext_getElem? fun i=>?_
  by_cases h:i < M
  ·rw [List.getElem?_map,tapC_get h,tapK_nil,List.getElem?_replicate,if_pos h];rfl
  ·rw [List.getElem?_eq_none (by rw [List.length_map,tapC_len];omega),List.getElem?_eq_none (by rw [List.length_replicate];omega)]
 rw [this,← known_nil]
 exact holes_back rfl
theorem cuv_small (hp:1≤p) (hp':p≤6) (hq:1≤q) (hq':q≤6) (hM:M+(p+q)≤L.length) (hL:∀ j,-20000≤L.getD j 0∧L.getD j 0≤20000):bigC (tapC (cuvL L) [] (wTp p q 1) M)=false:=big_not fun i hi _=>by
 rw [cuv_eq hp hp' hq hq' (by omega)]
 exact vers_lim (by omega) (by omega) hL
set_option maxRecDepth 100000 in
theorem k1398 (H:Has tp) (T:TrcH h v1 v2 (cuvL L) []) (r:RF h v9 (benL L)) (h2:2≤L.length) (h24:L.length≤24) :
  CallW Tryd.prog tp (.func (.func 10) #[] #[]) #[trcV 101 v1 v2,zi 101,v9] h fun u h'=>u=.bool true∧HX h h':=by
 obtain ⟨b1,k1,e1,_⟩:=id T.l
 obtain ⟨b2,k2,e2,_⟩:=id T.s
 subst e1 e2
 have lc:(cuvL L).length=L.length - 2:=cuv_len
 have lb:(benL L).length=L.length - 2:=ben_len
 have ln:=r.ln
 obtain ⟨B,sB,lB⟩:=id r
 have lbb:=lB.1
 obtain ⟨es,hE,z⟩:=serr_zero lB
 refine CallW.fnL (H.fn 10 f1398 rfl rfl) ?_
 refine WL.sr<|WOL.box rfl fun h1 N1=>?_
 have X1:=N1.hx
 have A3:At h1 h.next (.cells [zi 101,.slice b1 (cuvL L).length k1,.slice b2 0 k2] true true 32):=N1.at_
 have T1:=T.hx X1
 have tI:=T1.l
 have tS:SlC h1 (.slice b2 0 k2) 2 0 []:=T1.s
 have ln1:=(r.hx X1).ln
 repeat' (first
  | refine WOL.fa rfl (fa_of fo1117_0) ?_
  | refine WOL.fa rfl (fa_of fo1117_1) ?_
  | refine WOL.fa rfl (fa_of fo1117_2) ?_
  | refine WOL.ld rfl (load_one tp3 A3 rfl) ?_
  | refine WOL.ld rfl (load_one tp29 A3 rfl) ?_
  | refine WOL.ld rfl (load_one tp44 A3 rfl) ?_
  | refine WOL.len rfl tI u29 ?_
  | refine WOL.len rfl ln1 u43 ?_
  | refine WOL.len rfl tS u44 ?_
  | (refine WOL.cl1 rfl rfl ((k141 H (sB.hx X1) hE (by omega)).mono ?_);rintro _ h1 ⟨rfl,rfl⟩;rw [z])
  | refine WL.sr ?_
  | refine WL.seq ?_
  | refine WL.reg ?_
  | refine WOL.nil ?_
  | refine WL.skip ?_
  | refine WOL.now (b:=true) rfl rfl ?_
  | refine WOL.now (b:=false) rfl rfl ?_
  | refine WOL.skp (b:=true) rfl rfl ?_
  | refine WOL.skp (b:=false) rfl rfl ?_
  | refine WOL.gu rfl rfl ?_
  | refine WOL.mv rfl ?_
  | refine WOL.as rfl ?_
  | refine WOL.ex rfl rfl ?_
  | refine WOL.nt rfl ?_
  | refine WOL.pkt rfl rfl ?_
  | refine WOL.pkf rfl rfl ?_
  | refine WL.yes rfl ?_
  | refine WL.no rfl ?_
  | refine WOL.ld rfl (load_one (by first | exact tp25 | exact tp3) (by first | with_reducible assumption | assumption) (by rfl)) ?_
  | refine WOL.ld rfl (load_row (by first | exact tp25 | exact tp3) (by first | with_reducible assumption | assumption) rfl (Nat.le_of_ble_eq_true rfl)) ?_
  | refine WOL.len rfl (by first | with_reducible assumption | assumption) (by first | exact u43 | exact u29 | exact u44) ?_
  | refine WOL.add rfl rfl (by omega) (by omega) ?_
  | refine WOL.sub rfl rfl (by omega) (by omega) ?_
  | refine WOL.mul rfl rfl (by omega) (by omega) ?_
  | refine WOL.bt rfl rfl rfl (by first | exact decide_eq_true (by omega) | exact beq_iff_eq.2 (by omega) | exact bne_iff_ne.2 (by omega)) ?_
  | refine WOL.bf rfl rfl rfl (by first | exact decide_eq_false (by omega) | exact beq_eq_false_iff_ne.2 (by omega) | exact bne_eq_false_iff_eq.2 (by omega)) ?_)
 refine keep [(2,_),(3,_),(32,_),(33,_),(34,_)] ⟨rfl,rfl,rfl,rfl,rfl,trivial⟩ ?_
 have lm:∀ j,((benL L).getD j 0).natAbs≤16384:=lev_getD lB
 refine WL.upto (α:=Unit) (benL L).length (fun _ _ g=>HX h1 g) (fun _ _=>[(2,v9),(3,ptr h.next),(32,v9),(33,zi ((benL L).length:Nat))]) () rfl rfl (by omega) (HX.refl _) ⟨rfl,rfl,rfl,rfl,rfl,trivial⟩ (fun _ _=>rfl) (fun _ _ _=>⟨rfl,rfl,rfl,rfl,rfl,trivial⟩) (fun _ _ _=>⟨rfl,rfl,rfl,rfl,rfl,trivial⟩) ?_ ?_
 ·rintro j _ g hj Xg
  obtain ⟨p1,c1,a1,l1,s1⟩:=((r.hx X1).hx Xg).at (i:=(j:Nat)) (by omega) (by omega)
  obtain ⟨p2,a2,l2⟩:=(tI.hx Xg).ati (j:=j) (by omega)
  rw [Int.toNat_natCast] at s1
  rw [cuv_ben (by omega)] at l2
  have b1:=lm j
  have Ag:=A3.hx Xg
  repeat' (first
  | refine WOL.ix rfl rfl a1 ?_
  | refine WOL.ix rfl rfl a2 ?_
  | refine WOL.ld rfl l1 ?_
  | refine WOL.ld rfl l2 ?_
  | refine WOL.fa rfl (fa_of fo1117_1) ?_
  | refine WOL.ld rfl (load_one tp29 Ag rfl) ?_
  | (refine WOL.lk1 rfl rfl fun ml=>((k95 H s1 _).mono ?_);rintro _ _ ⟨rfl,rfl⟩;rw [TH.relock])
  | refine WOL.neg rfl (by omega) (by omega) ?_
  | refine WL.sr ?_
  | refine WL.seq ?_
  | refine WL.reg ?_
  | refine WOL.nil ?_
  | refine WL.skip ?_
  | refine WOL.now (b:=true) rfl rfl ?_
  | refine WOL.now (b:=false) rfl rfl ?_
  | refine WOL.skp (b:=true) rfl rfl ?_
  | refine WOL.skp (b:=false) rfl rfl ?_
  | refine WOL.gu rfl rfl ?_
  | refine WOL.mv rfl ?_
  | refine WOL.as rfl ?_
  | refine WOL.ex rfl rfl ?_
  | refine WOL.nt rfl ?_
  | refine WOL.pkt rfl rfl ?_
  | refine WOL.pkf rfl rfl ?_
  | refine WL.yes rfl ?_
  | refine WL.no rfl ?_
  | refine WOL.ld rfl (load_one (by first | exact tp25 | exact tp3) (by first | with_reducible assumption | assumption) (by rfl)) ?_
  | refine WOL.ld rfl (load_row (by first | exact tp25 | exact tp3) (by first | with_reducible assumption | assumption) rfl (Nat.le_of_ble_eq_true rfl)) ?_
  | refine WOL.len rfl (by first | with_reducible assumption | assumption) (by first | exact u43 | exact u29 | exact u44) ?_
  | refine WOL.add rfl rfl (by omega) (by omega) ?_
  | refine WOL.sub rfl rfl (by omega) (by omega) ?_
  | refine WOL.mul rfl rfl (by omega) (by omega) ?_
  | refine WOL.bt rfl rfl rfl (by first | exact decide_eq_true (by omega) | exact beq_iff_eq.2 (by omega) | exact bne_iff_ne.2 (by omega)) ?_
  | refine WOL.bf rfl rfl rfl (by first | exact decide_eq_false (by omega) | exact beq_eq_false_iff_ne.2 (by omega) | exact bne_eq_false_iff_eq.2 (by omega)) ?_)
  exact fun y k=>⟨(),Xg,k.sub ⟨rfl,rfl,rfl,rfl,rfl,trivial⟩⟩
 ·rintro _ g Xg
  repeat' (first
  | refine WL.sr ?_
  | refine WL.seq ?_
  | refine WL.reg ?_
  | refine WOL.nil ?_
  | refine WL.skip ?_
  | refine WOL.now (b:=true) rfl rfl ?_
  | refine WOL.now (b:=false) rfl rfl ?_
  | refine WOL.skp (b:=true) rfl rfl ?_
  | refine WOL.skp (b:=false) rfl rfl ?_
  | refine WOL.gu rfl rfl ?_
  | refine WOL.mv rfl ?_
  | refine WOL.as rfl ?_
  | refine WOL.ex rfl rfl ?_
  | refine WOL.nt rfl ?_
  | refine WOL.pkt rfl rfl ?_
  | refine WOL.pkf rfl rfl ?_
  | refine WL.yes rfl ?_
  | refine WL.no rfl ?_
  | refine WOL.ld rfl (load_one (by first | exact tp25 | exact tp3) (by first | with_reducible assumption | assumption) (by rfl)) ?_
  | refine WOL.ld rfl (load_row (by first | exact tp25 | exact tp3) (by first | with_reducible assumption | assumption) rfl (Nat.le_of_ble_eq_true rfl)) ?_
  | refine WOL.len rfl (by first | with_reducible assumption | assumption) (by first | exact u43 | exact u29 | exact u44) ?_
  | refine WOL.add rfl rfl (by omega) (by omega) ?_
  | refine WOL.sub rfl rfl (by omega) (by omega) ?_
  | refine WOL.mul rfl rfl (by omega) (by omega) ?_
  | refine WOL.bt rfl rfl rfl (by first | exact decide_eq_true (by omega) | exact beq_iff_eq.2 (by omega) | exact bne_iff_ne.2 (by omega)) ?_
  | refine WOL.bf rfl rfl rfl (by first | exact decide_eq_false (by omega) | exact beq_eq_false_iff_ne.2 (by omega) | exact bne_eq_false_iff_eq.2 (by omega)) ?_)
  exact WL.ret (WL.end_ rfl ⟨rfl,X1.trans Xg⟩)
end
end Go.Tidy
namespace Go.Tidy
open Go Go.Proofs Tab
variable {tp:TProg}
theorem bd1128_11:buildT Tryd.prog 42 [(0,zi 1),(1,zi 1)]=some (.agg #[zi 1,zi 1]):=by kernel_rfl
theorem twenty_x:Sx 1101004800 320:=by
 have h:=(smp_ok (n:=320) (by decide)).2.2.x
 have e:smp 320=1101004800:=by kernel_rfl
 rwa [e] at h
section
variable {h:TH} {v v9 v1 v2 w1 w2 v18 v20:Value} {F B:List Nat} {es L:List Int} {a b:Int} {c3 c5 c7 c11 c13 c16 cb p q:Nat} {n1 k1 n2 k2 m:Nat} {b2:Option Addr}
def cd1397e:TCode:=.seq (.seq (.reg r1397_18) (.cond (.tmp 202) (.seq (.reg r1397_19) .ret) .skip)) (.seq (.reg r1397_20) .ret)
def cd1397d:TCode:=.seq (.reg r1397_16) (.seq (.reg r1397_17) cd1397e)
def cd1397c:TCode:=.seq (.reg r1397_14) (.seq (.reg r1397_15) cd1397d)
def cd1397b:TCode:=.seq (.reg r1397_10) (.seq (.reg r1397_11) (.seq (.seq (.reg r1397_12) (.cond (.tmp 132) (.seq (.reg r1397_13) .ret) .skip)) cd1397c))
def cd1397a:TCode:=.seq (.reg r1397_3) (.seq (.seq (.reg r1397_4) (.cond (.tmp 57) (.seq (.reg r1397_5) .ret) .skip)) (.seq (.reg r1397_6) (.seq (.reg r1397_7) (.seq (.seq (.reg r1397_8) (.cond (.tmp 89) (.seq (.reg r1397_9) .ret) .skip)) cd1397b))))
attribute [irreducible] cd1397a cd1397b cd1397c cd1397d cd1397e
set_option maxHeartbeats 4000000 in
set_option maxRecDepth 100000 in
theorem k1397e (H:Has tp) (K:Awk tp) (s:SlL encF 1 h v F) (lv:Lev F L) (h24:F.length≤24) {x1:Nat} {x2:Option Addr} {y2:Nat} (A5:At h c5 (.cells [zi 100,v1,v2] true true 32)) (T5:SlL encI 1 h v1 L) (A16:At h c16 (.cells [zi 100,slA x1 L.length,.slice x2 0 y2] true true 32)) (T16:TrcH h (slA x1 L.length) (.slice x2 0 y2) L []) (r18:RF h v18 L) (r20:RF h v20 L) :
  ∀ r,Kn [(0,v),(5,ptr c5),(16,ptr c16),(17,zi 0),(18,v18),(19,zi 0),(20,v20),(21,zi 0)] r→W Tryd.prog tp false cd1397e r h (Fin Tryd.prog [.tmp 4] fun v _=>v=.bool true):=by
 unfold cd1397e
 have ll:=lv.1
 have t1:=T16.l
 have t2:SlC h (.slice x2 0 y2) 2 0 []:=T16.s
 repeat' (first
  | refine WOL.fa rfl (fa_of fo1117_0) ?_
  | refine WOL.fa rfl (fa_of fo1117_1) ?_
  | refine WOL.fa rfl (fa_of fo1117_2) ?_
  | refine WOL.ld rfl (load_one tp3 A16 rfl) ?_
  | refine WOL.ld rfl (load_one tp29 A16 rfl) ?_
  | refine WOL.ld rfl (load_one tp29 A5 rfl) ?_
  | refine WOL.ld rfl (load_one tp44 A16 rfl) ?_
  | refine WOL.len rfl t2 u44 ?_
  | (refine WOL.cl2 rfl rfl rfl ((k18L H t1 T5 (by omega) (by omega)).mono ?_);rintro _ h ⟨rfl,rfl⟩;rw [decide_eq_true rfl])
  | refine WL.sr ?_
  | refine WL.seq ?_
  | refine WL.reg ?_
  | refine WOL.nil ?_
  | refine WL.skip ?_
  | refine WOL.now (b:=true) rfl rfl ?_
  | refine WOL.now (b:=false) rfl rfl ?_
  | refine WOL.skp (b:=true) rfl rfl ?_
  | refine WOL.skp (b:=false) rfl rfl ?_
  | refine WOL.gu rfl rfl ?_
  | refine WOL.mv rfl ?_
  | refine WOL.as rfl ?_
  | refine WOL.ex rfl rfl ?_
  | refine WOL.nt rfl ?_
  | refine WOL.pkt rfl rfl ?_
  | refine WOL.pkf rfl rfl ?_
  | refine WL.yes rfl ?_
  | refine WL.no rfl ?_
  | refine WOL.ld rfl (load_one (by first | exact tp25 | exact tp3) (by first | with_reducible assumption | assumption) (by rfl)) ?_
  | refine WOL.ld rfl (load_row (by first | exact tp25 | exact tp3) (by first | with_reducible assumption | assumption) rfl (Nat.le_of_ble_eq_true rfl)) ?_
  | refine WOL.len rfl (by first | with_reducible assumption | assumption) (by first | exact u43 | exact u29 | exact u44) ?_
  | refine WOL.add rfl rfl (by omega) (by omega) ?_
  | refine WOL.sub rfl rfl (by omega) (by omega) ?_
  | refine WOL.mul rfl rfl (by omega) (by omega) ?_
  | refine WOL.bt rfl rfl rfl (by first | exact decide_eq_true (by omega) | exact beq_iff_eq.2 (by omega) | exact bne_iff_ne.2 (by omega)) ?_
  | refine WOL.bf rfl rfl rfl (by first | exact decide_eq_false (by omega) | exact beq_eq_false_iff_ne.2 (by omega) | exact bne_eq_false_iff_eq.2 (by omega)) ?_)
 refine WOL.cl2 rfl rfl rfl ((k58r H r18 ⟨F,s,lv⟩ (by omega)).mono ?_)
 rintro _ h ⟨rfl,rfl⟩
 repeat' (first
  | refine WL.sr ?_
  | refine WL.seq ?_
  | refine WL.reg ?_
  | refine WOL.nil ?_
  | refine WL.skip ?_
  | refine WOL.now (b:=true) rfl rfl ?_
  | refine WOL.now (b:=false) rfl rfl ?_
  | refine WOL.skp (b:=true) rfl rfl ?_
  | refine WOL.skp (b:=false) rfl rfl ?_
  | refine WOL.gu rfl rfl ?_
  | refine WOL.mv rfl ?_
  | refine WOL.as rfl ?_
  | refine WOL.ex rfl rfl ?_
  | refine WOL.nt rfl ?_
  | refine WOL.pkt rfl rfl ?_
  | refine WOL.pkf rfl rfl ?_
  | refine WL.yes rfl ?_
  | refine WL.no rfl ?_
  | refine WOL.ld rfl (load_one (by first | exact tp25 | exact tp3) (by first | with_reducible assumption | assumption) (by rfl)) ?_
  | refine WOL.ld rfl (load_row (by first | exact tp25 | exact tp3) (by first | with_reducible assumption | assumption) rfl (Nat.le_of_ble_eq_true rfl)) ?_
  | refine WOL.len rfl (by first | with_reducible assumption | assumption) (by first | exact u43 | exact u29 | exact u44) ?_
  | refine WOL.add rfl rfl (by omega) (by omega) ?_
  | refine WOL.sub rfl rfl (by omega) (by omega) ?_
  | refine WOL.mul rfl rfl (by omega) (by omega) ?_
  | refine WOL.bt rfl rfl rfl (by first | exact decide_eq_true (by omega) | exact beq_iff_eq.2 (by omega) | exact bne_iff_ne.2 (by omega)) ?_
  | refine WOL.bf rfl rfl rfl (by first | exact decide_eq_false (by omega) | exact beq_eq_false_iff_ne.2 (by omega) | exact bne_eq_false_iff_eq.2 (by omega)) ?_)
 refine WOL.cl2 rfl rfl rfl ((k58r H r20 ⟨F,s,lv⟩ (by omega)).mono ?_)
 rintro _ h ⟨rfl,rfl⟩
 repeat' (first
  | (refine WOL.cl0 rfl ((k11t K _).mono ?_);rintro _ h ⟨rfl,rfl⟩)
  | refine WL.sr ?_
  | refine WL.seq ?_
  | refine WL.reg ?_
  | refine WOL.nil ?_
  | refine WL.skip ?_
  | refine WOL.now (b:=true) rfl rfl ?_
  | refine WOL.now (b:=false) rfl rfl ?_
  | refine WOL.skp (b:=true) rfl rfl ?_
  | refine WOL.skp (b:=false) rfl rfl ?_
  | refine WOL.gu rfl rfl ?_
  | refine WOL.mv rfl ?_
  | refine WOL.as rfl ?_
  | refine WOL.ex rfl rfl ?_
  | refine WOL.nt rfl ?_
  | refine WOL.pkt rfl rfl ?_
  | refine WOL.pkf rfl rfl ?_
  | refine WL.yes rfl ?_
  | refine WL.no rfl ?_
  | refine WOL.ld rfl (load_one (by first | exact tp25 | exact tp3) (by first | with_reducible assumption | assumption) (by rfl)) ?_
  | refine WOL.ld rfl (load_row (by first | exact tp25 | exact tp3) (by first | with_reducible assumption | assumption) rfl (Nat.le_of_ble_eq_true rfl)) ?_
  | refine WOL.len rfl (by first | with_reducible assumption | assumption) (by first | exact u43 | exact u29 | exact u44) ?_
  | refine WOL.add rfl rfl (by omega) (by omega) ?_
  | refine WOL.sub rfl rfl (by omega) (by omega) ?_
  | refine WOL.mul rfl rfl (by omega) (by omega) ?_
  | refine WOL.bt rfl rfl rfl (by first | exact decide_eq_true (by omega) | exact beq_iff_eq.2 (by omega) | exact bne_iff_ne.2 (by omega)) ?_
  | refine WOL.bf rfl rfl rfl (by first | exact decide_eq_false (by omega) | exact beq_eq_false_iff_ne.2 (by omega) | exact bne_eq_false_iff_eq.2 (by omega)) ?_)
 exact WL.ret (WL.end_ rfl rfl)
set_option maxHeartbeats 4000000 in
set_option maxRecDepth 100000 in
theorem k1397d (H:Has tp) (X:HasX tp) (K:Awk tp) (f:Free0 h.next h) (s:SlL encF 1 h v F) (fF:Fits h v 26) (lv:Lev F L) (h4:4≤F.length) (h24:F.length≤24) (A5:At h c5 (.cells [zi 100,v1,v2] true true 32)) (T5:SlL encI 1 h v1 L) {x1:Nat} {x2:Option Addr} {y2:Nat} (A16:At h c16 (.cells [zi 100,slA x1 L.length,.slice x2 0 y2] true true 32)) (T16:TrcH h (slA x1 L.length) (.slice x2 0 y2) L []) (r9:RF h v9 (benL L)) :
  ∀ r,Kn [(0,v),(5,ptr c5),(9,v9),(16,ptr c16),(17,zi 0)] r→W Tryd.prog tp false cd1397d r h (Fin Tryd.prog [.tmp 4] fun v _=>v=.bool true):=by
 unfold cd1397d
 have ll:=lv.1
 have bn:=ben_len (L:=L)
 obtain ⟨B,sB,lB⟩:=r9
 have lb:=lB.1
 obtain ⟨n,hn⟩:∃ n,F.length=n+2:=⟨F.length - 2,by omega⟩
 have smp_at:∀ j,j < F.length→Samp (F.getD j 0) (L.getD j 0):=fun j hj=>lv.2 j _ _ (by rw [List.getD_eq_getElem?_getD,List.getElem?_eq_getElem hj];rfl) (at_getD (by omega))
 have okL:∀ x,x ∈ L→okI x=true:=fun x hx=>okI_iff.2 (by have:=lev_limI lv x hx;omega)
 have e1:dblL (L.getD 0 0) (L.getD 1 0) (benL L)=L:=dbl_ben (by omega)
 have e2:(dblL (L.getD (n+1) 0) (L.getD n 0) (benL L).reverse).reverse=L:=udbl_ben (by omega)
 obtain ⟨b,off,cap,cc,fix,wr,el,rfl,hc,gA,g2,g3⟩:=sl_ad s (by omega)
 obtain ⟨cc',fix',wr',el',gF,hf⟩:=fF b off F.length cap rfl
 -- doubled
 refine WL.sr<|WOL.bs0 u43 tp25 (by decide) (by decide) fun g1 N1=>?_
 have X1:=N1.hx
 refine WOL.mv rfl<|WOL.mv rfl<|WOL.slG rfl rfl rfl rfl (sliceT_to (k:=.i64) (hi:=2) u43 tp25 hc (by omega) (gF.hx X1) hf)<|WOL.s2a rfl u1294a (by decide) (by decide)<|WOL.ld rfl (load_row (l:=[.float .f32 (F.getD 0 0),.float .f32 (F.getD 1 0)]) tp1294 (gA.hx X1) (two_at (off:=off) (j:=0) (by omega) g2 (by omega)) (by omega)) ?_
 refine WOL.apO rfl rfl u43 tp25 N1.at_ (sB.hx X1) (by omega) (eF.all _) fun g2' b' X2 hb' s2=>?_
 have Y2:=X1.trans X2
 refine WOL.cl2 rfl rfl rfl ((k1278o H X s2 lB (by omega) (smp_at 0 (by omega)) (smp_at 1 (by omega)) (by rw [e1];exact okL) (f.on Y2)).mono ?_)
 rintro u g6 ⟨X6,v18,rfl,r18⟩
 rw [e1] at r18
 have Y6:=Y2.trans X6
 repeat' (first
  | refine WL.sr ?_
  | refine WL.seq ?_
  | refine WL.reg ?_
  | refine WOL.nil ?_
  | refine WL.skip ?_
  | refine WOL.now (b:=true) rfl rfl ?_
  | refine WOL.now (b:=false) rfl rfl ?_
  | refine WOL.skp (b:=true) rfl rfl ?_
  | refine WOL.skp (b:=false) rfl rfl ?_
  | refine WOL.gu rfl rfl ?_
  | refine WOL.mv rfl ?_
  | refine WOL.as rfl ?_
  | refine WOL.ex rfl rfl ?_
  | refine WOL.nt rfl ?_
  | refine WOL.pkt rfl rfl ?_
  | refine WOL.pkf rfl rfl ?_
  | refine WL.yes rfl ?_
  | refine WL.no rfl ?_
  | refine WOL.ld rfl (load_one (by first | exact tp25 | exact tp3) (by first | with_reducible assumption | assumption) (by rfl)) ?_
  | refine WOL.ld rfl (load_row (by first | exact tp25 | exact tp3) (by first | with_reducible assumption | assumption) rfl (Nat.le_of_ble_eq_true rfl)) ?_
  | refine WOL.len rfl (by first | with_reducible assumption | assumption) (by first | exact u43 | exact u29 | exact u44) ?_
  | refine WOL.add rfl rfl (by omega) (by omega) ?_
  | refine WOL.sub rfl rfl (by omega) (by omega) ?_
  | refine WOL.mul rfl rfl (by omega) (by omega) ?_
  | refine WOL.bt rfl rfl rfl (by first | exact decide_eq_true (by omega) | exact beq_iff_eq.2 (by omega) | exact bne_iff_ne.2 (by omega)) ?_
  | refine WOL.bf rfl rfl rfl (by first | exact decide_eq_false (by omega) | exact beq_eq_false_iff_ne.2 (by omega) | exact bne_eq_false_iff_eq.2 (by omega)) ?_)
 -- undoubled
 refine WOL.bs0 u43 tp25 (by decide) (by decide) fun g7 N7=>?_
 have Y7:=Y6.trans N7.hx
 have s7:=s.hx Y7
 refine WOL.mv rfl<|WOL.mv rfl<|WOL.mv rfl<|WOL.len rfl s7 u43<|WOL.sub rfl rfl (by omega) (by omega) ?_
 rw [show ((F.length:Nat):Int) - 2=(n:Nat) by omega]
 refine WOL.slG rfl rfl rfl rfl (sliceT_from (k:=.i64) (lo:=n) u43 tp25 hc (by omega) (gF.hx Y7) hf)<|WOL.s2a rfl u1294a (by omega) (by decide)<|WOL.ld rfl (load_row (l:=[.float .f32 (F.getD n 0),.float .f32 (F.getD (n+1) 0)]) tp1294 (gA.hx Y7) (by rw [Nat.mul_one];exact two_at (off:=off) (j:=n) (by omega) g2 (by omega)) (by omega)) ?_
 refine WOL.apO rfl rfl u43 tp25 N7.at_ (sB.hx Y7) (by omega) (eF.all _) fun g8 b8 X8 hb8 s8=>?_
 have Y8:=Y7.trans X8
 refine WOL.cl2 rfl rfl rfl ((k1279o H X s8 lB (by omega) (smp_at n (by omega)) (smp_at (n+1) (by omega)) (by rw [e2];exact okL) (f.on Y8)).mono ?_)
 rintro u g9 ⟨X9,v20,rfl,r20⟩
 rw [e2] at r20
 have Y9:=Y8.trans X9
 repeat' (first
  | refine WL.sr ?_
  | refine WL.seq ?_
  | refine WL.reg ?_
  | refine WOL.nil ?_
  | refine WL.skip ?_
  | refine WOL.now (b:=true) rfl rfl ?_
  | refine WOL.now (b:=false) rfl rfl ?_
  | refine WOL.skp (b:=true) rfl rfl ?_
  | refine WOL.skp (b:=false) rfl rfl ?_
  | refine WOL.gu rfl rfl ?_
  | refine WOL.mv rfl ?_
  | refine WOL.as rfl ?_
  | refine WOL.ex rfl rfl ?_
  | refine WOL.nt rfl ?_
  | refine WOL.pkt rfl rfl ?_
  | refine WOL.pkf rfl rfl ?_
  | refine WL.yes rfl ?_
  | refine WL.no rfl ?_
  | refine WOL.ld rfl (load_one (by first | exact tp25 | exact tp3) (by first | with_reducible assumption | assumption) (by rfl)) ?_
  | refine WOL.ld rfl (load_row (by first | exact tp25 | exact tp3) (by first | with_reducible assumption | assumption) rfl (Nat.le_of_ble_eq_true rfl)) ?_
  | refine WOL.len rfl (by first | with_reducible assumption | assumption) (by first | exact u43 | exact u29 | exact u44) ?_
  | refine WOL.add rfl rfl (by omega) (by omega) ?_
  | refine WOL.sub rfl rfl (by omega) (by omega) ?_
  | refine WOL.mul rfl rfl (by omega) (by omega) ?_
  | refine WOL.bt rfl rfl rfl (by first | exact decide_eq_true (by omega) | exact beq_iff_eq.2 (by omega) | exact bne_iff_ne.2 (by omega)) ?_
  | refine WOL.bf rfl rfl rfl (by first | exact decide_eq_false (by omega) | exact beq_eq_false_iff_ne.2 (by omega) | exact bne_eq_false_iff_eq.2 (by omega)) ?_)
 exact kto (k1397e H K (s.hx Y9) lv h24 (A5.hx Y9) (T5.hx Y9) (A16.hx Y9) (T16.hx Y9) (r18.hx ((N7.hx.trans X8).trans X9)) r20) ⟨rfl,rfl,rfl,rfl,rfl,rfl,rfl,rfl,trivial⟩
set_option maxHeartbeats 4000000 in
set_option maxRecDepth 100000 in
theorem k1397c (H:Has tp) (X:HasX tp) (K:Awk tp) (f:Free0 h.next h) (s:SlL encF 1 h v F) (fF:Fits h v 26) (lv:Lev F L) (h4:4≤F.length) (h24:F.length≤24) (hl:∀ j,-20000≤L.getD j 0∧L.getD j 0≤20000) (A5:At h c5 (.cells [zi 100,v1,v2] true true 32)) (T5:SlL encI 1 h v1 L) (A7:At h c7 (.cells [zi 101,w1,w2] true true 32)) (T7:TrcH h w1 w2 (cuvL L) []) (r9:RF h v9 (benL L)) :
  ∀ r,Kn [(0,v),(5,ptr c5),(7,ptr c7),(9,v9)] r→W Tryd.prog tp false cd1397c r h (Fin Tryd.prog [.tmp 4] fun v _=>v=.bool true):=by
 unfold cd1397c
 have ll:=lv.1
 have lc:(cuvL L).length=L.length - 2:=cuv_len
 obtain ⟨M,hM⟩:∃ M,L.length - 2=M:=⟨_,rfl⟩
 obtain ⟨q1,d1,a1,l1,s1⟩:=RF.at ⟨F,s,lv⟩ (i:=0) (by omega) (by omega)
 obtain ⟨q2,d2,a2,l2,s2⟩:=RF.at ⟨F,s,lv⟩ (i:=1) (by omega) (by omega)
 rw [show ((0:Int)).toNat=0 from rfl] at s1
 rw [show ((1:Int)).toNat=1 from rfl] at s2
 repeat' (first
  | refine WOL.ix rfl rfl a1 ?_
  | refine WOL.ix rfl rfl a2 ?_
  | refine WOL.ld rfl l1 ?_
  | refine WOL.ld rfl l2 ?_
  | (refine WOL.lk1 rfl rfl fun ml=>((k95 H s1 _).mono ?_);rintro _ _ ⟨rfl,rfl⟩;rw [TH.relock])
  | (refine WOL.cl1 rfl rfl ((k95 H s2 _).mono ?_);rintro _ h ⟨rfl,rfl⟩)
  | refine WL.sr ?_
  | refine WL.seq ?_
  | refine WL.reg ?_
  | refine WOL.nil ?_
  | refine WL.skip ?_
  | refine WOL.now (b:=true) rfl rfl ?_
  | refine WOL.now (b:=false) rfl rfl ?_
  | refine WOL.skp (b:=true) rfl rfl ?_
  | refine WOL.skp (b:=false) rfl rfl ?_
  | refine WOL.gu rfl rfl ?_
  | refine WOL.mv rfl ?_
  | refine WOL.as rfl ?_
  | refine WOL.ex rfl rfl ?_
  | refine WOL.nt rfl ?_
  | refine WOL.pkt rfl rfl ?_
  | refine WOL.pkf rfl rfl ?_
  | refine WL.yes rfl ?_
  | refine WL.no rfl ?_
  | refine WOL.ld rfl (load_one (by first | exact tp25 | exact tp3) (by first | with_reducible assumption | assumption) (by rfl)) ?_
  | refine WOL.ld rfl (load_row (by first | exact tp25 | exact tp3) (by first | with_reducible assumption | assumption) rfl (Nat.le_of_ble_eq_true rfl)) ?_
  | refine WOL.len rfl (by first | with_reducible assumption | assumption) (by first | exact u43 | exact u29 | exact u44) ?_
  | refine WOL.add rfl rfl (by omega) (by omega) ?_
  | refine WOL.sub rfl rfl (by omega) (by omega) ?_
  | refine WOL.mul rfl rfl (by omega) (by omega) ?_
  | refine WOL.bt rfl rfl rfl (by first | exact decide_eq_true (by omega) | exact beq_iff_eq.2 (by omega) | exact bne_iff_ne.2 (by omega)) ?_
  | refine WOL.bf rfl rfl rfl (by first | exact decide_eq_false (by omega) | exact beq_eq_false_iff_ne.2 (by omega) | exact bne_eq_false_iff_eq.2 (by omega)) ?_)
 refine WOL.bsl rfl u29 tp3 (by decide) (by decide) (by decide) (filled_ints _ _) fun g1 N1=>?_
 have X1:=N1.hx
 have t2:L.take 2=[L.getD 0 0,L.getD 1 0]:=by
  rw [show (2:Nat)=1+1 from rfl,List.take_add_one,List.take_add_one,List.take_zero,List.getElem?_eq_getElem (by omega),List.getElem?_eq_getElem (by omega),List.getD_eq_getElem?_getD,List.getD_eq_getElem?_getD,List.getElem?_eq_getElem (by omega),List.getElem?_eq_getElem (by omega)]
  rfl
 have sX:SlL encI 1 g1 (slA h.next 2) (L.take (1+1)):=by
  rw [show (1+1:Nat)=2 from rfl,t2]
  exact SlL.own eI N1.at_ rfl
 refine WOL.as rfl<|WOL.nil ?_
 refine WL.sr<|WOL.bd rfl bd1128_11<|WOL.ld rfl (load_row tp1117 (A7.hx X1) rfl (Nat.le_of_ble_eq_true rfl))<|WOL.mv rfl ?_
 have te:traceE 101 (cuvL L) []=0:=by
  have:=traceE_made (n:=101) (C:=tapC L [] (vTn 1 1) (L.length - 2)) (vers_small (by decide) (by decide) hl) (by decide) (by rw [tapC_len];omega) (by rw [tapC_len];omega)
  rwa [vers_holes] at this
 have rv:=resJ_vers (L:=L) (p:=1) (q:=1) (M:=M) (by decide) (by decide) (fun i=>small_big (hl i)) (by omega) M (Nat.le_refl _)
 rw [show 1+1+M=L.length by omega] at rv
 refine WOL.cl3 rfl rfl rfl rfl ((k1135 (n:=101) (a:=((1:Nat):Int)) (b:=((1:Nat):Int)) H (T7.hx X1) sX (by omega) (by decide) (by rw [t2];show 2≤900000;decide) (f.on X1)).mono ?_)
 rintro u g2 ⟨X2,R⟩
 have Y2:=X1.trans X2
 rw [res_tot (by decide) (by decide) (by decide) (by decide) te (endE_take (by omega) hl) (by omega) (by decide) (by omega),Int.toNat_natCast,lc] at R
 rw [show cuvL L=valC (tapC L [] (vTn 1 1) M) by rw [← hM];rfl,hM,rv] at R
 obtain ⟨bx,b8,m8,k8,rfl,hxb,to⟩:=R.ok rfl (allK_big hl)
 rw [allK_val,allK_holes] at to
 rw [allK_len (Nat.le_refl _)]
 have T16:=to.trc
 obtain ⟨_,_,ee⟩:=T16.s.form
 cases ee
 repeat' (first
  | (refine WOL.alS (vs:=[zi 100,slA bx L.length,.slice b8 0 k8]) tp1117 rfl rfl rfl rfl (f.on Y2) ?_;intro g3 X3 A16)
  | refine WL.sr ?_
  | refine WL.seq ?_
  | refine WL.reg ?_
  | refine WOL.nil ?_
  | refine WL.skip ?_
  | refine WOL.now (b:=true) rfl rfl ?_
  | refine WOL.now (b:=false) rfl rfl ?_
  | refine WOL.skp (b:=true) rfl rfl ?_
  | refine WOL.skp (b:=false) rfl rfl ?_
  | refine WOL.gu rfl rfl ?_
  | refine WOL.mv rfl ?_
  | refine WOL.as rfl ?_
  | refine WOL.ex rfl rfl ?_
  | refine WOL.nt rfl ?_
  | refine WOL.pkt rfl rfl ?_
  | refine WOL.pkf rfl rfl ?_
  | refine WL.yes rfl ?_
  | refine WL.no rfl ?_
  | refine WOL.ld rfl (load_one (by first | exact tp25 | exact tp3) (by first | with_reducible assumption | assumption) (by rfl)) ?_
  | refine WOL.ld rfl (load_row (by first | exact tp25 | exact tp3) (by first | with_reducible assumption | assumption) rfl (Nat.le_of_ble_eq_true rfl)) ?_
  | refine WOL.len rfl (by first | with_reducible assumption | assumption) (by first | exact u43 | exact u29 | exact u44) ?_
  | refine WOL.add rfl rfl (by omega) (by omega) ?_
  | refine WOL.sub rfl rfl (by omega) (by omega) ?_
  | refine WOL.mul rfl rfl (by omega) (by omega) ?_
  | refine WOL.bt rfl rfl rfl (by first | exact decide_eq_true (by omega) | exact beq_iff_eq.2 (by omega) | exact bne_iff_ne.2 (by omega)) ?_
  | refine WOL.bf rfl rfl rfl (by first | exact decide_eq_false (by omega) | exact beq_eq_false_iff_ne.2 (by omega) | exact bne_eq_false_iff_eq.2 (by omega)) ?_)
 have Y3:=Y2.trans X3
 exact kto (k1397d H X K (f.on Y3) (s.hx Y3) (fF.hx Y3) lv h4 h24 (A5.hx Y3) (T5.hx Y3) A16 (T16.hx X3) (r9.hx Y3)) ⟨rfl,rfl,rfl,rfl,rfl,trivial⟩
theorem trace_small (hl:∀ j,-20000≤L.getD j 0∧L.getD j 0≤20000) (h24:L.length≤24):traceE 100 L []=0:=by
 have:=traceE_made (n:=100) (C:=allK L L.length) (allK_big hl) (by decide) (by rw [allK_len (Nat.le_refl _)];omega) (by rw [allK_len (Nat.le_refl _)];omega)
 rwa [allK_val,allK_holes] at this
set_option maxHeartbeats 4000000 in
set_option maxRecDepth 100000 in
theorem k1397b (H:Has tp) (X:HasX tp) (K:Awk tp) (f:Free0 h.next h) (s:SlL encF 1 h v F) (fF:Fits h v 26) (lv:Lev F L) (h4:4≤F.length) (h24:F.length≤24) (hl:∀ j,-20000≤L.getD j 0∧L.getD j 0≤20000) (hp:1≤p) (hp':p≤6) (hq:1≤q) (hq':q≤6) (hpq:p+q < F.length) (A3:At h c3 (.cells [zi (p:Nat),zi (q:Nat)] true true 24)) (A5:At h c5 (.cells [zi 100,v1,v2] true true 32)) (T5:TrcH h v1 v2 L []) (A7:At h c7 (.cells [zi 101,w1,w2] true true 32)) (T7:TrcH h w1 w2 (cuvL L) []) (r9:RF h v9 (benL L)) :
  ∀ r,Kn [(0,v),(3,ptr c3),(5,ptr c5),(7,ptr c7),(9,v9)] r→W Tryd.prog tp false cd1397b r h (Fin Tryd.prog [.tmp 4] fun v _=>v=.bool true):=by
 unfold cd1397b
 have ll:=lv.1
 have lc:(cuvL L).length=L.length - 2:=cuv_len
 have te:=trace_small hl (by omega)
 have te7:traceE 101 (cuvL L) []=0:=by
  have:=traceE_made (n:=101) (C:=tapC L [] (vTn 1 1) (L.length - 2)) (vers_small (by decide) (by decide) hl) (by decide) (by rw [tapC_len];omega) (by rw [tapC_len];omega)
  rwa [vers_holes] at this
 have ce:chordE (p:Int) (q:Int)=0:=chordE_in (by omega) (by omega) (by omega) (by omega)
 refine WL.sr<|WOL.ld rfl (load_row tp1112 A3 rfl (Nat.le_of_ble_eq_true rfl))<|WOL.ld rfl (load_row tp1117 A5 rfl (Nat.le_of_ble_eq_true rfl))<|WOL.cl2 rfl rfl rfl ((k1125 (n:=100) (a:=(p:Int)) (b:=(q:Int)) H T5 (by omega) (by decide) f).mono ?_)
 rintro u g1 ⟨X1,R⟩
 rw [Int.toNat_natCast,Int.toNat_natCast,errV_in (by rw [ce,te];rfl) (by omega)] at R
 obtain ⟨b1,x1,m1,k1,rfl,_,to1⟩:=R.ok rfl (vers_small (by omega) (by omega) hl)
 rw [tapC_len]
 have T11:=to1.trcC
 rw [tapC_len,vers_holes] at T11
 obtain ⟨_,_,ee⟩:=T11.s.form
 cases ee
 repeat' (first
  | (refine WOL.alS (vs:=[zi (100+(p:Int)),slA b1 (L.length - (p+q)),.slice x1 0 k1]) tp1117 rfl rfl rfl rfl (f.on X1) ?_;intro g2 X2 A11)
  | refine WL.sr ?_
  | refine WL.seq ?_
  | refine WL.reg ?_
  | refine WOL.nil ?_
  | refine WL.skip ?_
  | refine WOL.now (b:=true) rfl rfl ?_
  | refine WOL.now (b:=false) rfl rfl ?_
  | refine WOL.skp (b:=true) rfl rfl ?_
  | refine WOL.skp (b:=false) rfl rfl ?_
  | refine WOL.gu rfl rfl ?_
  | refine WOL.mv rfl ?_
  | refine WOL.as rfl ?_
  | refine WOL.ex rfl rfl ?_
  | refine WOL.nt rfl ?_
  | refine WOL.pkt rfl rfl ?_
  | refine WOL.pkf rfl rfl ?_
  | refine WL.yes rfl ?_
  | refine WL.no rfl ?_
  | refine WOL.ld rfl (load_one (by first | exact tp25 | exact tp3) (by first | with_reducible assumption | assumption) (by rfl)) ?_
  | refine WOL.ld rfl (load_row (by first | exact tp25 | exact tp3) (by first | with_reducible assumption | assumption) rfl (Nat.le_of_ble_eq_true rfl)) ?_
  | refine WOL.len rfl (by first | with_reducible assumption | assumption) (by first | exact u43 | exact u29 | exact u44) ?_
  | refine WOL.add rfl rfl (by omega) (by omega) ?_
  | refine WOL.sub rfl rfl (by omega) (by omega) ?_
  | refine WOL.mul rfl rfl (by omega) (by omega) ?_
  | refine WOL.bt rfl rfl rfl (by first | exact decide_eq_true (by omega) | exact beq_iff_eq.2 (by omega) | exact bne_iff_ne.2 (by omega)) ?_
  | refine WOL.bf rfl rfl rfl (by first | exact decide_eq_false (by omega) | exact beq_eq_false_iff_ne.2 (by omega) | exact bne_eq_false_iff_eq.2 (by omega)) ?_)
 have Y2:=X1.trans X2
 refine WOL.ld rfl (load_row tp1112 (A3.hx Y2) rfl (Nat.le_of_ble_eq_true rfl))<|WOL.ld rfl (load_row tp1117 (A7.hx Y2) rfl (Nat.le_of_ble_eq_true rfl))<|WOL.cl2 rfl rfl rfl ((k1131 (n:=101) (a:=(p:Int)) (b:=(q:Int)) H (T7.hx Y2) (by omega) (by decide) (f.on Y2)).mono ?_)
 rintro u g3 ⟨X3,R⟩
 have Y3:=Y2.trans X3
 rw [Int.toNat_natCast,Int.toNat_natCast,errV_in (by rw [ce,te7];rfl) (by omega),lc,show L.length - 2 - (p+q - 2)*1=L.length - (p+q) by omega,show (101:Int) - (1 - (p:Int))*1=100+(p:Int) by omega] at R
 obtain ⟨b3,x3,m3,k3,rfl,_,to3⟩:=R.ok rfl (cuv_small hp hp' hq hq' (by omega) hl)
 rw [tapC_len]
 have T13:=to3.trcC
 rw [tapC_len,wT_flags,cuv_both hp hp' hq hq' (by omega)] at T13
 obtain ⟨_,_,ee⟩:=T13.s.form
 cases ee
 repeat' (first
  | (refine WOL.alS (vs:=[zi (100+(p:Int)),slA b3 (L.length - (p+q)),.slice x3 0 k3]) tp1117 rfl rfl rfl rfl (f.on Y3) ?_;intro g4 X4 A13)
  | refine WL.sr ?_
  | refine WL.seq ?_
  | refine WL.reg ?_
  | refine WOL.nil ?_
  | refine WL.skip ?_
  | refine WOL.now (b:=true) rfl rfl ?_
  | refine WOL.now (b:=false) rfl rfl ?_
  | refine WOL.skp (b:=true) rfl rfl ?_
  | refine WOL.skp (b:=false) rfl rfl ?_
  | refine WOL.gu rfl rfl ?_
  | refine WOL.mv rfl ?_
  | refine WOL.as rfl ?_
  | refine WOL.ex rfl rfl ?_
  | refine WOL.nt rfl ?_
  | refine WOL.pkt rfl rfl ?_
  | refine WOL.pkf rfl rfl ?_
  | refine WL.yes rfl ?_
  | refine WL.no rfl ?_
  | refine WOL.ld rfl (load_one (by first | exact tp25 | exact tp3) (by first | with_reducible assumption | assumption) (by rfl)) ?_
  | refine WOL.ld rfl (load_row (by first | exact tp25 | exact tp3) (by first | with_reducible assumption | assumption) rfl (Nat.le_of_ble_eq_true rfl)) ?_
  | refine WOL.len rfl (by first | with_reducible assumption | assumption) (by first | exact u43 | exact u29 | exact u44) ?_
  | refine WOL.add rfl rfl (by omega) (by omega) ?_
  | refine WOL.sub rfl rfl (by omega) (by omega) ?_
  | refine WOL.mul rfl rfl (by omega) (by omega) ?_
  | refine WOL.bt rfl rfl rfl (by first | exact decide_eq_true (by omega) | exact beq_iff_eq.2 (by omega) | exact bne_iff_ne.2 (by omega)) ?_
  | refine WOL.bf rfl rfl rfl (by first | exact decide_eq_false (by omega) | exact beq_eq_false_iff_ne.2 (by omega) | exact bne_eq_false_iff_eq.2 (by omega)) ?_)
 have Y4:=Y3.trans X4
 replace A11:=A11.hx (X3.trans X4)
 replace T11:=T11.hx (X2.trans (X3.trans X4))
 replace T13:=T13.hx X4
 have i1:=T11.l
 have i3:=T13.l
 have j1:SlC g4 (.slice x1 0 k1) 2 0 []:=T11.s
 have j3:SlC g4 (.slice x3 0 k3) 2 0 []:=T13.s
 have lV:(valC (tapC L [] (vTn p q) (L.length - (p+q)))).length=L.length - (p+q):=by rw [valC_len,tapC_len]
 repeat' (first
  | refine WOL.fa rfl (fa_of fo1117_0) ?_
  | refine WOL.fa rfl (fa_of fo1117_1) ?_
  | refine WOL.fa rfl (fa_of fo1117_2) ?_
  | refine WOL.ld rfl (load_one tp3 A11 rfl) ?_
  | refine WOL.ld rfl (load_one tp29 A11 rfl) ?_
  | refine WOL.ld rfl (load_one tp44 A11 rfl) ?_
  | refine WOL.ld rfl (load_one tp3 A13 rfl) ?_
  | refine WOL.ld rfl (load_one tp29 A13 rfl) ?_
  | refine WOL.ld rfl (load_one tp44 A13 rfl) ?_
  | refine WOL.len rfl j1 u44 ?_
  | refine WOL.len rfl j3 u44 ?_
  | (refine WOL.cl2 rfl rfl rfl ((k18L H i1 i3 (by omega) (by omega)).mono ?_);rintro _ g4 ⟨rfl,rfl⟩;rw [decide_eq_true rfl])
  | refine WL.sr ?_
  | refine WL.seq ?_
  | refine WL.reg ?_
  | refine WOL.nil ?_
  | refine WL.skip ?_
  | refine WOL.now (b:=true) rfl rfl ?_
  | refine WOL.now (b:=false) rfl rfl ?_
  | refine WOL.skp (b:=true) rfl rfl ?_
  | refine WOL.skp (b:=false) rfl rfl ?_
  | refine WOL.gu rfl rfl ?_
  | refine WOL.mv rfl ?_
  | refine WOL.as rfl ?_
  | refine WOL.ex rfl rfl ?_
  | refine WOL.nt rfl ?_
  | refine WOL.pkt rfl rfl ?_
  | refine WOL.pkf rfl rfl ?_
  | refine WL.yes rfl ?_
  | refine WL.no rfl ?_
  | refine WOL.ld rfl (load_one (by first | exact tp25 | exact tp3) (by first | with_reducible assumption | assumption) (by rfl)) ?_
  | refine WOL.ld rfl (load_row (by first | exact tp25 | exact tp3) (by first | with_reducible assumption | assumption) rfl (Nat.le_of_ble_eq_true rfl)) ?_
  | refine WOL.len rfl (by first | with_reducible assumption | assumption) (by first | exact u43 | exact u29 | exact u44) ?_
  | refine WOL.add rfl rfl (by omega) (by omega) ?_
  | refine WOL.sub rfl rfl (by omega) (by omega) ?_
  | refine WOL.mul rfl rfl (by omega) (by omega) ?_
  | refine WOL.bt rfl rfl rfl (by first | exact decide_eq_true (by omega) | exact beq_iff_eq.2 (by omega) | exact bne_iff_ne.2 (by omega)) ?_
  | refine WOL.bf rfl rfl rfl (by first | exact decide_eq_false (by omega) | exact beq_eq_false_iff_ne.2 (by omega) | exact bne_eq_false_iff_eq.2 (by omega)) ?_)
 exact kto (k1397c H X K (f.on Y4) (s.hx Y4) (fF.hx Y4) lv h4 h24 hl (A5.hx Y4) (T5.hx Y4).l (A7.hx Y4) (T7.hx Y4) (r9.hx Y4)) ⟨rfl,rfl,rfl,rfl,trivial⟩
set_option maxHeartbeats 4000000 in
set_option maxRecDepth 100000 in
theorem k1397a (H:Has tp) (X:HasX tp) (K:Awk tp) (Gl:Glob h) (f:Free0 h.next h) (s:SlL encF 1 h v F) (fF:Fits h v 26) (lv:Lev F L) (h4:4≤F.length) (h24:F.length≤24) (hl:∀ j,j < F.length→-320≤L.getD j 0∧L.getD j 0≤320) (hp:1≤p) (hp':p≤6) (hq:1≤q) (hq':q≤6) (hpq:p+q < F.length) (A3:At h c3 (.cells [zi (p:Nat),zi (q:Nat)] true true 24)) :
  ∀ r,Kn [(0,v),(3,ptr c3)] r→W Tryd.prog tp false cd1397a r h (Fin Tryd.prog [.tmp 4] fun v _=>v=.bool true):=by
 unfold cd1397a
 have ll:=lv.1
 have lb:(benL L).length=L.length - 2:=ben_len
 have hl':∀ j,-20000≤L.getD j 0∧L.getD j 0≤20000:=fun j=>by
  by_cases hj:j < F.length
  ·have:=hl j hj;omega
  ·rw [List.getD_eq_getElem?_getD,List.getElem?_eq_none (by omega)];decide
 have okB:∀ x,x ∈ benL L→okI x=true:=mem_ok (B:=1280) (by decide) fun j hj=>by
  rw [lb] at hj
  rw [ben_get hj]
  have b1:=hl j (by omega)
  have b2:=hl (j+1) (by omega)
  have b3:=hl (j+2) (by omega)
  omega
 have te:=trace_small hl' (by omega)
 have L2:2≤L.length:=by omega
 have L24:L.length≤24:=by omega
 repeat' (first
  | refine WL.sr ?_
  | refine WL.seq ?_
  | refine WL.reg ?_
  | refine WOL.nil ?_
  | refine WL.skip ?_
  | refine WOL.now (b:=true) rfl rfl ?_
  | refine WOL.now (b:=false) rfl rfl ?_
  | refine WOL.skp (b:=true) rfl rfl ?_
  | refine WOL.skp (b:=false) rfl rfl ?_
  | refine WOL.gu rfl rfl ?_
  | refine WOL.mv rfl ?_
  | refine WOL.as rfl ?_
  | refine WOL.ex rfl rfl ?_
  | refine WOL.nt rfl ?_
  | refine WOL.pkt rfl rfl ?_
  | refine WOL.pkf rfl rfl ?_
  | refine WL.yes rfl ?_
  | refine WL.no rfl ?_
  | refine WOL.ld rfl (load_one (by first | exact tp25 | exact tp3) (by first | with_reducible assumption | assumption) (by rfl)) ?_
  | refine WOL.ld rfl (load_row (by first | exact tp25 | exact tp3) (by first | with_reducible assumption | assumption) rfl (Nat.le_of_ble_eq_true rfl)) ?_
  | refine WOL.len rfl (by first | with_reducible assumption | assumption) (by first | exact u43 | exact u29 | exact u44) ?_
  | refine WOL.add rfl rfl (by omega) (by omega) ?_
  | refine WOL.sub rfl rfl (by omega) (by omega) ?_
  | refine WOL.mul rfl rfl (by omega) (by omega) ?_
  | refine WOL.bt rfl rfl rfl (by first | exact decide_eq_true (by omega) | exact beq_iff_eq.2 (by omega) | exact bne_iff_ne.2 (by omega)) ?_
  | refine WOL.bf rfl rfl rfl (by first | exact decide_eq_false (by omega) | exact beq_eq_false_iff_ne.2 (by omega) | exact bne_eq_false_iff_eq.2 (by omega)) ?_)
 refine WOL.cl1 rfl rfl ((k1379 H X s lv h24 f).mono ?_)
 rintro u g1 ⟨X1,c,x,m,k,rfl,T5⟩
 obtain ⟨_,_,ee⟩:=T5.s.form
 cases ee
 repeat' (first
  | (refine WOL.alS (vs:=[zi 100,slA c L.length,.slice x 0 k]) tp1117 rfl rfl rfl rfl (f.on X1) ?_;intro g2 X2 A5)
  | refine WL.sr ?_
  | refine WL.seq ?_
  | refine WL.reg ?_
  | refine WOL.nil ?_
  | refine WL.skip ?_
  | refine WOL.now (b:=true) rfl rfl ?_
  | refine WOL.now (b:=false) rfl rfl ?_
  | refine WOL.skp (b:=true) rfl rfl ?_
  | refine WOL.skp (b:=false) rfl rfl ?_
  | refine WOL.gu rfl rfl ?_
  | refine WOL.mv rfl ?_
  | refine WOL.as rfl ?_
  | refine WOL.ex rfl rfl ?_
  | refine WOL.nt rfl ?_
  | refine WOL.pkt rfl rfl ?_
  | refine WOL.pkf rfl rfl ?_
  | refine WL.yes rfl ?_
  | refine WL.no rfl ?_
  | refine WOL.ld rfl (load_one (by first | exact tp25 | exact tp3) (by first | with_reducible assumption | assumption) (by rfl)) ?_
  | refine WOL.ld rfl (load_row (by first | exact tp25 | exact tp3) (by first | with_reducible assumption | assumption) rfl (Nat.le_of_ble_eq_true rfl)) ?_
  | refine WOL.len rfl (by first | with_reducible assumption | assumption) (by first | exact u43 | exact u29 | exact u44) ?_
  | refine WOL.add rfl rfl (by omega) (by omega) ?_
  | refine WOL.sub rfl rfl (by omega) (by omega) ?_
  | refine WOL.mul rfl rfl (by omega) (by omega) ?_
  | refine WOL.bt rfl rfl rfl (by first | exact decide_eq_true (by omega) | exact beq_iff_eq.2 (by omega) | exact bne_iff_ne.2 (by omega)) ?_
  | refine WOL.bf rfl rfl rfl (by first | exact decide_eq_false (by omega) | exact beq_eq_false_iff_ne.2 (by omega) | exact bne_eq_false_iff_eq.2 (by omega)) ?_)
 have Y2:=X1.trans X2
 refine WOL.ld rfl (load_row tp1117 A5 rfl (Nat.le_of_ble_eq_true rfl))<|WOL.cl1 rfl rfl ((k1126 (n:=100) H (T5.hx X2) (by omega) (by decide) (f.on Y2)).mono ?_)
 rintro u g3 ⟨X3,R⟩
 have Y3:=Y2.trans X3
 rw [errV_in (by rw [te];rfl) (by omega)] at R
 obtain ⟨b3,x3,m3,k3,rfl,_,to3⟩:=R.ok rfl (vers_small (by decide) (by decide) hl')
 rw [tapC_len]
 have T7:=to3.trcC
 rw [tapC_len,vers_holes] at T7
 replace T7:TrcH g3 (slA b3 (L.length - 2)) _ (cuvL L) []:=T7
 obtain ⟨_,_,ee⟩:=T7.s.form
 cases ee
 repeat' (first
  | (refine WOL.alS (vs:=[zi 101,slA b3 (L.length - 2),.slice x3 0 k3]) tp1117 rfl rfl rfl rfl (f.on Y3) ?_;intro g4 X4 A7)
  | refine WL.sr ?_
  | refine WL.seq ?_
  | refine WL.reg ?_
  | refine WOL.nil ?_
  | refine WL.skip ?_
  | refine WOL.now (b:=true) rfl rfl ?_
  | refine WOL.now (b:=false) rfl rfl ?_
  | refine WOL.skp (b:=true) rfl rfl ?_
  | refine WOL.skp (b:=false) rfl rfl ?_
  | refine WOL.gu rfl rfl ?_
  | refine WOL.mv rfl ?_
  | refine WOL.as rfl ?_
  | refine WOL.ex rfl rfl ?_
  | refine WOL.nt rfl ?_
  | refine WOL.pkt rfl rfl ?_
  | refine WOL.pkf rfl rfl ?_
  | refine WL.yes rfl ?_
  | refine WL.no rfl ?_
  | refine WOL.ld rfl (load_one (by first | exact tp25 | exact tp3) (by first | with_reducible assumption | assumption) (by rfl)) ?_
  | refine WOL.ld rfl (load_row (by first | exact tp25 | exact tp3) (by first | with_reducible assumption | assumption) rfl (Nat.le_of_ble_eq_true rfl)) ?_
  | refine WOL.len rfl (by first | with_reducible assumption | assumption) (by first | exact u43 | exact u29 | exact u44) ?_
  | refine WOL.add rfl rfl (by omega) (by omega) ?_
  | refine WOL.sub rfl rfl (by omega) (by omega) ?_
  | refine WOL.mul rfl rfl (by omega) (by omega) ?_
  | refine WOL.bt rfl rfl rfl (by first | exact decide_eq_true (by omega) | exact beq_iff_eq.2 (by omega) | exact bne_iff_ne.2 (by omega)) ?_
  | refine WOL.bf rfl rfl rfl (by first | exact decide_eq_false (by omega) | exact beq_eq_false_iff_ne.2 (by omega) | exact bne_eq_false_iff_eq.2 (by omega)) ?_)
 have Y4:=Y3.trans X4
 refine WOL.bs0 u43 tp25 (by decide) (by decide) fun g5 N5=>WOL.mv rfl ?_
 have Y5:=Y4.trans N5.hx
 obtain ⟨u6,g6,ap6,X6,s6,b6,rfl,hb6,F6⟩:=append_own u43 tp25 N5.at_ (s.hx Y5) (by omega) (eF.all _)
 have Y6:=Y5.trans X6
 refine WOL.ap rfl rfl ap6<|WOL.cl1 rfl rfl ((k1277o H X (Gl.hx Y6) s6 lv (by omega) (by omega) okB (f.on Y6)).mono ?_)
 rintro u g7 ⟨X7,v9,rfl,r9⟩
 have Y7:=Y6.trans X7
 have Z7:=(N5.hx.trans X6).trans X7
 replace A7:=A7.hx Z7
 replace T7:=T7.hx (X4.trans Z7)
 replace A5:=A5.hx (X3.trans (X4.trans Z7))
 replace T5:=T5.hx (X2.trans (X3.trans (X4.trans Z7)))
 obtain ⟨B9,n9,l9⟩:=id r9
 have e9:((B9.length:Nat):Int)=((F.length:Nat):Int) - 2:=by have:=l9.1;omega
 have s7:=s.hx Y7
 repeat' (first
  | refine WOL.bf rfl rfl rfl (bne_eq_false_iff_eq.2 e9) ?_
  | refine WOL.len rfl n9 u43 ?_
  | refine WOL.len rfl s7 u43 ?_
  | refine WOL.ld rfl (load_row tp1117 A7 rfl (Nat.le_of_ble_eq_true rfl)) ?_
  | refine WL.sr ?_
  | refine WL.seq ?_
  | refine WL.reg ?_
  | refine WOL.nil ?_
  | refine WL.skip ?_
  | refine WOL.now (b:=true) rfl rfl ?_
  | refine WOL.now (b:=false) rfl rfl ?_
  | refine WOL.skp (b:=true) rfl rfl ?_
  | refine WOL.skp (b:=false) rfl rfl ?_
  | refine WOL.gu rfl rfl ?_
  | refine WOL.mv rfl ?_
  | refine WOL.as rfl ?_
  | refine WOL.ex rfl rfl ?_
  | refine WOL.nt rfl ?_
  | refine WOL.pkt rfl rfl ?_
  | refine WOL.pkf rfl rfl ?_
  | refine WL.yes rfl ?_
  | refine WL.no rfl ?_
  | refine WOL.ld rfl (load_one (by first | exact tp25 | exact tp3) (by first | with_reducible assumption | assumption) (by rfl)) ?_
  | refine WOL.ld rfl (load_row (by first | exact tp25 | exact tp3) (by first | with_reducible assumption | assumption) rfl (Nat.le_of_ble_eq_true rfl)) ?_
  | refine WOL.len rfl (by first | with_reducible assumption | assumption) (by first | exact u43 | exact u29 | exact u44) ?_
  | refine WOL.add rfl rfl (by omega) (by omega) ?_
  | refine WOL.sub rfl rfl (by omega) (by omega) ?_
  | refine WOL.mul rfl rfl (by omega) (by omega) ?_
  | refine WOL.bt rfl rfl rfl (by first | exact decide_eq_true (by omega) | exact beq_iff_eq.2 (by omega) | exact bne_iff_ne.2 (by omega)) ?_
  | refine WOL.bf rfl rfl rfl (by first | exact decide_eq_false (by omega) | exact beq_eq_false_iff_ne.2 (by omega) | exact bne_eq_false_iff_eq.2 (by omega)) ?_)
 refine WOL.cl3 rfl rfl rfl rfl ((k1398 H T7 r9 L2 L24).mono ?_)
 rintro u g8 ⟨rfl,X8⟩
 have Y8:=Y7.trans X8
 repeat' (first
  | refine WL.sr ?_
  | refine WL.seq ?_
  | refine WL.reg ?_
  | refine WOL.nil ?_
  | refine WL.skip ?_
  | refine WOL.now (b:=true) rfl rfl ?_
  | refine WOL.now (b:=false) rfl rfl ?_
  | refine WOL.skp (b:=true) rfl rfl ?_
  | refine WOL.skp (b:=false) rfl rfl ?_
  | refine WOL.gu rfl rfl ?_
  | refine WOL.mv rfl ?_
  | refine WOL.as rfl ?_
  | refine WOL.ex rfl rfl ?_
  | refine WOL.nt rfl ?_
  | refine WOL.pkt rfl rfl ?_
  | refine WOL.pkf rfl rfl ?_
  | refine WL.yes rfl ?_
  | refine WL.no rfl ?_
  | refine WOL.ld rfl (load_one (by first | exact tp25 | exact tp3) (by first | with_reducible assumption | assumption) (by rfl)) ?_
  | refine WOL.ld rfl (load_row (by first | exact tp25 | exact tp3) (by first | with_reducible assumption | assumption) rfl (Nat.le_of_ble_eq_true rfl)) ?_
  | refine WOL.len rfl (by first | with_reducible assumption | assumption) (by first | exact u43 | exact u29 | exact u44) ?_
  | refine WOL.add rfl rfl (by omega) (by omega) ?_
  | refine WOL.sub rfl rfl (by omega) (by omega) ?_
  | refine WOL.mul rfl rfl (by omega) (by omega) ?_
  | refine WOL.bt rfl rfl rfl (by first | exact decide_eq_true (by omega) | exact beq_iff_eq.2 (by omega) | exact bne_iff_ne.2 (by omega)) ?_
  | refine WOL.bf rfl rfl rfl (by first | exact decide_eq_false (by omega) | exact beq_eq_false_iff_ne.2 (by omega) | exact bne_eq_false_iff_eq.2 (by omega)) ?_)
 exact kto (k1397b H X K (f.on Y8) (s.hx Y8) (fF.hx Y8) lv h4 h24 hl' hp hp' hq hq' hpq (A3.hx Y8) (A5.hx X8) (T5.hx X8) (A7.hx X8) (T7.hx X8) (r9.hx X8)) ⟨rfl,rfl,rfl,rfl,rfl,trivial⟩
set_option maxHeartbeats 4000000 in
set_option maxRecDepth 100000 in
theorem k1397 (H:Has tp) (X:HasX tp) (K:Awk tp) (Gl:Glob h) (s:SlL encF 1 h v F) (fF:Fits h v 26) (f:Free0 h.next h):CallW Tryd.prog tp (.func (.func 3) #[] #[]) #[v,.agg #[zi a,zi b]] h fun v _=>v=.bool true:=by
  obtain ⟨es,L,hE,hL⟩:=lev_some F
  refine CallW.fnL (H.fn 3 f1397 rfl rfl) ?_
  refine WL.sr<|WOL.box rfl fun h1 N1=>WOL.as rfl<|WOL.nil<|keep [(0,_),(3,_)] ⟨rfl,rfl,trivial⟩ ?_
  have A3:At h1 h.next (.cells [zi a,zi b] true true 24):=N1.at_
  have X1:=N1.hx
  have s1:=s.hx X1
  · repeat' (first
    | refine WL.sr ?_
    | refine WL.seq ?_
    | refine WL.reg ?_
    | refine WOL.nil ?_
    | refine WL.skip ?_
    | refine WOL.now (b:=true) rfl rfl ?_
    | refine WOL.now (b:=false) rfl rfl ?_
    | refine WOL.skp (b:=true) rfl rfl ?_
    | refine WOL.skp (b:=false) rfl rfl ?_
    | refine WOL.gu rfl rfl ?_
    | refine WOL.mv rfl ?_
    | refine WOL.as rfl ?_
    | refine WOL.ex rfl rfl ?_
    | refine WOL.nt rfl ?_
    | refine WOL.pkt rfl rfl ?_
    | refine WOL.pkf rfl rfl ?_
    | refine WL.yes rfl ?_
    | refine WL.no rfl ?_
    | refine WOL.ld rfl (load_one (by first | exact tp25 | exact tp3) (by first | with_reducible assumption | assumption) (by rfl)) ?_
    | refine WOL.ld rfl (load_row (by first | exact tp25 | exact tp3) (by first | with_reducible assumption | assumption) rfl (Nat.le_of_ble_eq_true rfl)) ?_
    | refine WOL.len rfl (by first | with_reducible assumption | assumption) (by first | exact u43 | exact u29 | exact u44) ?_
    | refine WOL.add rfl rfl (by omega) (by omega) ?_
    | refine WOL.sub rfl rfl (by omega) (by omega) ?_
    | refine WOL.mul rfl rfl (by omega) (by omega) ?_
    | refine WOL.bt rfl rfl rfl (by first | exact decide_eq_true (by omega) | exact beq_iff_eq.2 (by omega) | exact bne_iff_ne.2 (by omega)) ?_
    | refine WOL.bf rfl rfl rfl (by first | exact decide_eq_false (by omega) | exact beq_eq_false_iff_ne.2 (by omega) | exact bne_eq_false_iff_eq.2 (by omega)) ?_)
    refine WOL.cl2 rfl rfl rfl ((k1377 H s1 hE hL twenty_x).mono ?_)
    rintro u h1 ⟨rfl,bb,rfl,hfine⟩
    cases bb with
    | false =>
      repeat' (first
    | (refine WOL.cl0 rfl ((k11t K _).mono ?_);rintro _ h1 ⟨rfl,rfl⟩)
    | refine WL.sr ?_
    | refine WL.seq ?_
    | refine WL.reg ?_
    | refine WOL.nil ?_
    | refine WL.skip ?_
    | refine WOL.now (b:=true) rfl rfl ?_
    | refine WOL.now (b:=false) rfl rfl ?_
    | refine WOL.skp (b:=true) rfl rfl ?_
    | refine WOL.skp (b:=false) rfl rfl ?_
    | refine WOL.gu rfl rfl ?_
    | refine WOL.mv rfl ?_
    | refine WOL.as rfl ?_
    | refine WOL.ex rfl rfl ?_
    | refine WOL.nt rfl ?_
    | refine WOL.pkt rfl rfl ?_
    | refine WOL.pkf rfl rfl ?_
    | refine WL.yes rfl ?_
    | refine WL.no rfl ?_
    | refine WOL.ld rfl (load_one (by first | exact tp25 | exact tp3) (by first | with_reducible assumption | assumption) (by rfl)) ?_
    | refine WOL.ld rfl (load_row (by first | exact tp25 | exact tp3) (by first | with_reducible assumption | assumption) rfl (Nat.le_of_ble_eq_true rfl)) ?_
    | refine WOL.len rfl (by first | with_reducible assumption | assumption) (by first | exact u43 | exact u29 | exact u44) ?_
    | refine WOL.add rfl rfl (by omega) (by omega) ?_
    | refine WOL.sub rfl rfl (by omega) (by omega) ?_
    | refine WOL.mul rfl rfl (by omega) (by omega) ?_
    | refine WOL.bt rfl rfl rfl (by first | exact decide_eq_true (by omega) | exact beq_iff_eq.2 (by omega) | exact bne_iff_ne.2 (by omega)) ?_
    | refine WOL.bf rfl rfl rfl (by first | exact decide_eq_false (by omega) | exact beq_eq_false_iff_ne.2 (by omega) | exact bne_eq_false_iff_eq.2 (by omega)) ?_)
      exact WL.ret (WL.end_ rfl rfl)
    | true =>
    obtain ⟨⟨q1,q2⟩,q3,q4⟩:=hfine rfl
    have lv:=hL q3
    have ll:=lv.1
    repeat' (first
    | refine WOL.ld rfl (load_row tp1112 A3 rfl (Nat.le_of_ble_eq_true rfl)) ?_
    | refine WL.sr ?_
    | refine WL.seq ?_
    | refine WL.reg ?_
    | refine WOL.nil ?_
    | refine WL.skip ?_
    | refine WOL.now (b:=true) rfl rfl ?_
    | refine WOL.now (b:=false) rfl rfl ?_
    | refine WOL.skp (b:=true) rfl rfl ?_
    | refine WOL.skp (b:=false) rfl rfl ?_
    | refine WOL.gu rfl rfl ?_
    | refine WOL.mv rfl ?_
    | refine WOL.as rfl ?_
    | refine WOL.ex rfl rfl ?_
    | refine WOL.nt rfl ?_
    | refine WOL.pkt rfl rfl ?_
    | refine WOL.pkf rfl rfl ?_
    | refine WL.yes rfl ?_
    | refine WL.no rfl ?_
    | refine WOL.ld rfl (load_one (by first | exact tp25 | exact tp3) (by first | with_reducible assumption | assumption) (by rfl)) ?_
    | refine WOL.ld rfl (load_row (by first | exact tp25 | exact tp3) (by first | with_reducible assumption | assumption) rfl (Nat.le_of_ble_eq_true rfl)) ?_
    | refine WOL.len rfl (by first | with_reducible assumption | assumption) (by first | exact u43 | exact u29 | exact u44) ?_
    | refine WOL.add rfl rfl (by omega) (by omega) ?_
    | refine WOL.sub rfl rfl (by omega) (by omega) ?_
    | refine WOL.mul rfl rfl (by omega) (by omega) ?_
    | refine WOL.bt rfl rfl rfl (by first | exact decide_eq_true (by omega) | exact beq_iff_eq.2 (by omega) | exact bne_iff_ne.2 (by omega)) ?_
    | refine WOL.bf rfl rfl rfl (by first | exact decide_eq_false (by omega) | exact beq_eq_false_iff_ne.2 (by omega) | exact bne_eq_false_iff_eq.2 (by omega)) ?_)
    refine WOL.cl1 rfl rfl ((k1122 H a b _).mono ?_)
    rintro _ h2 ⟨rfl,X2⟩
    have s2:=s1.hx X2
    replace A3:=A3.hx X2
    by_cases e0:chordE a b=0
    · obtain ⟨o1,o2,o3,o4⟩:=chord_ok e0
      rw [e0]
      by_cases d1:a≤6
      · by_cases d2:b≤6
        · obtain ⟨p,rfl⟩:∃ p:Nat,a=p:=⟨a.toNat,by omega⟩
          obtain ⟨q,rfl⟩:∃ q:Nat,b=q:=⟨b.toNat,by omega⟩
          by_cases d3:p+q < F.length
          · repeat' (first
    | refine WOL.fa rfl (fa_of fo1112_0) ?_
    | refine WOL.fa rfl (fa_of fo1112_1) ?_
    | refine WOL.ld rfl (load_one tp3 A3 rfl) ?_
    | refine WOL.len rfl s2 u43 ?_
    | refine WL.sr ?_
    | refine WL.seq ?_
    | refine WL.reg ?_
    | refine WOL.nil ?_
    | refine WOL.now (b:=true) rfl rfl ?_
    | refine WOL.now (b:=false) rfl rfl ?_
    | refine WOL.skp (b:=true) rfl rfl ?_
    | refine WOL.skp (b:=false) rfl rfl ?_
    | refine WOL.gu rfl rfl ?_
    | refine WOL.mv rfl ?_
    | refine WOL.as rfl ?_
    | refine WOL.ex rfl rfl ?_
    | refine WOL.nt rfl ?_
    | refine WOL.pkt rfl rfl ?_
    | refine WOL.pkf rfl rfl ?_
    | refine WOL.ld rfl (load_one (by first | exact tp25 | exact tp3) (by first | with_reducible assumption | assumption) (by rfl)) ?_
    | refine WOL.ld rfl (load_row (by first | exact tp25 | exact tp3) (by first | with_reducible assumption | assumption) rfl (Nat.le_of_ble_eq_true rfl)) ?_
    | refine WOL.len rfl (by first | with_reducible assumption | assumption) (by first | exact u43 | exact u29 | exact u44) ?_
    | refine WOL.add rfl rfl (by omega) (by omega) ?_
    | refine WOL.sub rfl rfl (by omega) (by omega) ?_
    | refine WOL.mul rfl rfl (by omega) (by omega) ?_
    | refine WOL.bt rfl rfl rfl (by first | exact decide_eq_true (by omega) | exact beq_iff_eq.2 (by omega) | exact bne_iff_ne.2 (by omega)) ?_
    | refine WOL.bf rfl rfl rfl (by first | exact decide_eq_false (by omega) | exact beq_eq_false_iff_ne.2 (by omega) | exact bne_eq_false_iff_eq.2 (by omega)) ?_)
            have qq:=k1397a H X K (Gl.hx (X1.trans X2)) (f.on (X1.trans X2)) s2 (fF.hx (X1.trans X2)) lv q1 q2 q4 (by omega) (by omega) (by omega) (by omega) d3 A3
            unfold cd1397a cd1397b cd1397c cd1397d cd1397e at qq
            exact WL.no rfl<|WL.skip<|kto qq ⟨rfl,rfl,trivial⟩
          · repeat' (first
    | refine WOL.fa rfl (fa_of fo1112_0) ?_
    | refine WOL.fa rfl (fa_of fo1112_1) ?_
    | refine WOL.ld rfl (load_one tp3 A3 rfl) ?_
    | refine WOL.len rfl s2 u43 ?_
    | (refine WOL.cl0 rfl ((k11t K _).mono ?_);rintro _ h1 ⟨rfl,rfl⟩)
    | refine WL.sr ?_
    | refine WL.seq ?_
    | refine WL.reg ?_
    | refine WOL.nil ?_
    | refine WL.skip ?_
    | refine WOL.now (b:=true) rfl rfl ?_
    | refine WOL.now (b:=false) rfl rfl ?_
    | refine WOL.skp (b:=true) rfl rfl ?_
    | refine WOL.skp (b:=false) rfl rfl ?_
    | refine WOL.gu rfl rfl ?_
    | refine WOL.mv rfl ?_
    | refine WOL.as rfl ?_
    | refine WOL.ex rfl rfl ?_
    | refine WOL.nt rfl ?_
    | refine WOL.pkt rfl rfl ?_
    | refine WOL.pkf rfl rfl ?_
    | refine WL.yes rfl ?_
    | refine WL.no rfl ?_
    | refine WOL.ld rfl (load_one (by first | exact tp25 | exact tp3) (by first | with_reducible assumption | assumption) (by rfl)) ?_
    | refine WOL.ld rfl (load_row (by first | exact tp25 | exact tp3) (by first | with_reducible assumption | assumption) rfl (Nat.le_of_ble_eq_true rfl)) ?_
    | refine WOL.len rfl (by first | with_reducible assumption | assumption) (by first | exact u43 | exact u29 | exact u44) ?_
    | refine WOL.add rfl rfl (by omega) (by omega) ?_
    | refine WOL.sub rfl rfl (by omega) (by omega) ?_
    | refine WOL.mul rfl rfl (by omega) (by omega) ?_
    | refine WOL.bt rfl rfl rfl (by first | exact decide_eq_true (by omega) | exact beq_iff_eq.2 (by omega) | exact bne_iff_ne.2 (by omega)) ?_
    | refine WOL.bf rfl rfl rfl (by first | exact decide_eq_false (by omega) | exact beq_eq_false_iff_ne.2 (by omega) | exact bne_eq_false_iff_eq.2 (by omega)) ?_)
            exact WL.ret (WL.end_ rfl rfl)
        · repeat' (first
    | refine WOL.fa rfl (fa_of fo1112_0) ?_
    | refine WOL.fa rfl (fa_of fo1112_1) ?_
    | refine WOL.ld rfl (load_one tp3 A3 rfl) ?_
    | refine WOL.len rfl s2 u43 ?_
    | (refine WOL.cl0 rfl ((k11t K _).mono ?_);rintro _ h1 ⟨rfl,rfl⟩)
    | refine WL.sr ?_
    | refine WL.seq ?_
    | refine WL.reg ?_
    | refine WOL.nil ?_
    | refine WL.skip ?_
    | refine WOL.now (b:=true) rfl rfl ?_
    | refine WOL.now (b:=false) rfl rfl ?_
    | refine WOL.skp (b:=true) rfl rfl ?_
    | refine WOL.skp (b:=false) rfl rfl ?_
    | refine WOL.gu rfl rfl ?_
    | refine WOL.mv rfl ?_
    | refine WOL.as rfl ?_
    | refine WOL.ex rfl rfl ?_
    | refine WOL.nt rfl ?_
    | refine WOL.pkt rfl rfl ?_
    | refine WOL.pkf rfl rfl ?_
    | refine WL.yes rfl ?_
    | refine WL.no rfl ?_
    | refine WOL.ld rfl (load_one (by first | exact tp25 | exact tp3) (by first | with_reducible assumption | assumption) (by rfl)) ?_
    | refine WOL.ld rfl (load_row (by first | exact tp25 | exact tp3) (by first | with_reducible assumption | assumption) rfl (Nat.le_of_ble_eq_true rfl)) ?_
    | refine WOL.len rfl (by first | with_reducible assumption | assumption) (by first | exact u43 | exact u29 | exact u44) ?_
    | refine WOL.add rfl rfl (by omega) (by omega) ?_
    | refine WOL.sub rfl rfl (by omega) (by omega) ?_
    | refine WOL.mul rfl rfl (by omega) (by omega) ?_
    | refine WOL.bt rfl rfl rfl (by first | exact decide_eq_true (by omega) | exact beq_iff_eq.2 (by omega) | exact bne_iff_ne.2 (by omega)) ?_
    | refine WOL.bf rfl rfl rfl (by first | exact decide_eq_false (by omega) | exact beq_eq_false_iff_ne.2 (by omega) | exact bne_eq_false_iff_eq.2 (by omega)) ?_)
          exact WL.ret (WL.end_ rfl rfl)
      · repeat' (first
    | refine WOL.fa rfl (fa_of fo1112_0) ?_
    | refine WOL.fa rfl (fa_of fo1112_1) ?_
    | refine WOL.ld rfl (load_one tp3 A3 rfl) ?_
    | refine WOL.len rfl s2 u43 ?_
    | (refine WOL.cl0 rfl ((k11t K _).mono ?_);rintro _ h1 ⟨rfl,rfl⟩)
    | refine WL.sr ?_
    | refine WL.seq ?_
    | refine WL.reg ?_
    | refine WOL.nil ?_
    | refine WL.skip ?_
    | refine WOL.now (b:=true) rfl rfl ?_
    | refine WOL.now (b:=false) rfl rfl ?_
    | refine WOL.skp (b:=true) rfl rfl ?_
    | refine WOL.skp (b:=false) rfl rfl ?_
    | refine WOL.gu rfl rfl ?_
    | refine WOL.mv rfl ?_
    | refine WOL.as rfl ?_
    | refine WOL.ex rfl rfl ?_
    | refine WOL.nt rfl ?_
    | refine WOL.pkt rfl rfl ?_
    | refine WOL.pkf rfl rfl ?_
    | refine WL.yes rfl ?_
    | refine WL.no rfl ?_
    | refine WOL.ld rfl (load_one (by first | exact tp25 | exact tp3) (by first | with_reducible assumption | assumption) (by rfl)) ?_
    | refine WOL.ld rfl (load_row (by first | exact tp25 | exact tp3) (by first | with_reducible assumption | assumption) rfl (Nat.le_of_ble_eq_true rfl)) ?_
    | refine WOL.len rfl (by first | with_reducible assumption | assumption) (by first | exact u43 | exact u29 | exact u44) ?_
    | refine WOL.add rfl rfl (by omega) (by omega) ?_
    | refine WOL.sub rfl rfl (by omega) (by omega) ?_
    | refine WOL.mul rfl rfl (by omega) (by omega) ?_
    | refine WOL.bt rfl rfl rfl (by first | exact decide_eq_true (by omega) | exact beq_iff_eq.2 (by omega) | exact bne_iff_ne.2 (by omega)) ?_
    | refine WOL.bf rfl rfl rfl (by first | exact decide_eq_false (by omega) | exact beq_eq_false_iff_ne.2 (by omega) | exact bne_eq_false_iff_eq.2 (by omega)) ?_)
        exact WL.ret (WL.end_ rfl rfl)
    · repeat' (first
    | (refine WOL.cl0 rfl ((k11t K _).mono ?_);rintro _ h1 ⟨rfl,rfl⟩)
    | refine WL.sr ?_
    | refine WL.seq ?_
    | refine WL.reg ?_
    | refine WOL.nil ?_
    | refine WL.skip ?_
    | refine WOL.now (b:=true) rfl rfl ?_
    | refine WOL.now (b:=false) rfl rfl ?_
    | refine WOL.skp (b:=true) rfl rfl ?_
    | refine WOL.skp (b:=false) rfl rfl ?_
    | refine WOL.gu rfl rfl ?_
    | refine WOL.mv rfl ?_
    | refine WOL.as rfl ?_
    | refine WOL.ex rfl rfl ?_
    | refine WOL.nt rfl ?_
    | refine WOL.pkt rfl rfl ?_
    | refine WOL.pkf rfl rfl ?_
    | refine WL.yes rfl ?_
    | refine WL.no rfl ?_
    | refine WOL.ld rfl (load_one (by first | exact tp25 | exact tp3) (by first | with_reducible assumption | assumption) (by rfl)) ?_
    | refine WOL.ld rfl (load_row (by first | exact tp25 | exact tp3) (by first | with_reducible assumption | assumption) rfl (Nat.le_of_ble_eq_true rfl)) ?_
    | refine WOL.len rfl (by first | with_reducible assumption | assumption) (by first | exact u43 | exact u29 | exact u44) ?_
    | refine WOL.add rfl rfl (by omega) (by omega) ?_
    | refine WOL.sub rfl rfl (by omega) (by omega) ?_
    | refine WOL.mul rfl rfl (by omega) (by omega) ?_
    | refine WOL.bt rfl rfl rfl (by first | exact decide_eq_true (by omega) | exact beq_iff_eq.2 (by omega) | exact bne_iff_ne.2 (by omega)) ?_
    | refine WOL.bf rfl rfl rfl (by first | exact decide_eq_false (by omega) | exact beq_eq_false_iff_ne.2 (by omega) | exact bne_eq_false_iff_eq.2 (by omega)) ?_)
      exact WL.ret (WL.end_ rfl rfl)
end
set_option maxRecDepth 100000 in
theorem law1397:LawG tpE 3 5 [22,24]:=by
 intro h us f Gl ha
 obtain ⟨x0,x1,rfl,⟨p0,y0,e0⟩,⟨p1,y1,e1⟩⟩:=args2 ha
 have q1:=tyg_struct Tryd.underlying24 y1
 rw [val_agg (.inl ⟨_,Tryd.underlying24⟩)] at e1
 obtain ⟨w0,F,rfl,s,fs⟩:=tyg_slice eF u43 (fun p y=>by obtain ⟨b,e,_⟩:=ty_float y;exact ⟨b,e⟩) y0
 rw [val_fls] at e0
 obtain ⟨c0,d0,rfl,_,t0,c1,d1,rfl,_,t1,rfl⟩:=q1
 obtain ⟨a,rfl,_⟩:=ty_int t0
 obtain ⟨b,rfl,_⟩:=ty_int t1
 subst e0 e1
 exact k1397 hasE hasXE awkE Gl s (fs _) f
end Go.Tidy
