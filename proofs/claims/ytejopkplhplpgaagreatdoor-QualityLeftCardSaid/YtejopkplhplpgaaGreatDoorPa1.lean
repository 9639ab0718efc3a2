/- A part of the proof. -/
import Derived.Test.YtejopkplhplpgaaGreatDoorPa0
import Derived.RangeFuncLeaves
import Derived.RangeFuncRecord
import GoSem.Extern.Table
import Derived.Lib.MakeNoZero
set_option linter.all false
namespace Go.Tidy
open Go
variable {C:Env} {β:Emb} {g:HG} {w:World}
theorem sd_nil {P:Program} {w:World} (ts:Array TypeId) (ty:TypeId) (n c:Nat):(Builtin.unsafeSliceData_ ts ty #[.slice none n c]).run P w=.ok (.pointer none) w:=rfl
theorem sd_row {P:Program} {w:World} (ts:Array TypeId) (ty:TypeId) (a:Addr) (n c:Nat) (hc:c≠0):(Builtin.unsafeSliceData_ ts ty #[.slice (some a) n c]).run P w=.ok (.pointer (some a)) w:=by
 obtain ⟨k,rfl⟩:∃ k,c=k+1:=⟨c - 1,by omega⟩
 rfl
theorem sliceData_sim {aas aas':Array Value} {ts:Array TypeId} {ty:TypeId} {v:Value} (hs:sliceDataT aas=some v) (ha:LRel β aas.toList aas'.toList) :
    ∃ v',VRel β v v'∧∀ w,(Builtin.unsafeSliceData_ ts ty aas').run C.P w=.ok v' w:=by
  unfold sliceDataT at hs
  split at hs
  · rename_i l c he
    rw [he] at ha
    obtain ⟨v',r,e1,h1,h2⟩:=ha.uncons
    obtain rfl:=nilSlice_inv h1
    have:=LRel.of_nil h2
    subst this
    cases hs
    have:aas'=#[.slice none l c]:=by apply Array.toList_inj.1;simp [e1]
    subst this
    exact ⟨_,.nilPtr,fun w=>sd_nil _ _ _ _⟩
  · rename_i b off len cp he
    rw [he] at ha
    obtain ⟨v',r,e1,h1,h2⟩:=ha.uncons
    obtain ⟨hb,hs2⟩:=cond_some hs
    cases hs2
    simp only [Bool.and_eq_true,Nat.blt_eq] at hb
    have:=LRel.of_nil h2
    subst this
    rcases slice_inv h1 with ⟨e,c',hen,hcap,rfl⟩ | ⟨h0,_,_⟩
    · have hc:c'≠0:=by
        unfold CapRel at hcap
        split at hcap <;> omega
      have:aas'=#[.slice (some ⟨e.blk,e.d+off,none⟩) len c']:=by apply Array.toList_inj.1;simp [e1]
      subst this
      exact ⟨_,.ptr b off e hen,fun w=>sd_row _ _ _ _ _ hc⟩
    · omega
  · cases hs
theorem freeze_at {b off n:Nat} {cr:Array Value} {el:TypeId} {lo hi:Nat} (hn:n≠0) (h:w.heap[b]?=some (.cells cr el (lo,hi))) :
  (w.freeze ⟨b,off,none⟩ n).heap[b]?=some (.cells cr el (if lo == hi then (off,off+n) else (min lo off,max hi (off+n)))):=by
 unfold World.freeze
 simp only [hn,if_false]
 rw [Array.getElem?_modify]
 simp [h]
theorem freeze_other {a:Addr} {n r:Nat} (h:r≠a.block):(w.freeze a n).heap[r]?=w.heap[r]?:=by
 unfold World.freeze
 split
 ·rfl
 ·simp only
  rw [Array.getElem?_modify]
  simp [Ne.symm h]
theorem freeze_rest (a:Addr) (n:Nat):(w.freeze a n).heap.size=w.heap.size∧(w.freeze a n).os=w.os∧(w.freeze a n).tape=w.tape∧(w.freeze a n).output=w.output:=by
 unfold World.freeze
 split <;> simp
theorem freeze_step {f b off n:Nat} {c:List Value} {fix wr wr':Bool} {el:TypeId} {e:Ent} (rel:HRel C β g w) (inj:Inj β g) (hfb:f≤b) (hb:g b=some (.cells c fix wr el)) (he:β b=some e) (hn:n≠0)
    (hwr:wr'=true→wr=true∧∀ cr fz,w.heap[e.blk]?=some (.cells cr el fz)→cr.size≤off):Step C f β g w β (g.set b (.cells c fix wr' el)) (w.freeze ⟨e.blk,off,none⟩ n):=by
  obtain ⟨cr,fz,k1,k2,k3,k4,k5⟩:=rel b _ e hb he
  obtain ⟨lo,hi⟩:=fz
  obtain ⟨r1,r2,r3,r4⟩:=freeze_rest (w:=w) ⟨e.blk,off,none⟩ n
  have k2':if fix then e.grow=none∧(wr'=true→e.d=0) else e.grow=some (C.P.cellsOf el,cr.size):=by
    cases fix with
    | true=>exact ⟨k2.1,fun h=>k2.2 (hwr h).1⟩
    | false=>exact k2
  have hst:stillT (.cells c fix wr el)=false∨(stillT (.cells c fix wr' el)=true∧∀ y k,stillT y=true→k.blk=e.blk→HBlk C β w k y→HBlk C β (w.freeze ⟨e.blk,off,none⟩ n) k y):=by
    cases wr with
    | true=>exact .inl rfl
    | false =>
      cases wr' with
      | true=>exact absurd (hwr rfl).1 (by simp)
      | false =>
        refine .inr ⟨rfl,fun y k hy hk hb=>?_⟩
        cases y with
        | cells c2 fix2 wr2 el2 =>
          cases wr2 with
          | true=>cases hy
          | false =>
            obtain ⟨cr2,fz2,j1,j2,j3,j4,_⟩:=hb
            rw [hk,k1] at j1
            cases j1
            exact ⟨cr,_,by rw [hk];exact freeze_at hn k1,j2,j3,j4,fun h=>by cases h⟩
        | _=>cases hy
  refine Step.put rel inj hfb hb (by simp) he r1 (fun r hr=>freeze_other hr) r2 r3 r4 ⟨cr,_,freeze_at hn k1,k2',k3,k4,fun h=>?_⟩ hst
  obtain ⟨h1,h2⟩:=hwr h
  have h3:=h2 cr _ k1
  have h4:=k5 h1
  right
  split
  · exact h3
  · rename_i hne
    simp only [beq_iff_eq] at hne
    simp only at h4 ⊢
    omega
theorem mark_sim {src:TypeId} {b off len cp:Nat} {d:TypeDesc} {e0:TypeId} {x':Value} {h h':TH} {c:List Value} {fix wr:Bool} {el:TypeId} (he0:elemDesc C.P src=some (e0,d)) (hd:isU8 d=true)
  (hb:h.get b=some (.cells c fix wr el)) (hp:h.put b (.cells c fix wr el)=some h') (hcp:0 < cp) (hx:VRel β (.slice (some ⟨b,off,none⟩) len cp) x') (rel:HRel C β h.get w) (inj:Inj β h.get) :
  MDoes C β w (convert src src x') (.slice (some ⟨b,off,none⟩) len cp) h h':=by
 obtain ⟨hu,hdd⟩:=elemDesc_some he0
 obtain rfl:=isU8_eq hd
 obtain ⟨p1,p2,p3,p4,p5,p6,p7⟩:=TH.put_some hp
 rcases slice_inv hx with ⟨e,c',hen,hcap,rfl⟩ | ⟨_,h0,_⟩
 ·obtain ⟨cr,fz,k1,k2,k3,k4,k5⟩:=rel b _ e hb hen
  have hsh:=shape_cells k1
  refine ⟨_,w.freeze ⟨e.blk,cr.size,none⟩ 1,β,?_,hx,?_⟩
  ·simp [convert,rUnder hu,rUnder hdd,markStringish,hsh]
  ·rw [p7]
   refine freeze_step rel inj p1 hb hen (by simp) fun hw=>⟨hw,fun cr2 fz2 h2=>?_⟩
   rw [k1] at h2
   cases h2
   exact Nat.le_refl _
 ·omega
theorem loadBytes_run {P:Program} {w:World} (b:Nat):∀ (ns:List Int) (off:Nat) (acc:ByteArray),(∀ j v,(ns.map (Value.int .u8))[j]?=some v→w.cell? ⟨b,off+j,none⟩=some v) →
  (loadBytes ⟨b,off,none⟩ acc ns.length).run P w=.ok (ns.foldl (fun r n=>r.push (UInt8.ofNat n.toNat)) acc) w:=by
 intro ns
 induction ns with
 | nil=>intro off acc _;simp [loadBytes]
 | cons n ns ih =>
  intro off acc h
  have h0:=h 0 (.int .u8 n) rfl
  simp only [Nat.add_zero] at h0
  have:=ih (off+1) (acc.push (UInt8.ofNat n.toNat)) (fun j v hv=>by
   have:=h (j+1) v (by simpa using hv)
   rw [show off+1+j=off+(j+1) by omega];exact this)
  simp [loadBytes,h0,add_mk,this]
theorem unsafeString_none (ts:Array TypeId) (ty:TypeId) (k:IntKind) (n:Int):Builtin.unsafeString_ ts ty #[.pointer none,.int k n] =
    (do
      let n ← asInt (.int k n)
      let some _ := ts[0]? | stuck "unsafe.String: no argument types"
      if n < 0 then runtimePanic (.error "unsafe.String: len out of range")
      if n > IntKind.i64.max then unsupported (.unsafePointer "String: a length above the largest int")
      if n=0 then pure (.string .empty)
      else runtimePanic (.error "unsafe.String: ptr is nil and len is not zero")) := rfl
theorem unsafeString_at (ts:Array TypeId) (ty:TypeId) (a:Addr) (k:IntKind) (n:Int):Builtin.unsafeString_ ts ty #[.pointer (some a),.int k n] =
    (do
      let n ← asInt (.int k n)
      let some pt := ts[0]? | stuck "unsafe.String: no argument types"
      if n < 0 then runtimePanic (.error "unsafe.String: len out of range")
      if n > IntKind.i64.max then unsupported (.unsafePointer "String: a length above the largest int")
      if n=0 then pure (.string .empty)
      else if ← variablesAt a (← elemOf pt) n.toNat then do
        let s ← loadBytes a .empty n.toNat
        freeze a n.toNat
        pure (.string s)
      else unsupported (.unsafePointer "String: not so many bytes at ptr")) := rfl
theorem unsafeString_sim {aas aas':Array Value} {ts:Array TypeId} {ty:TypeId} {v:Value} {h h':TH} (hs:unsafeStringT C.P ts aas h=some (v,h')) (ha:LRel β aas.toList aas'.toList)
    (rel:HRel C β h.get w) (inj:Inj β h.get):MDoes C β w (Builtin.unsafeString_ ts ty aas') v h h':=by
  unfold unsafeStringT at hs
  split at hs
  · rename_i pt base k n hpt he
    rw [he] at ha
    obtain ⟨x',r,e1,h1,h2⟩:=ha.uncons
    obtain ⟨y',r2,e2,h3,h4⟩:=h2.uncons
    have:=LRel.of_nil h4
    subst this
    subst e2
    obtain rfl:=int_inv h3
    obtain ⟨hn,hs2⟩:=cond_some hs
    clear hs
    simp only [Bool.and_eq_true,decide_eq_true_eq] at hn
    have hmax:¬ IntKind.i64.max < n:=by have:IntKind.i64.max=2 ^ 63 - 1:=rfl;omega
    have hneg:¬ n < 0:=by omega
    rcases cond_cases hs2 with ⟨h0,hs⟩ | ⟨h0,hs⟩
    · have h0:=Nat.eq_of_beq_eq_true h0
      simp only [Option.some.injEq,Prod.mk.injEq] at hs
      obtain ⟨rfl,rfl⟩:=hs
      have hn0:n=0:=by omega
      subst hn0
      refine ⟨_,w,β,?_,.string _,Step.refl rel inj⟩
      have hp:∃ p,x'=.pointer p:=by cases h1 <;> exact ⟨_,rfl⟩
      obtain ⟨p,rfl⟩:=hp
      have:aas'=#[.pointer p,.int k 0]:=by apply Array.toList_inj.1;simp [e1]
      subst this
      have hz:¬ (0:Int) > IntKind.i64.max:=hmax
      cases p
      · rw [unsafeString_none];simp [hpt,hz,asInt,asIntOf]
      · rw [unsafeString_at];simp [hpt,hz,asInt,asIntOf]
    · have h0:=Nat.ne_of_beq_eq_false h0
      have hn0:n≠0:=by omega
      clear hs2
      split at hs
      · rename_i b off
        obtain ⟨e,hen,rfl⟩:=ptr_inv h1
        have:aas'=#[.pointer (some ⟨e.blk,e.d+off,none⟩),.int k n]:=by apply Array.toList_inj.1;simp [e1]
        subst this
        split at hs
        · rename_i t c fix wr el hup hgb
          split at hs
          · rename_i i d hi hd
            obtain ⟨hc,hs2⟩:=cond_some hs
            clear hs
            simp only [Bool.and_eq_true] at hc
            have hel:=Nat.eq_of_beq_eq_true hc.1
            subst hel
            have hsz:=Nat.eq_of_beq_eq_true hc.2.1
            obtain rfl:=isU8_eq hc.2.2
            rw [Option.bind_eq_some_iff] at hs2
            obtain ⟨cs,hcs,hs3⟩:=hs2
            rw [Option.bind_eq_some_iff] at hs3
            obtain ⟨l,hl,hs4⟩:=hs3
            rw [Option.map_eq_some_iff] at hs4
            obtain ⟨h2',hput,heq⟩:=hs4
            simp only [Prod.mk.injEq] at heq
            obtain ⟨rfl,rfl⟩:=heq
            obtain ⟨ns,rfl,rfl⟩:=bytesOf_some hl
            obtain ⟨l',j1,j2,j3⟩:=cellsAt_sim rel rfl hcs hen
            obtain rfl:=ints_eq j1
            obtain ⟨cr,fz,k1,k2,k3,k4,k5⟩:=rel b _ e hgb hen
            obtain ⟨p1,p2,p3,p4,p5,p6,p7⟩:=TH.put_some hput
            have hsh:=shape_cells k1
            have hlen:ns.length=n.toNat:=by simpa using j2
            have hle:off+n.toNat≤c.length:=by
              unfold cellsAt at hcs
              rw [hgb] at hcs
              have:=(cond_some hcs).1
              exact Nat.le_of_ble_eq_true this
            have hcell:C.P.cellsOf el=1:=by simp [Program.cellsOf,hi,hsz]
            have hv:liesAt C.P C.P.depth el (cr.size / C.P.cellsOf el) (e.d+off) el n.toNat=true:=by
              have hd':C.P.depth=(2*(C.P.types.size+Made.depth)+1)+1:=rfl
              rw [hd']
              simp only [liesAt,rowAt,sameLayout,hd',hcell]
              have:e.d+off+n.toNat≤cr.size:=by omega
              simp [Nat.mod_one,this]
            have hrun:=loadBytes_run (P:=C.P) (w:=w) e.blk ns (e.d+off) .empty (fun j v hv=>j3 j v hv)
            rw [hlen] at hrun
            have hu:C.P.underlying pt=some (.pointer el):=hup
            refine ⟨_,w.freeze ⟨e.blk,e.d+off,none⟩ n.toNat,β,?_,.string _,?_⟩
            · have h63:n≤9223372036854775807:=by omega
              rw [unsafeString_at];simp [h63,hpt,hmax,hneg,hn0,elemOf,rUnder hu,variablesAt,hsh,hv,hrun,push_all,asInt,asIntOf]
            · rw [p7]
              exact freeze_step rel inj p1 hgb hen (by omega) fun hw=>by cases hw
          · cases hs
        · cases hs
      · cases hs
  · cases hs
theorem unsafeString_tstep {P:Program} {aas:Array Value} {ts:Array TypeId} {v:Value} {h h':TH} (hs:unsafeStringT P ts aas h=some (v,h')):TStep h h':=by
  unfold unsafeStringT at hs
  split at hs
  · obtain ⟨hn,hs2⟩:=cond_some hs
    clear hs
    rcases cond_cases hs2 with ⟨h0,hs⟩ | ⟨h0,hs⟩
    · simp only [Option.some.injEq,Prod.mk.injEq] at hs
      obtain ⟨_,rfl⟩:=hs
      exact TStep.refl _
    · clear hs2
      split at hs
      · split at hs
        · rename_i t c fix wr el hup hgb
          split at hs
          · obtain ⟨hc,hs2⟩:=cond_some hs
            rw [Option.bind_eq_some_iff] at hs2
            obtain ⟨cs,hcs,hs3⟩:=hs2
            rw [Option.bind_eq_some_iff] at hs3
            obtain ⟨l,hl,hs4⟩:=hs3
            rw [Option.map_eq_some_iff] at hs4
            obtain ⟨h2',hput,heq⟩:=hs4
            simp only [Prod.mk.injEq] at heq
            obtain ⟨_,rfl⟩:=heq
            exact TStep.put hput hgb
          · cases hs
        · cases hs
      · cases hs
  · cases hs
end Go.Tidy
namespace Go.Tidy
open Go
variable {C:Env} {β:Emb} {g:HG} {w:World} {F:Fence} {n:Nat}
structure Good (C:Env) (β:Emb) (h:TH) (w:World):Prop where
 rel:HRel C β h.get w
 inj:Inj β h.get
 wf:WF h
 fr:∀ b,h.next≤b→β b=none
 glob:GRel C.G β
 base:Base C h
theorem Good.free {h:TH} (gd:Good C β h w):h.get h.next=none∧β h.next=none:=⟨gd.wf.none (Nat.le_refl _),gd.fr _ (Nat.le_refl _)⟩
theorem Good.step {f:Nat} {β':Emb} {h h':TH} {w':World} (gd:Good C β h w) (s:Step C f β h.get w β' h'.get w') (t:TStep h h'):Good C β' h' w':=by
 refine ⟨s.rel,s.inj,t.wf gd.wf,fun b hb=>?_,gd.glob.mono s.ext,t.base gd.wf gd.base⟩
 cases hbe:β' b with
 | none=>rfl
 | some e =>
  rcases s.born b e hbe with h1 | ⟨_,_,x,hx⟩
  ·have:=gd.fr b (by have:=t.next;omega)
   rw [this] at h1
   cases h1
  ·have:=t.wf gd.wf b x hx
   omega
theorem Good.lock {h:TH} {l:List Nat} (gd:Good C β h w):Good C β (h.withLock l) w:=⟨gd.rel,gd.inj,gd.wf,gd.fr,gd.glob,gd.base⟩
def UDoes (C:Env) (F:Fence) (n f:Nat) (β:Emb) (g:HG) (w:World) (r:Result Next) (v:Value) (g':HG):Prop :=
  ∀ (o:Oper) (a:Act) (K:Act→World→Prop) (Q:Exit→Act→World→Prop),
    (∀ v' w' β',VRel β' v v'→Step C f β g w β' g' w'→K (a.put o.dst v') w')→o.uponIn F n C.P a K Q r
theorem UDoes.value {f:Nat} {r:Result Next} {v v':Value} {g':HG} {w':World} {β':Emb} (hr:r=.ok (.value v') w') (hv:VRel β' v v') (s:Step C f β g w β' g' w'):UDoes C F n f β g w r v g':=by
 intro o a K Q hk
 subst hr
 exact hk v' w' β' hv s
theorem UDoes.skip {f:Nat} {r:Result Next} {g':HG} {w':World} {β':Emb} (hr:r=.ok .skip w') (s:Step C f β g w β' g' w'):UDoes C F n f β g w r undef g':=by
 intro o a K Q hk
 subst hr
 exact hk undef w' β' .undef s
theorem MDoes.udoes {s:Sem Value} {v:Value} {h h':TH} (m:MDoes C β w s v h h'):UDoes C F n h.floor β h.get w ((do pure (Next.value (← s)):Sem Next).run C.P w) v h'.get:=by
 obtain ⟨v',w',β',h1,h2,h3⟩:=m
 exact UDoes.value (by simp [h1]) h2 h3
def CallOk (C:Env) (F:Fence) (n:Nat) (call:Value→Array Value→TH→Option (Value × TH)):Prop :=
  ∀ fv args h v h',call fv args h=some (v,h')→TStep h h'∧∀ β w fv' args',VRel β fv fv'→LRel β args.toList args'.toList→Good C β h w →
    UDoes C F n h.floor β h.get w ((do let d ← Deferred.ofValue fv' args';invoke d.target d.args:Sem Next).run C.P w) v h'.get
theorem method_run {P:Program} {t:TypeId} {name:String} {k:Nat} (h:methodP P t name=some k) (v:Value) (w:World) (n:Nat):(method (n+1) t v name).run P w=.ok (k,v) w:=by
  unfold methodP at h
  cases hi:P.info? t with
  | none=>rw [hi] at h;cases h
  | some i =>
    rw [hi] at h
    simp only at h
    cases hf:i.methods.find? (·.name == name) with
    | none=>rw [hf] at h;cases h
    | some m =>
      rw [hf] at h
      simp only at h
      cases hp:m.path.isEmpty with
      | false=>rw [hp] at h;cases h
      | true =>
        rw [hp] at h
        have hp':m.path.toList=[]:=by
          have:=Array.isEmpty_iff.1 hp
          rw [this]
        cases hm:m.func with
        | none=>rw [hm] at h;cases h
        | some q =>
          obtain ⟨f,b⟩:=q
          rw [hm] at h
          cases hu:P.underlying t with
          | none=>rw [hu] at h;cases b <;> cases h
          | some d =>
            rw [hu] at h
            have e:f=k:=by
              cases b <;> cases d <;> simp at h <;> exact h
            subst e
            cases b <;> cases d <;> simp at h <;> simp [method,rInfo hi,hf,hp',hm,follow,receiverAt,rUnder hu,Place.get]
theorem invoke_run {t:TypeId} {name:String} {k:Nat} (h:methodP C.P t name=some k) {o':Oper} {recv:Operand} {args:Array Operand} {ts:Array TypeId} (ho:o'.op=.call ⟨.invoke recv name,args,ts⟩) {ρ':Operand→Value} {v':Value} (hr:ρ' recv=.iface t v') (w:World) :
  (execOp ρ' o').run C.P w=((do let d ← Deferred.ofValue (.func (.func k) #[] #[]) (#[v'] ++ args.map ρ');invoke d.target d.args:Sem Next)).run C.P w:=by
 have h0:0 < Made.depth:=by decide
 obtain ⟨n,hn⟩:∃ n,C.P.types.size+Made.depth=n+1:=⟨C.P.types.size+(Made.depth - 1),by omega⟩
 have hm:=method_run h v' w n
 have a0:(#[Value.iface t v'] ++ args.map ρ')[0]?=some (.iface t v'):=by
  rw [Array.getElem?_append_left (by simp)];rfl
 have a1:(#[Value.iface t v'] ++ args.map ρ').extract 1 (#[Value.iface t v'] ++ args.map ρ').size=args.map ρ':=by
  apply Array.ext'
  simp
  exact List.take_of_length_le (by simp)
 simp only [execOp,ho,resolve,hr,invoke,Deferred.ofValue,Sem.run_bind,Sem.run_pure,Result.andThen]
 rw [a0]
 simp only [a1,callMethod,Sem.run_bind,Sem.run_pure,Result.andThen]
 simp [hn,hm]
theorem early_sim (hz:zerosPlain C.P) {o:TOper} {o':Oper} (ho:o'.op=o.op) (hty:o'.type=o.type) {ρ ρ':Operand→Value} {v:Value}
  (hs:fastOp o.op ρ=some v∨valueOp C.P o ρ=some v∨plainOp C.P o ρ=some v) (hρ:∀ x,x ∈ o.op.operands→VRel β (ρ x) (ρ' x)):∃ v',VRel β v v'∧Yield C.P (execOp ρ' o') v':=by
 rcases hs with h | h | h
 ·exact fastOp_sim ho h hρ
 ·exact valueOp_sim hz ho h hρ
 ·exact ⟨v,plainOp_sim ho hty h hρ⟩
theorem stepOp_cases {P:Program} {call:Value→Array Value→TH→Option (Value × TH)} {o:TOper} {ρ:Operand→Value} {v:Value} {h h':TH} (hs:stepOp P call o ρ h=some (v,h')) :
    heapOp P call o ρ h=some (v,h')∨(h'=h∧(fastOp o.op ρ=some v∨valueOp P o ρ=some v∨plainOp P o ρ=some v)):=by
  unfold stepOp at hs
  rcases cond_cases hs with ⟨_,h1⟩ | ⟨_,h1⟩
  · exact .inl h1
  · split at h1
    · rename_i u hu
      simp only [Option.some.injEq,Prod.mk.injEq] at h1
      obtain ⟨rfl,rfl⟩:=h1
      exact .inr ⟨rfl,.inl hu⟩
    · split at h1
      · rename_i u hu
        simp only [Option.some.injEq,Prod.mk.injEq] at h1
        obtain ⟨rfl,rfl⟩:=h1
        exact .inr ⟨rfl,.inr (.inl hu)⟩
      · split at h1
        · rename_i u hu
          simp only [Option.some.injEq,Prod.mk.injEq] at h1
          obtain ⟨rfl,rfl⟩:=h1
          exact .inr ⟨rfl,.inr (.inr hu)⟩
        · exact .inl h1
theorem conv_sim {s d:TypeId} {x x' v:Value} {h h':TH} (hs:convertT C.P s d x h=some (v,h')) (hx:VRel β x x') (gd:Good C β h w):TStep h h'∧MDoes C β w (convert s d x') v h h':=by
  by_cases hsd:s=d
  · subst hsd
    unfold convertT at hs
    split at hs
    · rename_i k b
      split at hs
      · rename_i d1 k' h1 h2
        obtain ⟨hb,hs2⟩:=cond_some hs
        simp only [Bool.and_eq_true,Bool.not_eq_true'] at hb
        simp only [Option.some.injEq,Prod.mk.injEq] at hs2
        obtain ⟨rfl,rfl⟩:=hs2
        obtain ⟨b',rfl,hb'⟩:=float_inv hx
        have r:=nan_conv (f:=h.floor) (h:=h) h1 h2 (by intro e;subst e;cases k <;> simp [fKindEq] at hb) (nan_rel hb' hb.1) gd.rel gd.inj
        exact ⟨r.tstep,RDoes.toM r⟩
      · cases hs
    · split at hs
      · rename_i e d he hsrc
        obtain ⟨hu,hd⟩:=elemDesc_some he
        rw [hu] at hsrc
        cases hsrc
      · cases hs
    · rename_i base len cp
      rcases cond_cases hs with ⟨hb,hs⟩ | ⟨hb,hs⟩
      · split at hs
        · rename_i e d b off he0 _
          obtain ⟨hc,hs⟩:=cond_some hs
          simp only [Bool.and_eq_true,Nat.blt_eq] at hc
          split at hs
          · rename_i c fix wr el hgb
            rw [Option.map_eq_some_iff] at hs
            obtain ⟨h2,hput,heq⟩:=hs
            simp only [Prod.mk.injEq] at heq
            obtain ⟨rfl,rfl⟩:=heq
            exact ⟨TStep.put hput hgb,mark_sim he0 hc.1 hgb hput hc.2 hx gd.rel gd.inj⟩
          · cases hs
        · cases hs
      · simp at hb
    · obtain ⟨h1,h2⟩:=cond_some hs
      simp only [Option.some.injEq,Prod.mk.injEq] at h2
      obtain ⟨rfl,rfl⟩:=h2
      have r:=unsafe_RDoes (f:=h.floor) (w:=w) h1 hx (fun e he=>rfl) gd.rel gd.inj
      exact ⟨r.tstep,RDoes.toM r⟩
    · cases hs
  · have r:=convert_all (f:=h.floor) (w:=w) hsd hs hx (fun _ _ _ _=>rfl) gd.rel gd.inj (.inr gd.free)
    exact ⟨r.tstep,RDoes.toM r⟩
theorem heap_sim (hz:zerosPlain C.P) {call:Value→Array Value→TH→Option (Value × TH)} (hcall:CallOk C F n call) {o:TOper} {o':Oper} (ho:o'.op=o.op) {ρ ρ':Operand→Value} {v:Value} {h h':TH}
    (hs:heapOp C.P call o ρ h=some (v,h')) (hρ:∀ x,x ∈ o.op.operands→VRel β (ρ x) (ρ' x)) (gd:Good C β h w) :
    TStep h h'∧UDoes C F n h.floor β h.get w ((execOp ρ' o').run C.P w) v h'.get:=by
  obtain ⟨dst,op,ty,gt,locks,idx⟩:=o
  obtain ⟨dst',op',ty',pos,after,guard⟩:=o'
  simp only at ho
  subst ho
  cases hk:kindOf op' with
  | reads xs nw =>
    obtain ⟨s,e1,r⟩:=reads_sim (o':=⟨dst',op',ty',pos,after,guard⟩) (f:=h.floor) (w:=w) hz rfl hk hs hρ (fun _ _ _ _ _ _=>rfl) gd.rel gd.inj (.inr gd.free)
    rw [e1]
    exact ⟨r.tstep,(RDoes.toM r).udoes⟩
  | pure =>
    exfalso
    unfold heapOp at hs
    cases op' <;> simp [kindOf] at hk hs
    case convert s d x=>cases hb:Nat.beq s d <;> simp [hb] at hk
    case call c =>
      obtain ⟨callee,args,ts⟩:=c
      cases callee with
      | builtin b=>cases b <;> simp at hk hs
      | _=>simp at hk
  | any =>
    unfold heapOp at hs
    simp only at hs hk hρ
    cases op' <;> simp only [kindOf,reduceCtorEq] at hk
    case convert s d x =>
      obtain ⟨t,m⟩:=conv_sim hs (hρ x (by simp [Op.operands])) gd
      exact ⟨t,m.udoes⟩
    case store t x y =>
      simp only at hs
      rw [Option.map_eq_some_iff] at hs
      obtain ⟨h2,hp,heq⟩:=hs
      simp only [Prod.mk.injEq] at heq
      obtain ⟨rfl,rfl⟩:=heq
      obtain ⟨w',q1,q2⟩:=storeT_sim gd.rel gd.inj hp (hρ x (by simp [Op.operands])) (hρ y (by simp [Op.operands]))
      exact ⟨storeT_tstep hp,UDoes.skip (by simp [execOp,q1]) q2⟩
    case range t x =>
      have r:=range_RDoes (f:=h.floor) hs (hρ x (by simp [Op.operands])) gd.rel gd.inj gd.free.1 gd.free.2
      exact ⟨r.tstep,(RDoes.toM r).udoes⟩
    case next x b =>
      exact ⟨next_tstep hs,(next_sim hs (hρ x (by simp [Op.operands])) gd.rel gd.inj).udoes⟩
    case makeMap t r =>
      obtain ⟨t1,m⟩:=makeMap_sim hs (opt_some fun y hy=>hρ y (by simp [Op.operands,hy])) (opt_none fun y hy=>hρ y (by simp [Op.operands,hy])) gd.rel gd.inj gd.free.1 gd.free.2
      exact ⟨t1,m.udoes⟩
    case lookup t x k ok =>
      rw [Option.map_eq_some_iff] at hs
      obtain ⟨u,hc,heq⟩:=hs
      simp only [Prod.mk.injEq] at heq
      obtain ⟨rfl,rfl⟩:=heq
      exact ⟨TStep.refl h,(lookup_sim hc (hρ x (by simp [Op.operands])) (hρ k (by simp [Op.operands])) gd.rel gd.inj).udoes⟩
    case mapUpdate t m k x =>
      rw [Option.map_eq_some_iff] at hs
      obtain ⟨h2,hp,heq⟩:=hs
      simp only [Prod.mk.injEq] at heq
      obtain ⟨rfl,rfl⟩:=heq
      obtain ⟨w',q1,q2⟩:=mapUpdate_sim hp (hρ m (by simp [Op.operands])) (hρ k (by simp [Op.operands])) (hρ x (by simp [Op.operands])) gd.rel gd.inj
      exact ⟨mapUpdate_tstep hp,UDoes.skip (by simp [execOp,q1]) q2⟩
    case insert t m k x =>
      rw [Option.map_eq_some_iff] at hs
      obtain ⟨h2,hp,heq⟩:=hs
      simp only [Prod.mk.injEq] at heq
      obtain ⟨rfl,rfl⟩:=heq
      obtain ⟨w',q1,q2⟩:=mapUpdate_sim hp (hρ m (by simp [Op.operands])) (hρ k (by simp [Op.operands])) (hρ x (by simp [Op.operands])) gd.rel gd.inj
      exact ⟨mapUpdate_tstep hp,UDoes.skip (by simp [execOp,q1]) q2⟩
    case call c =>
      obtain ⟨callee,args,ts⟩:=c
      have hargs:LRel β (args.map ρ).toList (args.map ρ').toList:=map_rel fun x hx=>hρ x (by simp [Op.operands,Call.operands,hx])
      cases callee with
      | invoke recv name =>
        simp only at hs
        have hr:=hρ recv (by simp [Op.operands,Call.operands])
        cases hv:ρ recv with
        | iface t x =>
          rw [hv] at hs hr
          simp only at hs
          cases hm:methodP C.P t name with
          | none=>rw [hm] at hs;cases hs
          | some k =>
            rw [hm] at hs
            simp only at hs
            generalize hv':ρ' recv=y at hr
            cases hr with
            | iface t' x x' hx =>
              obtain ⟨q1,u⟩:=hcall _ _ _ _ _ hs
              refine ⟨q1,?_⟩
              rw [invoke_run (o':=⟨dst',.call ⟨.invoke recv name,args,ts⟩,ty',pos,after,guard⟩) hm rfl hv' w]
              exact u β w _ _ (.func k _ _ _ _ rfl (by simp) rfl (by simp)) (by simpa using LRel.cons hx hargs) gd
        | _=>rw [hv] at hs;cases hs
      | value fv =>
        simp only at hs
        obtain ⟨t,u⟩:=hcall _ _ _ _ _ hs
        exact ⟨t,u β w _ _ (hρ fv (by simp [Op.operands,Call.operands])) hargs gd⟩
      | builtin b =>
        cases b <;> simp only at hs hk
        case append=>exact ⟨append_tstep hs,(append_sim hz hs hargs gd.rel gd.inj gd.wf gd.free.2).udoes⟩
        case copy=>exact ⟨copy_tstep hs,(copy_sim hs hargs gd.rel gd.inj).udoes⟩
        case cap =>
          rw [Option.map_eq_some_iff] at hs
          obtain ⟨u,hc,heq⟩:=hs
          simp only [Prod.mk.injEq] at heq
          obtain ⟨rfl,rfl⟩:=heq
          obtain ⟨q1,q2⟩:=cap_sim (ty:=ty') hc hargs gd.rel
          exact ⟨TStep.refl h,UDoes.value (v':=u) (by simp [execOp,resolve,invoke,builtin,q2]) q1 (Step.refl gd.rel gd.inj)⟩
        case clear=>exact ⟨clear_tstep hs,(clear_sim hz hs hargs gd.rel gd.inj).udoes⟩
        case unsafeSliceData =>
          rw [Option.map_eq_some_iff] at hs
          obtain ⟨u,hc,heq⟩:=hs
          simp only [Prod.mk.injEq] at heq
          obtain ⟨rfl,rfl⟩:=heq
          obtain ⟨v',q1,q2⟩:=sliceData_sim (C:=C) (ts:=ts) (ty:=ty') hc hargs
          exact ⟨TStep.refl h,UDoes.value (v':=v') (by simp [execOp,resolve,invoke,builtin,q2]) q1 (Step.refl gd.rel gd.inj)⟩
        case unsafeString=>exact ⟨unsafeString_tstep hs,(unsafeString_sim hs hargs gd.rel gd.inj).udoes⟩
        all_goals cases hs
    all_goals cases hs
theorem step_sim (hz:zerosPlain C.P) {call:Value→Array Value→TH→Option (Value × TH)} (hcall:CallOk C F n call) {o:TOper} {o':Oper} (ho:o'.op=o.op) (hty:o'.type=o.type) {ρ ρ':Operand→Value} {v:Value} {h h':TH}
  (hs:stepOp C.P call o ρ h=some (v,h')) (hρ:∀ x,x ∈ o.op.operands→VRel β (ρ x) (ρ' x)) (gd:Good C β h w) :
  TStep h h'∧UDoes C F n h.floor β h.get w ((execOp ρ' o').run C.P w) v h'.get:=by
 rcases stepOp_cases hs with h1 | ⟨rfl,h1⟩
 ·exact heap_sim hz hcall ho h1 hρ gd
 ·obtain ⟨v',q1,q2⟩:=early_sim hz ho hty h1 hρ
  exact ⟨TStep.refl _,UDoes.value (q2 w) q1 (Step.refl gd.rel gd.inj)⟩
end Go.Tidy
namespace Go.Tidy
open Go
def opndOk (G:List Nat):Operand→Bool
 | .tmp _=>true
 | .const v=>plain v
 | .global g=>G.contains g
 | .func _=>true
def dstOk (m:Nat):Option Tmp→Bool
 | some d=>Nat.blt d m
 | none=>true
def opReady (G:List Nat) (m:Nat) (o:TOper):Bool:=dstOk m o.dst && o.op.operands.toList.all (opndOk G)
def ready (G:List Nat) (m:Nat):TCode→Bool
 | .skip | .exit _ | .ret | .bad=>true
 | .reg ops=>ops.all (opReady G m)
 | .seq a b=>ready G m a && ready G m b
 | .cond c a b=>opndOk G c && (ready G m a && ready G m b)
 | .block _ a | .loop a=>ready G m a
 | .rangeFunc f ps ta tb=>opndOk G f && (ps.toList.all (fun d=>Nat.blt d m) && (ready G m ta && ready G m tb))
variable {C:Env} {β:Emb} {g:HG} {w:World} {F:Fence} {n:Nat} {G:List Nat}
theorem eval_rel (hG:GRel G β) {x:Operand} (ok:opndOk G x=true) {a:Regs} {l:Array Value} {D:List Deferred} (ha:∀ t,x=.tmp t→VRel β (a.at_ t) (l.getD t undef)):VRel β (a.eval x) ((⟨l,D⟩:Act).eval x):=by
 cases x with
 | tmp t=>exact ha t rfl
 | const v=>exact plain_refl ok
 | global g =>
  obtain ⟨e,h1,h2,h3⟩:=hG g (by simpa [opndOk] using ok)
  have:=VRel.ptr (β:=β) g 0 e h1
  rw [h2,h3] at this
  exact this
 | func f=>exact .func _ _ _ _ _ rfl (fun i v v' h=>by simp at h) rfl (fun i v v' h=>by simp at h)
theorem Regs.at_set (a:Regs) (d:Tmp) (v:Value) (t:Tmp):Regs.at_ (Tr.set a d v) t=if t=d then v else a.at_ t:=by
 unfold Regs.at_
 rw [Tr.get_set]
 by_cases h:t=d <;> simp [h]
theorem ARel.put {m:Nat} {a:Regs} {l:Array Value} (ha:ARel β m a l) {d:Option Tmp} (hd:dstOk m d=true) {v v':Value} (hv:VRel β v v') {D:List Deferred} :
  ∃ l',(⟨l,D⟩:Act).put d v'=⟨l',D⟩∧ARel β m (a.put d v) l':=by
 cases d with
 | none=>exact ⟨l,rfl,ha⟩
 | some d =>
  refine ⟨l.setIfInBounds d v',rfl,by simpa using ha.1,fun t=>?_⟩
  simp only [Regs.put,Regs.at_set]
  have hlt:d < l.size:=Nat.lt_of_lt_of_le (by simpa [dstOk] using hd) ha.1
  by_cases h:t=d
  ·subst h
   simp [hlt,hv]
  ·have:=ha.2 t
   simp only [h,if_false]
   rw [Array.getD_eq_getD_getElem?,Array.getElem?_setIfInBounds] at *
   simpa [Ne.symm h] using this
theorem wanted_rel {opa:Array Oper} {o:Oper} {gt:Option (Tmp × Bool)} (hgt:gtOf opa o=some gt) {a:Regs} {l:Array Value} (ha:∀ t q,gt=some (t,q)→VRel β (a.at_ t) (l.getD t undef)) :
    Region.wanted o (yielded opa l)=wantT gt a:=by
  unfold gtOf at hgt
  split at hgt
  · rename_i hg
    cases hgt
    simp [Region.wanted,hg,wantT]
  · rename_i gg want hg
    rw [Option.map_eq_some_iff] at hgt
    obtain ⟨t,ht,rfl⟩:=hgt
    have hr:=ha t want rfl
    have hy:yielded opa l gg=(match l[t]? with | some (.bool b)=>some b | _=>none):=by
      simp only [yielded,ht,Option.bind_some]
      cases l[t]? with
      | none=>rfl
      | some v=>cases v <;> rfl
    simp only [Region.wanted,hg,wantT,hy]
    rw [Array.getD_eq_getD_getElem?] at hr
    cases hl:l[t]? with
    | none =>
      rw [hl] at hr
      simp only [Option.getD_none] at hr
      have:∀ b,a.at_ t≠.bool b:=fun b e=>by rw [e] at hr;cases hr
      cases hav:a.at_ t <;> simp_all
    | some v' =>
      rw [hl] at hr
      simp only [Option.getD_some] at hr
      cases hav:a.at_ t with
      | bool b =>
        rw [hav] at hr
        have:=bool_inv hr
        subst this
        cases b <;> cases want <;> rfl
      | _ =>
        rw [hav] at hr
        cases v' with
        | bool b=>cases hr
        | _=>rfl
inductive OpsFor (opa:Array Oper):List Nat→List TOper→Prop
 | nil:OpsFor opa [] []
 | cons (i:Nat) (o:Oper) (t:TOper) (is:List Nat) (ts:List TOper) (h1:opa[i]?=some o) (h2:t.op=o.op) (h3:t.type=o.type) (h4:t.dst=o.dst) (h5:gtOf opa o=some t.gt) (h6:opOk o.op=true)
   (hr:OpsFor opa is ts):OpsFor opa (i::is) (t::ts)
structure Wide (F:Fence):Prop where
 fn:∀ f,F.fn f
 depth:F.depth=none
theorem semAt_ok {o:Oper} (h:opOk o.op=true) (ro:Option Nat) (ρ:Operand→Value):Oper.semAt ro ρ o=execOp ρ o :=
 Oper.semAt_eq ro ρ o fun c e=>by rw [e] at h;cases h
theorem TStep.unlock {h h':TH} {l:List Nat} (t:TStep (h.withLock (l ++ h.lock)) h'):TStep h (h'.withLock h.lock) :=
 ⟨t.next,t.floor,rfl,t.dom,t.stay,fun b hb hn=>t.locked b (List.mem_append_right _ hb) hn,t.low⟩
theorem lockOf_app (ls:List Operand) (ρ:Operand→Value):∀ l,lockOf ls ρ l=lockOf ls ρ [] ++ l:=by
 induction ls with
 | nil=>intro l;rfl
 | cons x r ih =>
  intro l
  simp only [lockOf]
  split
  ·rw [ih l];rfl
  ·exact ih l
def stepL (stp:TOper→(Operand→Value)→TH→Option (Value × TH)) (o:TOper) (a:Regs) (h:TH):Option (Value × TH) :=
 match o.locks with
 | []=>stp o a.eval h
 | _::_=>(stp o a.eval (h.withLock (lockOf o.locks a.eval h.lock))).map fun (v,h')=>(v,h'.withLock h.lock)
theorem evOps_cons (stp:TOper→(Operand→Value)→TH→Option (Value × TH)) (o:TOper) (rest:List TOper) (a:Regs) (h:TH) :
  evOps stp (o::rest) a h=cond (wantT o.gt a) ((stepL stp o a h).bind fun (v,h')=>evOps stp rest (a.put o.dst v) h') (evOps stp rest (a.put o.dst undef) h):=by
 rw [evOps,stepL]
 cases hl:o.locks with
 | nil=>cases stp o a.eval h <;> rfl
 | cons x r=>cases stp o a.eval (h.withLock (lockOf (x::r) a.eval h.lock)) <;> rfl
theorem stepL_sim (hz:zerosPlain C.P) {call:Value→Array Value→TH→Option (Value × TH)} (hcall:CallOk C F n call) {o:TOper} {o':Oper} (ho:o'.op=o.op) (hty:o'.type=o.type) {a:Regs} {ρ':Operand→Value} {v:Value} {h h':TH}
  (hs:stepL (stepOp C.P call) o a h=some (v,h')) (hρ:∀ x,x ∈ o.op.operands→VRel β (a.eval x) (ρ' x)) (gd:Good C β h w) :
  TStep h h'∧UDoes C F n h.floor β h.get w ((execOp ρ' o').run C.P w) v h'.get:=by
 unfold stepL at hs
 split at hs
 ·exact step_sim hz hcall ho hty hs hρ gd
 ·rw [Option.map_eq_some_iff] at hs
  obtain ⟨⟨u,h2⟩,hs,heq⟩:=hs
  simp only [Prod.mk.injEq] at heq
  obtain ⟨rfl,rfl⟩:=heq
  obtain ⟨t,u⟩:=step_sim hz hcall ho hty hs hρ gd.lock
  rw [lockOf_app] at t
  exact ⟨t.unlock,u⟩
theorem stepL_tstep {P:Program} {call:Value→Array Value→TH→Option (Value × TH)} {o:TOper} {a:Regs} {v:Value} {h h':TH}
  (hstep:∀ ρ h v h',stepOp P call o ρ h=some (v,h')→TStep h h') (hs:stepL (stepOp P call) o a h=some (v,h')):TStep h h'∧∀ b,b ∈ lockOf o.locks a.eval []→b < h.next→h'.get b=h.get b:=by
 unfold stepL at hs
 split at hs
 ·rename_i hl;exact ⟨hstep _ _ _ _ hs,fun b hb=>by rw [hl] at hb;simp [lockOf] at hb⟩
 ·rw [Option.map_eq_some_iff] at hs
  obtain ⟨⟨u,h2⟩,hs,heq⟩:=hs
  simp only [Prod.mk.injEq] at heq
  obtain ⟨rfl,rfl⟩:=heq
  have t:=hstep _ _ _ _ hs
  rw [lockOf_app] at t
  exact ⟨t.unlock,fun b hb hn=>t.locked b (List.mem_append_left _ hb) hn⟩
theorem evOps_sim (hz:zerosPlain C.P) (hF:Wide F) {call:Value→Array Value→TH→Option (Value × TH)} (hcall:CallOk C F n call) {opa:Array Oper} {m:Nat} {D:List Deferred} {Q:Exit→Act→World→Prop} :
    ∀ {is:List Nat} {ops:List TOper},OpsFor opa is ops→ops.all (opReady C.G m)=true→∀ {a a':Regs} {h h':TH},evOps (stepOp C.P call) ops a h=some (a',h') →
      ∀ {β:Emb} {w:World} {l:Array Value},ARel β m a l→Good C β h w →
      (∀ l' w' β',ARel β' m a' l'→Step C h.floor β h.get w β' h'.get w'→Good C β' h' w'→Q .normal ⟨l',D⟩ w')→wpOpsIn F n C.P opa Q is ⟨l,D⟩ w:=by
  intro is ops hops
  induction hops with
  | nil =>
    intro _ a a' h h' hs β w l ha gd hQ
    simp only [evOps,Option.some.injEq,Prod.mk.injEq] at hs
    obtain ⟨rfl,rfl⟩:=hs
    exact hQ l w β ha (Step.refl gd.rel gd.inj) gd
  | cons i o t is ts h1 h2 h3 h4 h5 h6 hr ih =>
    intro hrdy a a' h h' hs β w l ha gd hQ
    simp only [List.all_cons,Bool.and_eq_true] at hrdy
    obtain ⟨hr1,hr2⟩:=hrdy
    simp only [opReady,Bool.and_eq_true] at hr1
    rw [evOps_cons] at hs
    simp only [wpOpsIn,h1]
    rw [wanted_rel h5 (fun t q _=>ha.2 t)]
    rcases cond_cases hs with ⟨hw,hs⟩ | ⟨hw,hs⟩
    · simp only [hw,if_true]
      rw [Option.bind_eq_some_iff] at hs
      obtain ⟨⟨v,h1'⟩,hst,hs⟩:=hs
      have hρ:∀ x,x ∈ t.op.operands→VRel β (a.eval x) ((⟨l,D⟩:Act).eval x):=fun x hx =>
        eval_rel gd.glob (List.all_eq_true.1 hr1.2 x (by simpa using hx)) (fun t _=>ha.2 t)
      obtain ⟨ts1,u⟩:=stepL_sim hz hcall h2.symm h3.symm hst hρ gd
      refine ⟨fun f _=>hF.fn f,?_⟩
      rw [semAt_ok h6]
      refine u o ⟨l,D⟩ _ Q fun v' w' β' hv s=>?_
      obtain ⟨l',e1,ha'⟩:=(ha.mono s.ext).put (d:=o.dst) (h4 ▸ hr1.1) hv (D:=D)
      rw [e1]
      rw [← h4] at ha'
      refine ih hr2 hs ha' (gd.step s ts1) fun l2 w2 β2 q1 q2 q3=>?_
      exact hQ l2 w2 β2 q1 (s.trans (by rw [← ts1.floor];exact q2)) q3
    · simp only [hw,Bool.false_eq_true,if_false]
      refine ⟨fun f _=>hF.fn f,?_⟩
      obtain ⟨l',e1,ha'⟩:=ha.put (d:=o.dst) (h4 ▸ hr1.1) VRel.undef (D:=D)
      rw [e1]
      rw [← h4] at ha'
      exact ih hr2 hs ha' gd hQ
end Go.Tidy
namespace Go.Tidy
open Go
theorem heapOp_pure {P:Program} {call:Value→Array Value→TH→Option (Value × TH)} {o:TOper} {ρ:Operand→Value} {v:Value} {h h':TH} (hk:kindOf o.op=.pure) (hs:heapOp P call o ρ h=some (v,h')):False:=by
 obtain ⟨dst,op,ty,gt,locks,idx⟩:=o
 simp only at hk
 unfold heapOp at hs
 cases op <;> simp [kindOf] at hk hs
 case convert s d x=>cases hb:Nat.beq s d <;> simp [hb] at hk
 case call c =>
  obtain ⟨callee,args,ts⟩:=c
  cases callee with
  | builtin b=>cases b <;> simp at hk hs
  | _=>simp at hk
theorem cellsAt_get {h:TH} {b off n:Nat} {l:List Value} (hc:cellsAt h b off n=some l):∃ y,h.get b=some y:=by
 unfold cellsAt at hc
 split at hc
 ·rename_i hg;exact ⟨_,hg⟩
 ·cases hc
theorem loadT_get {P:Program} {t:TypeId} {x v:Value} {h:TH} (hs:loadT P t x h=some v):∀ b,blockOf x=some b→∃ y,h.get b=some y:=by
 intro b hb
 unfold loadT at hs
 split at hs
 ·simp only [blockOf,Option.some.injEq] at hb
  subst hb
  rcases cond_cases hs with ⟨_,h1⟩ | ⟨_,h1⟩
  ·rw [Option.map_eq_some_iff] at h1;obtain ⟨l,h1,_⟩:=h1;exact cellsAt_get h1
  ·rw [Option.bind_eq_some_iff] at h1;obtain ⟨l,h1,_⟩:=h1;exact cellsAt_get h1
 ·cases hs
theorem sliceT_get {P:Program} {t:TypeId} {x v:Value} {lo hi mx:Option Value} {h:TH} (hs:sliceT P t x lo hi mx h=some v):∀ b,blockOf x=some b→∃ y,h.get b=some y:=by
 intro b hb
 unfold sliceT at hs
 split at hs
 ·obtain ⟨_,h1⟩:=cond_some hs
  rw [Option.bind_eq_some_iff] at h1
  obtain ⟨⟨l,hh,m⟩,_,h1⟩:=h1
  rw [Option.bind_eq_some_iff] at h1
  obtain ⟨i,_,h1⟩:=h1
  split at h1
  ·simp [blockOf] at hb
  ·simp only [blockOf,Option.some.injEq] at hb
   subst hb
   obtain ⟨h2,_⟩:=cond_some h1
   unfold elemFits at h2
   split at h2
   ·rename_i hg;exact ⟨_,hg⟩
   ·cases h2
  ·cases h1
 ·rw [Option.bind_eq_some_iff] at hs
  obtain ⟨⟨l,hh,m⟩,_,h1⟩:=hs
  rw [Option.bind_eq_some_iff] at h1
  obtain ⟨i,_,h1⟩:=h1
  simp only [blockOf,Option.some.injEq] at hb
  subst hb
  split at h1
  ·rename_i hg;exact ⟨_,hg⟩
  ·cases h1
 ·cases hs
theorem pointsAt_get {P:Program} {t:TypeId} {h:TH} {b off:Nat} (hp:pointsAt P t h b off=true):∃ y,h.get b=some y:=by
 obtain ⟨c,i,h1,_⟩:=pointsAt_some hp
 exact ⟨_,h1⟩
theorem convert_shape {P:Program} {s d:TypeId} (hne:s≠d) {x v:Value} {h h':TH} (hs:convertT P s d x h=some (v,h')) :
    (h'=h∨((∃ y,h'=h.new y)∧blockOf v=some h.next))∧∀ b,blockOf x=some b→∃ y,h.get b=some y:=by
  unfold convertT at hs
  split at hs
  · split at hs
    · obtain ⟨_,h1⟩:=cond_some hs
      simp only [Option.some.injEq,Prod.mk.injEq] at h1
      obtain ⟨rfl,rfl⟩:=h1
      exact ⟨.inl rfl,fun b hb=>by simp [blockOf] at hb⟩
    · cases hs
  · split at hs
    · obtain ⟨_,h1⟩:=cond_some hs
      simp only [newSlice,Option.some.injEq,Prod.mk.injEq] at h1
      obtain ⟨rfl,rfl⟩:=h1
      exact ⟨.inr ⟨⟨_,rfl⟩,rfl⟩,fun b hb=>by simp [blockOf] at hb⟩
    · cases hs
  · rename_i base len cp
    rcases cond_cases hs with ⟨hb,_⟩ | ⟨_,h1⟩
    · exact absurd (Nat.eq_of_beq_eq_true hb) hne
    · split at h1
      · obtain ⟨_,h2⟩:=cond_some h1
        split at h2
        · simp only [Option.some.injEq,Prod.mk.injEq] at h2
          obtain ⟨rfl,rfl⟩:=h2
          exact ⟨.inl rfl,fun b hb=>by simp [blockOf] at hb⟩
        · rw [Option.bind_eq_some_iff] at h2
          obtain ⟨cs,hcs,h2⟩:=h2
          rw [Option.map_eq_some_iff] at h2
          obtain ⟨l,_,heq⟩:=h2
          simp only [Prod.mk.injEq] at heq
          obtain ⟨rfl,rfl⟩:=heq
          refine ⟨.inl rfl,fun b hb=>?_⟩
          simp only [blockOf,Option.some.injEq] at hb
          subst hb
          exact cellsAt_get hcs
        · cases h2
      · cases h1
  · obtain ⟨h1,h2⟩:=cond_some hs
    simp only [Option.some.injEq,Prod.mk.injEq] at h2
    obtain ⟨rfl,rfl⟩:=h2
    refine ⟨.inl rfl,fun b hb=>?_⟩
    simp only [blockOf,Option.some.injEq] at hb
    subst hb
    unfold unsafeConv at h1
    split at h1
    · exact pointsAt_get h1
    · exact pointsAt_get h1
    · cases h1
  · cases hs
theorem buildSlice_shape {P:Program} {t:TypeId} {len:Nat} {ps:List (Nat × Value)} {h h':TH} {v:Value} (hs:buildSliceT P t len ps h=some (v,h')):(∃ y,h'=h.new y)∧blockOf v=some h.next:=by
 unfold buildSliceT at hs
 split at hs
 ·split at hs
  ·obtain ⟨_,h1⟩:=cond_some hs
   rw [Option.map_eq_some_iff] at h1
   obtain ⟨cs,_,heq⟩:=h1
   simp only [newSlice,Prod.mk.injEq] at heq
   obtain ⟨rfl,rfl⟩:=heq
   exact ⟨⟨_,rfl⟩,rfl⟩
  ·cases hs
 ·cases hs
theorem makeSlice_shape {P:Program} {t:TypeId} {l c:Value} {h h':TH} {v:Value} (hs:makeSliceT P t l c h=some (v,h')):(∃ y,h'=h.new y)∧blockOf v=some h.next:=by
 unfold makeSliceT at hs
 split at hs
 ·split at hs
  ·obtain ⟨_,h1⟩:=cond_some hs
   simp only [newSlice,Option.some.injEq,Prod.mk.injEq] at h1
   obtain ⟨rfl,rfl⟩:=h1
   exact ⟨⟨_,rfl⟩,rfl⟩
  ·cases hs
 ·cases hs
theorem heapOp_reads {P:Program} {call:Value→Array Value→TH→Option (Value × TH)} {o:TOper} {xs:List Operand} {nw:Bool} {ρ:Operand→Value} {v:Value} {h h':TH} (hk:kindOf o.op=.reads xs nw) (hs:heapOp P call o ρ h=some (v,h')) :
  (h'=h∨((∃ y,h'=h.new y)∧blockOf v=some h.next∧nw=true))∧∀ x b,x ∈ xs→blockOf (ρ x)=some b→∃ y,h.get b=some y:=by
 obtain ⟨dst,op,ty,gt,locks,idx⟩:=o
 simp only at hk
 unfold heapOp at hs
 cases op <;> simp only [kindOf,reduceCtorEq,Kind.reads.injEq] at hk
 case alloc t =>
  simp only at hs
  rw [Option.map_eq_some_iff] at hs
  obtain ⟨cs,_,heq⟩:=hs
  simp only [allocV,Prod.mk.injEq] at heq
  obtain ⟨rfl,rfl⟩:=heq
  obtain ⟨rfl,rfl⟩:=hk
  exact ⟨.inr ⟨⟨_,rfl⟩,rfl,rfl⟩,fun x b hx=>by cases hx⟩
 case box t x =>
  simp only [allocV,Option.some.injEq,Prod.mk.injEq] at hs
  obtain ⟨rfl,rfl⟩:=hs
  obtain ⟨rfl,rfl⟩:=hk
  exact ⟨.inr ⟨⟨_,rfl⟩,rfl,rfl⟩,fun x b hx=>by cases hx⟩
 case buildSlice t n ps =>
  obtain ⟨rfl,rfl⟩:=hk
  obtain ⟨h1,h2⟩:=buildSlice_shape hs
  exact ⟨.inr ⟨h1,h2,rfl⟩,fun x b hx=>by cases hx⟩
 case makeSlice t l c =>
  obtain ⟨rfl,rfl⟩:=hk
  obtain ⟨h1,h2⟩:=makeSlice_shape hs
  exact ⟨.inr ⟨h1,h2,rfl⟩,fun x b hx=>by cases hx⟩
 case load t x =>
  obtain ⟨rfl,rfl⟩:=hk
  simp only at hs
  rw [Option.map_eq_some_iff] at hs
  obtain ⟨u,hl,heq⟩:=hs
  simp only [Prod.mk.injEq] at heq
  obtain ⟨rfl,rfl⟩:=heq
  refine ⟨.inl rfl,fun y b hy hb=>?_⟩
  simp only [List.mem_singleton] at hy
  subst hy
  exact loadT_get hl b hb
 case slice t x lo hi mx =>
  obtain ⟨rfl,rfl⟩:=hk
  simp only at hs
  rw [Option.map_eq_some_iff] at hs
  obtain ⟨u,hl,heq⟩:=hs
  simp only [Prod.mk.injEq] at heq
  obtain ⟨rfl,rfl⟩:=heq
  refine ⟨.inl rfl,fun y b hy hb=>?_⟩
  simp only [List.mem_singleton] at hy
  subst hy
  exact sliceT_get hl b hb
 case convert s d x =>
  rcases cond_cases hk with ⟨_,hk⟩ | ⟨hne,hk⟩
  ·cases hk
  ·simp only [Kind.reads.injEq] at hk
   obtain ⟨rfl,rfl⟩:=hk
   obtain ⟨h1,h2⟩:=convert_shape (Nat.ne_of_beq_eq_false hne) hs
   refine ⟨h1.imp id fun ⟨p,q⟩=>⟨p,q,rfl⟩,fun y b hy hb=>?_⟩
   simp only [List.mem_singleton] at hy
   subst hy
   exact h2 b hb
 case call c =>
  obtain ⟨callee,args,ts⟩:=c
  cases callee with
  | builtin b=>cases b <;> simp at hk
  | _=>simp at hk
theorem convert_tstep {P:Program} {s d:TypeId} {x v:Value} {h h':TH} (hs:convertT P s d x h=some (v,h')):TStep h h':=by
  unfold convertT at hs
  split at hs
  · split at hs
    · obtain ⟨_,h1⟩:=cond_some hs
      simp only [Option.some.injEq,Prod.mk.injEq] at h1
      obtain ⟨rfl,rfl⟩:=h1
      exact TStep.refl _
    · cases hs
  · split at hs
    · obtain ⟨_,h1⟩:=cond_some hs
      simp only [newSlice,Option.some.injEq,Prod.mk.injEq] at h1
      obtain ⟨_,rfl⟩:=h1
      exact TStep.new _ _
    · cases hs
  · rcases cond_cases hs with ⟨hb,hs⟩ | ⟨hb,hs⟩
    · split at hs
      · obtain ⟨_,hs⟩:=cond_some hs
        split at hs
        · rename_i hgb
          rw [Option.map_eq_some_iff] at hs
          obtain ⟨h2,hput,heq⟩:=hs
          simp only [Prod.mk.injEq] at heq
          obtain ⟨_,rfl⟩:=heq
          exact TStep.put hput hgb
        · cases hs
      · cases hs
    · split at hs
      · obtain ⟨_,hs⟩:=cond_some hs
        split at hs
        · simp only [Option.some.injEq,Prod.mk.injEq] at hs
          obtain ⟨_,rfl⟩:=hs
          exact TStep.refl _
        · rw [Option.bind_eq_some_iff] at hs
          obtain ⟨_,_,hs⟩:=hs
          rw [Option.map_eq_some_iff] at hs
          obtain ⟨_,_,heq⟩:=hs
          simp only [Prod.mk.injEq] at heq
          obtain ⟨_,rfl⟩:=heq
          exact TStep.refl _
        · cases hs
      · cases hs
  · obtain ⟨_,h2⟩:=cond_some hs
    simp only [Option.some.injEq,Prod.mk.injEq] at h2
    obtain ⟨_,rfl⟩:=h2
    exact TStep.refl _
  · cases hs
theorem heapOp_tstep {P:Program} {call:Value→Array Value→TH→Option (Value × TH)} (hcall:∀ fv args h v h',call fv args h=some (v,h')→TStep h h') {o:TOper} {ρ:Operand→Value} {v:Value} {h h':TH}
    (hs:heapOp P call o ρ h=some (v,h')):TStep h h':=by
  cases hk:kindOf o.op with
  | pure=>exact (heapOp_pure hk hs).elim
  | reads xs nw =>
    rcases (heapOp_reads hk hs).1 with rfl | ⟨⟨y,rfl⟩,_⟩
    · exact TStep.refl _
    · exact TStep.new _ _
  | any =>
    obtain ⟨dst,op,ty,gt,locks,idx⟩:=o
    unfold heapOp at hs
    simp only at hs hk
    cases op <;> simp only [kindOf,reduceCtorEq] at hk
    case convert s d x =>
      exact convert_tstep hs
    case store t x y =>
      simp only at hs
      rw [Option.map_eq_some_iff] at hs
      obtain ⟨h2,hp,heq⟩:=hs
      simp only [Prod.mk.injEq] at heq
      obtain ⟨_,rfl⟩:=heq
      exact storeT_tstep hp
    case range t x =>
      unfold rangeT at hs
      simp only at hs
      split at hs
      · simp only [Option.some.injEq,Prod.mk.injEq] at hs
        obtain ⟨_,rfl⟩:=hs
        exact TStep.new _ _
      · cases hs
    case next x b=>exact next_tstep hs
    case makeMap t r=>exact makeMap_tstep hs
    case lookup t x k ok =>
      simp only at hs
      rw [Option.map_eq_some_iff] at hs
      obtain ⟨u,hc,heq⟩:=hs
      simp only [Prod.mk.injEq] at heq
      obtain ⟨_,rfl⟩:=heq
      exact TStep.refl h
    case mapUpdate t m k x =>
      simp only at hs
      rw [Option.map_eq_some_iff] at hs
      obtain ⟨h2,hp,heq⟩:=hs
      simp only [Prod.mk.injEq] at heq
      obtain ⟨_,rfl⟩:=heq
      exact mapUpdate_tstep hp
    case insert t m k x =>
      simp only at hs
      rw [Option.map_eq_some_iff] at hs
      obtain ⟨h2,hp,heq⟩:=hs
      simp only [Prod.mk.injEq] at heq
      obtain ⟨_,rfl⟩:=heq
      exact mapUpdate_tstep hp
    case call c =>
      obtain ⟨callee,args,ts⟩:=c
      cases callee with
      | invoke recv name =>
        simp only at hs
        split at hs
        · split at hs
          · exact hcall _ _ _ _ _ hs
          · cases hs
        · cases hs
      | value fv=>exact hcall _ _ _ _ _ hs
      | builtin b =>
        cases b <;> simp only at hs hk
        case append=>exact append_tstep hs
        case copy=>exact copy_tstep hs
        case cap =>
          rw [Option.map_eq_some_iff] at hs
          obtain ⟨u,hc,heq⟩:=hs
          simp only [Prod.mk.injEq] at heq
          obtain ⟨_,rfl⟩:=heq
          exact TStep.refl h
        case clear=>exact clear_tstep hs
        case unsafeSliceData =>
          rw [Option.map_eq_some_iff] at hs
          obtain ⟨u,hc,heq⟩:=hs
          simp only [Prod.mk.injEq] at heq
          obtain ⟨_,rfl⟩:=heq
          exact TStep.refl h
        case unsafeString=>exact unsafeString_tstep hs
        all_goals cases hs
    all_goals cases hs
theorem stepOp_tstep {P:Program} {call:Value→Array Value→TH→Option (Value × TH)} (hcall:∀ fv args h v h',call fv args h=some (v,h')→TStep h h') {o:TOper} {ρ:Operand→Value} {v:Value} {h h':TH}
  (hs:stepOp P call o ρ h=some (v,h')):TStep h h':=by
 rcases stepOp_cases hs with h1 | ⟨rfl,_⟩
 ·exact heapOp_tstep hcall h1
 ·exact TStep.refl _
end Go.Tidy
namespace Go.Tidy
open Go
variable {C:Env} {F:Fence} {n:Nat}
def readsT (o:TOper):List Tmp:=(o.op.operands.toList.filterMap fun | .tmp t=>some t | _=>none) ++ (match o.gt with | some (t,_)=>[t] | none=>[])
structure Ref (P:Program) (call:Value→Array Value→TH→Option (Value × TH)) (ops:List TOper) (A:Nat→Regs) (H:Nat→TH) (V:Nat→Value):Prop where
 step:∀ k o,ops[k]?=some o →
  ((wantT o.gt (A k)=true∧stepL (stepOp P call) o (A k) (H k)=some (V k,H (k+1)))∨(wantT o.gt (A k)=false∧V k=undef∧H (k+1)=H k))∧A (k+1)=(A k).put o.dst (V k)
theorem ref_of {P:Program} {call:Value→Array Value→TH→Option (Value × TH)}:∀ {ops:List TOper} {a a':Regs} {h h':TH},evOps (stepOp P call) ops a h=some (a',h') →
    ∃ A H V,Ref P call ops A H V∧A 0=a∧H 0=h∧A ops.length=a'∧H ops.length=h':=by
  intro ops
  induction ops with
  | nil =>
    intro a a' h h' hs
    simp only [evOps,Option.some.injEq,Prod.mk.injEq] at hs
    obtain ⟨rfl,rfl⟩:=hs
    exact ⟨fun _=>a,fun _=>h,fun _=>undef,⟨fun k o hk=>by simp at hk⟩,rfl,rfl,rfl,rfl⟩
  | cons o rest ih =>
    intro a a' h h' hs
    rw [evOps_cons] at hs
    have key:∀ v h1,((wantT o.gt a=true∧stepL (stepOp P call) o a h=some (v,h1))∨(wantT o.gt a=false∧v=undef∧h1=h))→evOps (stepOp P call) rest (a.put o.dst v) h1=some (a',h') →
        ∃ A H V,Ref P call (o::rest) A H V∧A 0=a∧H 0=h∧A (o::rest).length=a'∧H (o::rest).length=h':=by
      intro v h1 hst hs
      obtain ⟨A,H,V,r,e1,e2,e3,e4⟩:=ih hs
      refine ⟨fun | 0=>a | k+1=>A k,fun | 0=>h | k+1=>H k,fun | 0=>v | k+1=>V k,⟨fun k o' hk=>?_⟩,rfl,rfl,e3,e4⟩
      cases k with
      | zero =>
        simp only [List.getElem?_cons_zero,Option.some.injEq] at hk
        subst hk
        simp only [e1,e2]
        exact ⟨hst,trivial⟩
      | succ k=>exact r.step k o' (by simpa using hk)
    rcases cond_cases hs with ⟨hw,h1⟩ | ⟨hw,h1⟩
    · rw [Option.bind_eq_some_iff] at h1
      obtain ⟨⟨v,h2⟩,hst,h1⟩:=h1
      exact key v h2 (.inl ⟨hw,hst⟩) h1
    · exact key undef h (.inr ⟨hw,rfl,rfl⟩) h1
structure Pre (ops:List TOper) (pre:Nat→Nat→Prop):Prop where
 below:∀ k k',pre k' k→k' < k
 anyb:∀ (k k':Nat) (o o':TOper),ops[k]?=some o→ops[k']?=some o'→k' < k→kindOf o'.op=.any→kindOf o.op≠.pure→pre k' k
 rd:∀ (k:Nat) (o:TOper) (xs:List Operand) (nw:Bool) (k':Nat) (o':TOper) (t:Tmp),ops[k]?=some o→kindOf o.op=.reads xs nw→.tmp t ∈ xs→ops[k']?=some o'→o'.dst=some t→pre k' k
 two:∀ (k:Nat) (o:TOper) (k':Nat) (o':TOper) (t:Tmp),ops[k]?=some o→ops[k']?=some o'→t ∈ readsT o→o'.dst=some t→k'=k∨pre k' k∨pre k k'
 one:∀ (k:Nat) (o:TOper) (k':Nat) (o':TOper) (t:Tmp),ops[k]?=some o→ops[k']?=some o'→o.dst=some t→o'.dst=some t→k=k'
 lk:∀ (k:Nat) (o:TOper) (k':Nat) (o':TOper) (xs:List Operand) (nw:Bool),ops[k]?=some o→ops[k']?=some o'→kindOf o.op=.any→kindOf o'.op=.reads xs nw→k' < k→¬ pre k' k →
  (∀ x,x ∈ xs→x ∈ o.locks)∧(nw=true→∀ d,o'.dst=some d→.tmp d ∈ o.locks)
 nd:∀ (k:Nat) (o:TOper) (xs:List Operand),ops[k]?=some o→kindOf o.op=.reads xs true→∃ d,o.dst=some d
 nl:∀ (k:Nat) (o:TOper),ops[k]?=some o→kindOf o.op≠.any→o.locks=[]
section ref
variable {P:Program} {call:Value→Array Value→TH→Option (Value × TH)} {ops:List TOper} {A:Nat→Regs} {H:Nat→TH} {V:Nat→Value} {pre:Nat→Nat→Prop}
def CallT (call:Value→Array Value→TH→Option (Value × TH)):Prop:=∀ fv args h v h',call fv args h=some (v,h')→TStep h h'
theorem Ref.ts (r:Ref P call ops A H V) (hc:CallT call) {k:Nat} {o:TOper} (hk:ops[k]?=some o):TStep (H k) (H (k+1))∧∀ b,b ∈ lockOf o.locks (A k).eval []→b < (H k).next→wantT o.gt (A k)=true→(H (k+1)).get b=(H k).get b:=by
 rcases (r.step k o hk).1 with ⟨_,hs⟩ | ⟨hw,_,he⟩
 ·obtain ⟨t,l⟩:=stepL_tstep (fun ρ h v h'=>stepOp_tstep hc) hs
  exact ⟨t,fun b hb hn _=>l b hb hn⟩
 ·rw [he];exact ⟨TStep.refl _,fun b _ _ _=>rfl⟩
theorem Ref.locked (r:Ref P call ops A H V) (hc:CallT call) {k:Nat} {o:TOper} (hk:ops[k]?=some o) {b:Nat} (hb:b ∈ lockOf o.locks (A k).eval []) (hn:b < (H k).next):(H (k+1)).get b=(H k).get b:=by
 rcases (r.step k o hk).1 with ⟨hw,_⟩ | ⟨hw,_,he⟩
 ·exact (r.ts hc hk).2 b hb hn hw
 ·rw [he]
theorem getElem?_of_lt {α:Type} {l:List α} {k:Nat} (h:k < l.length):∃ o,l[k]?=some o:=⟨l[k],List.getElem?_eq_getElem h⟩
theorem Ref.tss (r:Ref P call ops A H V) (hc:CallT call) {k q:Nat} (hkq:k≤q) (hq:q≤ops.length):TStep (H k) (H q):=by
  induction q with
  | zero => have : k = 0 := by omega
            subst this;exact TStep.refl _
  | succ q ih =>
    by_cases h:k=q+1
    · subst h;exact TStep.refl _
    · obtain ⟨o,ho⟩:=getElem?_of_lt (l:=ops) (k:=q) (by omega)
      exact (ih (by omega) (by omega)).trans (r.ts hc ho).1
theorem Ref.wf (r:Ref P call ops A H V) (hc:CallT call) (h0:WF (H 0)) {k:Nat} (hk:k≤ops.length):WF (H k):=(r.tss hc (Nat.zero_le k) hk).wf h0
theorem Ref.at_old (r:Ref P call ops A H V) {t:Tmp} {k:Nat} (hk:k≤ops.length) (hw:∀ k' o',k' < k→ops[k']?=some o'→o'.dst≠some t):(A k).at_ t=(A 0).at_ t:=by
 induction k with
 | zero=>rfl
 | succ k ih =>
  obtain ⟨o,ho⟩:=getElem?_of_lt (l:=ops) (k:=k) (by omega)
  rw [(r.step k o ho).2]
  have hd:=hw k o (by omega) ho
  have ih':=ih (by omega) (fun k' o' h=>hw k' o' (by omega))
  cases hdd:o.dst with
  | none=>exact ih'
  | some d =>
   simp only [Regs.put,Regs.at_set]
   rw [if_neg (by intro e;subst e;exact hd hdd)]
   exact ih'
theorem Ref.at_new (r:Ref P call ops A H V) (hp:Pre ops pre) {t:Tmp} {k':Nat} {o':TOper} (ho:ops[k']?=some o') (hd:o'.dst=some t):∀ {k:Nat},k' < k→k≤ops.length→(A k).at_ t=V k':=by
  intro k
  induction k with
  | zero=>intro h;omega
  | succ k ih =>
    intro h1 h2
    obtain ⟨o,hk⟩:=getElem?_of_lt (l:=ops) (k:=k) (by omega)
    rw [(r.step k o hk).2]
    by_cases e:k'=k
    · subst e
      rw [ho] at hk;cases hk
      simp [hd,Regs.put,Regs.at_set]
    · have:=ih (by omega) (by omega)
      cases hdd:o.dst with
      | none=>exact this
      | some d =>
        simp only [Regs.put,Regs.at_set]
        rw [if_neg (by intro e';subst e';exact e (hp.one _ _ _ _ _ ho hk hd hdd))]
        exact this
theorem Ref.calm (r:Ref P call ops A H V) (hp:Pre ops pre) {k:Nat} {o:TOper} (hk:ops[k]?=some o) (ha:kindOf o.op≠.any) :
    H (k+1)=H k∨((∃ y,H (k+1)=(H k).new y)∧blockOf (V k)=some (H k).next∧∃ xs,kindOf o.op=.reads xs true):=by
  rcases (r.step k o hk).1 with ⟨_,hs⟩ | ⟨_,_,he⟩
  · unfold stepL at hs
    rw [hp.nl k o hk ha] at hs
    simp only at hs
    rcases stepOp_cases hs with h1 | ⟨h1,_⟩
    · cases hkd:kindOf o.op with
      | pure=>exact (heapOp_pure hkd h1).elim
      | any=>exact absurd hkd ha
      | reads xs nw =>
        rcases (heapOp_reads hkd h1).1 with h2 | ⟨h2,h3,h4⟩
        · exact .inl h2
        · subst h4;exact .inr ⟨h2,h3,xs,rfl⟩
    · exact .inl h1
  · exact .inl he
theorem Ref.calm_get (r:Ref P call ops A H V) (hp:Pre ops pre) {k:Nat} {o:TOper} (hk:ops[k]?=some o) (ha:kindOf o.op≠.any) {b:Nat} (hb:b < (H k).next):(H (k+1)).get b=(H k).get b:=by
 rcases r.calm hp hk ha with h | ⟨⟨y,h⟩,_⟩
 ·rw [h]
 ·rw [h,TH.get_new,HG.set_other _ _ (by omega)]
theorem Ref.stable (r:Ref P call ops A H V) (hc:CallT call) (hp:Pre ops pre) {b k:Nat}:∀ {p:Nat},k≤p→p≤ops.length→b < (H k).next →
    (∀ q o,k≤q→q < p→ops[q]?=some o→kindOf o.op=.any→b ∈ lockOf o.locks (A q).eval [])→(H p).get b=(H k).get b:=by
  intro p
  induction p with
  | zero => intro h1 _ _ _; have : k = 0 := by omega
            subst this;rfl
  | succ p ih =>
    intro h1 h2 hb hl
    by_cases e:k=p+1
    · subst e;rfl
    · obtain ⟨o,ho⟩:=getElem?_of_lt (l:=ops) (k:=p) (by omega)
      have ih':=ih (by omega) (by omega) hb (fun q o hq1 hq2=>hl q o hq1 (by omega))
      have hbp:b < (H p).next:=Nat.lt_of_lt_of_le hb (r.tss hc (by omega:k≤p) (by omega)).next
      rw [← ih']
      by_cases ha:kindOf o.op=.any
      · exact r.locked hc ho (hl p o (by omega) (by omega) ho ha) hbp
      · exact r.calm_get hp ho ha hbp
theorem lockOf_mem {ls:List Operand} {ρ:Operand→Value} {x:Operand} {b:Nat} (hx:x ∈ ls) (hb:blockOf (ρ x)=some b):b ∈ lockOf ls ρ []:=by
 induction ls with
 | nil=>cases hx
 | cons y r ih =>
  simp only [lockOf]
  rcases List.mem_cons.1 hx with rfl | h
  ·rw [hb];simp
  ·split
   ·exact List.mem_cons_of_mem _ (ih h)
   ·exact ih h
end ref
section drawn
open Classical
def Unb (ops:List TOper) (H:Nat→TH) (D:Nat→Prop) (p b:Nat):Prop :=
 ∃ k o,k < p∧ops[k]?=some o∧¬ D k∧kindOf o.op≠.any∧(H k).get b=none∧∃ y,(H (k+1)).get b=some y
noncomputable def hid (U:Nat→Prop) (g:HG):HG:=fun b=>if U b then none else g b
theorem hid_some {U:Nat→Prop} {g:HG} {b:Nat} {x:TB} (h:hid U g b=some x):¬ U b∧g b=some x:=by
 unfold hid at h
 by_cases hu:U b
 ·simp [hu] at h
 ·simp only [hu,if_false] at h;exact ⟨hu,h⟩
theorem hid_of {U:Nat→Prop} {g:HG} {b:Nat} (h:¬ U b):hid U g b=g b:=by simp [hid,h]
theorem hid_in {U:Nat→Prop} {g:HG} {b:Nat} (h:U b):hid U g b=none:=by simp [hid,h]
theorem hid_alive {U:Nat→Prop} {g:HG} {b:Nat} (h:alive (hid U g) b):¬ U b∧alive g b:=by
 obtain ⟨x,hx,hd⟩:=h
 obtain ⟨h1,h2⟩:=hid_some hx
 exact ⟨h1,x,h2,hd⟩
theorem hid_alive_of {U:Nat→Prop} {g:HG} {b:Nat} (hu:¬ U b) (h:alive g b):alive (hid U g) b:=by
 obtain ⟨x,hx,hd⟩:=h
 exact ⟨x,by rw [hid_of hu];exact hx,hd⟩
theorem HRel.unhide {β:Emb} {g:HG} {w:World} {U:Nat→Prop} (h:HRel C β (hid U g) w) (hu:∀ b,U b→β b=none):HRel C β g w:=fun b x e hg he=>by
 by_cases hub:U b
 ·rw [hu b hub] at he;cases he
 ·exact h b x e (by rw [hid_of hub];exact hg) he
theorem Inj.unhide {β:Emb} {g:HG} {U:Nat→Prop} (h:Inj β (hid U g)) (hu:∀ b,U b→β b=none):Inj β g:=fun b b' e e' ha ha' he he' heq=>by
 have hub:¬ U b:=fun q=>by rw [hu b q] at he;cases he
 have hub':¬ U b':=fun q=>by rw [hu b' q] at he';cases he'
 exact (h b b' e e' (hid_alive_of hub ha) (hid_alive_of hub' ha') he he' heq).imp id fun ⟨⟨y,s1,s2⟩,⟨y',s3,s4⟩⟩=>⟨⟨y,(hid_some s1).2,s2⟩,⟨y',(hid_some s3).2,s4⟩⟩
theorem Step.hide {f:Nat} {β β':Emb} {g g':HG} {w w':World} {U:Nat→Prop} (s:Step C f β g w β' g' w') (hu:∀ b,U b→β b=none∧∃ x,g b=some x):Step C f β (hid U g) w β' (hid U g') w' where
 ext:=s.ext
 born:=fun b e h=>by
  rcases s.born b e h with h1 | ⟨h1,h2,x,hx⟩
  ·exact .inl h1
  ·have hub:¬ U b:=fun q=>by obtain ⟨_,y,hy⟩:=hu b q;rw [h2] at hy;cases hy
   exact .inr ⟨h1,by rw [hid_of hub];exact h2,x,by rw [hid_of hub];exact hx⟩
 stay:=fun b x h=>by
  obtain ⟨h1,h2⟩:=hid_some h
  obtain ⟨x',hx'⟩:=s.stay b x h2
  exact ⟨x',by rw [hid_of h1];exact hx'⟩
 dead:=fun b x h ha=>by
  obtain ⟨h1,h2⟩:=hid_some h
  exact hid_alive_of h1 (s.dead b x h2 (hid_alive ha).2)
 rel:=fun b x e h he=>s.rel b x e (hid_some h).2 he
 inj:=fun b b' e e' ha ha' he he' hq=>(s.inj b b' e e' (hid_alive ha).2 (hid_alive ha').2 he he' hq).imp id fun ⟨⟨y,s1,s2⟩,⟨y',s3,s4⟩⟩=>⟨⟨y,by rw [hid_of (hid_alive ha).1];exact s1,s2⟩,⟨y',by rw [hid_of (hid_alive ha').1];exact s3,s4⟩⟩
 os:=s.os
 tape:=s.tape
 output:=s.output
 size:=s.size
 keep:=fun r hr hb=>s.keep r hr fun b e hf ha he=>hb b e hf (hid_alive_of (fun q=>by rw [(hu b q).1] at he;cases he) ha) he
 fresh:=fun b e hg ha he=>by
  obtain ⟨h1,h2⟩:=hid_alive ha
  rw [hid_of h1] at hg
  rcases s.fresh b e hg h2 he with h3 | ⟨b0,e0,k1,k2,k3,k4⟩
  ·exact .inl h3
  ·exact .inr ⟨b0,e0,k1,hid_alive_of (fun q=>by rw [(hu b0 q).1] at k3;cases k3) k2,k3,k4⟩
variable {call:Value→Array Value→TH→Option (Value × TH)} {ops:List TOper} {A:Nat→Regs} {H:Nat→TH} {V:Nat→Value} {pre:Nat→Nat→Prop}
structure DInv (C:Env) (ops:List TOper) (A:Nat→Regs) (H:Nat→TH) (V:Nat→Value) (m:Nat) (β0:Emb) (w0:World) (D:Nat→Prop) (p:Nat) (l:Array Value) (w:World) (β:Emb):Prop where
 le:p≤ops.length
 lo:∀ k o,k < p→ops[k]?=some o→kindOf o.op=.any→D k
 hi:∀ k o,p≤k→ops[k]?=some o→kindOf o.op≠.pure→¬ D k
 sz:m≤l.size
 r1:∀ k o t,D k→ops[k]?=some o→o.dst=some t→VRel β (V k) (l.getD t undef)
 r2:∀ t,(∀ k o,ops[k]?=some o→o.dst=some t→¬ D k)→VRel β ((A 0).at_ t) (l.getD t undef)
 step:Step C (H 0).floor β0 (H 0).get w0 β (hid (Unb ops H D p) (H p).get) w
 unb:∀ b,Unb ops H D p b→β b=none
 fr:∀ b,(H p).next≤b→β b=none
variable {m:Nat} {β0:Emb} {w0:World} {D:Nat→Prop} {p:Nat} {l:Array Value} {w:World} {β:Emb}
theorem DInv.advance (inv:DInv C ops A H V m β0 w0 D p l w β) (r:Ref C.P call ops A H V) (hc:CallT call) (hp:Pre ops pre) (h0:WF (H 0)) {o:TOper} (ho:ops[p]?=some o) (ha:kindOf o.op≠.any):DInv C ops A H V m β0 w0 D (p+1) l w β:=by
  have hlt:p < ops.length:=(List.getElem?_eq_some_iff.1 ho).1
  have hwf:=r.wf hc h0 (Nat.le_of_lt hlt)
  have hcalm:=r.calm hp ho ha
  have hunb:∀ b,Unb ops H D (p+1) b→Unb ops H D p b∨(H p).next≤b:=by
    rintro b ⟨k,o',hk,hko,hD,hka,hn,y,hy⟩
    by_cases e:k=p
    · subst e
      right
      rcases hcalm with h1 | ⟨⟨z,h1⟩,_⟩
      · rw [h1,hn] at hy;cases hy
      · rw [h1,TH.get_new] at hy
        by_cases hb:b=(H k).next
        · omega
        · rw [HG.set_other _ _ hb,hn] at hy;cases hy
    · exact .inl ⟨k,o',by omega,hko,hD,hka,hn,y,hy⟩
  have hmono:∀ b,Unb ops H D p b→Unb ops H D (p+1) b:=by
    rintro b ⟨k,o',hk,rest⟩
    exact ⟨k,o',by omega,rest⟩
  have hg : hid (Unb ops H D (p + 1)) (H (p + 1)).get = hid (Unb ops H D p) (H p).get := by
    funext b
    by_cases hu:Unb ops H D p b
    · rw [hid_in hu,hid_in (hmono b hu)]
    · rcases hcalm with h1 | ⟨⟨z,h1⟩,h2,xs,h3⟩
      · have:¬ Unb ops H D (p+1) b:=by
          rintro ⟨k,o',hk,hko,hD,hka,hn,y,hy⟩
          by_cases e:k=p
          · subst e;rw [h1,hn] at hy;cases hy
          · exact hu ⟨k,o',by omega,hko,hD,hka,hn,y,hy⟩
        rw [hid_of hu,hid_of this,h1]
      · have hDp:¬ D p:=inv.hi p o (Nat.le_refl _) ho (by rw [h3];intro h;cases h)
        by_cases hb:b=(H p).next
        · have hnone:(H p).get b=none:=hwf.none (by omega)
          have:Unb ops H D (p+1) b:=⟨p,o,by omega,ho,hDp,ha,hnone,z,by rw [h1,TH.get_new,hb,HG.set_same]⟩
          rw [hid_of hu,hid_in this,hnone]
        · have:¬ Unb ops H D (p+1) b:=by
            rintro ⟨k,o',hk,hko,hD,hka,hn,y,hy⟩
            by_cases e:k=p
            · subst e
              rw [h1,TH.get_new,HG.set_other _ _ hb,hn] at hy;cases hy
            · exact hu ⟨k,o',by omega,hko,hD,hka,hn,y,hy⟩
          rw [hid_of hu,hid_of this,h1,TH.get_new,HG.set_other _ _ hb]
  refine ⟨hlt,?_,fun k o' hk=>inv.hi k o' (by omega),inv.sz,inv.r1,inv.r2,by rw [hg];exact inv.step,fun b hb=>?_,fun b hb=>?_⟩
  · intro k o' hk hko hka
    by_cases e:k=p
    · subst e;rw [ho] at hko;cases hko;exact absurd hka ha
    · exact inv.lo k o' (by omega) hko hka
  · rcases hunb b hb with h | h
    · exact inv.unb b h
    · exact inv.fr b h
  · exact inv.fr b (Nat.le_trans (r.ts hc ho).1.next hb)
theorem DInv.advances (inv:DInv C ops A H V m β0 w0 D p l w β) (r:Ref C.P call ops A H V) (hc:CallT call) (hp:Pre ops pre) (h0:WF (H 0)):∀ {q:Nat},p≤q→q≤ops.length →
    (∀ k o,p≤k→k < q→ops[k]?=some o→kindOf o.op≠.any)→DInv C ops A H V m β0 w0 D q l w β:=by
  intro q
  induction q with
  | zero => intro h _ _; have : p = 0 := by omega
            subst this;exact inv
  | succ q ih =>
    intro h1 h2 h3
    by_cases e:p=q+1
    · subst e;exact inv
    · obtain ⟨o,ho⟩:=getElem?_of_lt (l:=ops) (k:=q) (by omega)
      exact (ih (by omega) (by omega) (fun k o hk hk2=>h3 k o hk (by omega))).advance r hc hp h0 ho (h3 q o (by omega) (by omega) ho)
theorem DInv.reads (inv:DInv C ops A H V m β0 w0 D p l w β) (r:Ref C.P call ops A H V) (hp:Pre ops pre) (hcl:∀ k k',D k→pre k' k→D k') {k:Nat} {o:TOper} (ho:ops[k]?=some o) (hD:¬ D k) (hpre:∀ k',pre k' k→D k') {t:Tmp} (ht:t ∈ readsT o) :
  VRel β ((A k).at_ t) (l.getD t undef):=by
 have hlt:k < ops.length:=(List.getElem?_eq_some_iff.1 ho).1
 by_cases hw:∃ (k':Nat) (o':TOper),ops[k']?=some o'∧o'.dst=some t
 ·obtain ⟨k',o',ho',hd⟩:=hw
  rcases hp.two k o k' o' t ho ho' ht hd with rfl | h1 | h1
  ·rw [r.at_old (Nat.le_of_lt hlt) (fun k2 o2 h2 h3 h4=>by have:=hp.one _ _ _ _ _ ho' h3 hd h4;omega)]
   refine inv.r2 t fun k2 o2 h3 h4 hD2=>?_
   have:=hp.one _ _ _ _ _ ho' h3 hd h4
   subst this
   exact hD hD2
  ·rw [r.at_new hp ho' hd (hp.below _ _ h1) (Nat.le_of_lt hlt)]
   exact inv.r1 k' o' t (hpre k' h1) ho' hd
  ·rw [r.at_old (Nat.le_of_lt hlt) (fun k2 o2 h2 h3 h4=>by have:=hp.one _ _ _ _ _ ho' h3 hd h4;have:=hp.below _ _ h1;omega)]
   refine inv.r2 t fun k2 o2 h3 h4 hD2=>?_
   have:=hp.one _ _ _ _ _ ho' h3 hd h4
   subst this
   exact hD (hcl _ _ hD2 h1)
 ·rw [r.at_old (Nat.le_of_lt hlt) (fun k2 o2 h2 h3 h4=>hw ⟨k2,o2,h3,h4⟩)]
  exact inv.r2 t fun k2 o2 h3 h4 _=>hw ⟨k2,o2,h3,h4⟩
end drawn
end Go.Tidy
namespace Go.Tidy
open Go
open Classical
variable {C:Env} {F:Fence} {n:Nat}
variable {call:Value→Array Value→TH→Option (Value × TH)} {ops:List TOper} {A:Nat→Regs} {H:Nat→TH} {V:Nat→Value} {pre:Nat→Nat→Prop}
variable {m:Nat} {β0:Emb} {w0:World} {D:Nat→Prop} {p k:Nat} {l:Array Value} {w:World} {β:Emb}
theorem put_getD {d:Option Tmp} (hd:dstOk m d=true) (hm:m≤l.size) (v':Value) (Dd:List Deferred) :
  ∃ l',(⟨l,Dd⟩:Act).put d v'=⟨l',Dd⟩∧l'.size=l.size∧∀ t,l'.getD t undef=if d=some t then v' else l.getD t undef:=by
 cases d with
 | none=>exact ⟨l,rfl,rfl,fun t=>by simp⟩
 | some d =>
  refine ⟨l.setIfInBounds d v',rfl,by simp,fun t=>?_⟩
  have hlt:d < l.size:=Nat.lt_of_lt_of_le (by simpa [dstOk] using hd) hm
  by_cases h:d=t
  ·subst h;simp [hlt]
  ·simp only [Option.some.injEq,h,if_false]
   rw [Array.getD_eq_getD_getElem?,Array.getD_eq_getD_getElem?,Array.getElem?_setIfInBounds]
   simp [h]
theorem DInv.regs (inv:DInv C ops A H V m β0 w0 D p l w β) (hp:Pre ops pre) {o:TOper} (ho:ops[k]?=some o) {β':Emb} (hx:Ext β β') {v':Value} (hv:VRel β' (V k) v') {l':Array Value}
  (hl:∀ t,l'.getD t undef=if o.dst=some t then v' else l.getD t undef) :
  (∀ q o t,(D q∨q=k)→ops[q]?=some o→o.dst=some t→VRel β' (V q) (l'.getD t undef)) ∧
  (∀ t,(∀ (q:Nat) (o:TOper),ops[q]?=some o→o.dst=some t→¬ (D q∨q=k))→VRel β' ((A 0).at_ t) (l'.getD t undef)):=by
 constructor
 ·intro q oq t hq hoq hd
  rw [hl]
  by_cases e:o.dst=some t
  ·have:=hp.one _ _ _ _ _ ho hoq e hd
   subst this
   rw [if_pos e];exact hv
  ·rw [if_neg e]
   rcases hq with hq | rfl
   ·exact (inv.r1 q oq t hq hoq hd).mono hx
   ·rw [ho] at hoq;cases hoq;exact absurd hd e
 ·intro t ht
  have e:o.dst≠some t:=fun e=>ht k o ho e (.inr rfl)
  rw [hl,if_neg e]
  exact (inv.r2 t fun q oq hoq hd hq=>ht q oq hoq hd (.inl hq)).mono hx
theorem Unb.more (hk:H (k+1)=H k) {b:Nat}:Unb ops H (fun q=>D q∨q=k) p b ↔ Unb ops H D p b:=by
 constructor
 ·rintro ⟨q,o,h1,h2,h3,h4⟩
  exact ⟨q,o,h1,h2,fun h=>h3 (.inl h),h4⟩
 ·rintro ⟨q,o,h1,h2,h3,h4,h5,y,h6⟩
  refine ⟨q,o,h1,h2,?_,h4,h5,y,h6⟩
  rintro (h | rfl)
  ·exact h3 h
  ·rw [hk,h5] at h6;cases h6
theorem DInv.still (inv:DInv C ops A H V m β0 w0 D p l w β) (hp:Pre ops pre) {o:TOper} (ho:ops[k]?=some o) (hk:H (k+1)=H k) (hkp:k < p∨kindOf o.op=.pure) {v':Value} (hv:VRel β (V k) v') {l':Array Value}
  (hl:∀ t,l'.getD t undef=if o.dst=some t then v' else l.getD t undef) (hsz:l'.size=l.size):DInv C ops A H V m β0 w0 (fun q=>D q∨q=k) p l' w β:=by
 obtain ⟨r1,r2⟩:=inv.regs hp ho (Ext.refl β) hv hl
 have hU:Unb ops H (fun q=>D q∨q=k) p=Unb ops H D p:=funext fun b=>propext (Unb.more hk)
 refine ⟨inv.le,fun q oq h1 h2 h3=>.inl (inv.lo q oq h1 h2 h3),?_,by rw [hsz];exact inv.sz,r1,r2,by rw [hU];exact inv.step,by rw [hU];exact inv.unb,inv.fr⟩
 rintro q oq h1 h2 h3 (h | rfl)
 ·exact inv.hi q oq h1 h2 h3 h
 ·rw [ho] at h2;cases h2
  rcases hkp with h | h
  ·omega
  ·exact h3 h
theorem DInv.over (inv:DInv C ops A H V m β0 w0 D p l w β) (hp:Pre ops pre) {o:TOper} (ho:ops[p]?=some o) (hk:H (p+1)=H p) (ha:kindOf o.op=.any) {v':Value} (hv:VRel β (V p) v') {l':Array Value}
  (hl:∀ t,l'.getD t undef=if o.dst=some t then v' else l.getD t undef) (hsz:l'.size=l.size):DInv C ops A H V m β0 w0 (fun q=>D q∨q=p) (p+1) l' w β:=by
 obtain ⟨r1,r2⟩:=inv.regs hp ho (Ext.refl β) hv hl
 have hU:Unb ops H (fun q=>D q∨q=p) (p+1)=Unb ops H D p:=by
  funext b
  apply propext
  constructor
  ·rintro ⟨q,oq,h1,h2,h3,h4,h5⟩
   have:q≠p:=fun e=>h3 (.inr e)
   exact ⟨q,oq,by omega,h2,fun h=>h3 (.inl h),h4,h5⟩
  ·rintro ⟨q,oq,h1,h2,h3,h4,h5⟩
   exact ⟨q,oq,by omega,h2,fun h=>h.elim h3 (by omega),h4,h5⟩
 refine ⟨(List.getElem?_eq_some_iff.1 ho).1,?_,?_,by rw [hsz];exact inv.sz,r1,r2,by rw [hU,hk];exact inv.step,by rw [hU];exact inv.unb,by rw [hk];exact inv.fr⟩
 ·intro q oq h1 h2 h3
  by_cases e:q=p
  ·exact .inr e
  ·exact .inl (inv.lo q oq (by omega) h2 h3)
 ·rintro q oq h1 h2 h3 (h | rfl)
  ·exact inv.hi q oq (by omega) h2 h3 h
  ·omega
theorem DInv.good (inv:DInv C ops A H V m β0 w0 D p l w β) (hwf:WF (H p)) (hG:GRel C.G β0) (hB:Base C (H p)):Good C β (H p) w :=
 ⟨inv.step.rel.unhide inv.unb,inv.step.inj.unhide inv.unb,hwf,inv.fr,hG.mono inv.step.ext,hB⟩
theorem Unb.old (r:Ref C.P call ops A H V) (hc:CallT call) (hle:p≤ops.length) {b:Nat} (h:Unb ops H D p b):∃ x,(H p).get b=some x:=by
 obtain ⟨q,o,h1,h2,h3,h4,h5,y,h6⟩:=h
 exact (r.tss hc (by omega:q+1≤p) hle).stay b y h6
theorem DInv.anyStep (inv:DInv C ops A H V m β0 w0 D p l w β) (hG:GRel C.G β0) (hB:Base C (H 0)) (r:Ref C.P call ops A H V) (hc:CallT call) (hp:Pre ops pre) (h0:WF (H 0)) {o:TOper} (ho:ops[p]?=some o) {β':Emb} {w':World} {v':Value} (hv:VRel β' (V p) v')
  (ha:kindOf o.op=.any) (s:Step C (H 0).floor β (H p).get w β' (H (p+1)).get w') {l':Array Value} (hl:∀ t,l'.getD t undef=if o.dst=some t then v' else l.getD t undef) (hsz:l'.size=l.size) :
  DInv C ops A H V m β0 w0 (fun q=>D q∨q=p) (p+1) l' w' β':=by
 obtain ⟨r1,r2⟩:=inv.regs hp ho s.ext hv hl
 have hlt:p < ops.length:=(List.getElem?_eq_some_iff.1 ho).1
 have hold:∀ b,Unb ops H D p b→∃ x,(H p).get b=some x:=fun b hb=>Unb.old r hc (Nat.le_of_lt hlt) hb
 have hU:Unb ops H (fun q=>D q∨q=p) (p+1)=Unb ops H D p:=by
  funext b
  apply propext
  constructor
  ·rintro ⟨q,oq,h1,h2,h3,h4,h5⟩
   have:q≠p:=fun e=>h3 (.inr e)
   exact ⟨q,oq,by omega,h2,fun h=>h3 (.inl h),h4,h5⟩
  ·rintro ⟨q,oq,h1,h2,h3,h4,h5⟩
   exact ⟨q,oq,by omega,h2,fun h=>h.elim h3 (by omega),h4,h5⟩
 have gd:=(inv.good (r.wf hc h0 (Nat.le_of_lt hlt)) hG ((r.tss hc (Nat.zero_le _) (Nat.le_of_lt hlt)).base h0 hB)).step s (r.ts hc ho).1
 refine ⟨hlt,?_,?_,by rw [hsz];exact inv.sz,r1,r2,?_,?_,gd.fr⟩
 ·intro q oq h1 h2 h3
  by_cases e:q=p
  ·exact .inr e
  ·exact .inl (inv.lo q oq (by omega) h2 h3)
 ·rintro q oq h1 h2 h3 (h | rfl)
  ·exact inv.hi q oq (by omega) h2 h3 h
  ·omega
 ·rw [hU]
  exact inv.step.trans (s.hide fun b hb=>⟨inv.unb b hb,hold b hb⟩)
 ·rw [hU]
  intro b hb
  cases hbe:β' b with
  | none=>rfl
  | some e =>
   rcases s.born b e hbe with h1 | ⟨_,h2,_⟩
   ·rw [inv.unb b hb] at h1;cases h1
   ·obtain ⟨x,hx⟩:=hold b hb;rw [h2] at hx;cases hx
theorem DInv.readStep (inv:DInv C ops A H V m β0 w0 D p l w β) (r:Ref C.P call ops A H V) (hc:CallT call) (hp:Pre ops pre) (h0:WF (H 0)) (hcl:∀ k k',D k→pre k' k→D k') {o:TOper} (ho:ops[k]?=some o) (hkp:k < p) (hD:¬ D k) {xs:List Operand} {nw:Bool}
    (hk:kindOf o.op=.reads xs nw) {sn:Sem Next} (hdoes:(∀ x b e,x ∈ xs→blockOf ((A k).eval x)=some b→β b=some e→hid (Unb ops H D p) (H p).get b=(H k).get b) →
      (H (k+1)=H k∨(hid (Unb ops H D p) (H p).get (H k).next=none∧β (H k).next=none)) →
      ∃ s:Sem Value,sn=(do pure (.value (← s)))∧RDoes C (H 0).floor β (hid (Unb ops H D p) (H p).get) w s (V k) (H k) (H (k+1)))
    (hgets:∀ x b,x ∈ xs→blockOf ((A k).eval x)=some b→∃ y,(H k).get b=some y) :
    ∃ v' w' β',sn.run C.P w=.ok (.value v') w'∧VRel β' (V k) v'∧∀ l',(∀ t,l'.getD t undef=if o.dst=some t then v' else l.getD t undef)→l'.size=l.size→DInv C ops A H V m β0 w0 (fun q=>D q∨q=k) p l' w' β':=by
  have hlt:k < ops.length:=(List.getElem?_eq_some_iff.1 ho).1
  have hwfk:=r.wf hc h0 (Nat.le_of_lt hlt)
  have hwfp:=r.wf hc h0 inv.le
  have hna:kindOf o.op≠.any:=by rw [hk];intro h;cases h
  -- writers on the way leave alone what is read here
  have hlk:∀ q oq,k≤q→q < p→ops[q]?=some oq→kindOf oq.op=.any→(∀ x,x ∈ xs→x ∈ oq.locks)∧(nw=true→∀ d,o.dst=some d→.tmp d ∈ oq.locks):=by
    intro q oq h1 h2 h3 h4
    have hne:q≠k:=by intro e;subst e;rw [ho] at h3;cases h3;exact hna h4
    refine hp.lk q oq k o xs nw h3 ho h4 hk (by omega) fun hpre=>hD ?_
    exact hcl _ _ (inv.lo q oq h2 h3 h4) hpre
  have hsame:∀ x,x ∈ xs→∀ q,k≤q→q≤ops.length→(A q).eval x=(A k).eval x:=by
    intro x hx q h1 h2
    cases x with
    | tmp t =>
      show (A q).at_ t=(A k).at_ t
      by_cases hw:∃ (k':Nat) (o':TOper),ops[k']?=some o'∧o'.dst=some t
      · obtain ⟨k',o',ho',hd⟩:=hw
        have hlt':=hp.below _ _ (hp.rd k o xs nw k' o' t ho hk hx ho' hd)
        rw [r.at_new hp ho' hd (by omega) h2,r.at_new hp ho' hd hlt' (Nat.le_of_lt hlt)]
      · rw [r.at_old h2 (fun k2 o2 _ h3 h4=>hw ⟨k2,o2,h3,h4⟩),r.at_old (Nat.le_of_lt hlt) (fun k2 o2 _ h3 h4=>hw ⟨k2,o2,h3,h4⟩)]
    | _=>rfl
  have hread:∀ x b e,x ∈ xs→blockOf ((A k).eval x)=some b→β b=some e→hid (Unb ops H D p) (H p).get b=(H k).get b:=by
    intro x b e hx hb he
    obtain ⟨y,hy⟩:=hgets x b hx hb
    have hnu:¬ Unb ops H D p b:=fun hu=>by rw [inv.unb b hu] at he;cases he
    rw [hid_of hnu]
    refine r.stable hc hp (Nat.le_of_lt hkp) inv.le (hwfk b y hy) fun q oq h1 h2 h3 h4=>?_
    refine lockOf_mem ((hlk q oq h1 h2 h3 h4).1 x hx) ?_
    rw [hsame x hx q h1 (by have:=inv.le;omega)]
    exact hb
  have hunbk:∀ y,H (k+1)=(H k).new y→Unb ops H D p (H k).next:=fun y hy =>
    ⟨k,o,hkp,ho,hD,hna,hwfk.none (Nat.le_refl _),y,by rw [hy,TH.get_new,HG.set_same]⟩
  have hfree:H (k+1)=H k∨(hid (Unb ops H D p) (H p).get (H k).next=none∧β (H k).next=none):=by
    rcases r.calm hp ho hna with h | ⟨⟨y,hy⟩,_⟩
    · exact .inl h
    · exact .inr ⟨hid_in (hunbk y hy),inv.unb _ (hunbk y hy)⟩
  obtain ⟨s,rfl,v',w',β',g',q1,q2,q3,q4⟩:=hdoes hread hfree
  refine ⟨v',w',β',by simp [q1],q2,fun l' hl hsz=>?_⟩
  obtain ⟨r1,r2⟩:=inv.regs hp ho q3.ext q2 hl
  have hlo:∀ q oq,q < p→ops[q]?=some oq→kindOf oq.op=.any→(D q∨q=k):=fun q oq h1 h2 h3=>.inl (inv.lo q oq h1 h2 h3)
  have hhi:∀ q oq,p≤q→ops[q]?=some oq→kindOf oq.op≠.pure→¬ (D q∨q=k):=by
    rintro q oq h1 h2 h3 (h | rfl)
    · exact inv.hi q oq h1 h2 h3 h
    · omega
  rcases q4 with ⟨e1,rfl⟩ | ⟨x,e1,rfl⟩
  · have hU:Unb ops H (fun q=>D q∨q=k) p=Unb ops H D p:=funext fun b=>propext (Unb.more e1)
    have hold:∀ b e,β' b=some e→β b=some e:=fun b e hb=>by
      rcases q3.born b e hb with h1 | ⟨_,h2,y,h3⟩
      · exact h1
      · rw [h2] at h3;cases h3
    have hnone:∀ b,β b=none→β' b=none:=fun b hb=>by
      cases hbe:β' b with
      | none=>rfl
      | some e=>rw [hold b e hbe] at hb;cases hb
    refine ⟨inv.le,hlo,hhi,by rw [hsz];exact inv.sz,r1,r2,by rw [hU];exact inv.step.trans q3,?_,fun b hb=>hnone b (inv.fr b hb)⟩
    rw [hU];exact fun b hb=>hnone b (inv.unb b hb)
  · -- the new block
    have hb0:=hunbk x e1
    obtain ⟨hbv,hnw⟩:blockOf (V k)=some (H k).next∧nw=true:=by
      rcases r.calm hp ho hna with h | ⟨_,h,ys,h2⟩
      · rw [e1] at h
        have:=congrArg TH.next h
        simp [TH.new] at this
      · rw [hk] at h2;cases h2;exact ⟨h,rfl⟩
    obtain ⟨d,hd⟩:=hp.nd k o xs ho (by rw [hk,hnw])
    have hkeep:(H p).get (H k).next=some x:=by
      have hst:(H p).get (H k).next=(H (k+1)).get (H k).next:=by
        refine r.stable hc hp (by omega:k+1≤p) inv.le (by rw [e1];exact Nat.lt_succ_self _) fun q oq h1 h2 h3 h4=>?_
        refine lockOf_mem ((hlk q oq (by omega) h2 h3 h4).2 hnw d hd) ?_
        show blockOf ((A q).at_ d)=_
        rw [r.at_new hp ho hd (by omega) (by have:=inv.le;omega)]
        exact hbv
      rw [hst,e1,TH.get_new,HG.set_same]
    have hU:∀ b,Unb ops H (fun q=>D q∨q=k) p b ↔ (Unb ops H D p b∧b≠(H k).next):=by
      intro b
      constructor
      · rintro ⟨q,oq,h1,h2,h3,h4,h5,y,h6⟩
        refine ⟨⟨q,oq,h1,h2,fun h=>h3 (.inl h),h4,h5,y,h6⟩,?_⟩
        intro e
        subst e
        have hqk:q≠k:=fun e=>h3 (.inr e)
        rcases Nat.lt_or_ge q k with h | h
        · obtain ⟨z,hz⟩:=(r.tss hc (by omega:q+1≤k) (by omega)).stay _ y h6
          rw [hwfk.none (Nat.le_refl _)] at hz;cases hz
        · obtain ⟨z,hz⟩:=(r.tss hc (by omega:k+1≤q) (by have:=inv.le;omega)).stay (H k).next x (by rw [e1,TH.get_new,HG.set_same])
          rw [h5] at hz;cases hz
      · rintro ⟨⟨q,oq,h1,h2,h3,h4,h5,y,h6⟩,hne⟩
        refine ⟨q,oq,h1,h2,?_,h4,h5,y,h6⟩
        rintro (h | rfl)
        · exact h3 h
        · rw [e1,TH.get_new,HG.set_other _ _ hne,h5] at h6;cases h6
    have hg:hid (Unb ops H (fun q=>D q∨q=k) p) (H p).get=HG.set (hid (Unb ops H D p) (H p).get) (H k).next x:=by
      funext b
      by_cases hb:b=(H k).next
      · subst hb
        rw [HG.set_same,hid_of (fun h=>((hU _).1 h).2 rfl),hkeep]
      · rw [HG.set_other _ _ hb]
        by_cases hu:Unb ops H D p b
        · rw [hid_in hu,hid_in ((hU b).2 ⟨hu,hb⟩)]
        · rw [hid_of hu,hid_of (fun h=>hu ((hU b).1 h).1)]
    have hnone:∀ b,β b=none→b≠(H k).next→β' b=none:=fun b hb hne=>by
      cases hbe:β' b with
      | none=>rfl
      | some e =>
        rcases q3.born b e hbe with h1 | ⟨_,h2,y,h3⟩
        · rw [hb] at h1;cases h1
        · rw [HG.set_other _ _ hne,h2] at h3;cases h3
    have hnext:(H k).next < (H p).next:=by
      have:=(r.tss hc (by omega:k+1≤p) inv.le).next
      rw [e1] at this
      exact Nat.lt_of_lt_of_le (Nat.lt_succ_self _) this
    refine ⟨inv.le,hlo,hhi,by rw [hsz];exact inv.sz,r1,r2,by rw [hg];exact inv.step.trans q3,fun b hb=>?_,fun b hb=>hnone b (inv.fr b hb) (by omega)⟩
    obtain ⟨h1,h2⟩:=(hU b).1 hb
    exact hnone b (inv.unb b h1) h2
theorem mem_readsT {o:TOper} {t:Tmp} (h:Operand.tmp t ∈ o.op.operands):t ∈ readsT o :=
 List.mem_append_left _ (List.mem_filterMap.2 ⟨.tmp t,by simpa using h,rfl⟩)
theorem drawn_step (hz:zerosPlain C.P) (hF:Wide F) (hcall:CallOk C F n call) (r:Ref C.P call ops A H V) (hp:Pre ops pre) (h0:WF (H 0)) (hG:GRel C.G β0) (hB:Base C (H 0)) {opa:Array Oper} {i:Nat} {o:TOper} {o':Oper}
    (q1:opa[i]?=some o') (q2:o.op=o'.op) (q3:o.type=o'.type) (q4:o.dst=o'.dst) (q5:gtOf opa o'=some o.gt) (q6:opOk o'.op=true) (rdy:opReady C.G m o=true)
    (inv:DInv C ops A H V m β0 w0 D p l w β) (hcl:∀ k k',D k→pre k' k→D k') (ho:ops[k]?=some o) (hD:¬ D k) (hpre:∀ k',pre k' k→D k') {K:Act→World→Prop} {Q:Exit→Act→World→Prop} {Dd:List Deferred}
    (hK:∀ l' w' β' p',DInv C ops A H V m β0 w0 (fun q=>D q∨q=k) p' l' w' β'→K ⟨l',Dd⟩ w'):wpOpIn F n C.P opa Q i K ⟨l,Dd⟩ w:=by
  have hc:CallT call:=fun fv args h v h' hs=>(hcall fv args h v h' hs).1
  have hlt:k < ops.length:=(List.getElem?_eq_some_iff.1 ho).1
  simp only [opReady,Bool.and_eq_true] at rdy
  have hread:∀ t,t ∈ readsT o→VRel β ((A k).at_ t) (l.getD t undef):=fun t ht=>inv.reads r hp hcl ho hD hpre ht
  have hGβ:GRel C.G β:=hG.mono inv.step.ext
  have hρ:∀ x,x ∈ o.op.operands→VRel β ((A k).eval x) ((⟨l,Dd⟩:Act).eval x):=fun x hx =>
    eval_rel hGβ (List.all_eq_true.1 rdy.2 x (by simpa using hx)) fun t e=>hread t (mem_readsT (e ▸ hx))
  have hwant:Region.wanted o' (yielded opa l)=wantT o.gt (A k):=wanted_rel q5 fun t q e=>hread t (List.mem_append_right _ (by rw [e];simp))
  -- the reference is brought to this operation
  obtain ⟨p1,inv1,hp1⟩:∃ p1,DInv C ops A H V m β0 w0 D p1 l w β∧((kindOf o.op=.pure)∨(kindOf o.op=.any∧p1=k)∨(kindOf o.op≠.any∧k < p1)):=by
    have hcalm:kindOf o.op≠.pure→∀ q oq,p≤q→q < k→ops[q]?=some oq→kindOf oq.op≠.any:=fun hnp q oq h1 h2 h3 h4 =>
      inv.hi q oq h1 h3 (by rw [h4];intro h;cases h) (hpre q (hp.anyb k q o oq ho h3 h2 h4 hnp))
    cases hk:kindOf o.op with
    | pure=>exact ⟨p,inv,.inl rfl⟩
    | any =>
      have hnp:kindOf o.op≠.pure:=by rw [hk];intro h;cases h
      have hpk:p≤k:=by
        rcases Nat.lt_or_ge k p with h | h
        · exact absurd (inv.lo k o h ho hk) hD
        · exact h
      exact ⟨k,inv.advances r hc hp h0 hpk (Nat.le_of_lt hlt) (hcalm hnp),.inr (.inl ⟨rfl,rfl⟩)⟩
    | reads xs nw =>
      have hnp:kindOf o.op≠.pure:=by rw [hk];intro h;cases h
      have hna:kindOf o.op≠.any:=by rw [hk];intro h;cases h
      rcases Nat.lt_or_ge k p with h | h
      · exact ⟨p,inv,.inr (.inr ⟨(by intro h;cases h),h⟩)⟩
      · refine ⟨k+1,inv.advances r hc hp h0 (by omega) hlt fun q oq h1 h2 h3=>?_,.inr (.inr ⟨(by intro h;cases h),Nat.lt_succ_self k⟩)⟩
        by_cases e:q=k
        · subst e;rw [ho] at h3;cases h3;exact hna
        · exact hcalm hnp q oq h1 (by omega) h3
  unfold wpOpIn
  simp only [q1,hwant]
  rcases (r.step k o ho).1 with ⟨hw,hs⟩ | ⟨hw,hv,hh⟩
  · simp only [hw,if_true]
    refine ⟨fun f _=>hF.fn f,?_⟩
    rw [semAt_ok q6]
    -- values alone
    have early:H (k+1)=H k→(fastOp o.op (A k).eval=some (V k)∨valueOp C.P o (A k).eval=some (V k)∨plainOp C.P o (A k).eval=some (V k))→(kindOf o.op=.pure∨(kindOf o.op≠.any∧k < p1)) →
        o'.uponIn F n C.P ⟨l,Dd⟩ K Q ((execOp (⟨l,Dd⟩:Act).eval o').run C.P w):=by
      intro hh he hkk
      obtain ⟨v',e1,e2⟩:=early_sim hz q2.symm q3.symm he hρ
      rw [e2 w]
      obtain ⟨l',f1,f2,f3⟩:=put_getD (d:=o.dst) rdy.1 inv1.sz v' Dd
      show K ((⟨l,Dd⟩:Act).put o'.dst v') w
      rw [← q4,f1]
      exact hK _ _ _ _ (inv1.still hp ho hh (hkk.elim .inr fun h=>.inl h.2) e1 f3 f2)
    rcases hp1 with hk | ⟨hk,rfl⟩ | ⟨hk,hkp⟩
    · have hna:kindOf o.op≠.any:=by rw [hk];intro h;cases h
      unfold stepL at hs
      rw [hp.nl k o ho hna] at hs
      rcases stepOp_cases hs with h1 | ⟨h1,h2⟩
      · exact (heapOp_pure hk h1).elim
      · exact early h1 h2 (.inl hk)
    · obtain ⟨t,u⟩:=stepL_sim hz hcall q2.symm q3.symm hs hρ (inv1.good (r.wf hc h0 (Nat.le_of_lt hlt)) hG ((r.tss hc (Nat.zero_le _) (Nat.le_of_lt hlt)).base h0 hB))
      refine u o' ⟨l,Dd⟩ K Q fun v' w' β' g1 g2=>?_
      obtain ⟨l',f1,f2,f3⟩:=put_getD (d:=o.dst) rdy.1 inv1.sz v' Dd
      rw [← q4,f1]
      rw [(r.tss hc (Nat.zero_le _) (Nat.le_of_lt hlt)).floor] at g2
      exact hK _ _ _ _ (inv1.anyStep hG hB r hc hp h0 ho g1 hk g2 f3 f2)
    · cases hkd:kindOf o.op with
      | any=>exact absurd hkd hk
      | pure =>
        unfold stepL at hs
        rw [hp.nl k o ho hk] at hs
        rcases stepOp_cases hs with h1 | ⟨h1,h2⟩
        · exact (heapOp_pure hkd h1).elim
        · exact early h1 h2 (.inl hkd)
      | reads xs nw =>
        unfold stepL at hs
        rw [hp.nl k o ho hk] at hs
        rcases stepOp_cases hs with h1 | ⟨h1,h2⟩
        · obtain ⟨v',w',β',e2,e3,e4⟩:=inv1.readStep (sn:=execOp (⟨l,Dd⟩:Act).eval o') r hc hp h0 hcl ho hkp hD hkd
            (fun a b=>reads_sim (f:=(H 0).floor) (w:=w) hz q2.symm hkd h1 hρ a inv1.step.rel inv1.step.inj b) (heapOp_reads hkd h1).2
          obtain ⟨l',f1,f2,f3⟩:=put_getD (d:=o.dst) rdy.1 inv1.sz v' Dd
          rw [e2]
          show K ((⟨l,Dd⟩:Act).put o'.dst v') w'
          rw [← q4,f1]
          exact hK _ _ _ _ (e4 l' f3 f2)
        · exact early h1 h2 (.inr ⟨hk,hkp⟩)
  · simp only [hw,Bool.false_eq_true,if_false]
    refine ⟨fun f _=>hF.fn f,?_⟩
    obtain ⟨l',f1,f2,f3⟩:=put_getD (d:=o.dst) rdy.1 inv1.sz undef Dd
    rw [← q4,f1]
    have hvr:VRel β (V k) undef:=by rw [hv];exact .undef
    rcases hp1 with hk | ⟨hk,rfl⟩ | ⟨hk,hkp⟩
    · exact hK _ _ _ _ (inv1.still hp ho hh (.inr hk) hvr f3 f2)
    · exact hK _ _ _ _ (inv1.over hp ho hh hk hvr f3 f2)
    · exact hK _ _ _ _ (inv1.still hp ho hh (.inl hkp) hvr f3 f2)
end Go.Tidy
namespace Go.Tidy
open Go
theorem mem_take_rev {l:List Nat} {k j:Nat} {bef:List Nat}:j ∈ (l.take k).reverse ++ bef ↔ (∃ k',k' < k∧l[k']?=some j)∨j ∈ bef:=by
 rw [List.mem_append,List.mem_reverse]
 refine or_congr_left ?_
 constructor
 ·intro h
  obtain ⟨k',h1⟩:=List.mem_iff_getElem?.1 h
  rw [List.getElem?_take] at h1
  split at h1
  ·exact ⟨k',by assumption,h1⟩
  ·cases h1
 ·rintro ⟨k',h1,h2⟩
  exact List.mem_iff_getElem?.2 ⟨k',by rw [List.getElem?_take,if_pos h1];exact h2⟩
theorem take_succ_rev {x:Nat} {r:List Nat} {k:Nat} (bef:List Nat):((x::r).take (k+1)).reverse ++ bef=(r.take k).reverse ++ (x::bef):=by simp
theorem mkOps_spec {opa:Array Oper} {ops:List Oper} {S:List (List Nat)} {draw:Bool}:∀ {l bef:List Nat} {ts:List TOper},mkOps opa ops S draw bef l=some ts →
  ts.length=l.length∧∀ (k i:Nat),l[k]?=some i→∃ gt,gtOf opa (ops.getD i default)=some gt∧opOk (ops.getD i default).op=true ∧
   ts[k]?=some (TOper.mk (ops.getD i default).dst (ops.getD i default).op (ops.getD i default).type gt (cond (draw && isAny (ops.getD i default)) (locksOf ops S i ((l.take k).reverse ++ bef)) []) i):=by
 intro l
 induction l with
 | nil =>
  intro bef ts h
  simp only [mkOps,Option.some.injEq] at h
  subst h
  exact ⟨rfl,fun k i hk=>by simp at hk⟩
 | cons x r ih =>
  intro bef ts h
  simp only [mkOps] at h
  rw [Option.bind_eq_some_iff] at h
  obtain ⟨gt,hgt,h⟩:=h
  obtain ⟨ho,h1⟩:=cond_some h
  clear h
  have h:=h1
  clear h1
  rw [Option.map_eq_some_iff] at h
  obtain ⟨l',hl',rfl⟩:=h
  obtain ⟨h1,h2⟩:=ih hl'
  refine ⟨by simp [h1],fun k i hk=>?_⟩
  cases k with
  | zero =>
   simp only [List.getElem?_cons_zero,Option.some.injEq] at hk
   subst hk
   exact ⟨gt,hgt,ho,by simp⟩
  | succ k =>
   obtain ⟨gt',q1,q2,q3⟩:=h2 k i (by simpa using hk)
   refine ⟨gt',q1,q2,?_⟩
   rw [take_succ_rev]
   simpa using q3
theorem orderOk_spec {ops:List Oper} {S:List (List Nat)} {dsts:List (Option Tmp)}:∀ {l bef:List Nat},orderOk ops S dsts bef l=true→∀ k i,l[k]?=some i →
    (∀ j,j ∈ S.getD i []→j ∈ (l.take k).reverse ++ bef)∧i ∉ (l.take k).reverse ++ bef∧i < ops.length ∧
    (match kindOf (ops.getD i default).op with
     | .pure=>True
     | .reads xs _=>(∀ j,j ∈ (l.take k).reverse ++ bef→isAny (ops.getD j default)=true→j ∈ S.getD i [])∧∀ x,x ∈ xs→readBefore S dsts i x=true
     | .any=>∀ j,j ∈ (l.take k).reverse ++ bef→isAny (ops.getD j default)=true→j ∈ S.getD i []):=by
  intro l
  induction l with
  | nil=>intro bef _ k i hk;simp at hk
  | cons x r ih =>
    intro bef h k i hk
    simp only [orderOk,Bool.and_eq_true] at h
    obtain ⟨⟨⟨h1,h2⟩,h3⟩,h4⟩:=h
    cases k with
    | zero =>
      simp only [List.getElem?_cons_zero,Option.some.injEq] at hk
      subst hk
      simp only [List.take_zero,List.reverse_nil,List.nil_append]
      refine ⟨fun j hj=>?_,?_,by simpa using h2.2,?_⟩
      · simpa using List.all_eq_true.1 h1 j hj
      · have:=h2.1;simpa using this
      · cases hkd:kindOf (ops.getD x default).op with
        | pure=>trivial
        | reads xs nw =>
          simp only [hkd,Bool.and_eq_true] at h3
          refine ⟨fun j hj ha=>?_,fun y hy=>List.all_eq_true.1 h3.2 y hy⟩
          have:=List.all_eq_true.1 h3.1 j hj
          rw [ha] at this
          simpa using this
        | any =>
          simp only [hkd] at h3
          intro j hj ha
          have:=List.all_eq_true.1 h3 j hj
          rw [ha] at this
          simpa using this
    | succ k =>
      rw [take_succ_rev]
      exact ih h4 k i (by simpa using hk)
theorem dstsOk_spec:∀ {l:List (Option Tmp)},dstsOk l=true→∀ (j j':Nat) (t:Tmp),l[j]?=some (some t)→l[j']?=some (some t)→j=j':=by
  intro l
  induction l with
  | nil=>intro _ j j' t h;simp at h
  | cons x r ih =>
    intro h j j' t hj hj'
    cases x with
    | none =>
      simp only [dstsOk] at h
      cases j with
      | zero=>simp at hj
      | succ j=>cases j' with
        | zero=>simp at hj'
        | succ j'=>rw [ih h j j' t (by simpa using hj) (by simpa using hj')]
    | some u =>
      simp only [dstsOk,Bool.and_eq_true] at h
      have hnot:some u ∉ r:=by simpa using h.1
      cases j with
      | zero =>
        cases j' with
        | zero=>rfl
        | succ j' =>
          simp only [List.getElem?_cons_zero,Option.some.injEq] at hj
          subst hj
          exact absurd (List.mem_of_getElem? (by simpa using hj')) hnot
      | succ j =>
        cases j' with
        | zero =>
          simp only [List.getElem?_cons_zero,Option.some.injEq] at hj'
          subst hj'
          exact absurd (List.mem_of_getElem? (by simpa using hj)) hnot
        | succ j'=>rw [ih h.2 j j' t (by simpa using hj) (by simpa using hj')]
theorem edgesOk_spec:∀ {l:List Oper} {b:Nat},edgesOk b l=true→∀ k o,l[k]?=some o→∀ j,j ∈ direct o→j < b+k:=by
 intro l
 induction l with
 | nil=>intro b _ k o h;simp at h
 | cons x r ih =>
  intro b h k o hk j hj
  simp only [edgesOk,Bool.and_eq_true] at h
  cases k with
  | zero =>
   simp only [List.getElem?_cons_zero,Option.some.injEq] at hk
   subst hk
   have:=List.all_eq_true.1 h.1 j hj
   simpa using this
  | succ k =>
   have:=ih h.2 k o (by simpa using hk) j hj
   omega
theorem covered_spec {S:List (List Nat)}:∀ {l:List Oper} {b:Nat},covered S b l=true→∀ k o,l[k]?=some o→∀ j,j ∈ S.getD (b+k) []→∃ d,d ∈ direct o∧(d=j∨j ∈ S.getD d []):=by
 intro l
 induction l with
 | nil=>intro b _ k o h;simp at h
 | cons x r ih =>
  intro b h k o hk j hj
  simp only [covered,Bool.and_eq_true] at h
  cases k with
  | zero =>
   simp only [List.getElem?_cons_zero,Option.some.injEq] at hk
   subst hk
   have h1:=List.all_eq_true.1 h.1 j (by simpa using hj)
   obtain ⟨d,hd,h2⟩:=List.any_eq_true.1 h1
   simp only [Bool.and_eq_true,Bool.or_eq_true] at h2
   refine ⟨d,hd,?_⟩
   rcases h2.2 with h3 | h3
   ·exact .inl (Nat.eq_of_beq_eq_true h3)
   ·exact .inr (by simpa using h3)
  | succ k =>
   exact ih h.2 k o (by simpa using hk) j (by rwa [show b+1+k=b+(k+1) by omega])
theorem isAny_iff {o:Oper}:isAny o=true ↔ kindOf o.op=.any:=by
 unfold isAny
 cases kindOf o.op <;> simp
theorem locksOf_mem {ops:List Oper} {S:List (List Nat)} {q:Nat}:∀ {bef:List Nat} {i:Nat} {xs:List Operand} {nw:Bool},i ∈ bef→i ∉ S.getD q []→kindOf (ops.getD i default).op=.reads xs nw →
    (∀ x,x ∈ xs→x ∈ locksOf ops S q bef)∧(nw=true→∀ d,(ops.getD i default).dst=some d→.tmp d ∈ locksOf ops S q bef):=by
  intro bef
  induction bef with
  | nil=>intro i xs nw h;cases h
  | cons y r ih =>
    intro i xs nw hi hn hk
    simp only [locksOf]
    by_cases e:i=y
    · subst e
      have:(S.getD q []).contains i=false:=by simpa using hn
      rw [this]
      simp only [cond,hk]
      refine ⟨fun x hx=>List.mem_append_right _ (List.mem_append_left _ hx),fun hnw d hd=>?_⟩
      subst hnw
      rw [hd]
      simp
    · obtain ⟨h1,h2⟩:=ih (by rcases List.mem_cons.1 hi with h | h;exact absurd h e;exact h) hn hk
      have key:∀ z,z ∈ locksOf ops S q r→z ∈ (cond ((S.getD q []).contains y) (locksOf ops S q r)
          (match kindOf (ops.getD y default).op with
           | .reads xs new=>(cond new (match (ops.getD y default).dst with | some d=>[.tmp d] | none=>[]) []) ++ (xs ++ locksOf ops S q r)
           | _=>locksOf ops S q r)):=by
        intro z hz
        cases (S.getD q []).contains y with
        | true=>exact hz
        | false =>
          simp only [cond]
          cases kindOf (ops.getD y default).op with
          | reads xs nw=>exact List.mem_append_right _ (List.mem_append_right _ hz)
          | pure=>exact hz
          | any=>exact hz
      exact ⟨fun x hx=>key _ (h1 x hx),fun hnw d hd=>key _ (h2 hnw d hd)⟩
def preOf (S:List (List Nat)) (ord:List Nat) (k' k:Nat):Prop:=∃ i i',ord[k]?=some i∧ord[k']?=some i'∧i' ∈ S.getD i []
structure Found (opa:Array Oper) (S:List (List Nat)) (ord:List Nat) (ts:List TOper):Prop where
 len:ts.length=ord.length
 at_:∀ (k i:Nat),ord[k]?=some i→∃ o t,opa[i]?=some o∧ts[k]?=some t∧t.op=o.op∧t.type=o.type∧t.dst=o.dst∧gtOf opa o=some t.gt∧opOk o.op=true
 inj:∀ (k k' i:Nat),ord[k]?=some i→ord[k']?=some i→k=k'
 all:∀ i,i < opa.size→∃ k:Nat,ord[k]?=some i
 cov:∀ i o,opa[i]?=some o→∀ j,j ∈ S.getD i []→∃ d,d ∈ direct o∧(d=j∨j ∈ S.getD d [])
 edges:∀ i o,opa[i]?=some o→∀ j,j ∈ direct o→j < i
 pre:Pre ts (preOf S ord)
theorem found_of {opa:Array Oper} {ts:List TOper} (h:regOps opa true=some ts):∃ S ord,Found opa S ord ts:=by
  have h':cond (regOk opa opa.toList (reach opa.toList []) (opa.toList.map (·.dst)) (order opa.toList (reach opa.toList []) opa.toList.length []))
      (mkOps opa opa.toList (reach opa.toList []) true [] (order opa.toList (reach opa.toList []) opa.toList.length [])) none=some ts:=h
  generalize reach opa.toList []=S at h'
  generalize order opa.toList S opa.toList.length []=ord at h'
  obtain ⟨hok,hmk⟩:=cond_some h'
  clear h h'
  refine ⟨S,ord,?_⟩
  simp only [regOk,Bool.and_eq_true] at hok
  obtain ⟨hall,hcov,hdst,hord,hrd,hedge,hnm⟩:=hok
  obtain ⟨hlen,hat⟩:=mkOps_spec hmk
  have hO:=orderOk_spec hord
  have hinj:∀ (k k' i:Nat),ord[k]?=some i→ord[k']?=some i→k=k':=by
    intro k k' i h1 h2
    rcases Nat.lt_trichotomy k k' with h | h | h
    · exact absurd (mem_take_rev.2 (.inl ⟨k,h,h1⟩)) (hO k' i h2).2.1
    · exact h
    · exact absurd (mem_take_rev.2 (.inl ⟨k',h,h2⟩)) (hO k i h1).2.1
  have hget:∀ i o,opa[i]?=some o→opa.toList.getD i default=o:=fun i o ho=>by
    rw [List.getD_eq_getElem?_getD,Array.getElem?_toList,ho];rfl
  have hA:∀ (k i:Nat),ord[k]?=some i→∃ o t,opa[i]?=some o∧ts[k]?=some t∧t.op=o.op∧t.type=o.type∧t.dst=o.dst∧gtOf opa o=some t.gt∧opOk o.op=true ∧
      t.locks=cond (isAny o) (locksOf opa.toList S i ((ord.take k).reverse ++ [])) []:=by
    intro k i hk
    have hlt:i < opa.size:=by simpa using (hO k i hk).2.2.1
    obtain ⟨gt,q1,q2,q3⟩:=hat k i hk
    have ho:opa[i]?=some opa[i]:=Array.getElem?_eq_getElem hlt
    rw [hget i _ ho] at q1 q2 q3
    exact ⟨opa[i],_,ho,q3,rfl,rfl,rfl,q1,q2,by simp⟩
  have hback:∀ (k:Nat) (t:TOper),ts[k]?=some t→∃ i o,ord[k]?=some i∧opa[i]?=some o∧t.op=o.op∧t.dst=o.dst∧gtOf opa o=some t.gt∧t.locks=cond (isAny o) (locksOf opa.toList S i ((ord.take k).reverse ++ [])) []:=by
    intro k t hk
    have hlt:k < ord.length:=by rw [← hlen];exact (List.getElem?_eq_some_iff.1 hk).1
    have hi:ord[k]?=some ord[k]:=List.getElem?_eq_getElem hlt
    obtain ⟨o,t',q1,q2,q3,q4,q5,q6,q7,q8⟩:=hA k _ hi
    rw [hk] at q2;cases q2
    exact ⟨_,o,hi,q1,q3,q5,q6,q8⟩
  have hbef:∀ k j,j ∈ (ord.take k).reverse ++ [] ↔ ∃ k',k' < k∧ord[k']?=some j:=fun k j=>by
    rw [mem_take_rev];simp
  have hdd:∀ i o,opa[i]?=some o→(opa.toList.map (·.dst)).getD i none=o.dst:=fun i o ho=>by
    rw [List.getD_eq_getElem?_getD,List.getElem?_map,Array.getElem?_toList,ho];rfl
  have hdl:∀ i o,opa[i]?=some o→i ∈ List.range (opa.toList.map (·.dst)).length:=fun i o ho=>by
    have:=(Array.getElem?_eq_some_iff.1 ho).1
    simpa using this
  refine ⟨hlen,?_,hinj,?_,?_,?_,?_⟩
  · intro k i hk
    obtain ⟨o,t,q1,q2,q3,q4,q5,q6,q7,_⟩:=hA k i hk
    exact ⟨o,t,q1,q2,q3,q4,q5,q6,q7⟩
  · intro i hi
    have:=List.all_eq_true.1 hall i (by simpa using hi)
    exact List.mem_iff_getElem?.1 (by simpa using this)
  · intro i o ho j hj
    exact covered_spec hcov i o (by rw [Array.getElem?_toList];exact ho) j (by simpa using hj)
  · intro i o ho j hj
    have:=edgesOk_spec hedge i o (by rw [Array.getElem?_toList];exact ho) j hj
    omega
  · refine ⟨?_,?_,?_,?_,?_,?_,?_,?_⟩
    · rintro k k' ⟨i,i',h1,h2,h3⟩
      obtain ⟨k'',h4,h5⟩:=(hbef k i').1 ((hO k i h1).1 i' h3)
      rw [hinj k' k'' i' h2 h5];exact h4
    · intro k k' o o' ho ho' hlt ha hnp
      obtain ⟨i,u,q1,q2,q3,_⟩:=hback k o ho
      obtain ⟨i',u',p1,p2,p3,_⟩:=hback k' o' ho'
      refine ⟨i,i',q1,p1,?_⟩
      have hm:=(hO k i q1).2.2.2
      have hb:i' ∈ (ord.take k).reverse ++ []:=(hbef k i').2 ⟨k',hlt,p1⟩
      have hany:isAny (opa.toList.getD i' default)=true:=by rw [hget i' u' p2,isAny_iff,← p3];exact ha
      rw [hget i u q2,← q3] at hm
      cases hk:kindOf o.op with
      | pure=>exact absurd hk hnp
      | reads xs nw=>rw [hk] at hm;exact hm.1 i' hb hany
      | any=>rw [hk] at hm;exact hm i' hb hany
    · intro k o xs nw k' o' t ho hk hx ho' hd
      obtain ⟨i,u,q1,q2,q3,_⟩:=hback k o ho
      obtain ⟨i',u',p1,p2,p3,p4,_⟩:=hback k' o' ho'
      refine ⟨i,i',q1,p1,?_⟩
      have hm:=(hO k i q1).2.2.2
      rw [hget i u q2,← q3,hk] at hm
      have h1:=hm.2 _ hx
      simp only [readBefore] at h1
      have h2:=List.all_eq_true.1 h1 i' (hdl i' u' p2)
      rw [hdd i' u' p2,← p4,hd] at h2
      simpa using h2
    · intro k o k' o' t ho ho' ht hd
      obtain ⟨i,u,q1,q2,q3,q4,q5,_⟩:=hback k o ho
      obtain ⟨i',u',p1,p2,p3,p4,_⟩:=hback k' o' ho'
      have hz:(u,i) ∈ opa.toList.zipIdx:=by
        rw [List.mem_zipIdx_iff_getElem?]
        simpa using q2
      have h1:=List.all_eq_true.1 hrd (u,i) hz
      simp only [q5] at h1
      have h2:=List.all_eq_true.1 h1 t (by
        unfold readsT at ht
        unfold readsOf
        rw [← q3]
        exact ht)
      have h3:=List.all_eq_true.1 h2 i' (hdl i' u' p2)
      rw [hdd i' u' p2,← p4,hd] at h3
      simp only [bne_self_eq_false,Bool.or_false,Bool.or_eq_true] at h3
      rcases h3 with (h3 | h3) | h3
      · have:=Nat.eq_of_beq_eq_true h3
        subst this
        exact .inl (hinj _ _ _ p1 q1)
      · exact .inr (.inl ⟨i,i',q1,p1,by simpa using h3⟩)
      · exact .inr (.inr ⟨i',i,p1,q1,by simpa using h3⟩)
    · intro k o k' o' t ho ho' hd hd'
      obtain ⟨i,u,q1,q2,q3,q4,_⟩:=hback k o ho
      obtain ⟨i',u',p1,p2,p3,p4,_⟩:=hback k' o' ho'
      have:i=i':=dstsOk_spec hdst i i' t (by rw [List.getElem?_map,Array.getElem?_toList,q2,← hd,q4];rfl) (by rw [List.getElem?_map,Array.getElem?_toList,p2,← hd',p4];rfl)
      subst this
      exact hinj _ _ _ q1 p1
    · intro k o k' o' xs nw ho ho' ha hk hlt hnp
      obtain ⟨i,u,q1,q2,q3,q4,q5,q6⟩:=hback k o ho
      obtain ⟨i',u',p1,p2,p3,p4,p5,p6⟩:=hback k' o' ho'
      have hany:isAny u=true:=by rw [isAny_iff,← q3];exact ha
      rw [q6,hany]
      have:=locksOf_mem (ops:=opa.toList) (S:=S) (q:=i) (i:=i') (xs:=xs) (nw:=nw) ((hbef k i').2 ⟨k',hlt,p1⟩) (fun hc=>hnp ⟨i,i',q1,p1,hc⟩) (by rw [hget i' u' p2,← p3];exact hk)
      rw [hget i' u' p2,← p4] at this
      exact this
    · intro k o xs ho hk
      obtain ⟨i,u,q1,q2,q3,q4,_⟩:=hback k o ho
      have:=List.all_eq_true.1 hnm u (by simpa using Array.mem_of_getElem? q2)
      simp only [namedOk,← q3,hk,← q4] at this
      exact Option.isSome_iff_exists.1 this
    · intro k o ho hk
      obtain ⟨i,u,q1,q2,q3,q4,q5,q6⟩:=hback k o ho
      have:isAny u=false:=by
        cases h:isAny u with
        | false=>rfl
        | true=>rw [isAny_iff,← q3] at h;exact absurd h hk
      rw [q6,this]
      rfl
end Go.Tidy
namespace Go.Tidy
open Go
variable {C:Env} {F:Fence} {n:Nat} {call:Value→Array Value→TH→Option (Value × TH)}
theorem ready_mem {opa:Array Oper} {lst:Array Bool} {i:Nat} (h:i ∈ Region.ready .any opa lst):i < opa.size∧lst.getD i true=false∧∀ o,opa[i]?=some o→∀ j,j ∈ direct o→lst.getD j false=true:=by
 unfold Region.ready at h
 rw [List.mem_filter] at h
 obtain ⟨h1,h2⟩:=h
 simp only [Bool.and_eq_true] at h2
 refine ⟨by simpa using h1,by simpa using h2.1,fun o ho j hj=>?_⟩
 have h3:=h2.2
 rw [ho] at h3
 simp only [Option.map_some,Option.getD_some] at h3
 unfold direct at hj
 rw [List.mem_map] at hj
 obtain ⟨e,he,rfl⟩:=hj
 rw [List.mem_filter] at he
 have h4:=Array.all_eq_true_iff_forall_mem.1 h3 e (by simpa using he.1)
 rw [he.2] at h4
 simpa using h4
theorem mem_ready {opa:Array Oper} {lst:Array Bool} {i:Nat} {o:Oper} (ho:opa[i]?=some o) (h1:lst.getD i true=false) (h2:∀ j,j ∈ direct o→lst.getD j false=true):i ∈ Region.ready .any opa lst:=by
 unfold Region.ready
 rw [List.mem_filter]
 have hlt:=(Array.getElem?_eq_some_iff.1 ho).1
 refine ⟨by simpa using hlt,?_⟩
 rw [ho,h1]
 simp only [Bool.not_false,Bool.true_and,Option.map_some,Option.getD_some]
 refine Array.all_eq_true_iff_forall_mem.2 fun e he=>?_
 cases hb:Region.binds .any e with
 | false=>rfl
 | true =>
  have:=h2 e.on (by
   unfold direct
   exact List.mem_map.2 ⟨e,List.mem_filter.2 ⟨by simpa using he,hb⟩,rfl⟩)
  simp [this]
theorem Step.drawn {f:Nat} {β:Emb} {g:HG} {w:World} (rel:HRel C β g w) (inj:Inj β g) (k:Nat):Step C f β g w β g { w with drawn:=k } :=
 ⟨Ext.refl β,fun _ _ h=>.inl h,fun _ x h=>⟨x,h⟩,fun _ _ _ h=>h,fun b x e h1 h2=>(rel b x e h1 h2).world fun _=>rfl,inj,rfl,rfl,rfl,Nat.le_refl _,fun _ _ _=>rfl,fun b e h ⟨x,hx,_⟩ _=>by rw [h] at hx;cases hx⟩
theorem drawn_all (hz:zerosPlain C.P) (hF:Wide F) (hcall:CallOk C F n call) {opa:Array Oper} {S:List (List Nat)} {ord:List Nat} {ops:List TOper} (fd:Found opa S ord ops) {m:Nat} (rdy:ops.all (opReady C.G m)=true)
    {A:Nat→Regs} {H:Nat→TH} {V:Nat→Value} (r:Ref C.P call ops A H V) (h0:WF (H 0)) {β0:Emb} {w0:World} (hG:GRel C.G β0) (hB:Base C (H 0)) {Dd:List Deferred} {Q:Exit→Act→World→Prop}
    (hQ:∀ l w β,(∀ t,VRel β ((A ops.length).at_ t) (l.getD t undef))→m≤l.size→Step C (H 0).floor β0 (H 0).get w0 β (H ops.length).get w→Good C β (H ops.length) w→Q .normal ⟨l,Dd⟩ w) :
    ∀ (fuel:Nat) (lst:Array Bool) (p:Nat) (l:Array Value) (w:World) (β:Emb),lst.size=opa.size→lst.toList.count false≤fuel →
      (∀ i j,lst.getD i false=true→j ∈ S.getD i []→lst.getD j false=true) →
      DInv C ops A H V m β0 w0 (fun k=>∃ i,ord[k]?=some i∧lst.getD i false=true) p l w β→wpAnyIn F n C.P .any opa Q fuel lst ⟨l,Dd⟩ w:=by
  have hc:CallT call:=fun fv args h v h' hs=>(hcall fv args h v h' hs).1
  intro fuel
  have hend:∀ (lst:Array Bool) (p:Nat) (l:Array Value) (w:World) (β:Emb),lst.size=opa.size→Region.ready .any opa lst=[] →
      DInv C ops A H V m β0 w0 (fun k=>∃ i,ord[k]?=some i∧lst.getD i false=true) p l w β→Q .normal ⟨l,Dd⟩ w:=by
    intro lst p l w β hsz hr inv
    have hall:∀ i,i < opa.size→lst.getD i false=true:=by
      intro i
      induction i using Nat.strongRecOn with
      | _ i ih =>
        intro hi
        have ho:opa[i]?=some opa[i]:=Array.getElem?_eq_getElem hi
        cases hb:lst.getD i true with
        | true =>
          rw [Array.getD_eq_getD_getElem?,Array.getElem?_eq_getElem (by omega)] at hb ⊢
          exact hb
        | false =>
          have:=mem_ready ho hb (fun j hj=>ih j (fd.edges i _ ho j hj) (by have:=fd.edges i _ ho j hj;omega))
          rw [hr] at this
          cases this
    have hD:∀ (k:Nat) (o:TOper),ops[k]?=some o→∃ i,ord[k]?=some i∧lst.getD i false=true:=by
      intro k o hk
      have hlt:k < ord.length:=by rw [← fd.len];exact (List.getElem?_eq_some_iff.1 hk).1
      have hi:ord[k]?=some ord[k]:=List.getElem?_eq_getElem hlt
      obtain ⟨o',t,q1,_⟩:=fd.at_ k _ hi
      exact ⟨_,hi,hall _ (Array.getElem?_eq_some_iff.1 q1).1⟩
    have inv1:=inv.advances r hc fd.pre h0 inv.le (Nat.le_refl _) (fun k o h1 _ h2 h3=>inv.hi k o h1 h2 (by rw [h3];intro h;cases h) (hD k o h2))
    have hU:∀ b,¬ Unb ops H (fun k=>∃ i,ord[k]?=some i∧lst.getD i false=true) ops.length b:=by
      rintro b ⟨k,o,_,h2,h3,_⟩
      exact h3 (hD k o h2)
    have hg:hid (Unb ops H (fun k=>∃ i,ord[k]?=some i∧lst.getD i false=true) ops.length) (H ops.length).get=(H ops.length).get:=funext fun b=>hid_of (hU b)
    have hst:=inv1.step
    rw [hg] at hst
    refine hQ l w β (fun t=>?_) inv.sz hst (inv1.good (r.wf hc h0 (Nat.le_refl _)) hG ((r.tss hc (Nat.zero_le _) (Nat.le_refl _)).base h0 hB))
    by_cases hw:∃ (k:Nat) (o:TOper),ops[k]?=some o∧o.dst=some t
    · obtain ⟨k,o,h1,h2⟩:=hw
      rw [r.at_new fd.pre h1 h2 (List.getElem?_eq_some_iff.1 h1).1 (Nat.le_refl _)]
      exact inv.r1 k o t (hD k o h1) h1 h2
    · rw [r.at_old (Nat.le_refl _) (fun k o _ h1 h2=>hw ⟨k,o,h1,h2⟩)]
      exact inv.r2 t fun k o h1 h2 _=>hw ⟨k,o,h1,h2⟩
  induction fuel with
  | zero =>
    intro lst p l w β hsz hcnt hcl inv
    have hr:Region.ready .any opa lst=[]:=by
      apply List.eq_nil_iff_forall_not_mem.2
      intro i hi
      obtain ⟨h1,h2,_⟩:=ready_mem hi
      have h3:lst.toList.count false=0:=by omega
      rw [List.count_eq_zero] at h3
      apply h3
      rw [Array.getD_eq_getD_getElem?,Array.getElem?_eq_getElem (by omega)] at h2
      simp only [Option.getD_some] at h2
      rw [← h2]
      simp
    exact ⟨hr,hend lst p l w β hsz hr inv⟩
  | succ fuel ih =>
    intro lst p l w β hsz hcnt hcl inv
    refine ⟨fun hr=>hend lst p l w β hsz hr inv,fun i hi=>?_⟩
    obtain ⟨h1,h2,h3⟩:=ready_mem hi
    obtain ⟨k,hk⟩:=fd.all i h1
    obtain ⟨o',t,q1,q2,q3,q4,q5,q6,q7⟩:=fd.at_ k i hk
    have hi2:lst[i]?=some false:=by
      rw [Array.getD_eq_getD_getElem?,Array.getElem?_eq_getElem (by omega)] at h2
      simp only [Option.getD_some] at h2
      rw [Array.getElem?_eq_getElem (by omega),h2]
    have hnot:lst.getD i false=false:=by rw [Array.getD_eq_getD_getElem?,hi2];rfl
    have hSi:∀ j,j ∈ S.getD i []→lst.getD j false=true:=by
      intro j hj
      obtain ⟨d,hd,h4⟩:=fd.cov i o' q1 j hj
      have h5:=h3 o' q1 d hd
      rcases h4 with rfl | h4
      · exact h5
      · exact hcl d j h5 h4
    have hset:∀ j,(lst.setIfInBounds i true).getD j false=true ↔ lst.getD j false=true∨j=i:=by
      intro j
      rw [Array.getD_eq_getD_getElem?,Array.getElem?_setIfInBounds]
      by_cases e:i=j
      · subst e;simp [hsz,h1]
      · simp only [e,if_false,Ne.symm e,or_false]
        rw [Array.getD_eq_getD_getElem?]
    refine drawn_step (k:=k) hz hF hcall r fd.pre h0 hG hB q1 q3 q4 q5 q6 q7 (List.all_eq_true.1 rdy t (List.mem_of_getElem? q2)) inv ?_ q2 ?_ ?_ ?_
    · rintro a b ⟨x,hx,hxl⟩ ⟨y,z,hy,hz',hzy⟩
      rw [hx] at hy;cases hy
      exact ⟨z,hz',hcl _ _ hxl hzy⟩
    · rintro ⟨x,hx,hxl⟩
      rw [hk] at hx;cases hx
      rw [hnot] at hxl;cases hxl
    · rintro b ⟨y,z,hy,hz',hzy⟩
      rw [hk] at hy;cases hy
      exact ⟨z,hz',hSi z hzy⟩
    · intro l' w' β' p' inv'
      have hD:(fun q=>(∃ i,ord[q]?=some i∧lst.getD i false=true)∨q=k)=(fun q=>∃ j,ord[q]?=some j∧(lst.setIfInBounds i true).getD j false=true):=by
        funext q
        apply propext
        constructor
        · rintro (⟨j,hj,hl⟩ | rfl)
          · exact ⟨j,hj,(hset j).2 (.inl hl)⟩
          · exact ⟨i,hk,(hset i).2 (.inr rfl)⟩
        · rintro ⟨j,hj,hl⟩
          rcases (hset j).1 hl with h | rfl
          · exact .inl ⟨j,hj,h⟩
          · exact .inr (fd.inj _ _ _ hj hk)
      rw [hD] at inv'
      refine ih _ p' l' w' β' (by simpa using hsz) ?_ ?_ inv'
      · have hlt:i < lst.toList.length:=by simp;omega
        have hc2:=List.count_set (a:=true) (b:=false) (l:=lst.toList) (i:=i) hlt
        have hv:lst.toList[i]=false:=by
          have:=hi2
          rw [Array.getElem?_eq_getElem (by omega)] at this
          simpa using this
        rw [hv] at hc2
        have hpos:0 < lst.toList.count false:=List.count_pos_iff.2 (by rw [← hv];exact List.getElem_mem hlt)
        simp only [Array.toList_setIfInBounds]
        simp at hc2
        rw [hc2]
        simp at hpos hcnt
        omega
      · intro a b ha hb
        rw [hset] at ha ⊢
        rcases ha with ha | rfl
        · exact .inl (hcl a b ha hb)
        · exact .inl (hSi b hb)
theorem opsFor_of {opa:Array Oper} {ts:List TOper} (h:regOps opa false=some ts):OpsFor opa (List.range opa.size) ts:=by
  have h':mkOps opa opa.toList [] false [] (List.range opa.toList.length)=some ts:=h
  obtain ⟨h1,h2⟩:=mkOps_spec h'
  have hlen:opa.toList.length=opa.size:=by simp
  rw [hlen] at h1 h2
  have key : ∀ (is : List Nat) (ts' : List TOper), is.length = ts'.length → (∀ (k i : Nat) (t : TOper), is[k]? = some i → ts'[k]? = some t → ∃ o, opa[i]? = some o ∧ t.op = o.op ∧ t.type = o.type ∧ t.dst = o.dst ∧ gtOf opa o = some t.gt ∧ opOk o.op = true) → OpsFor opa is ts' := by
    intro is
    induction is with
    | nil => intro ts' hl _; have : ts' = [] := List.eq_nil_of_length_eq_zero hl.symm
             subst this;exact .nil
    | cons i is ih =>
      intro ts' hl hk
      cases ts' with
      | nil=>simp at hl
      | cons t ts' =>
        obtain ⟨o,q1,q2,q3,q4,q5,q6⟩:=hk 0 i t rfl rfl
        exact .cons i o t is ts' q1 q2 q3 q4 q5 q6 (ih ts' (by simpa using hl) fun k i t a b=>hk (k+1) i t (by simpa using a) (by simpa using b))
  refine key _ _ h1.symm fun k i t hi ht=>?_
  obtain ⟨gt,q1,q2,q3⟩:=h2 k i hi
  rw [ht] at q3
  simp only [Option.some.injEq] at q3
  have hlt:i < opa.size:=by
    have:=List.mem_of_getElem? hi
    simpa using this
  have ho:opa[i]?=some opa[i]:=Array.getElem?_eq_getElem hlt
  have hd:opa.toList.getD i default=opa[i]:=by
    rw [List.getD_eq_getElem?_getD,Array.getElem?_toList,ho];rfl
  rw [hd] at q1 q2 q3
  subst q3
  exact ⟨_,ho,rfl,rfl,rfl,q1,q2⟩
theorem reg_sim (hz:zerosPlain C.P) (hF:Wide F) (hm:C.P.follows .mixedOrders=true) (hcall:CallOk C F n call) {opa:Array Oper} {draw:Bool} {ops:List TOper} (hr:regOps opa draw=some ops) {m:Nat} (rdy:ops.all (opReady C.G m)=true)
    {a a':Regs} {h h':TH} (hs:evOps (stepOp C.P call) ops a h=some (a',h')) {β:Emb} {w:World} {l:Array Value} {D:List Deferred} {id:Nat} {Q:Exit→Act→World→Prop} (ha:ARel β m a l) (gd:Good C β h w)
    (hQ:∀ l' w' β',ARel β' m a' l'→Step C h.floor β h.get w β' h'.get w'→Good C β' h' w'→Q .normal ⟨l',D⟩ w'):(Code.region id opa draw).wpIn F n C.P Q ⟨l,D⟩ w:=by
  cases draw with
  | false=>exact wpIn_region (evOps_sim hz hF hcall (opsFor_of hr) rdy hs ha gd hQ)
  | true =>
    obtain ⟨S,ord,fd⟩:=found_of hr
    obtain ⟨A,H,V,r,e1,e2,e3,e4⟩:=ref_of hs
    subst e1 e2 e3 e4
    refine wpIn_region_any hm ?_
    refine drawn_all (w0:=w) hz hF hcall fd rdy r gd.wf gd.glob gd.base (fun l' w' β' q1 q2 q3 q4=>hQ l' w' β' ⟨q2,q1⟩ q3 q4) opa.size _ 0 l _ β (by simp) (by simp) ?_ ?_
    · intro i j hi
      rw [Array.getD_eq_getD_getElem?,Array.getElem?_replicate] at hi
      split at hi <;> simp at hi
    · have hnone:∀ (k:Nat),¬ ∃ i:Nat,ord[k]?=some i∧(Array.replicate opa.size false).getD i false=true:=by
        rintro k ⟨i,_,hi⟩
        rw [Array.getD_eq_getD_getElem?,Array.getElem?_replicate] at hi
        split at hi <;> simp at hi
      have hU:∀ b,¬ Unb ops H (fun k=>∃ i,ord[k]?=some i∧(Array.replicate opa.size false).getD i false=true) 0 b:=by
        rintro b ⟨k,o,h1,_⟩
        omega
      have hg:hid (Unb ops H (fun k=>∃ i,ord[k]?=some i∧(Array.replicate opa.size false).getD i false=true) 0) (H 0).get=(H 0).get:=funext fun b=>hid_of (hU b)
      refine ⟨Nat.zero_le _,fun k o h=>by omega,fun k o _ _ _=>hnone k,ha.1,fun k o t h=>(hnone k h).elim,fun t _=>ha.2 t,?_,fun b hb=>(hU b hb).elim,gd.fr⟩
      rw [hg]
      exact Step.drawn gd.rel gd.inj _
end Go.Tidy
namespace Go.Tidy
open Go
structure TFun where
 body:TCode
 ntmps:Nat
 results:List ResultVar
structure TProg where
 fn:Nat→Option TFun
 ext:Nat→Option (List Value→Option Value)
 noZero:Nat→Option TypeId
 same:Nat→Bool
def resultsT (P:Program):List ResultVar→Regs→TH→Option (List Value)
 | [],_,_=>some []
 | .tmp t::r,tmps,h=>(resultsT P r tmps h).map fun l=>tmps.at_ t::l
 | .cell a t::r,tmps,h=>(loadT P t (tmps.at_ a) h).bind fun v=>(resultsT P r tmps h).map fun l=>v::l
def one:List Value→Value
 | [v]=>v
 | l=>.tuple l.toArray
def jumpOf:Exit→Option (Option Code)
 | .normal=>some none
 | .ret=>some (some .ret)
 | .exit id=>some (some (.exit id))
 | _=>none
def outOf:Option Code→Option Exit
 | none=>some .normal
 | some .ret=>some .ret
 | some (.exit id)=>some (.exit id)
 | _=>none
def callT (P : Program) (tp : TProg) (ev : Bool → TCode → Regs → TH → Option (Exit × Regs × TH)) (f : Value) (args : Array Value) (h : TH) : Option (Value × TH) :=
  match f with
  | .func (.func k) first captured =>
    match tp.fn k with
    | some fn =>
      let aas:=first ++ args ++ captured
      match ev false fn.body (Regs.ofList aas.toList 0 .nil) h with
      | some (.normal,a,h') | some (.ret,a,h')=>(resultsT P fn.results a h').map fun l=>(one l,h')
      | _=>none
    | none =>
      match tp.ext k with
      | some e =>
        let aas:=first ++ args ++ captured
        cond (aas.toList.all exactB)
          (match e aas.toList with
           | some v=>cond (exactB v) (some (v,h)) none
           | none=>none) none
      | none =>
        match tp.noZero k,(first ++ args ++ captured).toList with
        | some e,[.int .i64 n]=>cond (decide (0≤n) && decide (n≤2 ^ 47)) (some (newSlice h [] n.toNat n.toNat false e)) none
        | none,[v]=>cond (tp.same k) (some (v,h)) none
        | _,_=>none
  | .func (.yield l) first captured=>cond (Nat.beq first.size 0 && Nat.beq captured.size 0)
   (match h.get l with
    | some (.loop tmps ps ta tb0 .ready none) =>
      cond (Nat.beq args.size ps.size)
        (match ev true ta (Regs.sets ps.toList args.toList tmps) h with
         | some (.normal,a1,h1) =>
           match h1.get l with
           | some (.loop tmps ps ta tb .ready none) =>
             match h1.put l (.loop tmps ps ta tb .busy none) with
             | some h2 =>
               match ev true tb0 a1 h2 with
               | some (x,_,h3) =>
                 match h3.get l,jumpOf x with
                 | some (.loop tmps ps ta tb .busy none),some j =>
                   (h3.put l (.loop tmps ps ta tb (cond j.isNone .ready .done) j)).map fun h4=>(.bool j.isNone,h4)
                 | _,_=>none
               | none=>none
             | none=>none
           | _=>none
         | _=>none)
        none
    | _=>none) none
  | _=>none
def isFn (tp:TProg):Value→Bool
 | .func (.func k) _ _=>(tp.fn k).isSome
 | _=>false
def ev (P:Program) (tp:TProg):Nat→Bool→TCode→Regs→TH→Option (Exit × Regs × TH)
  | 0,_,_,_,_=>none
  | n + 1, r, c, a, h =>
    match c with
    | .bad=>none
    | .skip=>some (.normal,a,h)
    | .ret=>some (.ret,a,h)
    | .exit id=>some (.exit id,a,h)
    | .reg ops=>(evOps (stepOp P (callT P tp (ev P tp n))) ops a h).map fun (a',h')=>(.normal,a',h')
    | .seq x y =>
      match ev P tp n r x a h with
      | some (.normal,a',h')=>ev P tp n r y a' h'
      | res=>res
    | .cond q x y =>
      match a.eval q with
      | .bool b=>cond b (ev P tp n r x a h) (ev P tp n r y a h)
      | _=>none
    | .block id x =>
      match ev P tp n r x a h with
      | some (.exit id',a',h')=>some (cond (Nat.beq id' id) .normal (.exit id'),a',h')
      | res=>res
    | .loop x =>
      match ev P tp n r x a h with
      | some (.normal,a',h')=>ev P tp n r (.loop x) a' h'
      | res=>res
    | .rangeFunc f ps ta tb =>
      cond (r || !isFn tp (a.eval f)) none
        (match callT P tp (ev P tp n) (a.eval f) #[.func (.yield h.next) #[] #[]] (h.new (.loop a ps ta tb .ready none)) with
         | some (_,h1) =>
           match h1.get h.next with
           | some (.loop _ _ _ _ st j) =>
             cond (match st with | .busy=>true | _=>false) none
               (match outOf j,h1.put h.next .dead with
                | some x,some h2=>some (x,a,h2)
                | _,_=>none)
           | _=>none
         | none=>none)
def fnOf (P:Program) (k:Nat):Option TFun :=
  match P.funcs[k]? with
  | some fn =>
    match fn.body with
    | some c=>(compile c).map fun tc=>⟨tc,fn.ntmps,fn.results.toList⟩
    | none=>none
  | none=>none
inductive Bare where
 | float32bits | float32frombits | float64bits | float64frombits | trunc
 deriving DecidableEq,Inhabited
def Bare.run:Bare→List Value→Option Value
  | .float64bits,[.float .f64 b]=>some (.int .u64 b)
  | .float64frombits,[.int .u64 n]=>some (.float .f64 n.toNat)
  | .float32bits,[.float .f32 b]=>some (.int .u32 b)
  | .float32frombits,[.int .u32 n]=>some (.float .f32 n.toNat)
  | .trunc,[.float .f64 b] =>
    match FloatKind.f64.decode b with
    | .nan _ _=>none
    | d=>some (.float .f64 (FloatKind.f64.encode (d.integral .zero)))
  | _,_=>none
end Go.Tidy
namespace Go.Tidy
open Go
def okExit:Exit→Bool
 | .normal | .ret | .exit _=>true
 | _=>false
theorem evOps_tstep {P:Program} {call:Value→Array Value→TH→Option (Value × TH)} (hc:CallT call):∀ {ops:List TOper} {a a':Regs} {h h':TH},evOps (stepOp P call) ops a h=some (a',h')→TStep h h':=by
 intro ops
 induction ops with
 | nil =>
  intro a a' h h' hs
  simp only [evOps,Option.some.injEq,Prod.mk.injEq] at hs
  obtain ⟨rfl,rfl⟩:=hs
  exact TStep.refl _
 | cons o rest ih =>
  intro a a' h h' hs
  rw [evOps_cons] at hs
  rcases cond_cases hs with ⟨_,h1⟩ | ⟨_,h1⟩
  ·rw [Option.bind_eq_some_iff] at h1
   obtain ⟨⟨v,h2⟩,hst,h1⟩:=h1
   exact (stepL_tstep (fun ρ h v h'=>stepOp_tstep hc) hst).1.trans (ih h1)
  ·exact ih h1
def EvT (e:Bool→TCode→Regs→TH→Option (Exit × Regs × TH)):Prop:=∀ r c a h x a' h',e r c a h=some (x,a',h')→TStep h h'∧okExit x=true
theorem callT_tstep {P:Program} {tp:TProg} {e:Bool→TCode→Regs→TH→Option (Exit × Regs × TH)} (he:EvT e):CallT (callT P tp e):=by
  intro fv args h v h' hs
  unfold callT at hs
  split at hs
  · split at hs
    · rename_i fn hfn
      simp only at hs
      split at hs
      · rename_i a1 h1 hev
        rw [Option.map_eq_some_iff] at hs
        obtain ⟨l,_,heq⟩:=hs
        simp only [Prod.mk.injEq] at heq
        obtain ⟨_,rfl⟩:=heq
        exact (he _ _ _ _ _ _ _ hev).1
      · rename_i a1 h1 hev
        rw [Option.map_eq_some_iff] at hs
        obtain ⟨l,_,heq⟩:=hs
        simp only [Prod.mk.injEq] at heq
        obtain ⟨_,rfl⟩:=heq
        exact (he _ _ _ _ _ _ _ hev).1
      · cases hs
    · split at hs
      · obtain ⟨_,h1⟩:=cond_some hs
        split at h1
        · obtain ⟨_,h2⟩:=cond_some h1
          simp only [Option.some.injEq,Prod.mk.injEq] at h2
          obtain ⟨_,rfl⟩:=h2
          exact TStep.refl _
        · cases h1
      · split at hs
        · obtain ⟨_,h1⟩:=cond_some hs
          simp only [newSlice,Option.some.injEq,Prod.mk.injEq] at h1
          obtain ⟨_,rfl⟩:=h1
          exact TStep.new _ _
        · obtain ⟨_,h1⟩:=cond_some hs
          simp only [Option.some.injEq,Prod.mk.injEq] at h1
          obtain ⟨_,rfl⟩:=h1
          exact TStep.refl _
        · cases hs
  · obtain ⟨_,hs0⟩:=cond_some hs
    clear hs
    have hs:=hs0
    clear hs0
    split at hs
    · obtain ⟨_,h1⟩:=cond_some hs
      split at h1
      · rename_i a1 h1' hev
        have t1:=(he _ _ _ _ _ _ _ hev).1
        split at h1
        · rename_i hg1
          split at h1
          · rename_i h2 hput
            have t2:=TStep.put hput hg1
            split at h1
            · rename_i x a2 h3 hev2
              have t3:=(he _ _ _ _ _ _ _ hev2).1
              split at h1
              · rename_i hg3 hj
                rw [Option.map_eq_some_iff] at h1
                obtain ⟨h4,hput4,heq⟩:=h1
                simp only [Prod.mk.injEq] at heq
                obtain ⟨_,rfl⟩:=heq
                exact ((t1.trans t2).trans t3).trans (TStep.put hput4 hg3)
              · cases h1
            · cases h1
          · cases h1
        · cases h1
      · cases h1
    · cases hs
  · cases hs
theorem outOf_ok {j:Option Code} {x:Exit} (h:outOf j=some x):okExit x=true:=by
 unfold outOf at h
 split at h <;> first | (cases h;rfl) | cases h
theorem ev_tstep {P:Program} {tp:TProg}:∀ n,EvT (ev P tp n):=by
  intro n
  induction n with
  | zero=>intro r c a h x a' h' hs;simp [ev] at hs
  | succ n ih =>
    intro r c a h x a' h' hs
    unfold ev at hs
    cases c with
    | bad=>simp at hs
    | skip=>simp only [Option.some.injEq,Prod.mk.injEq] at hs;obtain ⟨rfl,rfl,rfl⟩:=hs;exact ⟨TStep.refl _,rfl⟩
    | ret=>simp only [Option.some.injEq,Prod.mk.injEq] at hs;obtain ⟨rfl,rfl,rfl⟩:=hs;exact ⟨TStep.refl _,rfl⟩
    | exit id=>simp only [Option.some.injEq,Prod.mk.injEq] at hs;obtain ⟨rfl,rfl,rfl⟩:=hs;exact ⟨TStep.refl _,rfl⟩
    | reg ops =>
      simp only at hs
      rw [Option.map_eq_some_iff] at hs
      obtain ⟨⟨a1,h1⟩,hev,heq⟩:=hs
      simp only [Prod.mk.injEq] at heq
      obtain ⟨rfl,rfl,rfl⟩:=heq
      exact ⟨evOps_tstep (callT_tstep ih) hev,rfl⟩
    | seq c1 c2 =>
      simp only at hs
      split at hs
      · rename_i a1 h1 hev
        obtain ⟨t1,_⟩:=ih _ _ _ _ _ _ _ hev
        obtain ⟨t2,o2⟩:=ih _ _ _ _ _ _ _ hs
        exact ⟨t1.trans t2,o2⟩
      · exact ih _ _ _ _ _ _ _ hs
    | cond q c1 c2 =>
      simp only at hs
      split at hs
      · rcases cond_cases hs with ⟨_,h1⟩ | ⟨_,h1⟩ <;> exact ih _ _ _ _ _ _ _ h1
      · cases hs
    | block id c1 =>
      simp only at hs
      split at hs
      · rename_i id' a1 h1 hev
        simp only [Option.some.injEq,Prod.mk.injEq] at hs
        obtain ⟨rfl,rfl,rfl⟩:=hs
        refine ⟨(ih _ _ _ _ _ _ _ hev).1,?_⟩
        cases Nat.beq id' id <;> rfl
      · exact ih _ _ _ _ _ _ _ hs
    | loop c1 =>
      simp only at hs
      split at hs
      · rename_i a1 h1 hev
        obtain ⟨t1,_⟩:=ih _ _ _ _ _ _ _ hev
        obtain ⟨t2,o2⟩:=ih _ _ _ _ _ _ _ hs
        exact ⟨t1.trans t2,o2⟩
      · exact ih _ _ _ _ _ _ _ hs
    | rangeFunc f ps ta tb =>
      simp only at hs
      obtain ⟨_,h1⟩:=cond_none hs
      split at h1
      · rename_i v h1' hcall
        have t1:=callT_tstep ih _ _ _ _ _ hcall
        split at h1
        · rename_i hg
          obtain ⟨_,h2⟩:=cond_none h1
          split at h2
          · rename_i y h2' ho hput
            simp only [Option.some.injEq,Prod.mk.injEq] at h2
            obtain ⟨rfl,rfl,rfl⟩:=h2
            exact ⟨((TStep.new _ _).trans t1).trans (TStep.put hput hg),outOf_ok ho⟩
          · cases h2
        · cases h1
      · cases h1
end Go.Tidy
namespace Go.Tidy
open Go
variable {C:Env} {β:Emb} {g:HG} {w:World}
def fw (ro:Option Nat):Fence:={ fn:=fun _=>True,depth:=none,alive:=false,round:=ro }
theorem fw_wide (ro:Option Nat):Wide (fw ro):=⟨fun _=>trivial,rfl⟩
def Marks (s:Nat) (β:Emb) (g:HG) (w:World) (D:List Deferred):Prop :=
  ∃ rs:List Nat,D=rs.map (fun r=>({ target:=.collected r,args:=#[] }:Deferred))∧rs.Nodup∧s≤w.heap.size ∧
    ∀ r,r ∈ rs→s≤r∧w.heap[r]?=some (.deferred (some []))∧∀ b e,alive g b→β b=some e→e.blk≠r
theorem Marks.nil (β:Emb) (g:HG) (w:World):Marks w.heap.size β g w []:=⟨[],rfl,List.nodup_nil,Nat.le_refl _,fun r hr=>by cases hr⟩
theorem Step.image {f:Nat} {β β':Emb} {g g':HG} {w w':World} (s:Step C f β g w β' g' w') {r:Nat} (hr:r < w.heap.size) (h:∀ b e,alive g b→β b=some e→e.blk≠r):∀ b e,alive g' b→β' b=some e→e.blk≠r:=by
 intro b e ha he
 cases hg:g b with
 | some x =>
  rcases s.born b e he with h1 | ⟨_,h2,_⟩
  ·exact h b e (s.dead b x hg ha) h1
  ·rw [hg] at h2;cases h2
 | none =>
  rcases s.fresh b e hg ha he with h1 | ⟨b0,e0,_,k2,k3,k4⟩
  ·omega
  ·rw [← k4];exact h b0 e0 k2 k3
theorem Marks.step {f s:Nat} {β β':Emb} {g g':HG} {w w':World} {D:List Deferred} (st:Step C f β g w β' g' w') (h:Marks s β g w D):Marks s β' g' w' D:=by
 obtain ⟨rs,h1,h2,h3,h4⟩:=h
 refine ⟨rs,h1,h2,Nat.le_trans h3 st.size,fun r hr=>?_⟩
 obtain ⟨k1,k2,k3⟩:=h4 r hr
 have hlt:r < w.heap.size:=(Array.getElem?_eq_some_iff.1 k2).1
 exact ⟨k1,by rw [st.keep r hlt fun b e _ ha he=>k3 b e ha he];exact k2,st.image hlt k3⟩
theorem Step.after {f:Nat} {β β':Emb} {g g':HG} {w w' w'':World} (s:Step C f β g w β' g' w') (hsz:w'.heap.size≤w''.heap.size) (h1:w''.os=w'.os) (h2:w''.tape=w'.tape) (h3:w''.output=w'.output)
  (hold:∀ r,r < w.heap.size→w''.heap[r]?=w'.heap[r]?) (hrel:∀ b e,alive g' b→β' b=some e→w''.heap[e.blk]?=w'.heap[e.blk]?):Step C f β g w β' g' w'' :=
 ⟨s.ext,s.born,s.stay,s.dead,fun b x e hg he=>(s.rel b x e hg he).world fun hx=>hrel b e ⟨x,hg,hx⟩ he,s.inj,h1.trans s.os,h2.trans s.tape,h3.trans s.output,Nat.le_trans s.size hsz,
  fun r hr hb=>(hold r hr).trans (s.keep r hr hb),s.fresh⟩
section
variable {P:Program} {F:Fence} {n:Nat} {b:Frame} {a:Act} {k:List Item} {cs:List Frame} {Q:Exit→Act→World→Prop}
theorem stepR_scope {c:Code}:step P (lone (b.atR a (.code (.scope c)::k)) cs w)=.next (lone (b.atR a (.code c::.inScope c::k)) cs w) :=
 step_lone_go (by simp [stepG,stepG.exec,Frame.atR])
theorem stepR_inScope {c:Code}:step P (lone (b.atR a (.inScope c::k)) cs w)=.next (lone (b.atR a k) cs w) :=
 step_lone_go (by simp [stepG,stepG.exec,Frame.atR])
def plainExit (Q:Exit→Act→World→Prop):Exit→Act→World→Prop
 | .goto _,_,_=>False
 | e,a,w=>Q e a w
theorem wpIn_scope {c:Code} (h:c.wpIn F n P (plainExit Q) a w):(Code.scope c).wpIn F n P Q a w:=by
 intro b k cs hro hb hr
 have h0:(lone (b.atR a (.code (.scope c)::k)) cs w).fenced P F:=fenced_calm hb hr rfl
 obtain ⟨e,a₁,w₁,hq,harr⟩:=h b (.inScope c::k) cs hro hb hr
 cases e with
 | normal=>exact ⟨.normal,a₁,w₁,hq,.head h0 stepR_scope (StepsIn.trans harr (.one (fenced_calm hb hr rfl) stepR_inScope))⟩
 | exit id =>
  have hx:exitTo id (.inScope c::k)=exitTo id k:=by simp [exitTo]
  exact ⟨.exit id,a₁,w₁,hq,fun k' hk=>.head h0 stepR_scope (harr.1 k' (by rw [hx];exact hk)),
   fun hr' hk=>let ⟨k₁,h1,h2⟩:=harr.2 hr' (by rw [hx];exact hk);⟨k₁,h1,.head h0 stepR_scope h2⟩⟩
 | goto l=>exact hq.elim
 | ret=>exact ⟨_,a₁,w₁,hq,.of_steps (.one h0 stepR_scope) harr⟩
 | panic ch=>exact ⟨_,a₁,w₁,hq,.of_steps (.one h0 stepR_scope) harr⟩
 | outgrown=>exact ⟨_,a₁,w₁,hq,.of_steps (.one h0 stepR_scope) harr⟩
end
theorem loadT_ptr {P:Program} {t:TypeId} {x v:Value} {h:TH} (hs:loadT P t x h=some v):∃ b off,x=.pointer (some ⟨b,off,none⟩):=by
 unfold loadT at hs
 split at hs
 ·exact ⟨_,_,rfl⟩
 ·cases hs
def resF (l:Array Value):ResultVar→Sem Value
 | .tmp t=>pure (l.getD t undef)
 | .cell x t=>do loadVar t (← asAddr (l.getD x undef))
theorem results_eq (fn:Func) (l:Array Value):results fn l=(do
  let vs ← fn.results.mapM (resF l)
  pure (if h:vs.size=1 then vs[0] else .tuple vs)):=rfl
theorem results_list {m:Nat} {a:Regs} {l:Array Value} {h:TH} (rel:HRel C β h.get w) (ha:ARel β m a l):∀ {rs:List ResultVar} {vs:List Value},resultsT C.P rs a h=some vs →
    ∃ vs',LRel β vs vs'∧(rs.mapM (resF l)).run C.P w=.ok vs' w:=by
  intro rs
  induction rs with
  | nil =>
    intro vs h
    simp only [resultsT,Option.some.injEq] at h
    subst h
    exact ⟨[],LRel.nil,rfl⟩
  | cons r rs ih =>
    intro vs hv
    cases r with
    | tmp t =>
      simp only [resultsT] at hv
      rw [Option.map_eq_some_iff] at hv
      obtain ⟨l1,h1,rfl⟩:=hv
      obtain ⟨vs',q1,q2⟩:=ih h1
      refine ⟨_,LRel.cons (ha.2 t) q1,?_⟩
      have p3:(resF l (.tmp t)).run C.P w=.ok (l.getD t undef) w:=rfl
      rw [List.mapM_cons,Sem.run_bind,p3]
      simp [Result.andThen,q2]
    | cell x t =>
      simp only [resultsT] at hv
      rw [Option.bind_eq_some_iff] at hv
      obtain ⟨v,h1,hv⟩:=hv
      rw [Option.map_eq_some_iff] at hv
      obtain ⟨l1,h2,rfl⟩:=hv
      obtain ⟨vs',q1,q2⟩:=ih h2
      obtain ⟨v',p1,p2⟩:=loadT_sim rel (fun _ _ _ _=>rfl) h1 (ha.2 x)
      refine ⟨_,LRel.cons p1 q1,?_⟩
      obtain ⟨b,off,hx⟩:=loadT_ptr h1
      have hx':=ha.2 x
      rw [hx] at hx'
      obtain ⟨e,_,he⟩:=ptr_inv hx'
      rw [he] at p2
      have p3:(loadVar t ⟨e.blk,e.d+off,none⟩).run C.P w=.ok v' w:=by
        rw [← p2]
        simp [Instr.loadAt,Instr.sureAddr]
      have p4:(resF l (.cell x t)).run C.P w=.ok v' w:=by
        simp only [resF,he,asAddr,Sem.run_bind,Sem.run_pure,Result.andThen]
        exact p3
      rw [List.mapM_cons,Sem.run_bind,p4]
      simp [Result.andThen,q2]
theorem results_sim {fn:Func} {m:Nat} {a:Regs} {l:Array Value} {h:TH} (rel:HRel C β h.get w) (ha:ARel β m a l) {vs:List Value} (hv:resultsT C.P fn.results.toList a h=some vs) :
  ∃ v',VRel β (one vs) v'∧(results fn l).run C.P w=.ok v' w:=by
 obtain ⟨vs',q1,q2⟩:=results_list rel ha hv
 have hrun:(results fn l).run C.P w=.ok (if h:vs'.toArray.size=1 then vs'.toArray[0] else .tuple vs'.toArray) w:=by
  rw [results_eq,Sem.run_bind,Array.mapM_eq_mapM_toList,Sem.run_map,q2]
  rfl
 refine ⟨_,?_,hrun⟩
 cases vs with
 | nil =>
  have:=LRel.of_nil q1
  subst this
  exact .tuple _ _ rfl (fun i v v' h=>by simp at h)
 | cons v r =>
  obtain ⟨v',r',rfl,h1,h2⟩:=q1.uncons
  cases r with
  | nil =>
   have:=LRel.of_nil h2
   subst this
   exact h1
  | cons v2 r2 =>
   obtain ⟨v2',r2',rfl,h3,h4⟩:=h2.uncons
   simp only [one]
   rw [dif_neg (by simp)]
   exact tuple_mk (by simpa using LRel.cons h1 (LRel.cons h3 h4))
end Go.Tidy
namespace Go.Tidy
open Go
variable {C:Env} {β:Emb} {g:HG} {w:World}
def EvOk (C:Env) (e:Bool→TCode→Regs→TH→Option (Exit × Regs × TH)):Prop :=
  ∀ r tc a h x a' h',e r tc a h=some (x,a',h')→∀ c m ro,compile c=some tc→ready C.G m tc=true→(r=false→ro=none) →
    ∀ (β:Emb) (w:World) (l:Array Value) (D:List Deferred) (s:Nat) (Q:Exit→Act→World→Prop),ARel β m a l→Good C β h w→Marks s β h.get w D →
      (∀ l' w' β' D',ARel β' m a' l'→Step C h.floor β h.get w β' h'.get w'→Good C β' h' w'→Marks s β' h'.get w' D'→Q x ⟨l',D'⟩ w')→c.wpIn (fw ro) 0 C.P Q ⟨l,D⟩ w
structure TpOk (C:Env) (tp:TProg):Prop where
  fn : ∀ k f, tp.fn k = some f → ∃ fn c, C.P.funcs[k]? = some fn ∧ fn.body = some c ∧ compile c = some f.body ∧ ready C.G f.ntmps f.body = true ∧ fn.ntmps = f.ntmps ∧ fn.results.toList = f.results ∧ (fn.name == "runtime.NumGoroutine") = false
  ext:∀ k e,tp.fn k=none→tp.ext k=some e→∀ (aas:Array Value) (v:Value),aas.toList.all exactB=true→e aas.toList=some v→exactB v=true →
    ∀ (ro:Option Nat) (β:Emb) (h:TH) (w:World),Good C β h w→UDoes C (fw ro) 0 h.floor β h.get w ((callFunc k aas).run C.P w) v h.get
  noZero:∀ k e,tp.fn k=none→tp.ext k=none→tp.noZero k=some e→∀ (n:Int),0≤n→n≤2 ^ 47→∀ (β:Emb) (h:TH) (w:World),Good C β h w→∃ v' w' β',(callFunc k #[.int .i64 n]).run C.P w=.ok (.value v') w' ∧
    VRel β' (newSlice h [] n.toNat n.toNat false e).1 v'∧Step C h.floor β h.get w β' (newSlice h [] n.toNat n.toNat false e).2.get w'
  same:∀ k,tp.fn k=none→tp.ext k=none→tp.noZero k=none→tp.same k=true→∀ (v:Value) (w:World),(callFunc k #[v]).run C.P w=.ok (.value v) w
theorem ofList_at:∀ (vs:List Value) (i:Nat) (a:Regs) (t:Nat),(Regs.ofList vs i a).at_ t=if i≤t∧t < i+vs.length then vs.getD (t - i) undef else a.at_ t:=by
 intro vs
 induction vs with
 | nil=>intro i a t;simp [Regs.ofList];omega
 | cons v r ih =>
  intro i a t
  simp only [Regs.ofList,List.length_cons]
  rw [ih]
  by_cases h1:i+1≤t∧t < i+1+r.length
  ·rw [if_pos h1,if_pos (by omega)]
   have:t - i=(t - (i+1))+1:=by omega
   rw [this,List.getD_cons_succ]
  ·rw [if_neg h1,Regs.at_set]
   by_cases h2:t=i
   ·subst h2;simp
   ·rw [if_neg h2,if_neg (by omega)]
theorem enter_rel {aas aas':Array Value} (h:LRel β aas.toList aas'.toList) (m:Nat):ARel β m (Regs.ofList aas.toList 0 .nil) (aas' ++ Array.replicate (m - aas'.size) undef):=by
  refine ⟨by simp;omega,fun t=>?_⟩
  revert t
  intro (t:Nat)
  rw [ofList_at]
  have hl:aas.toList.length=aas'.toList.length:=h.1
  rw [Array.getD_eq_getD_getElem?]
  by_cases ht:t < aas.toList.length
  · rw [if_pos (by omega)]
    have h1:aas.toList[t]?=some aas.toList[t]:=List.getElem?_eq_getElem ht
    obtain ⟨v',h2,h3⟩:=h.get h1
    have h4:(aas' ++ Array.replicate (m - aas'.size) undef)[t]?=some v':=by
      rw [Array.getElem?_append_left (by have:t < aas'.toList.length:=by omega
                                         simpa using this)]
      simpa using h2
    rw [h4]
    simp only [Nat.sub_zero,List.getD_eq_getElem?_getD,h1,Option.getD_some]
    exact h3
  · rw [if_neg (by omega)]
    have h0:Regs.at_ (.nil:Regs) t=undef:=by
      unfold Regs.at_;rw [Tr.get_nil]
    rw [h0]
    have h4 : (aas' ++ Array.replicate (m - aas'.size) undef)[t]?.getD undef = undef := by
      rw [Array.getElem?_append_right (by have:aas'.toList.length≤t:=by omega
                                          simpa using this)]
      rw [Array.getElem?_replicate]
      split <;> rfl
    rw [h4]
    exact .undef
theorem putObj_rest (w:World) (r:Nat) (o:Obj):(w.putObj r o).heap.size=w.heap.size∧(w.putObj r o).os=w.os∧(w.putObj r o).tape=w.tape∧(w.putObj r o).output=w.output:=by
 simp [World.putObj]
theorem leave_marks {fn:Func} {tmps:Array Value} {R:Ending→World→Prop} {F:Fence} {n:Nat} {P:Program}:∀ (rs:List Nat) (w:World),rs.Nodup→(∀ r,r ∈ rs→w.heap[r]?=some (.deferred (some []))) →
  (∀ w',w'.heap.size=w.heap.size→w'.os=w.os→w'.tape=w.tape→w'.output=w.output→(∀ r,r ∉ rs→w'.heap[r]?=w.heap[r]?)→LeavesIn F n P fn tmps R [] .returning w') →
  LeavesInM F n P fn tmps R (rs.map (fun r=>({ target:=.collected r,args:=#[] }:Deferred))) .returning w:=by
 intro rs
 induction rs with
 | nil=>intro w _ _ h;exact h w rfl rfl rfl rfl fun _ _=>rfl
 | cons r rs ih =>
  intro w hnd hat h
  have hr:=hat r (by simp)
  obtain ⟨p1,p2,p3,p4⟩:=putObj_rest w r (.deferred none)
  have hlt:r < w.heap.size:=(Array.getElem?_eq_some_iff.1 hr).1
  have hnd':=List.nodup_cons.1 hnd
  refine ⟨by simp,.inl ⟨r,w.putObj r (.deferred none),rfl,run_takeDeferred hr,?_⟩⟩
  refine ih _ hnd'.2 (fun q hq=>?_) fun w' s1 s2 s3 s4 s5=>?_
  ·rw [World.putObj_heap_other (by intro e;subst e;exact hnd'.1 hq)]
   exact hat q (List.mem_cons_of_mem _ hq)
  ·refine h w' (by omega) (s2.trans p2) (s3.trans p3) (s4.trans p4) fun q hq=>?_
   rw [s5 q (fun e=>hq (List.mem_cons_of_mem _ e)),World.putObj_heap_other (by intro e;subst e;exact hq (by simp))]
theorem enter_sim {tp:TProg} (htp:TpOk C tp) {e:Bool→TCode→Regs→TH→Option (Exit × Regs × TH)} (hev:EvOk C e) (het:EvT e) {k:Nat} {fn:TFun} (hk:tp.fn k=some fn) {aas aas':Array Value} (has:LRel β aas.toList aas'.toList)
  {h h':TH} {x:Exit} {a:Regs} {vs:List Value} (hs:e false fn.body (Regs.ofList aas.toList 0 .nil) h=some (x,a,h')) (hx:x=.normal∨x=.ret) (hr:resultsT C.P fn.results a h'=some vs) (gd:Good C β h w) :
  CallsIn (fw none) 0 C.P k aas' w fun en w'=>∃ v' β',en=.returned v'∧VRel β' (one vs) v'∧Step C h.floor β h.get w β' h'.get w':=by
 obtain ⟨f,c,q1,q2,q3,q4,q5,q6,q7⟩:=htp.fn k fn hk
 refine callsIn_of_wp_marks q1 q2 trivial ?_
 rw [q5]
 have hm:=Marks.nil β h.get w
 refine hev _ _ _ _ _ _ _ hs c fn.ntmps none q3 q4 (fun _=>rfl) β w _ [] w.heap.size _ (enter_rel has fn.ntmps) gd hm fun l' w' β' D' r1 r2 r3 r4=>?_
 obtain ⟨rs,d1,d2,d3,d4⟩:=r4
 have hl:LeavesInM (fw none) 0 C.P f l' (fun en w'=>∃ v' β',en=.returned v'∧VRel β' (one vs) v'∧Step C h.floor β h.get w β' h'.get w') D' .returning w':=by
  rw [d1]
  refine leave_marks rs w' d2 (fun r hr=>(d4 r hr).2.1) fun w'' s1 s2 s3 s4 s5=>?_
  have st:Step C h.floor β h.get w β' h'.get w'':=by
   refine r2.after (by omega) s2 s3 s4 (fun r hr=>s5 r fun hm=>?_) fun b en ha he=>s5 _ fun hm=>?_
   ·have:=(d4 r hm).1;omega
   ·exact (d4 _ hm).2.2 b en ha he rfl
  rw [← q6] at hr
  obtain ⟨v',t1,t2⟩:=results_sim st.rel r1 hr
  exact ⟨v',t2,v',β',rfl,t1,st⟩
 rcases hx with rfl | rfl
 ·exact hl
 ·exact hl
theorem CallsIn.next {F:Fence} {k:Nat} {aas':Array Value} {h h':TH} {v:Value} (hF:F=fw none∨∃ l,F=fw (some l)) (hc:CallsIn (fw none) 0 C.P k aas' w fun en w'=>∃ v' β',en=.returned v'∧VRel β' v v'∧Step C h.floor β h.get w β' h'.get w')
  (f:Func) (c:Code):UDoes C F 0 h.floor β h.get w (.ok (.enter k aas') w) v h'.get:=by
 intro o a K Q hk
 have hF2:∀ R,CallsIn (fw none) 0 C.P k aas' w R→CallsIn F 0 C.P k aas' w R:=by
  rcases hF with rfl | ⟨l,rfl⟩
  ·exact fun R h=>h
  ·exact fun R h=>h
 refine ⟨fun hd=>?_,hF2 _ (CallsIn.mono hc fun en w' he=>?_)⟩
 ·rcases hF with rfl | ⟨l,rfl⟩ <;> cases hd
 ·obtain ⟨v',β',rfl,h1,h2⟩:=he
  exact hk v' w' β' h1 h2
end Go.Tidy
namespace Go.Tidy
open Go
variable {C:Env} {β:Emb} {g:HG} {w:World}
theorem sets_rel {m:Nat}:∀ (ps:List Tmp) (vs vs':List Value) (a:Regs) (l:Array Value),(∀ t,t ∈ ps→t < m)→LRel β vs vs'→ARel β m a l→ps.length=vs.length →
    ARel β m (Regs.sets ps vs a) ((ps.zip vs').foldl (fun (l:Array Value) (p:Tmp × Value)=>l.setIfInBounds p.1 p.2) l):=by
  intro ps
  induction ps with
  | nil=>intro vs vs' a l _ _ ha _;simpa [Regs.sets] using ha
  | cons p ps ih =>
    intro vs vs' a l hps hv ha hl
    cases vs with
    | nil=>simp at hl
    | cons v vs =>
      obtain ⟨v',r',rfl,h1,h2⟩:=hv.uncons
      simp only [Regs.sets,List.zip_cons_cons,List.foldl_cons]
      refine ih vs r' _ _ (fun t ht=>hps t (List.mem_cons_of_mem _ ht)) h2 ?_ (by simpa using hl)
      obtain ⟨l',e1,e2⟩:=ha.put (d:=some p) (by simpa [dstOk] using hps p (by simp)) h1 (D:=[])
      have:l'=l.setIfInBounds p v':=by
        have:=congrArg Act.tmps e1
        simpa [Act.put] using this.symm
      subst this
      exact e2
theorem loop_at {h:TH} {b:Nat} {e:Ent} {tmps:Regs} {ps:Array Tmp} {ta tb:TCode} {st:LoopState} {pe:Option Code} (rel:HRel C β h.get w) (hb:h.get b=some (.loop tmps ps ta tb st pe)) (he:β b=some e) :
  ∃ fn tmps' D n ca cb,w.heap[e.blk]?=some (.loop { state:=st,pending:=pe,fn,tmps:=tmps',params:=ps,assign:=ca,body:=cb,defers:=D })∧ARel β n tmps tmps'∧(∀ t,t ∈ ps→t < n)∧C.C n ca ta∧C.C n cb tb:=rel b _ e hb he
theorem loop_put {h h':TH} {b:Nat} {e:Ent} {tmps:Regs} {ps:Array Tmp} {ta tb:TCode} {st:LoopState} {pe:Option Code} (gd:Good C β h w) (hb:h.get b=some (.loop tmps ps ta tb st pe)) (he:β b=some e)
  {st':LoopState} {pe':Option Code} (hp:h.put b (.loop tmps ps ta tb st' pe')=some h') {r:Loop} (hr:w.heap[e.blk]?=some (.loop r)) :
  Step C h.floor β h.get w β h'.get (w.putObj e.blk (.loop { r with state:=st',pending:=pe' }))∧Good C β h' (w.putObj e.blk (.loop { r with state:=st',pending:=pe' })):=by
 obtain ⟨fn,tmps',D,n,ca,cb,k1,k2,k3,k4,k5⟩:=loop_at gd.rel hb he
 rw [hr] at k1
 simp only [Option.some.injEq,Obj.loop.injEq] at k1
 subst k1
 obtain ⟨p1,p2,p3,p4,p5,p6,p7⟩:=TH.put_some hp
 obtain ⟨z1,z2,z3,z4⟩:=putObj_rest w e.blk (.loop { state:=st',pending:=pe',fn,tmps:=tmps',params:=ps,assign:=ca,body:=cb,defers:=D })
 have hlt:e.blk < w.heap.size:=(Array.getElem?_eq_some_iff.1 hr).1
 have st:Step C h.floor β h.get w β h'.get (w.putObj e.blk (.loop { state:=st',pending:=pe',fn,tmps:=tmps',params:=ps,assign:=ca,body:=cb,defers:=D })):=by
  rw [p7]
  exact Step.put gd.rel gd.inj p1 hb (by simp) he z1 (fun r hr=>World.putObj_heap_other hr) z2 z3 z4 ⟨fn,tmps',D,n,ca,cb,World.putObj_heap_same hlt,k2,k3,k4,k5⟩ (.inl rfl)
 exact ⟨st,gd.step st (TStep.put hp hb)⟩
theorem callFunc_enter {tp:TProg} (htp:TpOk C tp) {k:Nat} {fn:TFun} (hk:tp.fn k=some fn) (aas:Array Value) (w:World):(callFunc k aas).run C.P w=.ok (.enter k aas) w:=by
 obtain ⟨f,c,q1,q2,q3,q4,q5,q6,q7⟩:=htp.fn k fn hk
 simp only [beq_eq_false_iff_ne,ne_eq] at q7
 simp [callFunc,q1,q2,q7]
theorem app3_rel {a a' b b' c c':Array Value} (h1:LRel β a.toList a'.toList) (h2:LRel β b.toList b'.toList) (h3:LRel β c.toList c'.toList):LRel β (a ++ b ++ c).toList (a' ++ b' ++ c').toList:=by
 simpa using (h1.append h2).append h3
theorem func_inv {k:Nat} {a c fv':_} (h:VRel β (.func (.func k) a c) fv'):∃ a' c',fv'=.func (.func k) a' c'∧LRel β a.toList a'.toList∧LRel β c.toList c'.toList:=by
 cases h with
 | func f a a' c c' h1 h2 h3 h4=>exact ⟨a',c',rfl,⟨by simpa using h1,h2⟩,⟨by simpa using h3,h4⟩⟩
theorem yield_inv {l:Nat} {a c:Array Value} {fv':Value} (h:VRel β (.func (.yield l) a c) fv'):∃ e,β l=some e∧fv'=.func (.yield e.blk) #[] #[]:=by
 generalize hv:(Value.func (.yield l) a c)=v at h
 cases h <;> simp at hv
 case yield l' e he =>
  obtain ⟨rfl,_,_⟩:=hv
  exact ⟨e,he,rfl⟩
theorem ofValue_run (k:Nat) (a c args:Array Value) (w:World):((do let d ← Deferred.ofValue (.func (.func k) a c) args;invoke d.target d.args:Sem Next)).run C.P w=(callFunc k (a ++ args ++ c)).run C.P w:=by
 simp [Deferred.ofValue,invoke]
theorem callOk {tp:TProg} (htp:TpOk C tp) (hC:∀ m c tc,C.C m c tc→compile c=some tc∧ready C.G m tc=true) {e:Bool→TCode→Regs→TH→Option (Exit × Regs × TH)} (hev:EvOk C e) (het:EvT e) (ro:Option Nat):CallOk C (fw ro) 0 (callT C.P tp e):=by
  have hF:fw ro=fw none∨∃ l,fw ro=fw (some l):=by
    cases ro with
    | none=>exact .inl rfl
    | some l=>exact .inr ⟨l,rfl⟩
  intro fv args h v h' hs
  refine ⟨callT_tstep het _ _ _ _ _ hs,?_⟩
  intro β w fv' args' hfv ha gd
  unfold callT at hs
  split at hs
  · rename_i k first captured
    obtain ⟨first',captured',rfl,hf,hc⟩:=func_inv hfv
    have has:=app3_rel hf ha hc
    rw [ofValue_run]
    split at hs
    · rename_i fn hfn
      rw [callFunc_enter htp hfn]
      simp only at hs
      split at hs
      · rename_i a1 h1 hev1
        rw [Option.map_eq_some_iff] at hs
        obtain ⟨l,hl,heq⟩:=hs
        simp only [Prod.mk.injEq] at heq
        obtain ⟨rfl,rfl⟩:=heq
        exact CallsIn.next hF (enter_sim htp hev het hfn has hev1 (.inl rfl) hl gd) default default
      · rename_i a1 h1 hev1
        rw [Option.map_eq_some_iff] at hs
        obtain ⟨l,hl,heq⟩:=hs
        simp only [Prod.mk.injEq] at heq
        obtain ⟨rfl,rfl⟩:=heq
        exact CallsIn.next hF (enter_sim htp hev het hfn has hev1 (.inr rfl) hl gd) default default
      · cases hs
    · rename_i hfn
      split at hs
      · rename_i ex hex
        obtain ⟨hp,h1⟩:=cond_some hs
        split at h1
        · rename_i u hu
          obtain ⟨hp2,h2⟩:=cond_some h1
          simp only [Option.some.injEq,Prod.mk.injEq] at h2
          obtain ⟨rfl,rfl⟩:=h2
          have heq:first' ++ args' ++ captured'=first ++ args ++ captured:=by
            apply Array.toList_inj.1
            exact list_eq (β:=β) (p:=exactB) hp has.1 has.2 (fun _ _ a b=>exact_eq a b)
          rw [heq]
          exact htp.ext k ex hfn hex _ _ hp hu hp2 ro β _ w gd
        · cases h1
      · rename_i hex
        split at hs
        · rename_i el n hnz has0
          obtain ⟨hb,h1⟩:=cond_some hs
          simp only [Option.some.injEq] at h1
          simp only [Bool.and_eq_true,decide_eq_true_eq] at hb
          rw [has0] at has
          obtain ⟨v1,r1,e1,g1,g2⟩:=has.uncons
          obtain rfl:=int_inv g1
          have:=LRel.of_nil g2
          subst this
          have heq:first' ++ args' ++ captured'=#[.int .i64 n]:=by apply Array.toList_inj.1;exact e1
          rw [heq]
          obtain ⟨v',w',β',k1,k2,k3⟩:=htp.noZero k el hfn hex hnz n hb.1 hb.2 β h w gd
          rw [h1] at k2 k3
          exact UDoes.value k1 k2 k3
        · rename_i v0 hnz has0
          obtain ⟨hb,h1⟩:=cond_some hs
          simp only [Option.some.injEq,Prod.mk.injEq] at h1
          obtain ⟨rfl,rfl⟩:=h1
          rw [has0] at has
          obtain ⟨v1,r1,e1,g1,g2⟩:=has.uncons
          have:=LRel.of_nil g2
          subst this
          have heq:first' ++ args' ++ captured'=#[v1]:=by apply Array.toList_inj.1;exact e1
          rw [heq]
          exact UDoes.value (htp.same k hfn hex hnz hb v1 w) g1 (Step.refl gd.rel gd.inj)
        · cases hs
  · rename_i l first captured
    obtain ⟨_,hs0⟩:=cond_some hs
    clear hs
    have hs:=hs0
    clear hs0
    obtain ⟨en,hen,rfl⟩:=yield_inv hfv
    split at hs
    · rename_i tmps ps ta tb0 hg0
      obtain ⟨hsz,h1⟩:=cond_some hs
      have hsz:=Nat.eq_of_beq_eq_true hsz
      split at h1
      · rename_i a1 h1' hev1
        split at h1
        · rename_i tmps1 ps1 ta1 tb1 hg1
          split at h1
          · rename_i h2 hput
            split at h1
            · rename_i x a2 h3 hev2
              split at h1
              · rename_i tmps3 ps3 ta3 tb3 j hg3 hj
                rw [Option.map_eq_some_iff] at h1
                obtain ⟨h4,hput4,heq⟩:=h1
                simp only [Prod.mk.injEq] at heq
                obtain ⟨rfl,rfl⟩:=heq
                obtain ⟨fn,tmps',D,m,ca0,cb0,k1,k2,k3,k4,k5⟩:=loop_at gd.rel hg0 hen
                obtain ⟨c1,c2⟩:=hC _ _ _ k4
                obtain ⟨c3,c4⟩:=hC _ _ _ k5
                have hlen:args'.size=ps.size:=by
                  have:=ha.1
                  simp at this
                  omega
                have hrun:((do let d ← Deferred.ofValue (.func (.yield en.blk) #[] #[]) args';invoke d.target d.args:Sem Next)).run C.P w =
                    .ok (.round en.blk fn ((ps.zip args').foldl (fun tmps (t,a)=>tmps.setIfInBounds t a) tmps') ca0 cb0) w:=by
                  simp only [Deferred.ofValue,invoke,Sem.run_bind,Sem.run_pure,Result.andThen,Array.empty_append]
                  exact run_yield k1 hlen
                rw [hrun]
                intro o act K Q hk
                refine ⟨(fun hd=>by cases hd),?_⟩
                have main:RoundIn (fw none) 0 C.P en.blk fn ((ps.zip args').foldl (fun tmps (t,a)=>tmps.setIfInBounds t a) tmps') ca0 cb0 w (fun
                    | .returned v,w''=>K (act.put o.dst v) w''
                    | .panicked chain,w''=>Q (.panic chain) act w''
                    | .outgrown,_=>LetsOut Q):=by
                  refine roundIn_of_wpIn trivial ?_
                  have har:ARel β m (Regs.sets ps.toList args.toList tmps) ((ps.zip args').foldl (fun tmps (t,a)=>tmps.setIfInBounds t a) tmps'):=by
                    have:=sets_rel ps.toList args.toList args'.toList tmps tmps' (fun t ht=>k3 t (by simpa using ht)) ha k2 (by simpa using hsz.symm)
                    rw [← Array.foldl_toList,Array.toList_zip]
                    exact this
                  refine hev true ta _ _ _ _ _ hev1 ca0 m (some en.blk) c1 c2 (fun h=>by cases h) β w _ [] w.heap.size _ har gd (Marks.nil _ _ _) fun l1 w1 β1 D1 r1 r2 r3 r4=>?_
                  have hen1:=r2.ext _ _ hen
                  obtain ⟨fn1,tmps1',Dd1,m1,ca1,cb1,q1,_⟩:=loop_at r3.rel hg1 hen1
                  refine ⟨_,run_beginRound q1 rfl,?_⟩
                  obtain ⟨s2,gd2⟩:=loop_put r3 hg1 hen1 hput q1
                  refine hev true tb0 _ _ _ _ _ hev2 cb0 m (some en.blk) c3 c4 (fun h=>by cases h) β1 _ l1 D1 w.heap.size _ r1 gd2 (r4.step s2) fun l3 w3 β3 D3 t1 t2 t3 t4=>?_
                  have hen3:=t2.ext _ _ hen1
                  obtain ⟨fn3,tmps3',Dd3,m3,ca3,cb3,q3,_⟩:=loop_at t3.rel hg3 hen3
                  obtain ⟨s4,gd4⟩:=loop_put t3 hg3 hen3 hput4 q3
                  have hfl1:h1'.floor=h.floor:=(het _ _ _ _ _ _ _ hev1).1.floor
                  have hfl2:h2.floor=h.floor:=(TH.put_some hput).2.2.2.2.1.trans hfl1
                  have hfl3:h3.floor=h.floor:=(het _ _ _ _ _ _ _ hev2).1.floor.trans hfl2
                  rw [hfl1] at s2
                  rw [hfl2] at t2
                  rw [hfl3] at s4
                  have hst:(cond j.isNone LoopState.ready LoopState.done)=(if j.isNone then .ready else .done):=by cases j <;> rfl
                  have fin:∃ v' w',(Instr.endRound en.blk j).run C.P w3=.ok v' w'∧K (act.put o.dst v') w':=by
                    refine ⟨_,_,run_endRound j q3,?_⟩
                    refine hk _ _ β3 (.bool _) ?_
                    have:=((r2.trans s2).trans t2).trans s4
                    rw [hst] at this
                    exact this
                  unfold jumpOf at hj
                  split at hj
                  · cases hj;exact fin
                  · cases hj;exact fin
                  · cases hj;exact fin
                  · cases hj
                exact main
              · cases h1
            · cases h1
          · cases h1
        · cases h1
      · cases h1
    · cases hs
  · cases hs
end Go.Tidy
namespace Go.Tidy
open Go
variable {C:Env} {β:Emb} {g:HG} {w:World}
def LoopOk (C:Env) (e:Bool→TCode→Regs→TH→Option (Exit × Regs × TH)):Prop :=
  ∀ r tc a h x a' h',e r (.loop tc) a h=some (x,a',h')→∀ c m ro,compile c=some tc→ready C.G m tc=true→(r=false→ro=none)→∃ k,
    ∀ (β:Emb) (w:World) (l:Array Value) (D:List Deferred) (s:Nat) (Q:Exit→Act→World→Prop),ARel β m a l→Good C β h w→Marks s β h.get w D →
      (∀ l' w' β' D',ARel β' m a' l'→Step C h.floor β h.get w β' h'.get w'→Good C β' h' w'→Marks s β' h'.get w' D'→Q x ⟨l',D'⟩ w')→Code.roundsIn (fw ro) 0 C.P c Q k ⟨l,D⟩ w
theorem then_of {next:Act→World→Prop} {Q:Exit→Act→World→Prop} {x:Exit} {a:Act} {w:World} (hx:x≠.normal) (h:Q x a w):Exit.then next Q x a w:=by
 cases x <;> first | exact absurd rfl hx | exact h
theorem range_sim {tp:TProg} (htp:TpOk C tp) {e:Bool→TCode→Regs→TH→Option (Exit × Regs × TH)} (hev:EvOk C e) (het:EvT e) (hC2:∀ m c tc,compile c=some tc→ready C.G m tc=true→C.C m c tc)
    {f:Operand} {ps:Array Tmp} {ca cb:Code} {ta tb:TCode} {m:Nat} (c1:compile ca=some ta) (c2:compile cb=some tb) (hr:ready C.G m (.rangeFunc f ps ta tb)=true)
    {a:Regs} {h h1 h2:TH} {v:Value} {tmps1:Regs} {ps1:Array Tmp} {ta1 tb1:TCode} {st:LoopState} {j:Option Code} {x:Exit}
    (hfn:isFn tp (a.eval f)=true) (hc:callT C.P tp e (a.eval f) #[.func (.yield h.next) #[] #[]] (h.new (.loop a ps ta tb .ready none))=some (v,h1))
    (hst:(match st with | .busy=>true | _=>false)=false) (hg:h1.get h.next=some (.loop tmps1 ps1 ta1 tb1 st j)) (hj:outOf j=some x) (hp:h1.put h.next .dead=some h2)
    {l:Array Value} {D:List Deferred} {s:Nat} {Q:Exit→Act→World→Prop} (ha:ARel β m a l) (gd:Good C β h w) (hm:Marks s β h.get w D)
    (hQ:∀ l' w' β' D',ARel β' m a l'→Step C h.floor β h.get w β' h2.get w'→Good C β' h2 w'→Marks s β' h2.get w' D'→Q x ⟨l',D'⟩ w'):(Code.rangeFunc f ps ca cb).wpIn (fw none) 0 C.P Q ⟨l,D⟩ w:=by
  simp only [ready,Bool.and_eq_true] at hr
  obtain ⟨r1,r2,r3,r4⟩:=hr
  refine wpIn_rangeFunc fun fnid _=>?_
  -- the function
  have hev0:=eval_rel (D:=D) gd.glob r1 (fun t _=>ha.2 t)
  unfold isFn at hfn
  split at hfn
  · rename_i k first captured hfe
    rw [hfe] at hev0 hc
    obtain ⟨first',captured',hfv,hf,hcp⟩:=func_inv hev0
    obtain ⟨fn,hk⟩:=Option.isSome_iff_exists.1 hfn
    -- the record and the mark are laid
    let d0:Obj:=.deferred (some [])
    let w0:=w.alloc d0
    let rec0:Loop:={ state:=.ready,pending:=none,fn:=fnid,tmps:=l,params:=ps,assign:=ca,body:=cb,defers:=w.heap.size }
    let w1:=w0.alloc (.loop rec0)
    let en:Ent:=⟨w.heap.size+1,0,none⟩
    have hsz0:w0.heap.size=w.heap.size+1:=by simp [w0]
    have st0:Step C h.floor β h.get w β h.get w0:=(Step.refl gd.rel gd.inj).after (by simp [w0]) rfl rfl rfl (fun r hr=>Go.RowKit.Below.heap_alloc _ _ _ hr)
      fun b e ⟨x,hx,hxd⟩ he=>Go.RowKit.Below.heap_alloc _ _ _ ((gd.rel b x e hx he).lt hxd)
    have hx:HBlk C (upd β h.next en) w1 en (.loop a ps ta tb .ready none):=by
      refine ⟨fnid,l,w.heap.size,m,ca,cb,?_,ha.mono (Ext.upd en gd.free.2),fun t ht=>?_,hC2 _ _ _ c1 r3,hC2 _ _ _ c2 r4⟩
      · have:=World.alloc_heap_new w0 (.loop rec0)
        rw [hsz0] at this
        exact this
      · have:=List.all_eq_true.1 r2 t (by simpa using ht)
        simpa using this
    have st1:Step C h.floor β h.get w0 (upd β h.next en) (h.new (.loop a ps ta tb .ready none)).get w1:=by
      rw [TH.get_new]
      exact Step.new st0.rel st0.inj gd.free.1 gd.free.2 hsz0.symm (by simp [w1]) (fun k hk=>Go.RowKit.Below.heap_alloc _ _ _ hk) rfl rfl rfl hx
    have gd1:Good C (upd β h.next en) (h.new (.loop a ps ta tb .ready none)) w1:=gd.step (st0.trans st1) (TStep.new _ _)
    have hm1:Marks s (upd β h.next en) (h.new (.loop a ps ta tb .ready none)).get w1 ({ target:=.collected w.heap.size,args:=#[] }::D):=by
      obtain ⟨rs,d1,d2,d3,d4⟩:=hm.step (st0.trans st1)
      obtain ⟨rs',d1',d2',d3',d4'⟩:=hm
      refine ⟨w.heap.size::rs',by rw [d1'];rfl,?_,d3,?_⟩
      · refine List.nodup_cons.2 ⟨fun hmem=>?_,d2'⟩
        have:=(Array.getElem?_eq_some_iff.1 (d4' _ hmem).2.1).1
        omega
      · intro r hr
        rcases List.mem_cons.1 hr with rfl | hr
        · refine ⟨d3',?_,fun b e2 hal he2 heq=>?_⟩
          · have h1:w1.heap[w.heap.size]?=w0.heap[w.heap.size]?:=Go.RowKit.Below.heap_alloc _ _ _ (by omega)
            rw [h1]
            exact World.alloc_heap_new w d0
          · by_cases hb:b=h.next
            · subst hb
              rw [upd_same] at he2
              cases he2
              have:w.heap.size+1=w.heap.size:=heq
              omega
            · rw [upd_other _ _ hb] at he2
              obtain ⟨y,hy,hyd⟩:=hal
              rw [TH.get_new,HG.set_other _ _ hb] at hy
              have:=(gd.rel b y e2 hy he2).lt hyd
              omega
        · obtain ⟨q1,q2,q3⟩:=d4' r hr
          have hlt:r < w.heap.size:=(Array.getElem?_eq_some_iff.1 q2).1
          exact ⟨q1,by rw [(st0.trans st1).keep r hlt fun b e _ hal he=>q3 b e hal he];exact q2,(st0.trans st1).image hlt q3⟩
    -- the call
    have hy:LRel (upd β h.next en) (#[Value.func (.yield h.next) #[] #[]]:Array Value).toList (#[Value.func (.yield (w.heap.size+1)) #[] #[]]:Array Value).toList :=
      LRel.cons (.yield h.next en (upd_same _ _ _)) LRel.nil
    have hext:=Ext.upd en gd.free.2
    have has:=app3_rel (hf.mono hext) hy (hcp.mono hext)
    have hcalls:CallsIn (fw none) 0 C.P k (first' ++ #[Value.func (.yield (w.heap.size+1)) #[] #[]] ++ captured') w1 fun e2 w'=>∃ v' β',e2=.returned v'∧VRel β' v v'∧Step C h.floor (upd β h.next en) (h.new (.loop a ps ta tb .ready none)).get w1 β' h1.get w':=by
      unfold callT at hc
      simp only [hk] at hc
      split at hc
      · rename_i a1 h1' hev1
        rw [Option.map_eq_some_iff] at hc
        obtain ⟨vs,hl,heq⟩:=hc
        simp only [Prod.mk.injEq] at heq
        obtain ⟨rfl,rfl⟩:=heq
        exact enter_sim htp hev het hk has hev1 (.inl rfl) hl gd1
      · rename_i a1 h1' hev1
        rw [Option.map_eq_some_iff] at hc
        obtain ⟨vs,hl,heq⟩:=hc
        simp only [Prod.mk.injEq] at heq
        obtain ⟨rfl,rfl⟩:=heq
        exact enter_sim htp hev het hk has hev1 (.inr rfl) hl gd1
      · cases hc
    have tst:TStep (h.new (.loop a ps ta tb .ready none)) h1:=callT_tstep het _ _ _ _ _ hc
    refine ⟨w.heap.size+1,[{ target:=.collected w.heap.size,args:=#[] }],w1,{ target:=.fn (.func k) captured',args:=first' ++ #[Value.func (.yield (w.heap.size+1)) #[] #[]] },w1,k,
      first' ++ #[Value.func (.yield (w.heap.size+1)) #[] #[]] ++ captured',w1,run_enterLoop_outer _ _ _ _ _,?_,fun _ _=>trivial,?_,(fun hd=>by cases hd),?_⟩
    · have hop:((⟨l,D⟩:Act).eval f)=.func (.func k) first' captured':=hfv
      simp only [resolve,rangeCall,hop,Deferred.ofValue,Sem.run_pure]
      simp [Act.eval]
    · exact callFunc_enter htp hk _ _
    · refine CallsIn.mono hcalls fun e2 w3 he2=>?_
      obtain ⟨v',β2,rfl,q1,q2⟩:=he2
      have gd2:Good C β2 h1 w3:=gd1.step q2 tst
      have hen2:β2 h.next=some en:=q2.ext _ _ (upd_same _ _ _)
      obtain ⟨fn3,tmps3,Dd3,m3,ca1,cb1,k3,_⟩:=loop_at gd2.rel hg hen2
      have hnb:st≠.busy:=by intro e;subst e;cases hst
      refine ⟨j,_,run_endLoop k3 (by simpa using hnb),?_⟩
      obtain ⟨p1,p2,p3,p4,p5,p6,p7⟩:=TH.put_some hp
      have hlt:en.blk < w3.heap.size:=(Array.getElem?_eq_some_iff.1 k3).1
      have st3:Step C h1.floor β2 h1.get w3 β2 h2.get (w3.putObj (w.heap.size+1) (.loop { state:=.exhausted,pending:=j,fn:=fn3,tmps:=tmps3,params:=ps1,assign:=ca1,body:=cb1,defers:=Dd3 })):=by
        obtain ⟨z1,z2,z3,z4⟩:=putObj_rest w3 (w.heap.size+1) (.loop { state:=.exhausted,pending:=j,fn:=fn3,tmps:=tmps3,params:=ps1,assign:=ca1,body:=cb1,defers:=Dd3 })
        rw [p7]
        exact Step.put gd2.rel gd2.inj p1 hg (by simp) hen2 z1 (fun r hr=>World.putObj_heap_other hr) z2 z3 z4 trivial (.inl rfl)
      have gd3:=gd2.step st3 (TStep.put hp hg)
      have hfl:h1.floor=h.floor:=tst.floor
      rw [hfl] at st3
      have stAll:=((st0.trans st1).trans q2).trans st3
      have hm3:=(hm1.step q2).step st3
      have hfin:Q x ⟨l,[{ target:=.collected w.heap.size,args:=#[] }] ++ D⟩ (w3.putObj (w.heap.size+1) (.loop { state:=.exhausted,pending:=j,fn:=fn3,tmps:=tmps3,params:=ps1,assign:=ca1,body:=cb1,defers:=Dd3 })) :=
        hQ _ _ _ _ (ha.mono stAll.ext) stAll gd3 hm3
      unfold outOf at hj
      split at hj
      · cases hj;exact hfin
      · cases hj;exact wpIn_ret hfin
      · cases hj;exact wpIn_exit hfin
      · cases hj
  · cases hfn
theorem ev_ok (hz:zerosPlain C.P) (hmix:C.P.follows .mixedOrders=true) {tp:TProg} (htp:TpOk C tp) (hC:∀ m c tc,C.C m c tc ↔ compile c=some tc∧ready C.G m tc=true):∀ n,EvOk C (ev C.P tp n)∧LoopOk C (ev C.P tp n):=by
  intro n
  induction n with
  | zero=>exact ⟨fun r tc a h x a' h' hs=>by simp [ev] at hs,fun r tc a h x a' h' hs=>by simp [ev] at hs⟩
  | succ n ih =>
    obtain ⟨ih1,ih2⟩:=ih
    have het:=ev_tstep (P:=C.P) (tp:=tp) n
    have hloop:LoopOk C (ev C.P tp (n+1)):=by
      intro r tc a h x a' h' hs c m ro hc hrdy hro
      simp only [ev] at hs
      split at hs
      · rename_i a1 h1 hev
        obtain ⟨k,hk⟩:=ih2 _ _ _ _ _ _ _ hs c m ro hc hrdy hro
        refine ⟨k+1,fun β w l D s Q ha gd hm hQ=>?_⟩
        rw [roundsIn_succ]
        refine ih1 _ _ _ _ _ _ _ hev c m ro hc hrdy hro β w l D s _ ha gd hm fun l1 w1 β1 D1 q1 q2 q3 q4=>?_
        refine hk β1 w1 l1 D1 s Q q1 q3 q4 fun l2 w2 β2 D2 p1 p2 p3 p4=>?_
        rw [(het _ _ _ _ _ _ _ hev).1.floor] at p2
        exact hQ _ _ _ _ p1 (q2.trans p2) p3 p4
      · rename_i hnot
        refine ⟨1,fun β w l D s Q ha gd hm hQ=>?_⟩
        rw [roundsIn_succ]
        refine ih1 _ _ _ _ _ _ _ hs c m ro hc hrdy hro β w l D s _ ha gd hm fun l1 w1 β1 D1 q1 q2 q3 q4=>?_
        have hx:x≠.normal:=by intro e;subst e;exact hnot _ _ hs
        exact then_of hx (hQ _ _ _ _ q1 q2 q3 q4)
    refine ⟨?_,hloop⟩
    intro r tc a h x a' h' hs c
    have hok:=(ev_tstep (P:=C.P) (tp:=tp) (n+1) _ _ _ _ _ _ _ hs).2
    induction c generalizing tc with
    | scope c ihc =>
      intro m ro hc hrdy hro β w l D s Q ha gd hm hQ
      refine wpIn_scope (ihc tc hs m ro hc hrdy hro β w l D s _ ha gd hm fun l1 w1 β1 D1 q1 q2 q3 q4=>?_)
      have:=hQ _ _ _ _ q1 q2 q3 q4
      cases x <;> first | exact this | cases hok
    | skip =>
      intro m ro hc hrdy hro β w l D s Q ha gd hm hQ
      simp only [compile,Option.some.injEq] at hc
      subst hc
      simp only [ev,Option.some.injEq,Prod.mk.injEq] at hs
      obtain ⟨rfl,rfl,rfl⟩:=hs
      exact wpIn_skip (hQ l w β D ha (Step.refl gd.rel gd.inj) gd hm)
    | label k =>
      intro m ro hc hrdy hro β w l D s Q ha gd hm hQ
      simp only [compile,Option.some.injEq] at hc
      subst hc
      simp only [ev,Option.some.injEq,Prod.mk.injEq] at hs
      obtain ⟨rfl,rfl,rfl⟩:=hs
      exact wpIn_label (hQ l w β D ha (Step.refl gd.rel gd.inj) gd hm)
    | ret =>
      intro m ro hc hrdy hro β w l D s Q ha gd hm hQ
      simp only [compile,Option.some.injEq] at hc
      subst hc
      simp only [ev,Option.some.injEq,Prod.mk.injEq] at hs
      obtain ⟨rfl,rfl,rfl⟩:=hs
      exact wpIn_ret (hQ l w β D ha (Step.refl gd.rel gd.inj) gd hm)
    | exit id =>
      intro m ro hc hrdy hro β w l D s Q ha gd hm hQ
      simp only [compile,Option.some.injEq] at hc
      subst hc
      simp only [ev,Option.some.injEq,Prod.mk.injEq] at hs
      obtain ⟨rfl,rfl,rfl⟩:=hs
      exact wpIn_exit (hQ l w β D ha (Step.refl gd.rel gd.inj) gd hm)
    | goto k=>intro m ro hc;simp [compile] at hc
    | refuse k =>
      intro m ro hc
      simp only [compile,Option.some.injEq] at hc
      subst hc
      simp [ev] at hs
    | region id ops draw =>
      intro m ro hc hrdy hro β w l D s Q ha gd hm hQ
      simp only [compile] at hc
      rw [Option.map_eq_some_iff] at hc
      obtain ⟨ts,hts,rfl⟩:=hc
      simp only [ev] at hs
      rw [Option.map_eq_some_iff] at hs
      obtain ⟨⟨a1,h1⟩,hev,heq⟩:=hs
      simp only [Prod.mk.injEq] at heq
      obtain ⟨rfl,rfl,rfl⟩:=heq
      refine reg_sim hz (fw_wide ro) hmix (callOk htp (fun m c tc h=>(hC m c tc).1 h) ih1 het ro) hts hrdy hev ha gd fun l' w' β' q1 q2 q3=>?_
      exact hQ _ _ _ _ q1 q2 q3 (hm.step q2)
    | seq c1 c2 i1 i2 =>
      intro m ro hc hrdy hro β w l D s Q ha gd hm hQ
      simp only [compile] at hc
      rw [Option.bind_eq_some_iff] at hc
      obtain ⟨t1,h1,hc⟩:=hc
      rw [Option.map_eq_some_iff] at hc
      obtain ⟨t2,h2,rfl⟩:=hc
      simp only [ready,Bool.and_eq_true] at hrdy
      simp only [ev] at hs
      refine wpIn_seq ?_
      split at hs
      · rename_i a1 h1' hev
        refine ih1 _ _ _ _ _ _ _ hev c1 m ro h1 hrdy.1 hro β w l D s _ ha gd hm fun l1 w1 β1 D1 q1 q2 q3 q4=>?_
        refine ih1 _ _ _ _ _ _ _ hs c2 m ro h2 hrdy.2 hro β1 w1 l1 D1 s Q q1 q3 q4 fun l2 w2 β2 D2 p1 p2 p3 p4=>?_
        rw [(het _ _ _ _ _ _ _ hev).1.floor] at p2
        exact hQ _ _ _ _ p1 (q2.trans p2) p3 p4
      · rename_i hnot
        refine ih1 _ _ _ _ _ _ _ hs c1 m ro h1 hrdy.1 hro β w l D s _ ha gd hm fun l1 w1 β1 D1 q1 q2 q3 q4=>?_
        have hx:x≠.normal:=by intro e;subst e;exact hnot _ _ hs
        exact then_of hx (hQ _ _ _ _ q1 q2 q3 q4)
    | cond q c1 c2 i1 i2 =>
      intro m ro hc hrdy hro β w l D s Q ha gd hm hQ
      simp only [compile] at hc
      rw [Option.bind_eq_some_iff] at hc
      obtain ⟨t1,h1,hc⟩:=hc
      rw [Option.map_eq_some_iff] at hc
      obtain ⟨t2,h2,rfl⟩:=hc
      simp only [ready,Bool.and_eq_true] at hrdy
      simp only [ev] at hs
      have hq:=eval_rel (D:=D) gd.glob hrdy.1 (fun t _=>ha.2 t)
      split at hs
      · rename_i b hb
        rw [hb] at hq
        have hq:=bool_inv hq
        refine wpIn_cond (t:=b) hq ?_
        cases b with
        | true=>exact ih1 _ _ _ _ _ _ _ hs c1 m ro h1 hrdy.2.1 hro β w l D s Q ha gd hm hQ
        | false=>exact ih1 _ _ _ _ _ _ _ hs c2 m ro h2 hrdy.2.2 hro β w l D s Q ha gd hm hQ
      · cases hs
    | block id c1 i1 =>
      intro m ro hc hrdy hro β w l D s Q ha gd hm hQ
      simp only [compile] at hc
      rw [Option.map_eq_some_iff] at hc
      obtain ⟨t1,h1,rfl⟩:=hc
      simp only [ready] at hrdy
      simp only [ev] at hs
      refine wpIn_block ?_
      split at hs
      · rename_i id' a1 h1' hev
        simp only [Option.some.injEq,Prod.mk.injEq] at hs
        obtain ⟨rfl,rfl,rfl⟩:=hs
        refine ih1 _ _ _ _ _ _ _ hev c1 m ro h1 hrdy hro β w l D s _ ha gd hm fun l1 w1 β1 D1 q1 q2 q3 q4=>?_
        have:=hQ _ _ _ _ q1 q2 q3 q4
        simp only [Exit.inBlock]
        cases hb:Nat.beq id' id with
        | true =>
          rw [hb] at this
          rw [if_pos (Nat.eq_of_beq_eq_true hb)]
          exact this
        | false =>
          rw [hb] at this
          rw [if_neg (Nat.ne_of_beq_eq_false hb)]
          exact this
      · rename_i hnot
        refine ih1 _ _ _ _ _ _ _ hs c1 m ro h1 hrdy hro β w l D s _ ha gd hm fun l1 w1 β1 D1 q1 q2 q3 q4=>?_
        have:=hQ _ _ _ _ q1 q2 q3 q4
        cases x <;> first | exact this | exact (hnot _ _ _ hs).elim
    | loop c1 i1 =>
      intro m ro hc hrdy hro β w l D s Q ha gd hm hQ
      simp only [compile] at hc
      rw [Option.map_eq_some_iff] at hc
      obtain ⟨t1,h1,rfl⟩:=hc
      simp only [ready] at hrdy
      obtain ⟨k,hk⟩:=hloop _ _ _ _ _ _ _ hs c1 m ro h1 hrdy hro
      exact wpIn_loop_rounds k (hk β w l D s Q ha gd hm hQ)
    | rangeFunc f ps ca cb i1 i2 =>
      intro m ro hc hrdy hro β w l D s Q ha gd hm hQ
      simp only [compile] at hc
      rw [Option.bind_eq_some_iff] at hc
      obtain ⟨t1,h1,hc⟩:=hc
      rw [Option.map_eq_some_iff] at hc
      obtain ⟨t2,h2,rfl⟩:=hc
      simp only [ev] at hs
      obtain ⟨hb,hs1⟩:=cond_none hs
      clear hs
      simp only [Bool.or_eq_false_iff,Bool.not_eq_false'] at hb
      have hro:=hro hb.1
      subst hro
      split at hs1
      · rename_i v h1' hcall
        split at hs1
        · rename_i hg
          obtain ⟨hst,hs2⟩:=cond_none hs1
          split at hs2
          · rename_i y h2' ho hput
            simp only [Option.some.injEq,Prod.mk.injEq] at hs2
            obtain ⟨rfl,rfl,rfl⟩:=hs2
            exact range_sim htp ih1 het (fun m c tc p q=>(hC m c tc).2 ⟨p,q⟩) h1 h2 hrdy hb.2 hcall hst hg ho hput ha gd hm hQ
          · cases hs2
        · cases hs1
      · cases hs1
end Go.Tidy
namespace Go.Tidy
open Go
variable {C:Env} {β:Emb} {w:World}
theorem fw_none:fw none=Fence.wide:=rfl
theorem calls_of (hz:zerosPlain C.P) (hmix:C.P.follows .mixedOrders=true) {tp:TProg} (htp:TpOk C tp) (hC:∀ m c tc,C.C m c tc ↔ compile c=some tc∧ready C.G m tc=true)
  {n k:Nat} {fn:TFun} (hk:tp.fn k=some fn) {aas aas':Array Value} (has:LRel β aas.toList aas'.toList) {h h':TH} {v:Value}
  (hs:callT C.P tp (ev C.P tp n) (.func (.func k) #[] #[]) aas h=some (v,h')) (gd:Good C β h w) :
  Calls C.P k aas' w fun en w'=>∃ v' β',en=.returned v'∧VRel β' v v'∧Step C h.floor β h.get w β' h'.get w':=by
 have hev:=(ev_ok hz hmix htp hC n).1
 have het:=ev_tstep (P:=C.P) (tp:=tp) n
 refine (callsIn_wide (n:=0)).1 ?_
 rw [← fw_none]
 unfold callT at hs
 simp only [hk,Array.empty_append,Array.append_empty] at hs
 split at hs
 ·rename_i a1 h1 he
  rw [Option.map_eq_some_iff] at hs
  obtain ⟨l,hl,heq⟩:=hs
  simp only [Prod.mk.injEq] at heq
  obtain ⟨rfl,rfl⟩:=heq
  exact enter_sim htp hev het hk has he (.inl rfl) hl gd
 ·rename_i a1 h1 he
  rw [Option.map_eq_some_iff] at hs
  obtain ⟨l,hl,heq⟩:=hs
  simp only [Prod.mk.injEq] at heq
  obtain ⟨rfl,rfl⟩:=heq
  exact enter_sim htp hev het hk has he (.inr rfl) hl gd
 ·cases hs
end Go.Tidy
namespace Go.Tidy
open Go
section A
def W (P:Program) (tp:TProg) (r:Bool) (c:TCode) (a:Regs) (h:TH) (Q:Exit→Regs→TH→Prop):Prop :=
 ∃ n x a' h',(∀ m,n≤m→ev P tp m r c a h=some (x,a',h'))∧Q x a' h'
def CallW (P:Program) (tp:TProg) (f:Value) (args:Array Value) (h:TH) (Q:Value→TH→Prop):Prop :=
 ∃ n v h',(∀ m,n≤m→callT P tp (ev P tp m) f args h=some (v,h'))∧Q v h'
def StepW (P:Program) (tp:TProg) (o:TOper) (ρ:Operand→Value) (h:TH) (Q:Value→TH→Prop):Prop :=
 ∃ n v h',(∀ m,n≤m→stepOp P (callT P tp (ev P tp m)) o ρ h=some (v,h'))∧Q v h'
def WO (P:Program) (tp:TProg) (ops:List TOper) (a:Regs) (h:TH) (Q:Regs→TH→Prop):Prop :=
 ∃ n a' h',(∀ m,n≤m→evOps (stepOp P (callT P tp (ev P tp m))) ops a h=some (a',h'))∧Q a' h'
variable {P:Program} {tp:TProg} {r:Bool} {a:Regs} {h:TH} {Q:Exit→Regs→TH→Prop}
def andThen (K:Regs→TH→Prop) (Q:Exit→Regs→TH→Prop):Exit→Regs→TH→Prop
 | .normal,a,h=>K a h
 | x,a,h=>Q x a h
def leaves (id:Nat) (Q:Exit→Regs→TH→Prop):Exit→Regs→TH→Prop
 | .exit k,a,h=>Q (cond (Nat.beq k id) .normal (.exit k)) a h
 | x,a,h=>Q x a h
theorem W.mono {c:TCode} {Q':Exit→Regs→TH→Prop} (w:W P tp r c a h Q) (hq:∀ x a h,Q x a h→Q' x a h):W P tp r c a h Q':=by
 obtain ⟨n,x,a',h',e,q⟩:=w
 exact ⟨n,x,a',h',e,hq _ _ _ q⟩
theorem CallW.mono {f:Value} {args:Array Value} {Q Q':Value→TH→Prop} (w:CallW P tp f args h Q) (hq:∀ v h,Q v h→Q' v h):CallW P tp f args h Q':=by
 obtain ⟨n,x,h',e,q⟩:=w
 exact ⟨n,x,h',e,hq _ _ q⟩
theorem WO.mono {ops:List TOper} {Q Q':Regs→TH→Prop} (w:WO P tp ops a h Q) (hq:∀ a h,Q a h→Q' a h):WO P tp ops a h Q':=by
 obtain ⟨n,x,h',e,q⟩:=w
 exact ⟨n,x,h',e,hq _ _ q⟩
theorem succ_of {n m:Nat} (h:n+1≤m):∃ k,m=k+1∧n≤k:=⟨m - 1,by omega,by omega⟩
theorem W.skip (q:Q .normal a h):W P tp r .skip a h Q:=⟨1,_,_,_,fun m hm=>by obtain ⟨k,rfl,_⟩:=succ_of hm;rfl,q⟩
theorem W.ret (q:Q .ret a h):W P tp r .ret a h Q:=⟨1,_,_,_,fun m hm=>by obtain ⟨k,rfl,_⟩:=succ_of hm;rfl,q⟩
theorem W.exit {id:Nat} (q:Q (.exit id) a h):W P tp r (.exit id) a h Q:=⟨1,_,_,_,fun m hm=>by obtain ⟨k,rfl,_⟩:=succ_of hm;rfl,q⟩
theorem W.reg {ops:List TOper} (w:WO P tp ops a h (fun a h=>Q .normal a h)):W P tp r (.reg ops) a h Q:=by
 obtain ⟨n,a',h',e,q⟩:=w
 exact ⟨n+1,_,a',h',fun m hm=>by obtain ⟨k,rfl,hk⟩:=succ_of hm;simp only [ev,e k hk,Option.map_some],q⟩
theorem W.seq {x y:TCode} (w:W P tp r x a h (andThen (fun a h=>W P tp r y a h Q) Q)):W P tp r (.seq x y) a h Q:=by
 obtain ⟨n,e,a1,h1,he,q⟩:=w
 cases e
 case normal =>
  obtain ⟨n2,e2,a2,h2,he2,q2⟩:=q
  exact ⟨max n n2+1,e2,a2,h2,fun m hm=>by obtain ⟨k,rfl,hk⟩:=succ_of hm;simp only [ev,he k (by omega),he2 k (by omega)],q2⟩
 all_goals exact ⟨n+1,_,a1,h1,fun m hm=>by obtain ⟨k,rfl,hk⟩:=succ_of hm;simp only [ev,he k (by omega)],q⟩
theorem W.cond {x y:TCode} {q:Operand} {b:Bool} (hb:a.eval q=.bool b) (h1:b=true→W P tp r x a h Q) (h2:b=false→W P tp r y a h Q):W P tp r (.cond q x y) a h Q:=by
 cases b with
 | true =>
  obtain ⟨n,e,a1,h1,he,q⟩:=h1 rfl
  exact ⟨n+1,_,a1,h1,fun m hm=>by obtain ⟨k,rfl,hk⟩:=succ_of hm;simp only [ev,hb,he k (by omega),Bool.cond_true],q⟩
 | false =>
  obtain ⟨n,e,a1,h1,he,q⟩:=h2 rfl
  exact ⟨n+1,_,a1,h1,fun m hm=>by obtain ⟨k,rfl,hk⟩:=succ_of hm;simp only [ev,hb,he k (by omega),Bool.cond_false],q⟩
theorem W.block {x:TCode} {id:Nat} (w:W P tp r x a h (leaves id Q)):W P tp r (.block id x) a h Q:=by
 obtain ⟨n,e,a1,h1,he,q⟩:=w
 cases e
 case exit k=>exact ⟨n+1,_,a1,h1,fun m hm=>by obtain ⟨k,rfl,hk⟩:=succ_of hm;simp only [ev,he k (by omega)],q⟩
 all_goals exact ⟨n+1,_,a1,h1,fun m hm=>by obtain ⟨k,rfl,hk⟩:=succ_of hm;simp only [ev,he k (by omega)],q⟩
theorem W.loop {x:TCode} (I:Nat→Regs→TH→Prop) (step:∀ k a h,I k a h→W P tp r x a h (andThen (fun a h=>∃ j,j < k∧I j a h) Q)):∀ k a h,I k a h→W P tp r (.loop x) a h Q:=by
  intro k
  induction k using Nat.strongRecOn with
  | _ k ih =>
    intro a h hi
    obtain ⟨n,e,a1,h1,he,q⟩:=step k a h hi
    cases e
    case normal =>
      obtain ⟨j,hj,hi2⟩:=q
      obtain ⟨n2,e2,a2,h2,he2,q2⟩:=ih j hj a1 h1 hi2
      exact ⟨max n n2+1,e2,a2,h2,fun m hm=>by obtain ⟨k,rfl,hk⟩:=succ_of hm;simp only [ev,he k (by omega),he2 k (by omega)],q2⟩
    all_goals exact ⟨n+1,_,a1,h1,fun m hm=>by obtain ⟨k,rfl,hk⟩:=succ_of hm;simp only [ev,he k (by omega)],q⟩
variable {K:Regs→TH→Prop} {o:TOper} {rest:List TOper}
theorem WO.nil (q:K a h):WO P tp [] a h K:=⟨0,_,_,fun m hm=>rfl,q⟩
theorem WO.cons (hg:wantT o.gt a=true) (hl:o.locks=[]) (w:StepW P tp o a.eval h fun v h1=>WO P tp rest (a.put o.dst v) h1 K):WO P tp (o::rest) a h K:=by
 obtain ⟨n,v,h1,e,n2,a2,h2,e2,q⟩:=w
 exact ⟨max n n2,a2,h2,fun m hm=>by simp only [evOps,hg,hl,e m (by omega),e2 m (by omega),Bool.cond_true],q⟩
theorem WO.cons_lock {x:Operand} {xs:List Operand} (hg:wantT o.gt a=true) (hl:o.locks=x::xs) (w:StepW P tp o a.eval (h.withLock (lockOf o.locks a.eval h.lock)) fun v h1=>WO P tp rest (a.put o.dst v) (h1.withLock h.lock) K):WO P tp (o::rest) a h K:=by
 obtain ⟨n,v,h1,e,n2,a2,h2,e2,q⟩:=w
 refine ⟨max n n2,a2,h2,fun m hm=>?_,q⟩
 have e1:=e m (by omega)
 rw [hl] at e1
 simp only [evOps,hg,hl,e1,e2 m (by omega),Bool.cond_true]
theorem WO.skip (hg:wantT o.gt a=false) (w:WO P tp rest (a.put o.dst undef) h K):WO P tp (o::rest) a h K:=by
 obtain ⟨n,a2,h2,e,q⟩:=w
 exact ⟨n,a2,h2,fun m hm=>by simp only [evOps,hg,e m hm,Bool.cond_false],q⟩
theorem StepW.of {ρ:Operand→Value} {V:Value→TH→Prop} {v:Value} {h1:TH} (e:∀ call,stepOp P call o ρ h=some (v,h1)) (q:V v h1):StepW P tp o ρ h V:=⟨0,v,h1,fun m _=>e _,q⟩
theorem StepW.call {ρ:Operand→Value} {V:Value→TH→Prop} {d:Option Tmp} {f:Operand} {args:Array Operand} {ts:Array TypeId} {ty:TypeId} {g:Option (Tmp × Bool)} {ls:List Operand} {i:Nat}
  (w:CallW P tp (ρ f) (args.map ρ) h V):StepW P tp ⟨d,.call ⟨.value f,args,ts⟩,ty,g,ls,i⟩ ρ h V:=by
 obtain ⟨n,v,h1,e,q⟩:=w
 exact ⟨n,v,h1,fun m hm=>by simp only [stepOp,heapFirst,heapOp,Bool.cond_true,e m hm],q⟩
theorem CallW.fn {k:Nat} {fn:TFun} {args:Array Value} {V:Value→TH→Prop} (hk:tp.fn k=some fn)
  (w:W P tp false fn.body (Regs.ofList args.toList 0 .nil) h fun x a' h'=>(x=.normal∨x=.ret)∧∃ vs,resultsT P fn.results a' h'=some vs∧V (one vs) h'):CallW P tp (.func (.func k) #[] #[]) args h V:=by
 obtain ⟨n,x,a',h',e,hx,vs,hv,q⟩:=w
 refine ⟨n,_,h',fun m hm=>?_,q⟩
 rcases hx with rfl | rfl
 ·simp only [callT,hk,Array.empty_append,Array.append_empty,e m hm,hv,Option.map_some]
 ·simp only [callT,hk,Array.empty_append,Array.append_empty,e m hm,hv,Option.map_some]
theorem CallW.ext {k:Nat} {e:List Value→Option Value} {args:Array Value} {V:Value→TH→Prop} {v:Value} (hk:tp.fn k=none) (he:tp.ext k=some e) (hp:args.toList.all plain=true) (hv:e args.toList=some v) (hpv:plain v=true)
  (q:V v h):CallW P tp (.func (.func k) #[] #[]) args h V:=by
 replace hp:args.toList.all exactB=true:=List.all_eq_true.2 fun x hx=>plain_exact (List.all_eq_true.1 hp x hx)
 replace hpv:=plain_exact hpv
 refine ⟨0,v,h,fun m _=>?_,q⟩
 simp only [callT,hk,he,Array.empty_append,Array.append_empty,hp,hv,hpv,Bool.cond_true]
theorem at_put (a:Regs) (d:Tmp) (v:Value) (t:Tmp):(a.put (some d) v).at_ t=if t=d then v else a.at_ t:=Regs.at_set a d v t
theorem at_nil (t:Tmp):Regs.at_ (.nil:Regs) t=undef:=by unfold Regs.at_;rw [Tr.get_nil]
theorem at_ofList (vs:List Value) (t:Nat):(Regs.ofList vs 0 .nil).at_ t=vs.getD t undef:=by
 rw [ofList_at,at_nil]
 by_cases ht:t < vs.length
 ·rw [if_pos (by omega)];rfl
 ·rw [if_neg (by omega),List.getD_eq_getElem?_getD,List.getElem?_eq_none (by omega)];rfl
variable {d:Option Tmp} {ty:TypeId} {i:Nat} {x y z:Operand} {v:Value} {t u:TypeId}
theorem WO.move (w:WO P tp rest (a.put d (a.eval x)) h K):WO P tp (⟨d,.move x,ty,none,[],i⟩::rest) a h K :=
 WO.cons rfl rfl (StepW.of (fun _=>rfl) w)
theorem WO.assign (w:WO P tp rest (a.put d (a.eval x)) h K):WO P tp (⟨d,.assign x,ty,none,[],i⟩::rest) a h K :=
 WO.cons rfl rfl (StepW.of (fun _=>rfl) w)
theorem WO.bin {op:BinOp} (hv:fastBin op (a.eval x) (a.eval y)=some v) (w:WO P tp rest (a.put d v) h K):WO P tp (⟨d,.binOp op t x y u,ty,none,[],i⟩::rest) a h K :=
 WO.cons rfl rfl (StepW.of (v:=v) (h1:=h) (fun _=>by simp only [stepOp,heapFirst,fastOp,hv,Bool.cond_false]) w)
theorem WO.not {b:Bool} (hv:a.eval x=.bool b) (w:WO P tp rest (a.put d (.bool !b)) h K):WO P tp (⟨d,.unOp .not t x,ty,none,[],i⟩::rest) a h K :=
 WO.cons rfl rfl (StepW.of (v:=.bool !b) (h1:=h) (fun _=>by simp only [stepOp,heapFirst,fastOp,hv,Bool.cond_false]) w)
theorem WO.pick {b:Bool} (hv:a.eval x=.bool b) (w:WO P tp rest (a.put d (cond b (a.eval y) (a.eval z))) h K):WO P tp (⟨d,.pick x y z,ty,none,[],i⟩::rest) a h K :=
 WO.cons rfl rfl (StepW.of (v:=_) (h1:=h) (fun _=>by simp only [stepOp,heapFirst,fastOp,hv,Bool.cond_false]) w)
theorem WO.extract {vs:Array Value} {k:Nat} (hv:a.eval x=.tuple vs) (hk:vs.toList[k]?=some v) (w:WO P tp rest (a.put d v) h K):WO P tp (⟨d,.extract x k,ty,none,[],i⟩::rest) a h K :=
 WO.cons rfl rfl (StepW.of (v:=v) (h1:=h) (fun _=>by simp only [stepOp,heapFirst,fastOp,hv,hk,Bool.cond_false]) w)
theorem WO.call {f:Operand} {args:Array Operand} {ts:Array TypeId} (w:CallW P tp (a.eval f) (args.map a.eval) h fun v h1=>WO P tp rest (a.put d v) h1 K):WO P tp (⟨d,.call ⟨.value f,args,ts⟩,ty,none,[],i⟩::rest) a h K :=
 WO.cons rfl rfl (StepW.call w)
theorem WO.load (hv:loadT P t (a.eval x) h=some v) (w:WO P tp rest (a.put d v) h K):WO P tp (⟨d,.load t x,ty,none,[],i⟩::rest) a h K :=
 WO.cons rfl rfl (StepW.of (v:=v) (h1:=h) (fun _=>by simp only [stepOp,heapFirst,heapOp,hv,Bool.cond_true,Option.map_some]) w)
theorem WO.store {h1:TH} (hv:storeT P t (a.eval x) (a.eval y) h=some h1) (w:WO P tp rest (a.put d undef) h1 K):WO P tp (⟨d,.store t x y,ty,none,[],i⟩::rest) a h K :=
 WO.cons rfl rfl (StepW.of (v:=undef) (h1:=h1) (fun _=>by simp only [stepOp,heapFirst,heapOp,hv,Bool.cond_true,Option.map_some]) w)
theorem WO.op {h1:TH} (hg:wantT o.gt a=true) (hl:o.locks=[]) (e:∀ call,stepOp P call o a.eval h=some (v,h1)) (w:WO P tp rest (a.put o.dst v) h1 K):WO P tp (o::rest) a h K :=
 WO.cons hg hl (StepW.of e w)
end A
section B
def REq (a b:Regs):Prop:=∀ t,a.at_ t=b.at_ t
theorem REq.refl (a:Regs):REq a a:=fun _=>rfl
theorem REq.eval {a b:Regs} (h:REq a b):a.eval=b.eval:=by
 funext x
 cases x with
 | tmp t=>exact h t
 | const v=>rfl
 | global g=>rfl
 | func f=>rfl
theorem REq.put {a b:Regs} (h:REq a b) (d:Option Tmp) (v:Value):REq (a.put d v) (b.put d v):=by
 intro t
 cases d with
 | none=>exact h t
 | some d=>rw [at_put,at_put,h t]
theorem REq.want {a b:Regs} (h:REq a b) (g:Option (Tmp × Bool)):wantT g a=wantT g b:=by
 cases g with
 | none=>rfl
 | some p=>simp only [wantT,h p.1]
theorem evOps_req {stp:TOper→(Operand→Value)→TH→Option (Value × TH)}:∀ (ops:List TOper) {a b a':Regs} {h h':TH},evOps stp ops a h=some (a',h')→REq a b→∃ b',evOps stp ops b h=some (b',h')∧REq a' b':=by
  intro ops
  induction ops with
  | nil=>intro a b a' h h' hs hr;simp only [evOps,Option.some.injEq,Prod.mk.injEq] at hs;obtain ⟨rfl,rfl⟩:=hs;exact ⟨b,rfl,hr⟩
  | cons o rest ih =>
    intro a b a' h h' hs hr
    simp only [evOps] at hs ⊢
    rw [← hr.want,← hr.eval]
    cases hw:wantT o.gt a with
    | false =>
      rw [hw] at hs
      simp only [Bool.cond_false] at hs ⊢
      exact ih hs (hr.put _ _)
    | true =>
      rw [hw] at hs
      simp only [Bool.cond_true] at hs ⊢
      cases hl:o.locks with
      | nil =>
        rw [hl] at hs
        simp only at hs ⊢
        cases hst:stp o a.eval h with
        | none=>rw [hst] at hs;cases hs
        | some p =>
          rw [hst] at hs
          exact ih hs (hr.put _ _)
      | cons l ls =>
        rw [hl] at hs
        simp only at hs ⊢
        cases hst:stp o a.eval (h.withLock (lockOf (l::ls) a.eval h.lock)) with
        | none=>rw [hst] at hs;cases hs
        | some p =>
          rw [hst] at hs
          exact ih hs (hr.put _ _)
def noR:TCode→Bool
 | .seq a b=>noR a && noR b
 | .cond _ a b=>noR a && noR b
 | .block _ a=>noR a
 | .loop a=>noR a
 | .rangeFunc _ _ _ _=>false
 | _=>true
theorem ev_req {P:Program} {tp:TProg}:∀ (n:Nat) (r:Bool) (c:TCode) {a b a':Regs} {h h':TH} {x:Exit},noR c=true→ev P tp n r c a h=some (x,a',h')→REq a b→∃ b',ev P tp n r c b h=some (x,b',h')∧REq a' b':=by
  intro n
  induction n with
  | zero=>intro r c a b a' h h' x _ hs;simp only [ev] at hs;cases hs
  | succ n ih =>
    intro r c a b a' h h' x hc hs hr
    cases c with
    | bad=>simp only [ev] at hs;cases hs
    | skip=>simp only [ev,Option.some.injEq,Prod.mk.injEq] at hs ⊢;obtain ⟨rfl,rfl,rfl⟩:=hs;exact ⟨b,⟨rfl,rfl,rfl⟩,hr⟩
    | ret=>simp only [ev,Option.some.injEq,Prod.mk.injEq] at hs ⊢;obtain ⟨rfl,rfl,rfl⟩:=hs;exact ⟨b,⟨rfl,rfl,rfl⟩,hr⟩
    | exit id=>simp only [ev,Option.some.injEq,Prod.mk.injEq] at hs ⊢;obtain ⟨rfl,rfl,rfl⟩:=hs;exact ⟨b,⟨rfl,rfl,rfl⟩,hr⟩
    | reg ops =>
      simp only [ev] at hs ⊢
      rw [Option.map_eq_some_iff] at hs
      obtain ⟨⟨a1,h1⟩,he,heq⟩:=hs
      simp only [Prod.mk.injEq] at heq
      obtain ⟨rfl,rfl,rfl⟩:=heq
      obtain ⟨b',e1,e2⟩:=evOps_req ops he hr
      exact ⟨b',by rw [e1];rfl,e2⟩
    | seq u v =>
      simp only [noR,Bool.and_eq_true] at hc
      simp only [ev] at hs ⊢
      split at hs
      · rename_i a1 h1 he
        obtain ⟨b1,e1,e2⟩:=ih r u hc.1 he hr
        rw [e1]
        exact ih r v hc.2 hs e2
      · rename_i hne
        obtain ⟨b1,e1,e2⟩:=ih r u hc.1 hs hr
        rw [e1]
        refine ⟨b1,?_,e2⟩
        cases x <;> first | rfl | exact (hne _ _ hs).elim
    | cond q u v =>
      simp only [noR,Bool.and_eq_true] at hc
      simp only [ev] at hs ⊢
      rw [← hr.eval]
      split at hs
      · rename_i t ht
        cases t with
        | true=>exact ih r u hc.1 hs hr
        | false=>exact ih r v hc.2 hs hr
      · cases hs
    | block id u =>
      simp only [noR] at hc
      simp only [ev] at hs ⊢
      split at hs
      · rename_i id' a1 h1 he
        obtain ⟨b1,e1,e2⟩:=ih r u hc he hr
        simp only [Option.some.injEq,Prod.mk.injEq] at hs
        obtain ⟨rfl,rfl,rfl⟩:=hs
        rw [e1]
        exact ⟨b1,rfl,e2⟩
      · rename_i hne
        obtain ⟨b1,e1,e2⟩:=ih r u hc hs hr
        rw [e1]
        refine ⟨b1,?_,e2⟩
        cases x <;> first | rfl | exact (hne _ _ _ hs).elim
    | loop u =>
      have hc':noR u=true:=hc
      simp only [ev] at hs ⊢
      split at hs
      · rename_i a1 h1 he
        obtain ⟨b1,e1,e2⟩:=ih r u hc' he hr
        rw [e1]
        exact ih r (.loop u) hc hs e2
      · rename_i hne
        obtain ⟨b1,e1,e2⟩:=ih r u hc' hs hr
        rw [e1]
        refine ⟨b1,?_,e2⟩
        cases x <;> first | rfl | exact (hne _ _ hs).elim
    | rangeFunc f ps ta tb=>simp [noR] at hc
theorem resultsT_req {P:Program}:∀ (rs:List ResultVar) {a b:Regs} {h:TH},REq a b→resultsT P rs a h=resultsT P rs b h:=by
 intro rs
 induction rs with
 | nil=>intro a b h _;rfl
 | cons v rs ih =>
  intro a b h hr
  cases v with
  | tmp t=>simp only [resultsT,ih hr,hr t]
  | cell x t=>simp only [resultsT,ih hr,hr x]
def fullR (m:Nat) (aas:List Value):Regs:=Regs.ofList (aas ++ List.replicate (m - aas.length) undef) 0 .nil
theorem fullR_req (m:Nat) (aas:List Value):REq (fullR m aas) (Regs.ofList aas 0 .nil):=by
 intro t
 revert t
 intro (t:Nat)
 rw [fullR,at_ofList,at_ofList]
 by_cases ht:t < aas.length
 ·simp [List.getD_eq_getElem?_getD,List.getElem?_append_left ht]
 ·rw [List.getD_eq_getElem?_getD,List.getD_eq_getElem?_getD,List.getElem?_append_right (by omega),List.getElem?_eq_none (l:=aas) (by omega),List.getElem?_replicate]
  split <;> rfl
def CLe (c c':Value→Array Value→TH→Option (Value × TH)):Prop:=∀ f aas h res,c f aas h=some res→c' f aas h=some res
def ELe (e e':Bool→TCode→Regs→TH→Option (Exit × Regs × TH)):Prop:=∀ r c a h res,e r c a h=some res→e' r c a h=some res
theorem heapOp_le {P:Program} {c c':Value→Array Value→TH→Option (Value × TH)} (hc:CLe c c') {o:TOper} {ρ:Operand→Value} {h:TH} {res:Value × TH} (hs:heapOp P c o ρ h=some res):heapOp P c' o ρ h=some res:=by
  unfold heapOp at hs ⊢
  split at hs
  all_goals first
    | exact hs
    | exact hc _ _ _ _ hs
    | (split at hs
       · split at hs
         · exact hc _ _ _ _ hs
         · cases hs
       · cases hs)
theorem stepOp_le {P:Program} {c c':Value→Array Value→TH→Option (Value × TH)} (hc:CLe c c') {o:TOper} {ρ:Operand→Value} {h:TH} {res:Value × TH} (hs:stepOp P c o ρ h=some res):stepOp P c' o ρ h=some res:=by
  unfold stepOp at hs ⊢
  cases hf:heapFirst o.op with
  | true=>rw [hf] at hs;exact heapOp_le hc hs
  | false =>
    rw [hf] at hs
    simp only [Bool.cond_false] at hs ⊢
    split at hs
    · exact hs
    · split at hs
      · exact hs
      · split at hs
        · exact hs
        · exact heapOp_le hc hs
theorem evOps_le {stp stp':TOper→(Operand→Value)→TH→Option (Value × TH)} (hl:∀ o ρ h res,stp o ρ h=some res→stp' o ρ h=some res):∀ (ops:List TOper) {a:Regs} {h:TH} {res:Regs × TH},evOps stp ops a h=some res→evOps stp' ops a h=some res:=by
  intro ops
  induction ops with
  | nil=>intro a h res hs;exact hs
  | cons o rest ih =>
    intro a h res hs
    simp only [evOps] at hs ⊢
    cases hw:wantT o.gt a with
    | false =>
      rw [hw] at hs
      exact ih hs
    | true =>
      rw [hw] at hs
      simp only [Bool.cond_true] at hs ⊢
      cases hlk:o.locks with
      | nil =>
        rw [hlk] at hs
        simp only at hs ⊢
        cases hst:stp o a.eval h with
        | none=>rw [hst] at hs;cases hs
        | some p=>rw [hst] at hs;rw [hl _ _ _ _ hst];exact ih hs
      | cons l ls =>
        rw [hlk] at hs
        simp only at hs ⊢
        cases hst:stp o a.eval (h.withLock (lockOf (l::ls) a.eval h.lock)) with
        | none=>rw [hst] at hs;cases hs
        | some p=>rw [hst] at hs;rw [hl _ _ _ _ hst];exact ih hs
theorem callT_le {P:Program} {tp:TProg} {e e':Bool→TCode→Regs→TH→Option (Exit × Regs × TH)} (he:ELe e e'):CLe (callT P tp e) (callT P tp e'):=by
  intro f aas h res hs
  unfold callT at hs ⊢
  split at hs
  · split at hs
    · simp only at hs ⊢
      split at hs
      · rename_i hx;rw [he _ _ _ _ _ hx];exact hs
      · rename_i hx;rw [he _ _ _ _ _ hx];exact hs
      · cases hs
    · exact hs
  · rename_i l first captured
    cases hb:(Nat.beq first.size 0 && Nat.beq captured.size 0) with
    | false=>rw [hb] at hs;exact hs
    | true =>
      rw [hb] at hs
      simp only [Bool.cond_true] at hs ⊢
      split at hs
      · rename_i tmps ps ta tb0 _
        cases hb2:Nat.beq aas.size ps.size with
        | false=>rw [hb2] at hs;exact hs
        | true =>
          rw [hb2] at hs
          simp only [Bool.cond_true] at hs ⊢
          split at hs
          · rename_i a1 h1 hx
            rw [he _ _ _ _ _ hx]
            simp only
            split at hs
            · split at hs
              · split at hs
                · rename_i hx2
                  rw [he _ _ _ _ _ hx2]
                  exact hs
                · cases hs
              · cases hs
            · cases hs
          · cases hs
      · cases hs
  · cases hs
theorem ev_succ {P:Program} {tp:TProg}:∀ (n:Nat),ELe (ev P tp n) (ev P tp (n+1)):=by
  intro n
  induction n with
  | zero=>intro r c a h res hs;simp only [ev] at hs;cases hs
  | succ n ih =>
    intro r c a h res hs
    have hst:∀ o ρ h res,stepOp P (callT P tp (ev P tp n)) o ρ h=some res→stepOp P (callT P tp (ev P tp (n+1))) o ρ h=some res:=fun o ρ h res=>stepOp_le (callT_le ih)
    cases c with
    | bad=>simp only [ev] at hs;cases hs
    | skip=>exact hs
    | ret=>exact hs
    | exit id=>exact hs
    | reg ops =>
      rw [ev] at hs ⊢
      rw [Option.map_eq_some_iff] at hs ⊢
      obtain ⟨p,h1,h2⟩:=hs
      exact ⟨p,evOps_le hst ops h1,h2⟩
    | seq u v =>
      rw [ev] at hs ⊢
      split at hs
      · rename_i hx
        rw [ih _ _ _ _ _ hx]
        exact ih _ _ _ _ _ hs
      · rename_i hne
        rw [ih _ _ _ _ _ hs]
        obtain ⟨x,a',h'⟩:=res
        cases x <;> first | rfl | exact (hne _ _ hs).elim
    | cond q u v =>
      rw [ev] at hs ⊢
      split at hs
      · rename_i b hb
        cases b with
        | true=>exact ih _ _ _ _ _ hs
        | false=>exact ih _ _ _ _ _ hs
      · cases hs
    | block id u =>
      rw [ev] at hs ⊢
      split at hs
      · rename_i hx
        rw [ih _ _ _ _ _ hx]
        exact hs
      · rename_i hne
        rw [ih _ _ _ _ _ hs]
        obtain ⟨x,a',h'⟩:=res
        cases x <;> first | rfl | exact (hne _ _ _ hs).elim
    | loop u =>
      rw [ev] at hs ⊢
      split at hs
      · rename_i hx
        rw [ih _ _ _ _ _ hx]
        exact ih _ _ _ _ _ hs
      · rename_i hne
        rw [ih _ _ _ _ _ hs]
        obtain ⟨x,a',h'⟩:=res
        cases x <;> first | rfl | exact (hne _ _ hs).elim
    | rangeFunc f ps ta tb =>
      rw [ev] at hs ⊢
      cases hb:(r || !isFn tp (a.eval f)) with
      | true=>rw [hb] at hs;cases hs
      | false =>
        rw [hb] at hs
        simp only [Bool.cond_false] at hs ⊢
        split at hs
        · rename_i v h1 hx
          rw [callT_le ih _ _ _ _ hx]
          exact hs
        · cases hs
theorem ev_mono {P:Program} {tp:TProg} {n m:Nat} (h:n≤m):ELe (ev P tp n) (ev P tp m):=by
 induction h with
 | refl=>exact fun _ _ _ _ _ h=>h
 | step _ ih=>exact fun r c a h res hs=>ev_succ _ _ _ _ _ _ (ih r c a h res hs)
variable {P:Program} {tp:TProg} {r:Bool} {a:Regs} {h:TH} {Q:Exit→Regs→TH→Prop}
theorem CallW.full {k:Nat} {fn:TFun} {args:Array Value} {V:Value→TH→Prop} (hk:tp.fn k=some fn) (hn:noR fn.body=true)
  (w:W P tp false fn.body (fullR fn.ntmps args.toList) h fun x a' h'=>(x=.normal∨x=.ret)∧∃ vs,resultsT P fn.results a' h'=some vs∧V (one vs) h'):CallW P tp (.func (.func k) #[] #[]) args h V:=by
 refine CallW.fn hk ?_
 obtain ⟨n,x,a',h',e,hx,vs,hv,q⟩:=w
 obtain ⟨b',e1,e2⟩:=ev_req n false fn.body hn (e n (Nat.le_refl _)) (fullR_req _ _)
 exact ⟨n,x,b',h',fun m hm=>ev_mono hm _ _ _ _ _ e1,hx,vs,by rw [← resultsT_req _ e2];exact hv,q⟩
def getO (a:Regs):Operand→Option Value
 | .tmp t=>Tr.get a t
 | .const v=>some v
 | .global g=>some (.pointer (some ⟨g,0,none⟩))
 | .func f=>some (.func (.func f) #[] #[])
theorem getO_eval {a:Regs} {x:Operand} {v:Value} (h:getO a x=some v):a.eval x=v:=by
 cases x with
 | tmp t=>simp only [getO] at h;simp only [Regs.eval,Regs.at_,h]
 | const v=>simpa [getO,Regs.eval] using h
 | global g=>simpa [getO,Regs.eval] using h
 | func f=>simpa [getO,Regs.eval] using h
theorem setN_same {α:Type}:∀ (n:Nat) (t:Tr α) (k:Nat) (v:α),t.get k=some v→Tr.setN n t k v=t:=by
  intro n
  induction n with
  | zero=>intro t k v _;rfl
  | succ n ih =>
    intro t k v hg
    cases t with
    | nil=>rw [Tr.get_nil] at hg;cases hg
    | node u l r =>
      cases k with
      | zero=>simp only [Tr.get] at hg;subst hg;rfl
      | succ k =>
        simp only [Tr.get] at hg
        simp only [Tr.setN]
        cases hb:Nat.beq (k % 2) 0 with
        | true=>rw [hb] at hg;simp only [Bool.cond_true,Tr.val,Tr.left,Tr.right] at hg ⊢;rw [ih _ _ _ hg]
        | false=>rw [hb] at hg;simp only [Bool.cond_false,Tr.val,Tr.left,Tr.right] at hg ⊢;rw [ih _ _ _ hg]
theorem put_same {a:Regs} {g:Tmp} {v:Value} (hg:Tr.get a g=some v):a.put (some g) v=a:=setN_same _ _ _ _ hg
variable {K:Regs→TH→Prop} {o:TOper} {rest:List TOper} {d:Option Tmp} {ty:TypeId} {i:Nat} {x y z:Operand} {v vx vy vz:Value} {t u:TypeId}
theorem WO.mv (hv:getO a x=some v) (w:WO P tp rest (a.put d v) h K):WO P tp (⟨d,.move x,ty,none,[],i⟩::rest) a h K:=by have:=getO_eval hv;subst this;exact WO.move w
theorem WO.as (hv:getO a x=some v) (w:WO P tp rest (a.put d v) h K):WO P tp (⟨d,.assign x,ty,none,[],i⟩::rest) a h K:=by have:=getO_eval hv;subst this;exact WO.assign w
theorem WO.bi {op:BinOp} (hx:getO a x=some vx) (hy:getO a y=some vy) (hv:fastBin op vx vy=some v) (w:WO P tp rest (a.put d v) h K):WO P tp (⟨d,.binOp op t x y u,ty,none,[],i⟩::rest) a h K :=
 WO.bin (by rw [getO_eval hx,getO_eval hy];exact hv) w
theorem WO.nt {b:Bool} (hv:getO a x=some (.bool b)) (w:WO P tp rest (a.put d (.bool !b)) h K):WO P tp (⟨d,.unOp .not t x,ty,none,[],i⟩::rest) a h K:=WO.not (getO_eval hv) w
def OnB (v:Value) (A B:Prop):Prop:=∃ b,v=.bool b∧(b=true→A)∧(b=false→B)
theorem OnB.yes {A B:Prop} (h:A):OnB (.bool true) A B:=⟨true,rfl,(fun _=>h),(fun h=>by cases h)⟩
theorem OnB.no {A B:Prop} (h:B):OnB (.bool false) A B:=⟨false,rfl,(fun h=>by cases h),(fun _=>h)⟩
theorem OnB.way {b:Bool} {A B:Prop} (h:b=true→A) (k:b=false→B):OnB (.bool b) A B:=⟨b,rfl,h,k⟩
theorem WO.pk (hb:getO a x=some v) (hy:getO a y=some vy) (hz:getO a z=some vz) (w:OnB v (WO P tp rest (a.put d vy) h K) (WO P tp rest (a.put d vz) h K)):WO P tp (⟨d,.pick x y z,ty,none,[],i⟩::rest) a h K:=by
 obtain ⟨b,rfl,h1,h2⟩:=w
 refine WO.pick (getO_eval hb) ?_
 rw [getO_eval hy,getO_eval hz]
 cases b with
 | true=>exact h1 rfl
 | false=>exact h2 rfl
theorem WO.ex {vs:Array Value} {k:Nat} (hx:getO a x=some (.tuple vs)) (hk:vs.toList[k]?=some v) (w:WO P tp rest (a.put d v) h K):WO P tp (⟨d,.extract x k,ty,none,[],i⟩::rest) a h K:=WO.extract (getO_eval hx) hk w
theorem WO.ld (hx:getO a x=some vx) (hv:loadT P t vx h=some v) (w:WO P tp rest (a.put d v) h K):WO P tp (⟨d,.load t x,ty,none,[],i⟩::rest) a h K:=WO.load (by rw [getO_eval hx];exact hv) w
theorem WO.st {h1:TH} (hx:getO a x=some vx) (hy:getO a y=some vy) (hv:storeT P t vx vy h=some h1) (w:WO P tp rest (a.put d undef) h1 K):WO P tp (⟨d,.store t x y,ty,none,[],i⟩::rest) a h K :=
 WO.store (by rw [getO_eval hx,getO_eval hy];exact hv) w
variable {f x0 x1 x2 x3 x4:Operand} {fv v0 v1 v2 v3 v4:Value} {ts:Array TypeId}
theorem WO.cl0 (hf:getO a f=some fv) (w:CallW P tp fv #[] h fun v h1=>WO P tp rest (a.put d v) h1 K):WO P tp (⟨d,.call ⟨.value f,#[],ts⟩,ty,none,[],i⟩::rest) a h K :=
 WO.call (by rw [getO_eval hf];simpa using w)
theorem WO.cl1 (hf:getO a f=some fv) (h0:getO a x0=some v0) (w:CallW P tp fv #[v0] h fun v h1=>WO P tp rest (a.put d v) h1 K):WO P tp (⟨d,.call ⟨.value f,#[x0],ts⟩,ty,none,[],i⟩::rest) a h K :=
 WO.call (by rw [getO_eval hf];simpa [getO_eval h0] using w)
theorem WO.cl2 (hf:getO a f=some fv) (h0:getO a x0=some v0) (h1:getO a x1=some v1) (w:CallW P tp fv #[v0,v1] h fun v h1=>WO P tp rest (a.put d v) h1 K):WO P tp (⟨d,.call ⟨.value f,#[x0,x1],ts⟩,ty,none,[],i⟩::rest) a h K :=
 WO.call (by rw [getO_eval hf];simpa [getO_eval h0,getO_eval h1] using w)
theorem WO.cl3 (hf:getO a f=some fv) (h0:getO a x0=some v0) (h1:getO a x1=some v1) (h2:getO a x2=some v2) (w:CallW P tp fv #[v0,v1,v2] h fun v h1=>WO P tp rest (a.put d v) h1 K):WO P tp (⟨d,.call ⟨.value f,#[x0,x1,x2],ts⟩,ty,none,[],i⟩::rest) a h K :=
 WO.call (by rw [getO_eval hf];simpa [getO_eval h0,getO_eval h1,getO_eval h2] using w)
theorem at_get {a:Regs} {g:Tmp} {v:Value} (h:Tr.get a g=some v):a.at_ g=v:=by simp only [Regs.at_,h]
theorem WO.skp {g:Tmp} {b:Bool} (hg:o.gt=some (g,!b)) (ht:Tr.get a g=some (.bool b)) (w:WO P tp rest (a.put o.dst undef) h K):WO P tp (o::rest) a h K :=
 WO.skip (by rw [hg];cases b <;> simp [wantT,at_get ht]) w
theorem WO.now {g:Tmp} {b:Bool} (hg:o.gt=some (g,b)) (ht:Tr.get a g=some (.bool b))
  (w:WO P tp ({ o with gt:=none }::rest) a h K):WO P tp (o::rest) a h K:=by
 obtain ⟨n,a',h',e,q⟩:=w
 refine ⟨n,a',h',fun m hm=>?_,q⟩
 have:=e m hm
 have h1:wantT o.gt a=true:=by rw [hg];cases b <;> simp [wantT,at_get ht]
 have h2:wantT none a=true:=rfl
 simp only [evOps,h1,h2,Bool.cond_true] at this ⊢
 exact this
theorem WO.gu {g:Tmp} {want:Bool} (hg:o.gt=some (g,want)) (ht:Tr.get a g=some undef) (w:WO P tp rest (a.put o.dst undef) h K):WO P tp (o::rest) a h K :=
 WO.skip (by rw [hg];simp only [wantT,at_get ht];rfl) w
theorem WO.gt {g:Tmp} (hg:o.gt=some (g,true)) (ht:Tr.get a g=some v) (w:OnB v (WO P tp ({ o with gt:=none }::rest) (a.put (some g) (.bool true)) h K) (WO P tp rest ((a.put (some g) (.bool false)).put o.dst undef) h K)):WO P tp (o::rest) a h K:=by
 obtain ⟨b,rfl,h1,h2⟩:=w
 cases b with
 | true=>have:=h1 rfl;rw [put_same ht] at this;exact WO.now hg ht this
 | false=>have:=h2 rfl;rw [put_same ht] at this;exact WO.skp (b:=false) hg ht this
theorem WO.gf {g:Tmp} (hg:o.gt=some (g,false)) (ht:Tr.get a g=some v) (w:OnB v (WO P tp rest ((a.put (some g) (.bool true)).put o.dst undef) h K) (WO P tp ({ o with gt:=none }::rest) (a.put (some g) (.bool false)) h K)):WO P tp (o::rest) a h K:=by
 obtain ⟨b,rfl,h1,h2⟩:=w
 cases b with
 | true=>have:=h1 rfl;rw [put_same ht] at this;exact WO.skp (b:=true) hg ht this
 | false=>have:=h2 rfl;rw [put_same ht] at this;exact WO.now hg ht this
theorem W.cd {c1 c2:TCode} {q:Operand} (hb:getO a q=some v) (w:OnB v (W P tp r c1 a h Q) (W P tp r c2 a h Q)):W P tp r (.cond q c1 c2) a h Q:=by
 obtain ⟨b,rfl,h1,h2⟩:=w
 exact W.cond (getO_eval hb) h1 h2
theorem fwrap_i64 {n:Int} (h1:-9223372036854775808≤n) (h2:n≤9223372036854775807):fwrap .i64 n=n:=by rw [fwrap_eq];exact IntWalk.i64_in n (by omega)
end B
attribute [irreducible] W WO CallW StepW OnB
end Go.Tidy
namespace Go.Tidy
open Go
def Tr.All {α:Type} (p:Nat→α→Prop):(Nat→Nat)→Tr α→Prop
 | _,.nil=>True
 | ix,.node v l r=>(∀ x,v=some x→p (ix 0) x)∧Tr.All p (fun j=>ix (2*j+1)) l∧Tr.All p (fun j=>ix (2*j+2)) r
theorem Tr.All.get {α:Type} {p:Nat→α→Prop}:∀ (t:Tr α) (ix:Nat→Nat),Tr.All p ix t→∀ k v,t.get k=some v→p (ix k) v:=by
  intro t
  induction t with
  | nil=>intro ix _ k v h;rw [Tr.get_nil] at h;cases h
  | node u l r ihl ihr =>
    intro ix ha k v h
    obtain ⟨h1,h2,h3⟩:=ha
    cases k with
    | zero=>exact h1 v h
    | succ k =>
      simp only [Tr.get] at h
      cases hb:Nat.beq (k % 2) 0 with
      | true =>
        rw [hb] at h
        have:=ihl _ h2 (k / 2) v h
        have he:2*(k / 2)+1=k+1:=by have:=Nat.eq_of_beq_eq_true hb;omega
        rwa [he] at this
      | false =>
        rw [hb] at h
        have:=ihr _ h3 (k / 2) v h
        have he:2*(k / 2)+2=k+1:=by have:=Nat.ne_of_beq_eq_false hb;omega
        rwa [he] at this
def FnOk (P:Program) (G:List Nat) (k:Nat) (f:TFun):Prop :=
  ∃ fn c, P.funcs[k]? = some fn ∧ fn.body = some c ∧ compile c = some f.body ∧ ready G f.ntmps f.body = true ∧ fn.ntmps = f.ntmps ∧ fn.results.toList = f.results ∧ (fn.name == "runtime.NumGoroutine") = false
def nameOk (P : Program) (k : Nat) : Bool := match P.funcs[k]? with | some fn => !(fn.name == "runtime.NumGoroutine") | none => false
theorem fnOk_of {P:Program} {G:List Nat} {k:Nat} {f:TFun} (h1:fnOf P k=some f) (h2:ready G f.ntmps f.body=true) (h3:nameOk P k=true):FnOk P G k f:=by
 unfold fnOf at h1
 unfold nameOk at h3
 split at h1
 ·rename_i fn hfn
  rw [hfn] at h3
  split at h1
  ·rename_i c hc
   rw [Option.map_eq_some_iff] at h1
   obtain ⟨tc,h4,rfl⟩:=h1
   exact ⟨fn,c,hfn,hc,h4,h2,rfl,rfl,by simpa using h3⟩
  ·cases h1
 ·cases h1
end Go.Tidy
namespace Go.Tidy
open Go
def evL (P:Program) (tp:TProg):Nat→List TCode→Regs→TH→Option (Regs × TH)
 | _,[],a,h=>some (a,h)
 | 0,_::_,_,_=>none
 | n+1,c::r,a,h=>match ev P tp n false c a h with | some (.normal,a',h')=>evL P tp n r a' h' | _=>none
def seqs:List TCode→TCode→TCode
 | [],c=>c
 | x::r,c=>.seq x (seqs r c)
def spine:TCode→List TCode
 | .seq a b=>a::spine b
 | c=>[c]
def part (c:TCode) (i j:Nat):List TCode:=((spine c).take j).drop i
theorem ev_seqs {P:Program} {tp:TProg}:∀ (l:List TCode) (n:Nat) (a a':Regs) (h h':TH) (c:TCode) (res:Option (Exit × Regs × TH)),evL P tp n l a h=some (a',h')→ev P tp (n - l.length) false c a' h'=res→ev P tp n false (seqs l c) a h=res:=by
  intro l
  induction l with
  | nil=>intro n a a' h h' c res hs hr;simp only [evL,Option.some.injEq,Prod.mk.injEq] at hs;obtain ⟨rfl,rfl⟩:=hs;exact hr
  | cons x l ih =>
    intro n a a' h h' c res hs hr
    cases n with
    | zero=>simp only [evL] at hs;cases hs
    | succ n =>
      simp only [evL] at hs
      split at hs
      · rename_i a1 h1 he
        simp only [seqs,ev,he]
        refine ih n a1 a' h1 h' c res hs ?_
        rw [← hr,List.length_cons]
        congr 1
        omega
      · cases hs
def tailC:TCode→Nat→TCode
 | c,0=>c
 | .seq _ b,n+1=>tailC b n
 | c,_+1=>c
def chain:List TCode→TCode
 | []=>.skip
 | [c]=>c
 | c::d::r=>.seq c (chain (d::r))
def evF (P:Program) (tp:TProg):Nat→List TCode→Regs→TH→Option (Exit × Regs × TH)
 | _,[],_,_=>none
 | n,[c],a,h=>ev P tp n false c a h
 | 0,_::_::_,_,_=>none
 | n+1,c::d::r,a,h=>match ev P tp n false c a h with | some (.normal,a',h')=>evF P tp n (d::r) a' h' | _=>none
theorem ev_evF {P:Program} {tp:TProg}:∀ (l:List TCode) (n:Nat) (a:Regs) (h:TH) (res:Exit × Regs × TH),evF P tp n l a h=some res→ev P tp n false (chain l) a h=some res:=by
  intro l
  induction l with
  | nil=>intro n a h res hs;cases n <;> (simp only [evF] at hs;cases hs)
  | cons c r ih =>
    intro n a h res hs
    cases r with
    | nil=>cases n <;> simpa only [evF,chain] using hs
    | cons d r =>
      cases n with
      | zero=>simp only [evF] at hs;cases hs
      | succ n =>
        simp only [evF] at hs
        split at hs
        · rename_i a1 h1 he
          simp only [chain,ev,he]
          exact ih n a1 h1 res hs
        · cases hs
end Go.Tidy
namespace Go.Tidy
open Go
structure ExtOk (P:Program) (k:Nat) (e:Array Value→Sem Value):Prop where
  ok : ∃ fn, P.funcs[k]? = some fn ∧ (fn.name == "runtime.NumGoroutine") = false ∧ fn.body.isNone = true ∧ Extern.findNext fn = none ∧ Extern.find fn = some e
theorem extOk_of {P : Program} {k : Nat} {e : Array Value → Sem Value} (h : (P.funcs[k]?).map (fun fn => (fn.name == "runtime.NumGoroutine", fn.body.isNone, (Extern.findNext fn).isNone, Extern.find fn)) = some (false, true, true, some e)) : ExtOk P k e := by
  rw [Option.map_eq_some_iff] at h
  obtain ⟨fn,h1,h2⟩:=h
  simp only [Prod.mk.injEq] at h2
  obtain ⟨h3,h4,h5,h6⟩:=h2
  exact ⟨fn,h1,h3,h4,by simpa using h5,h6⟩
theorem callFunc_ext {P:Program} {k:Nat} {e:Array Value→Sem Value} (h:ExtOk P k e) (aas:Array Value) (w w':World) (v:Value) (hr:(e aas).run P w=.ok v w'):(callFunc k aas).run P w=.ok (.value v) w':=by
  obtain ⟨fn,h1,h2,h3,h4,h5⟩:=h.ok
  have h2' : fn.name ≠ "runtime.NumGoroutine" := by simpa using h2
  have h3':fn.body=none:=by simpa using h3
  simp [callFunc,h1,h2',h3',h4,h5,hr]
def Bare.fn:Bare→Array Value→Sem Value
  | .float64bits=>Extern.MathFloatBits.float64bits
  | .float64frombits=>Extern.MathFloatBits.float64frombits
  | .float32bits=>Extern.MathFloatBits.float32bits
  | .float32frombits=>Extern.MathFloatBits.float32frombits
  | .trunc => Extern.MathFloor.toIntegral "math.archTrunc" .zero
theorem trunc_run {x : Nat} (hd : ∀ s t, FloatKind.f64.decode x ≠ .nan s t) (P : Program) (w : World) : (Extern.MathFloor.toIntegral "math.archTrunc" .zero #[.float .f64 x]).run P w = .ok (.float .f64 (FloatKind.f64.encode ((FloatKind.f64.decode x).integral .zero))) w := by
  conv=>lhs;arg 2;whnf
  cases h:FloatKind.f64.decode x with
  | nan s t=>exact absurd h (hd s t)
  | number s m e=>rfl
  | infinity s=>rfl
theorem Bare.ok {b:Bare} {aas:Array Value} {v:Value} (h:b.run aas.toList=some v) (P:Program) (w:World):(b.fn aas).run P w=.ok v w:=by
  obtain ⟨l⟩:=aas
  unfold Bare.run at h
  split at h
  all_goals first
    | (rename_i h1
       simp only at h1
       subst h1
       cases h
       rfl)
    | skip
  · rename_i x h1
    simp only at h1
    subst h1
    have hn:∀ s t,FloatKind.f64.decode x≠.nan s t:=by
      intro s t hd
      rw [hd] at h
      cases h
    have hv:some (Value.float .f64 (FloatKind.f64.encode ((FloatKind.f64.decode x).integral .zero)))=some v:=by
      rw [← h]
      cases hd:FloatKind.f64.decode x with
      | nan s t=>exact absurd hd (hn s t)
      | number s m e=>rfl
      | infinity s=>rfl
    cases hv
    exact trunc_run hn P w
  · cases h
structure NoZeroOk (P:Program) (k:Nat) (e:TypeId):Prop where
  ok : ∃ fn t ps, P.funcs[k]? = some fn ∧ (fn.name == "runtime.NumGoroutine") = false ∧ fn.body.isNone = true ∧ Extern.findNext fn = none ∧ Extern.find fn = some (Extern.BytealgMakeNoZero.makeNoZero ps #[t]) ∧ P.underlying t = some (.slice e) ∧ P.cellsOf e = 1
theorem noZeroOk_of {P : Program} {k : Nat} {e t : TypeId} {ps : Array TypeId} (h : (P.funcs[k]?).map (fun fn => (fn.name == "runtime.NumGoroutine", fn.body.isNone, (Extern.findNext fn).isNone, Extern.find fn)) = some (false, true, true, some (Extern.BytealgMakeNoZero.makeNoZero ps #[t])))
    (hu:P.underlying t=some (.slice e)) (hc:P.cellsOf e=1):NoZeroOk P k e:=by
  obtain ⟨fn,h1,h2,h3,h4,h5⟩:=(extOk_of h).ok
  exact ⟨fn,t,ps,h1,h2,h3,h4,h5,hu,hc⟩
theorem noZero_run {P:Program} {k:Nat} {e:TypeId} (h:NoZeroOk P k e) (n:Int) (h0:0≤n) (h1:n≤2 ^ 47) (w:World):∃ (cr:Array Value),n.toNat≤cr.size ∧
  (callFunc k #[.int .i64 n]).run P w=.ok (.value (.slice (some ⟨w.heap.size,0,none⟩) n.toNat cr.size)) (w.drew.drew.alloc (.cells cr e)):=by
 obtain ⟨fn,t,ps,q1,q2,q3,q4,q5,q6,q7⟩:=h.ok
 obtain ⟨m,rfl⟩:∃ m:Nat,n=m:=⟨n.toNat,by omega⟩
 obtain ⟨cs,r1,r2,_⟩:=Lib.run_makeNoZero (P:=P) w ps t e q6 m (by omega)
 exact ⟨cs,by simpa using r2,callFunc_ext ⟨fn,q1,q2,q3,q4,q5⟩ _ _ _ _ (by simpa using r1)⟩
variable {C:Env}
theorem noZero_ok {k:Nat} {e:TypeId} (h:NoZeroOk C.P k e) (n:Int) (h0:0≤n) (h1:n≤2 ^ 47) (β:Emb) (hp:TH) (w:World) (gd:Good C β hp w):∃ v' w' β',(callFunc k #[.int .i64 n]).run C.P w=.ok (.value v') w' ∧
  VRel β' (newSlice hp [] n.toNat n.toNat false e).1 v'∧Step C hp.floor β hp.get w β' (newSlice hp [] n.toNat n.toNat false e).2.get w':=by
 obtain ⟨cr,r1,r2⟩:=noZero_run h n h0 h1 w
 obtain ⟨fn,t,ps,q1,q2,q3,q4,q5,q6,q7⟩:=h.ok
 obtain ⟨β',s1,s2⟩:=newSlice_sim (C:=C) (f:=hp.floor) gd.rel gd.inj gd.free.1 gd.free.2 (el:=e) (cs:=[]) (len:=n.toNat) (cap:=n.toNat) (fix:=false) (cr:=cr) (cap':=cr.size) (w':=w.drew.drew.alloc (.cells cr e)) (fz:=(0,0))
  rfl rfl rfl rfl (fun h=>by cases h) (fun _=>⟨r1,by rw [q7];omega⟩) (by simp) (fun i v hv=>by simp at hv) (.inl rfl)
 refine ⟨_,_,β',r2,s2,?_⟩
 rw [newSlice,TH.get_new]
 exact s1
theorem tpOk_of {t:Tr TFun} {xs:List (Nat × Bare)} {z:Nat × TypeId} {sm:Nat} (hf:Tr.All (FnOk C.P C.G) id t) (hx:∀ k b,xs.lookup k=some b→ExtOk C.P k b.fn) (hz:NoZeroOk C.P z.1 z.2) (hs:ExtOk C.P sm Extern.AbiNoEscape.same) :
  TpOk C ⟨fun k=>t.get k,fun k=>(xs.lookup k).map Bare.run,fun k=>cond (Nat.beq k z.1) (some z.2) none,Nat.beq sm⟩ where
 fn:=fun k f h=>Tr.All.get t id hf k f h
 ext:=fun k e _ he aas v hp hv hpv ro β h w gd=>by
  rw [Option.map_eq_some_iff] at he
  obtain ⟨b,hb,rfl⟩:=he
  exact UDoes.value (callFunc_ext (hx k b hb) aas w w v (Bare.ok hv _ _)) (exact_refl hpv) (Step.refl gd.rel gd.inj)
 noZero:=fun k e _ _ hk n h0 h1 β h w gd=>by
  have hk2:k=z.1∧e=z.2:=by
   cases hb:Nat.beq k z.1 with
   | true=>simp only [hb,Bool.cond_true,Option.some.injEq] at hk;exact ⟨Nat.eq_of_beq_eq_true hb,hk.symm⟩
   | false=>simp only [hb,Bool.cond_false] at hk;cases hk
  obtain ⟨rfl,rfl⟩:=hk2
  exact noZero_ok hz n h0 h1 β h w gd
 same:=fun k _ _ _ hk v w=>by
  have:sm=k:=Nat.eq_of_beq_eq_true hk
  subst this
  exact callFunc_ext hs _ _ _ _ rfl
end Go.Tidy
namespace Go.Tidy
open Go
variable {C:Env} {β:Emb} {w:World}
structure BaseOk (C:Env) (h0:TH):Prop where
 B:C.B=h0.get
 wf:WF h0
 floor:h0.floor=h0.next
 G:∀ g,g ∈ C.G→∃ x,h0.get g=some x
 plain:∀ b x,h0.get b=some x→∃ c el,x=.cells c true false el∧c.all plain0=true
noncomputable def baseEmb (h0:TH) (β:Emb):Emb:=fun b=>match h0.get b with | some _=>β b | none=>none
theorem baseEmb_some {h0:TH} {β:Emb} {b:Nat} {e:Ent} (h:baseEmb h0 β b=some e):(∃ x,h0.get b=some x)∧β b=some e:=by
 unfold baseEmb at h
 split at h
 ·rename_i x hx;exact ⟨⟨x,hx⟩,h⟩
 ·cases h
theorem baseEmb_of {h0:TH} {β:Emb} {b:Nat} {x:TB} (h:h0.get b=some x):baseEmb h0 β b=β b:=by
 unfold baseEmb;rw [h]
theorem BaseOk.good {h0 h:TH} (hb:BaseOk C h0) (gd:Good C β h w):Good C (baseEmb h0 β) h0 w:=by
 have hin:∀ b x,h0.get b=some x→h.get b=some x∧b < h.floor:=fun b x hx=>gd.base b x (by rw [hb.B];exact hx)
 refine ⟨fun b x e hx he=>?_,fun b b' e e' ha ha' he he' hq=>?_,hb.wf,fun b hbn=>?_,fun g hg=>?_,fun g x hx=>?_⟩
 ·obtain ⟨_,hbe⟩:=baseEmb_some he
  obtain ⟨c,el,rfl,hp⟩:=hb.plain b x hx
  obtain ⟨cr,fz,q1,q2,q3,q4,q5⟩:=gd.rel b _ e (hin b _ hx).1 hbe
  refine ⟨cr,fz,q1,q2,q3,fun i v hv=>?_,q5⟩
  obtain ⟨v',r1,r2⟩:=q4 i v hv
  have hpv:plain0 v=true:=List.all_eq_true.1 hp v (List.mem_of_getElem? hv)
  obtain rfl:=plain0_eq hpv r2
  exact ⟨_,r1,plain0_refl hpv⟩
 ·obtain ⟨⟨x,hx⟩,hbe⟩:=baseEmb_some he
  obtain ⟨⟨x',hx'⟩,hbe'⟩:=baseEmb_some he'
  have al:∀ b x,h0.get b=some x→alive h.get b:=fun b x hx=>by
   obtain ⟨c,el,rfl,_⟩:=hb.plain b x hx
   exact ⟨_,(hin b _ hx).1,by simp⟩
  refine (gd.inj b b' e e' (al b x hx) (al b' x' hx') hbe hbe' hq).imp id fun ⟨⟨y,s1,s2⟩,⟨y',s3,s4⟩⟩=>?_
  rw [(hin b x hx).1] at s1
  rw [(hin b' x' hx').1] at s3
  exact ⟨⟨y,by rw [hx];exact s1,s2⟩,⟨y',by rw [hx'];exact s3,s4⟩⟩
 ·unfold baseEmb
  rw [hb.wf.none hbn]
 ·obtain ⟨x,hx⟩:=hb.G g hg
  obtain ⟨e,h1,h2⟩:=gd.glob g hg
  exact ⟨e,by rw [baseEmb_of hx];exact h1,h2⟩
 ·rw [hb.B] at hx
  exact ⟨hx,by rw [hb.floor];exact hb.wf g x hx⟩
theorem Step.forget {f:Nat} {h0 h:TH} {β0 β':Emb} {g':HG} {w':World} (hb:BaseOk C h0) (gd:Good C β h w) (s:Step C h0.floor β0 h0.get w β' g' w'):Step C f β h.get w β h.get w':=by
 have hk:∀ r,r < w.heap.size→w'.heap[r]?=w.heap[r]?:=fun r hr=>s.keep r hr fun b e hf ⟨x,hx,_⟩ _ _=>by
  have:=hb.wf b x hx
  rw [hb.floor] at hf
  omega
 refine ⟨Ext.refl β,fun _ _ h=>.inl h,fun _ x h=>⟨x,h⟩,fun _ _ _ h=>h,fun b x e hx he=>?_,gd.inj,s.os,s.tape,s.output,s.size,fun r hr _=>hk r hr,fun b e hg ⟨x,hx,_⟩ _=>?_⟩
 ·exact (gd.rel b x e hx he).world fun hy=>hk _ ((gd.rel b x e hx he).lt hy)
 ·rw [hg] at hx;cases hx
theorem ext_of {h0:TH} (hb:BaseOk C h0) (hmix:C.P.follows .mixedOrders=true) (hC:∀ m c tc,C.C m c tc ↔ compile c=some tc∧ready C.G m tc=true) {tp:TProg} (htp:TpOk C tp)
  {n k:Nat} {fn:TFun} (hk:tp.fn k=some fn) {aas:Array Value} {v:Value} {h':TH} (hp:aas.toList.all exactB=true)
  (hs:callT C.P tp (ev C.P tp n) (.func (.func k) #[] #[]) aas h0=some (v,h')) (hv:exactB v=true) :
  ∀ (ro:Option Nat) (β:Emb) (h:TH) (w:World),Good C β h w→UDoes C (fw ro) 0 h.floor β h.get w ((callFunc k aas).run C.P w) v h.get:=by
 intro ro β h w gd
 have hF:fw ro=fw none∨∃ l,fw ro=fw (some l):=by
  cases ro with
  | none=>exact .inl rfl
  | some l=>exact .inr ⟨l,rfl⟩
 rw [callFunc_enter htp hk]
 have hev:=(ev_ok (C:=C) trivial hmix htp hC n).1
 have het:=ev_tstep (P:=C.P) (tp:=tp) n
 have gd0:=hb.good gd
 have has:LRel (baseEmb h0 β) aas.toList aas.toList:=⟨rfl,all_refl hp fun _=>exact_refl⟩
 unfold callT at hs
 simp only [hk,Array.empty_append,Array.append_empty] at hs
 have fin:∀ {a1:Regs} {x:Exit} {l:List Value} (_:ev C.P tp n false fn.body (Regs.ofList aas.toList 0 .nil) h0=some (x,a1,h')) (_:x=.normal∨x=.ret) (_:resultsT C.P fn.results a1 h'=some l) (_:one l=v),
   UDoes C (fw ro) 0 h.floor β h.get w (.ok (.enter k aas) w) v h.get:=by
  intro a1 x l he hx hl hq
  refine CallsIn.next (h':=h) hF ?_ default default
  refine CallsIn.mono (enter_sim htp hev het hk has he hx hl gd0) fun en w' ⟨v',β',q1,q2,q3⟩=>?_
  rw [hq] at q2
  obtain rfl:=exact_eq hv q2
  exact ⟨_,β,q1,exact_refl hv,Step.forget hb gd q3⟩
 split at hs
 ·rename_i a1 h1 he
  rw [Option.map_eq_some_iff] at hs
  obtain ⟨l,hl,heq⟩:=hs
  simp only [Prod.mk.injEq] at heq
  obtain ⟨h1',rfl⟩:=heq
  exact fin he (.inl rfl) hl h1'
 ·rename_i a1 h1 he
  rw [Option.map_eq_some_iff] at hs
  obtain ⟨l,hl,heq⟩:=hs
  simp only [Prod.mk.injEq] at heq
  obtain ⟨h1',rfl⟩:=heq
  exact fin he (.inr rfl) hl h1'
 ·cases hs
theorem callT_of {P:Program} {tp:TProg} {k n:Nat} {fn:TFun} {args:Array Value} {h h':TH} {a:Regs} {vs:List Value} (hk:tp.fn k=some fn) (he:ev P tp n false fn.body (Regs.ofList args.toList 0 .nil) h=some (.ret,a,h')) (hr:resultsT P fn.results a h'=some vs) :
  callT P tp (ev P tp n) (.func (.func k) #[] #[]) args h=some (one vs,h'):=by
 simp only [callT,hk,Array.empty_append,Array.append_empty,he,hr,Option.map_some]
def TProg.know (tp:TProg) (k:Nat) (e:List Value→Option Value):TProg :=
 ⟨fun j=>cond (Nat.beq j k) none (tp.fn j),fun j=>cond (Nat.beq j k) (some e) (tp.ext j),fun j=>cond (Nat.beq j k) none (tp.noZero j),fun j=>!Nat.beq j k && tp.same j⟩
theorem TpOk.know {h0:TH} (hb:BaseOk C h0) (hmix:C.P.follows .mixedOrders=true) (hC:∀ m c tc,C.C m c tc ↔ compile c=some tc∧ready C.G m tc=true) {tp:TProg} (htp:TpOk C tp)
    {k:Nat} {fn:TFun} (hk:tp.fn k=some fn) {e:List Value→Option Value} (he:∀ (aas:Array Value) (v:Value),aas.toList.all exactB=true→e aas.toList=some v→exactB v=true→∃ n h',callT C.P tp (ev C.P tp n) (.func (.func k) #[] #[]) aas h0=some (v,h')):TpOk C (tp.know k e) where
  fn:=fun j f hj=>by
    simp only [TProg.know] at hj
    cases hb:Nat.beq j k with
    | true=>rw [hb] at hj;cases hj
    | false=>rw [hb] at hj;exact htp.fn j f hj
  ext:=fun j e' hj hx aas v hp hv hpv ro β h w gd=>by
    simp only [TProg.know] at hj hx
    cases hbj:Nat.beq j k with
    | true =>
      rw [hbj] at hx
      obtain rfl:=Nat.eq_of_beq_eq_true hbj
      simp only [Bool.cond_true,Option.some.injEq] at hx
      subst hx
      obtain ⟨n,h',hr⟩:=he aas v hp hv hpv
      exact ext_of hb hmix hC htp hk hp hr hpv ro β h w gd
    | false =>
      rw [hbj] at hj hx
      exact htp.ext j e' hj hx aas v hp hv hpv ro β h w gd
  noZero:=fun j e' hj hx hn n h0 h1 β h w gd=>by
    simp only [TProg.know] at hj hx hn
    cases hbj:Nat.beq j k with
    | true=>rw [hbj] at hn;cases hn
    | false=>rw [hbj] at hj hx hn;exact htp.noZero j e' hj hx hn n h0 h1 β h w gd
  same:=fun j hj hx hn hs v w=>by
    simp only [TProg.know] at hj hx hn hs
    cases hbj:Nat.beq j k with
    | true=>rw [hbj] at hs;cases hs
    | false=>rw [hbj] at hj hx hn hs;exact htp.same j hj hx hn (by simpa using hs) v w
end Go.Tidy
namespace Go.Tidy
open Go
variable {P:Program}
theorem pv_pure {α:Type} (a:α):pv P (pure a:Sem α)=some a:=rfl
theorem pv_bind {α β:Type} (s:Sem α) (f:α→Sem β):pv P (s >>= f)=(pv P s).bind fun a=>pv P (f a):=by
 show pv P (Sem.bind s f)=_
 induction s with
 | pure a=>rfl
 | program k ih=>exact ih P
 | mark m k ih=>exact ih
 | load m a k ih=>rfl
 | store m a v k ih=>rfl
 | new o k ih=>rfl
 | shape r k ih=>rfl
 | freeze a n k ih=>rfl
 | frozen a k ih=>rfl
 | getObj r k ih=>rfl
 | setObj r o k ih=>rfl
 | choose q k ih=>rfl
 | sys c k ih=>rfl
 | halt x=>rfl
theorem pv_map {α β:Type} (f:α→β) (s:Sem α):pv P (Functor.map f s)=(pv P s).map f:=by
 have:(Functor.map f s)=(s >>= fun a=>pure (f a)):=rfl
 rw [this,pv_bind]
 cases pv P s <;> rfl
theorem pv_program:pv P program=some P:=rfl
theorem pv_underlying {t:TypeId} {d:TypeDesc} (h:P.underlying t=some d):pv P (underlying t)=some d:=by
 unfold underlying
 rw [pv_bind,pv_program]
 simp only [Option.bind_some,h]
 rfl
theorem plainOp_of {o:TOper} {ρ:Operand→Value} {v:Value} (h1:plainly o.op=true) (h2:∀ x,x ∈ o.op.operands→plain (ρ x)=true) (h3:pv P (execOp ρ (toOper o))=some (.value v)) (h4:plain v=true):plainOp P o ρ=some v:=by
 have h2':(o.op.operands.toList.all fun x=>plain (ρ x))=true:=List.all_eq_true.2 fun x hx=>h2 x (by simpa using hx)
 simp only [plainOp,h1,h2',Bool.and_self,Bool.cond_true,h3,h4]
variable {tp:TProg} {a:Regs} {h:TH} {K:Regs→TH→Prop} {rest:List TOper} {d:Option Tmp} {ty:TypeId} {i:Nat} {x y z:Operand} {v vx vy vz:Value} {t u e:TypeId}
theorem WO.plainly {o:TOper} (hg:o.gt=none) (hl:o.locks=[]) (h0:heapFirst o.op=false) (h1:fastOp o.op a.eval=none) (h2:valueOp P o a.eval=none) (h3:plainOp P o a.eval=some v) (w:WO P tp rest (a.put o.dst v) h K):WO P tp (o::rest) a h K :=
 WO.op (by rw [hg];rfl) hl (fun call=>by simp only [stepOp,h0,h1,h2,h3,Bool.cond_false]) w
theorem WO.lenS {s:ByteArray} (hx:getO a x=some (.string s)) (hu:P.underlying t=some .string) (w:WO P tp rest (a.put d (.int .i64 s.size)) h K):WO P tp (⟨d,.call ⟨.builtin .len,#[x],#[t]⟩,ty,none,[],i⟩::rest) a h K:=by
 have ex:=getO_eval hx
 refine WO.plainly rfl rfl rfl rfl (by simp [valueOp,hu,ex]) (plainOp_of rfl (fun q hq=>?_) ?_ rfl) w
 ·simp only [Op.operands,Call.operands] at hq
  simp at hq
  rw [hq,ex];rfl
 ·simp [toOper,execOp,resolve,invoke,builtin,Builtin.len_,pv_bind,pv_map,pv_underlying hu,pv_pure,ex]
  rfl
end Go.Tidy
namespace Go.Tidy
open Go
structure Sc (P:Program) (t:TypeId) (z:Value):Prop where
 i:∃ i,P.info? t=some i∧i.size=1∧i.bytes≤16∧zeroP i=some z
 d:∃ d,P.underlying t=some d∧isRow d=false
 z:z.cells=#[z]
theorem sc_of {P:Program} {t:TypeId} {z:Value} (h1:(P.info? t).map (fun i=>(i.size,Nat.ble i.bytes 16,zeroP i))=some (1,true,some z)) (h2:(P.underlying t).map isRow=some false) (h3:z.cells=#[z]):Sc P t z:=by
 rw [Option.map_eq_some_iff] at h1 h2
 obtain ⟨i,q1,q2⟩:=h1
 simp only [Prod.mk.injEq,Nat.ble_eq] at q2
 exact ⟨⟨i,q1,q2.1,q2.2.1,q2.2.2⟩,h2,h3⟩
variable {P:Program} {tp:TProg} {a:Regs} {h:TH} {K:Regs→TH→Prop} {rest:List TOper} {d:Option Tmp} {ty:TypeId} {i:Nat} {x y z:Operand} {v vx vy vz:Value} {t u e:TypeId}
theorem WO.len {b:Option Addr} {n c:Nat} (hx:getO a x=some (.slice b n c)) (hu:P.underlying t=some (.slice e)) (w:WO P tp rest (a.put d (.int .i64 n)) h K):WO P tp (⟨d,.call ⟨.builtin .len,#[x],#[t]⟩,ty,none,[],i⟩::rest) a h K :=
 WO.op (h1:=h) rfl rfl (fun call=>by simp [stepOp,heapFirst,fastOp,valueOp,hu,getO_eval hx]) w
theorem indexAddr_sl {b off n c:Nat} {k:IntKind} {j:Int} {zv:Value} (hu:P.underlying t=some (.slice e)) (he:Sc P e zv) (h0:0≤j) (h1:j < n):indexAddrT P t (.slice (some ⟨b,off,none⟩) n c) (.int k j)=some (.pointer (some ⟨b,off+j.toNat,none⟩)):=by
 obtain ⟨inf,q1,q2,_⟩:=he.i
 simp [indexAddrT,hu,h0,h1,q1,q2]
theorem WO.ix {vi:Value} (hx:getO a x=some vx) (hi:getO a y=some vi) (hv:indexAddrT P t vx vi=some v) (w:WO P tp rest (a.put d v) h K):WO P tp (⟨d,.indexAddr t x y,ty,none,[],i⟩::rest) a h K :=
 WO.op (h1:=h) rfl rfl (fun call=>by simp [stepOp,heapFirst,fastOp,valueOp,getO_eval hx,getO_eval hi,hv]) w
theorem WO.fa {f:Nat} (hx:getO a x=some vx) (hv:fieldAddrT P t vx f=some v) (w:WO P tp rest (a.put d v) h K):WO P tp (⟨d,.fieldAddr t x f,ty,none,[],i⟩::rest) a h K :=
 WO.op (h1:=h) rfl rfl (fun call=>by simp [stepOp,heapFirst,fastOp,valueOp,getO_eval hx,hv]) w
theorem load_sc {b off:Nat} {c:List Value} {fix wr:Bool} {el:TypeId} {zv:Value} (he:Sc P t zv) (hg:h.get b=some (.cells c fix wr el)) (hv:c[off]?=some v):loadT P t (.pointer (some ⟨b,off,none⟩)) h=some v:=by
 obtain ⟨inf,q1,q2,_⟩:=he.i
 obtain ⟨d,q3,q4⟩:=he.d
 have hlt:off < c.length:=(List.getElem?_eq_some_iff.1 hv).1
 have:(c.drop off).head?=some v:=by rw [List.head?_drop];exact hv
 simp only [loadT,q3,q1,q4,Bool.cond_false,cellsAt,hg]
 have hb:Nat.ble (off+1) c.length=true:=by rw [Nat.ble_eq];exact hlt
 rw [hb]
 simp [List.head?_take,this]
theorem WO.box (hx:getO a x=some v) (w:WO P tp rest (a.put d (.pointer (some ⟨h.next,0,none⟩))) (h.new (.cells v.cells.toList true true t)) K):WO P tp (⟨d,.box t x,ty,none,[],i⟩::rest) a h K :=
 WO.op rfl rfl (fun call=>by simp [stepOp,heapFirst,heapOp,getO_eval hx,allocV]) w
theorem TH.get_self (h:TH) (x:TB):(h.new x).get h.next=some x:=by rw [TH.get_new];exact HG.set_same _ _ _
theorem TH.get_old {h:TH} {x:TB} {b:Nat} (hb:b < h.next):(h.new x).get b=h.get b:=by rw [TH.get_new];exact HG.set_other _ _ (by omega)
structure HX (h h':TH):Prop where
 next:h.next≤h'.next
 floor:h'.floor=h.floor
 lock:h'.lock=h.lock
 old:∀ b,b < h.next→h'.get b=h.get b
theorem HX.refl (h:TH):HX h h:=⟨Nat.le_refl _,rfl,rfl,fun _ _=>rfl⟩
theorem HX.trans {h h1 h2:TH} (s:HX h h1) (t:HX h1 h2):HX h h2:=⟨Nat.le_trans s.next t.next,t.floor.trans s.floor,t.lock.trans s.lock,fun b hb=>(t.old b (by have:=s.next;omega)).trans (s.old b hb)⟩
theorem HX.new (h:TH) (x:TB):HX h (h.new x):=⟨Nat.le_succ _,rfl,rfl,fun _ hb=>TH.get_old hb⟩
theorem HX.get {h h':TH} (s:HX h h') {b:Nat} {x:Option TB} (hb:b < h.next) (hg:h.get b=x):h'.get b=x:=(s.old b hb).trans hg
theorem TH.relock (h:TH) (l:List Nat):(h.withLock l).withLock h.lock=h:=rfl
theorem HX.relock {h h':TH} {l:List Nat} (s:HX (h.withLock l) h'):HX h (h'.withLock h.lock):=⟨s.next,s.floor,rfl,s.old⟩
variable {f x0 x1 x2 l0:Operand} {ls:List Operand} {fv v0 v1 v2:Value} {ts:Array TypeId}
theorem WO.lk1 (hf:getO a f=some fv) (h0:getO a x0=some v0) (w:∀ L,CallW P tp fv #[v0] (h.withLock L) fun v h1=>WO P tp rest (a.put d v) (h1.withLock h.lock) K):WO P tp (⟨d,.call ⟨.value f,#[x0],ts⟩,ty,none,l0::ls,i⟩::rest) a h K :=
 WO.cons_lock rfl rfl (StepW.call (by rw [getO_eval hf];simpa [getO_eval h0] using w _))
theorem WO.lk2 (hf:getO a f=some fv) (h0:getO a x0=some v0) (h1:getO a x1=some v1) (w:∀ L,CallW P tp fv #[v0,v1] (h.withLock L) fun v h1=>WO P tp rest (a.put d v) (h1.withLock h.lock) K):WO P tp (⟨d,.call ⟨.value f,#[x0,x1],ts⟩,ty,none,l0::ls,i⟩::rest) a h K :=
 WO.cons_lock rfl rfl (StepW.call (by rw [getO_eval hf];simpa [getO_eval h0,getO_eval h1] using w _))
end Go.Tidy
