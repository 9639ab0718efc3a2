/- A part of the proof. -/
import Derived.Test.YtjibbhaeaikhpaaGreatDoorPa1
import GoSem.ClaimChange
import Derived.ChangeFn
import Derived.ChangeArms
import Derived.ChangeReads
import Derived.OpenShut
import Derived.DataReads
set_option linter.all false
namespace Go.Tidy
open Go
variable {C:Env} {β:Emb} {w:World}
def TH.arg (h:TH) (x:TB):TH:=⟨h.tree.set h.next x,h.next + 1,h.next + 1,h.lock⟩
theorem TH.get_arg (h:TH) (x:TB):(h.arg x).get = HG.set h.get h.next x:=by funext j; exact Tr.get_set _ _ _ _
def AllStill (h:TH):Prop:=∀ b x,h.get b = some x → stillT x = true
structure Old (h h':TH):Prop where
 next:h.next ≤ h'.next
 lock:h'.lock = h.lock
 old:∀ b x,h.get b = some x → h'.get b = some x
theorem Old.refl (h:TH):Old h h:=⟨Nat.le_refl _,rfl,fun _ _ h => h⟩
theorem Old.trans {a b c:TH} (p:Old a b) (q:Old b c):Old a c:=⟨Nat.le_trans p.next q.next,q.lock.trans p.lock,fun b x h => q.old b x (p.old b x h)⟩
structure Laid (C:Env) (β:Emb) (h:TH) (w:World):Prop where
 good:Good C β h w
 still:AllStill h
 floor:h.floor = h.next
theorem Laid.arg {h:TH} (l:Laid C β h w) {blk d:Nat} {cr:Array Value} {el:TypeId} {fz:Nat × Nat} {c:List Value}
  (hb:w.heap[blk]? = some (.cells cr el fz)) (hl:d + c.length ≤ cr.size) (hv:LRel β c ((cr.toList.drop d).take c.length)) :
  Laid C (upd β h.next ⟨blk,d,none⟩) (h.arg (.cells c true false el)) w ∧ Old h (h.arg (.cells c true false el)) ∧ Ext β (upd β h.next ⟨blk,d,none⟩):=by
 have gd:=l.good
 have hn:h.get h.next = none:=gd.free.1
 have hf:β h.next = none:=gd.free.2
 have hx:Ext β (upd β h.next ⟨blk,d,none⟩):=Ext.upd _ hf
 have lt:∀ b x,h.get b = some x → b ≠ h.next:=fun b x hb hq => by subst hq; rw [hn] at hb; cases hb
 have st:AllStill (h.arg (.cells c true false el)):=fun b x hx => by
  rw [TH.get_arg] at hx
  by_cases hq:b = h.next
  ·subst hq; rw [HG.set_same] at hx; cases hx; rfl
  ·rw [HG.set_other _ _ hq] at hx; exact l.still b x hx
 refine ⟨⟨⟨fun b x e hg he => ?_,fun b b' e e' ⟨x,ha,_⟩ ⟨x',ha',_⟩ _ _ _ => .inr ⟨⟨x,ha,st b x ha⟩,⟨x',ha',st b' x' ha'⟩⟩,fun b x hg => ?_,fun b hb => ?_,gd.glob.mono hx,fun g x hg => ?_⟩,st,rfl⟩,⟨Nat.le_succ _,rfl,fun b x hg => ?_⟩,hx⟩
 ·rw [TH.get_arg] at hg
  by_cases hq:b = h.next
  ·subst hq
   rw [HG.set_same] at hg; cases hg
   rw [upd_same] at he; cases he
   refine ⟨cr,fz,hb,⟨rfl,fun h => by cases h⟩,hl,fun i v hi => ?_,fun h => by cases h⟩
   obtain ⟨v',h1,h2⟩:=hv.get hi
   refine ⟨v',?_,h2.mono hx⟩
   have hil:i < c.length:=(List.getElem?_eq_some_iff.1 hi).1
   rw [List.getElem?_take_of_lt hil,List.getElem?_drop] at h1
   exact h1
  ·rw [HG.set_other _ _ hq] at hg
   rw [upd_other _ _ hq] at he
   exact (gd.rel b x e hg he).mono hx
 ·rw [TH.get_arg] at hg
  show b < h.next + 1
  by_cases hq:b = h.next
  ·omega
  ·rw [HG.set_other _ _ hq] at hg
   have:=gd.wf b x hg
   omega
 ·have hb:h.next + 1 ≤ b:=hb
  rw [upd_other _ _ (by omega)]
  exact gd.fr b (by omega)
 ·obtain ⟨q1,q2⟩:=gd.base g x hg
  rw [TH.get_arg,HG.set_other _ _ (lt g x q1)]
  exact ⟨q1,by show g < h.next + 1; have:=l.floor; omega⟩
 ·rw [TH.get_arg,HG.set_other _ _ (lt b x hg)]
  exact hg
theorem Laid.bare {h:TH} (l:Laid C β h w):Laid C β (h.arg (.cells [] true false 0)) w ∧ Old h (h.arg (.cells [] true false 0)):=by
 have gd:=l.good
 have hn:h.get h.next = none:=gd.free.1
 have hf:β h.next = none:=gd.free.2
 have lt:∀ b x,h.get b = some x → b ≠ h.next:=fun b x hb hq => by subst hq; rw [hn] at hb; cases hb
 have st:AllStill (h.arg (.cells [] true false 0)):=fun b x hx => by
  rw [TH.get_arg] at hx
  by_cases hq:b = h.next
  ·subst hq; rw [HG.set_same] at hx; cases hx; rfl
  ·rw [HG.set_other _ _ hq] at hx; exact l.still b x hx
 refine ⟨⟨⟨fun b x e hg he => ?_,fun b b' e e' ⟨x,ha,_⟩ ⟨x',ha',_⟩ _ _ _ => .inr ⟨⟨x,ha,st b x ha⟩,⟨x',ha',st b' x' ha'⟩⟩,fun b x hg => ?_,fun b hb => gd.fr b (by have:h.next + 1 ≤ b:=hb; omega),gd.glob,fun g x hg => ?_⟩,st,rfl⟩,⟨Nat.le_succ _,rfl,fun b x hg => ?_⟩⟩
 ·rw [TH.get_arg] at hg
  by_cases hq:b = h.next
  ·subst hq; rw [hf] at he; cases he
  ·rw [HG.set_other _ _ hq] at hg
   exact gd.rel b x e hg he
 ·rw [TH.get_arg] at hg
  show b < h.next + 1
  by_cases hq:b = h.next
  ·omega
  ·rw [HG.set_other _ _ hq] at hg
   have:=gd.wf b x hg
   omega
 ·obtain ⟨q1,q2⟩:=gd.base g x hg
  rw [TH.get_arg,HG.set_other _ _ (lt g x q1)]
  exact ⟨q1,by show g < h.next + 1; have:=l.floor; omega⟩
 ·rw [TH.get_arg,HG.set_other _ _ (lt b x hg)]
  exact hg
def szs (P:Program) (l:List TypeId):Nat:=(l.map P.cellsOf).sum
def simple (P:Program):Nat → TypeId → Bool
  | 0,_ => false
  | n + 1,t =>
    match P.underlying t with
    | some .bool | some (.int _) | some (.float _) | some .string => P.cellsOf t == 1
    | some (.slice e) => P.cellsOf t == 1 && decide (0 < P.cellsOf e) && simple P n e
    | some (.struct fs) => fs.toList.all (fun f => simple P n f.type) && ((List.range fs.toList.length).all fun k => match fs.toList[k]? with | some f => f.offset == szs P ((fs.toList.take k).map (·.type)) | none => true) && P.cellsOf t == szs P (fs.toList.map (·.type))
    | some (.array m e) => simple P n e && P.cellsOf t == m * P.cellsOf e
    | _ => false
def Row (P:Program) (T:TypeId → List Value → Prop):List TypeId → List Value → Prop
 | [],ps => ps = []
 | t :: r,ps => ∃ p q,ps = p ++ q ∧ p.length = P.cellsOf t ∧ T t p ∧ Row P T r q
def Ty (P:Program) (h:TH):Nat → TypeId → List Value → Prop
  | 0,_,_ => False
  | n + 1,t,ps =>
    match P.underlying t with
    | some .bool => ∃ b,ps = [.bool b]
    | some (.int k) => ∃ m,ps = [.int k m] ∧ (Lit.int k m).wf = true
    | some (.float k) => ∃ b,ps = [.float k b] ∧ (Lit.float k b).wf = true
    | some .string => ∃ s,ps = [.string s] ∧ s.size ≤ maxLen
    | some (.slice e) => ∃ a m cap,ps = [.slice a m cap] ∧ m ≤ cap ∧ cap ≤ maxLen ∧ ((a = none ∧ cap = 0) ∨ ∃ b c el,a = some ⟨b,0,none⟩ ∧ b < h.next ∧ h.get b = some (.cells c true false el) ∧ Row P (Ty P h n) (List.replicate m e) c)
    | some (.struct fs) => Row P (Ty P h n) (fs.toList.map (·.type)) ps
    | some (.array m e) => Row P (Ty P h n) (List.replicate m e) ps
    | _ => False
theorem Row.mono {P:Program} {T T':TypeId → List Value → Prop} (hT:∀ t p,T t p → T' t p):∀ {l:List TypeId} {ps:List Value},Row P T l ps → Row P T' l ps
 | [],_,h => h
 | _ :: _,_,⟨p,q,h1,h2,h3,h4⟩ => ⟨p,q,h1,h2,hT _ _ h3,Row.mono hT h4⟩
theorem Ty.mono {P:Program} {h h':TH} (o:Old h h') (wf:WF h):∀ {n:Nat} {t:TypeId} {ps:List Value},Ty P h n t ps → Ty P h' n t ps
  | 0,_,_,h => h
  | n + 1,t,ps,h => by
    unfold Ty at h ⊢
    split at h <;> first | exact h | skip
    · obtain ⟨a,m,cap,h1,h2,h3,h4⟩:=h
      refine ⟨a,m,cap,h1,h2,h3,h4.imp id fun ⟨b,c,el,g1,g2,g3,g4⟩ => ?_⟩
      exact ⟨b,c,el,g1,by have:=o.next; omega,o.old _ _ g3,g4.mono fun _ _ => Ty.mono o wf⟩
    · exact h.mono fun _ _ => Ty.mono o wf
    · exact h.mono fun _ _ => Ty.mono o wf
end Go.Tidy
namespace Go.Tidy
open Go
variable {C:Env} {β:Emb} {w:World} {H:Type} {enc:TypeId × Value → H} {P:Program}
theorem mapM_some_of_get {α γ:Type} {f:α → Option γ}:∀ (l:List α) (r:List γ),r.length = l.length → (∀ (i:Nat) (x:α),l[i]? = some x → f x = r[i]?) → l.mapM f = some r
  | [],r,h,_ => by obtain rfl:=List.eq_nil_of_length_eq_zero h; rfl
  | a :: l,[],h,_ => by simp at h
  | a :: l,b :: r,h,hf => by
    have h0:=hf 0 a rfl
    have h1:=mapM_some_of_get l r (by simpa using h) fun i x hx => by
      have:=hf (i + 1) x (by simpa using hx)
      simpa using this
    simp only [List.mapM_cons,h0,h1]
    rfl
theorem add_at (b o k:Nat):(⟨b,o,none⟩:Addr).add k = ⟨b,o + k,none⟩:=by
 unfold Addr.add
 split
 ·rename_i h; simp [h]
 ·rfl
theorem add_zero (a:Addr):a.add 0 = a:=by unfold Addr.add; simp
theorem cells_there {a:Addr} {n:Nat} {cs:List Value} (h:w.cells? 0 a n = some cs) (hn:0 < n):a.spot = none ∧ ∃ cr el fz,w.heap[a.block]? = some (.cells cr el fz) ∧ a.off + n ≤ cr.size ∧ cs = (cr.toList.drop a.off).take n:=by
  obtain ⟨_,hl,hc⟩:=World.cells?_some h
  have h0:=hc 0 hn
  have sp:a.spot = none ∧ ∃ cr el fz,w.heap[a.block]? = some (.cells cr el fz):=by
    have hlt:0 < cs.length:=by omega
    rw [List.getElem?_eq_getElem hlt] at h0
    unfold World.cell? at h0
    rw [add_zero] at h0
    split at h0
    · rename_i c el fz hh
      split at h0
      · cases h0
      · rename_i hs
        exact ⟨by simpa using hs,c,el,fz,hh⟩
    · cases h0
  obtain ⟨hs,cr,el,fz,hh⟩:=sp
  obtain ⟨b,o,s⟩:=a
  cases hs
  have hg:∀ i,i < n → cr.toList[o + i]? = cs[i]?:=fun i hi => by
    have:=hc i hi
    rw [add_at] at this
    unfold World.cell? at this
    rw [hh] at this
    simpa using this
  have hsz:o + n ≤ cr.size:=by
    have:=hg (n - 1) (by omega)
    rw [List.getElem?_eq_getElem (show n - 1 < cs.length by omega)] at this
    have:=(List.getElem?_eq_some_iff.1 this).1
    simp at this
    omega
  refine ⟨rfl,cr,el,fz,hh,hsz,?_⟩
  apply List.ext_getElem?
  intro i
  by_cases hi:i < n
  · rw [List.getElem?_take_of_lt hi,List.getElem?_drop]
    exact (hg i hi).symm
  · rw [List.getElem?_eq_none (by omega),List.getElem?_eq_none (by simp; omega)]
theorem trod_float {k:FloatKind} {base:Nat} {sp:Nat → Bool} {hd:Bool} {t:TypeId} (ht:P.underlying t = some (.float k)) {fuel:Nat} {cs:List Value} {x:DataW H × List MemPlace} (h:DataW.trod enc P w base sp hd fuel t cs = some x):∃ b:Nat,cs = [.float k b] ∧ x = (.lit (.float k b),[]) ∧ (Lit.float k b).wf = true:=by
 cases fuel with
 | zero => simp [DataW.trod] at h
 | succ n =>
  unfold DataW.trod at h
  rw [ht] at h
  split at h <;> simp_all
theorem simple_cases {n:Nat} {t:TypeId} (h:simple P (n + 1) t = true) :
  (P.underlying t = some .bool ∧ P.cellsOf t = 1) ∨ (∃ k,P.underlying t = some (.int k) ∧ P.cellsOf t = 1) ∨ (∃ k,P.underlying t = some (.float k) ∧ P.cellsOf t = 1) ∨ (P.underlying t = some .string ∧ P.cellsOf t = 1) ∨
  (∃ e,P.underlying t = some (.slice e) ∧ P.cellsOf t = 1 ∧ 0 < P.cellsOf e ∧ simple P n e = true) ∨
  (∃ fs,P.underlying t = some (.struct fs) ∧ (∀ f ∈ fs.toList,simple P n f.type = true) ∧ (∀ k f,fs.toList[k]? = some f → f.offset = szs P ((fs.toList.take k).map (·.type))) ∧ P.cellsOf t = szs P (fs.toList.map (·.type))) ∨
  ∃ m e,P.underlying t = some (.array m e) ∧ simple P n e = true ∧ P.cellsOf t = m * P.cellsOf e:=by
 unfold simple at h
 split at h
 ·rename_i hu; exact .inl ⟨hu,by simpa using h⟩
 ·rename_i k hu; exact .inr (.inl ⟨k,hu,by simpa using h⟩)
 ·rename_i k hu; exact .inr (.inr (.inl ⟨k,hu,by simpa using h⟩))
 ·rename_i hu; exact .inr (.inr (.inr (.inl ⟨hu,by simpa using h⟩)))
 ·rename_i e hu
  simp only [Bool.and_eq_true,beq_iff_eq,decide_eq_true_eq] at h
  exact .inr (.inr (.inr (.inr (.inl ⟨e,hu,h.1.1,h.1.2,h.2⟩))))
 ·rename_i fs hu
  simp only [Bool.and_eq_true,beq_iff_eq,List.all_eq_true] at h
  refine .inr (.inr (.inr (.inr (.inr (.inl ⟨fs,hu,h.1.1,fun k f hf => ?_,h.2⟩)))))
  have hk:k < fs.toList.length:=(List.getElem?_eq_some_iff.1 hf).1
  have:=h.1.2 k (by simpa using hk)
  rw [hf] at this
  simpa using this
 ·rename_i m e hu
  simp only [Bool.and_eq_true,beq_iff_eq] at h
  exact .inr (.inr (.inr (.inr (.inr (.inr ⟨m,e,hu,h.1,h.2⟩)))))
 ·cases h
theorem trod_sp {sp:Nat → Bool}:∀ (n m:Nat) (t:TypeId) (cs:List Value) (x:DataW H × List MemPlace),simple P m t = true → DataW.trod enc P w 0 (fun _ => true) true n t cs = some x →
    (∀ p ∈ x.2,sp p.block = true) → DataW.trod enc P w 0 sp true n t cs = some x
  | 0,_,_,_,_,_,h,_ => by simp [DataW.trod] at h
  | n + 1,0,_,_,_,hs,_,_ => by cases hs
  | n + 1,m + 1,t,cs,x,hs,h,hp => by
    rcases simple_cases hs with ⟨hu,_⟩ | ⟨k,hu,_⟩ | ⟨k,hu,_⟩ | ⟨hu,_⟩ | ⟨e,hu,_,he,hse⟩ | ⟨fs,hu,hf,_,_⟩ | ⟨k,e,hu,hse,_⟩
    · obtain ⟨b,rfl,rfl⟩:=DataW.trod_bool hu h
      unfold DataW.trod; rw [hu]
    · obtain ⟨b,rfl,rfl,hw⟩:=DataW.trod_int hu h
      unfold DataW.trod; rw [hu]; simp [hw]
    · obtain ⟨b,rfl,rfl,hw⟩:=trod_float hu h
      unfold DataW.trod; rw [hu]; simp [hw]
    · obtain ⟨b,rfl,rfl,hw⟩:=DataW.trod_string hu h
      unfold DataW.trod; rw [hu]; simp [hw]
    · rcases DataW.trod_slice hu h with ⟨rfl,rfl⟩ | ⟨a,len,cap,elems,rest,n',hn',rfl,rfl,hb,hl,hc,hel,hE,hR,_⟩
      · unfold DataW.trod; rw [hu]; rfl
      · cases hn'
        obtain ⟨hrl,hR⟩:=hR rfl
        have one:∀ i y,i < cap → y ∈ elems ++ rest → (w.cells? 0 (a.add (i * P.cellsOf e)) (P.cellsOf e)).bind (DataW.trod enc P w 0 (fun _ => true) true n e) = some y → (w.cells? 0 (a.add (i * P.cellsOf e)) (P.cellsOf e)).bind (DataW.trod enc P w 0 sp true n e) = some y:=fun i y hi hy hv => by
          simp only [Option.bind_eq_some_iff] at hv ⊢
          obtain ⟨cs',hc',hy'⟩:=hv
          refine ⟨cs',hc',trod_sp n m e cs' y hse hy' fun p hpy => hp p ?_⟩
          simp only [List.mem_append,List.mem_flatMap]
          exact .inr ⟨y,by simpa using hy,hpy⟩
        have hm1:(List.range len).mapM (fun i => (w.cells? 0 (a.add (i * P.cellsOf e)) (P.cellsOf e)).bind (DataW.trod enc P w 0 sp true n e)) = some elems:=by
          refine mapM_some_of_get _ _ (by simp [hel]) fun i x hx => ?_
          have hi:i < len:=by have:=(List.getElem?_eq_some_iff.1 hx).1; simpa using this
          obtain rfl:i = x:=by rw [List.getElem?_range hi] at hx; simpa using hx
          rw [List.getElem?_eq_getElem (show i < elems.length by omega)]
          exact one i _ (by omega) (by simp) (by rw [hE i hi,List.getElem?_eq_getElem])
        have hm2:(if sp a.block = true then (List.range (cap - len)).mapM (fun j => (w.cells? 0 (a.add ((len + j) * P.cellsOf e)) (P.cellsOf e)).bind (DataW.trod enc P w 0 sp true n e)) else some []) = some rest:=by
          by_cases h0:cap = 0
          · have:rest = []:=List.eq_nil_of_length_eq_zero (by omega)
            subst this
            have:cap - len = 0:=by omega
            rw [this]
            split <;> rfl
          · have hsp:sp a.block = true:=by
              have:=hp (.cell a.block (a.off + 0)) (by
                simp only [List.mem_append]
                exact .inl (MemPlace.mem_row.2 ⟨0,Nat.mul_pos (by omega) he,rfl⟩))
              exact this
            rw [if_pos hsp]
            refine mapM_some_of_get _ _ (by simp [hrl]) fun i x hx => ?_
            have hi:i < cap - len:=by have:=(List.getElem?_eq_some_iff.1 hx).1; simpa using this
            obtain rfl:i = x:=by rw [List.getElem?_range hi] at hx; simpa using hx
            rw [List.getElem?_eq_getElem (show i < rest.length by omega)]
            exact one (len + i) _ (by omega) (by simp) (by rw [hR i hi,List.getElem?_eq_getElem])
        unfold DataW.trod
        rw [hu]
        simp only [hb,hl,hc,and_self,if_true,hm1,Option.bind_some]
        rw [hm2]
        rfl
    · obtain ⟨xs,n',hn',rfl,hl,hxl,hx⟩:=DataW.trod_struct hu h
      cases hn'
      have hm:fs.toList.mapM (fun f => DataW.trod enc P w 0 sp true n f.type ((cs.drop f.offset).take (P.cellsOf f.type))) = some xs:=by
        refine mapM_some_of_get _ _ (by simp [hxl]) fun i f hfi => ?_
        have hi:i < xs.length:=by have:=(List.getElem?_eq_some_iff.1 hfi).1; simp at this; omega
        have hq:=hx i f (by simpa using hfi)
        rw [List.getElem?_eq_getElem hi] at hq ⊢
        exact trod_sp n m f.type _ _ (hf f (List.mem_of_getElem? hfi)) hq fun p hpy => hp p (by
          simp only [List.mem_flatMap]; exact ⟨_,List.getElem_mem hi,hpy⟩)
      unfold DataW.trod
      rw [hu]
      split <;> simp_all
    · obtain ⟨xs,n',hn',rfl,hl,hxl,hx⟩:=DataW.trod_array hu h
      cases hn'
      have hm:(List.range k).mapM (fun i => DataW.trod enc P w 0 sp true n e ((cs.drop (i * P.cellsOf e)).take (P.cellsOf e))) = some xs:=by
        refine mapM_some_of_get _ _ (by simp [hxl]) fun i x hxi => ?_
        have hi:i < k:=by have:=(List.getElem?_eq_some_iff.1 hxi).1; simpa using this
        obtain rfl:i = x:=by rw [List.getElem?_range hi] at hxi; simpa using hxi
        have hq:=hx i hi
        have hi':i < xs.length:=by omega
        rw [List.getElem?_eq_getElem hi'] at hq ⊢
        exact trod_sp n m e _ _ hse hq fun p hpy => hp p (by
          simp only [List.mem_flatMap]; exact ⟨_,List.getElem_mem hi',hpy⟩)
      unfold DataW.trod
      rw [hu]
      split <;> simp_all
end Go.Tidy
namespace Go.Tidy
open Go
variable {C:Env} {β:Emb} {w:World} {H:Type} {enc:TypeId × Value → H}
theorem laid_row {n m:Nat} (IH:∀ (t:TypeId) (cs:List Value) (x:DataW H × List MemPlace),simple C.P m t = true → DataW.trod enc C.P w 0 (fun _ => true) true n t cs = some x →
      ∀ (β:Emb) (h:TH),Laid C β h w → ∃ β' h' ps,Laid C β' h' w ∧ Old h h' ∧ Ext β β' ∧ LRel β' ps cs ∧ Ty C.P h' m t ps ∧ cs.length = C.P.cellsOf t) :
    ∀ (L:List TypeId) (cs:List Value),cs.length = szs C.P L → (∀ t,t ∈ L → simple C.P m t = true) →
      (∀ (k:Nat) (t:TypeId),L[k]? = some t → ∃ x,DataW.trod enc C.P w 0 (fun _ => true) true n t ((cs.drop (szs C.P (L.take k))).take (C.P.cellsOf t)) = some x) →
      ∀ (β:Emb) (h:TH),Laid C β h w → ∃ β' h' ps,Laid C β' h' w ∧ Old h h' ∧ Ext β β' ∧ LRel β' ps cs ∧ Row C.P (Ty C.P h' m) L ps
  | [],cs,hl,_,_,β,h,la => by
    obtain rfl:cs = []:=List.eq_nil_of_length_eq_zero hl
    exact ⟨β,h,[],la,Old.refl h,Ext.refl β,LRel.nil,rfl⟩
  | t :: r,cs,hl,hs,hx,β,h,la => by
    obtain ⟨x,h0⟩:=hx 0 t rfl
    rw [show szs C.P ((t :: r).take 0) = 0 from rfl,List.drop_zero] at h0
    obtain ⟨β1,h1,p,l1,o1,e1,r1,t1,n1⟩:=IH t _ x (hs t (by simp)) h0 β h la
    have hsum:szs C.P (t :: r) = C.P.cellsOf t + szs C.P r:=by simp [szs]
    obtain ⟨β2,h2,q,l2,o2,e2,r2,t2⟩:=laid_row IH r (cs.drop (C.P.cellsOf t)) (by simp; omega) (fun u hu => hs u (by simp [hu])) (fun k u hk => by
      obtain ⟨y,hy⟩:=hx (k + 1) u (by simpa using hk)
      refine ⟨y,?_⟩
      rw [List.drop_drop]
      rw [show szs C.P ((t :: r).take (k + 1)) = C.P.cellsOf t + szs C.P (r.take k) by simp [szs]] at hy
      exact hy) β1 h1 l1
    refine ⟨β2,h2,p ++ q,l2,o1.trans o2,e1.trans e2,?_,p,q,rfl,by rw [r1.1]; exact n1,t1.mono o2 l1.good.wf,t2⟩
    have:=(r1.mono e2).append r2
    rwa [List.take_append_drop] at this
theorem szs_replicate {P:Program} (e:TypeId):∀ k:Nat,szs P (List.replicate k e) = k * P.cellsOf e
 | 0 => by simp [szs]
 | k + 1 => by
  have:=szs_replicate (P:=P) e k
  simp only [szs] at this ⊢
  rw [List.replicate_succ,List.map_cons,List.sum_cons,this,Nat.succ_mul,Nat.add_comm]
theorem laid_type:∀ (n m:Nat) (t:TypeId) (cs:List Value) (x:DataW H × List MemPlace),simple C.P m t = true → DataW.trod enc C.P w 0 (fun _ => true) true n t cs = some x →
      ∀ (β:Emb) (h:TH),Laid C β h w → ∃ β' h' ps,Laid C β' h' w ∧ Old h h' ∧ Ext β β' ∧ LRel β' ps cs ∧ Ty C.P h' m t ps ∧ cs.length = C.P.cellsOf t
  | 0,_,_,_,_,_,h,_,_,_ => by simp [DataW.trod] at h
  | n + 1,0,_,_,_,hs,_,_,_,_ => by cases hs
  | n + 1,m + 1,t,cs,x,hs,ht,β,h,la => by
    rcases simple_cases hs with ⟨hu,hc⟩ | ⟨k,hu,hc⟩ | ⟨k,hu,hc⟩ | ⟨hu,hc⟩ | ⟨e,hu,hc,he,hse⟩ | ⟨fs,hu,hf,ho,hc⟩ | ⟨k,e,hu,hse,hc⟩
    · obtain ⟨b,rfl,_⟩:=DataW.trod_bool hu ht
      refine ⟨β,h,_,la,Old.refl h,Ext.refl β,LRel.cons (.bool b) LRel.nil,?_,by rw [hc]; rfl⟩
      unfold Ty; rw [hu]; exact ⟨b,rfl⟩
    · obtain ⟨b,rfl,_,hw⟩:=DataW.trod_int hu ht
      refine ⟨β,h,_,la,Old.refl h,Ext.refl β,LRel.cons (.int _ b) LRel.nil,?_,by rw [hc]; rfl⟩
      unfold Ty; rw [hu]; exact ⟨b,rfl,hw⟩
    · obtain ⟨b,rfl,_,hw⟩:=trod_float hu ht
      refine ⟨β,h,_,la,Old.refl h,Ext.refl β,LRel.cons (.float _ b b (.inl rfl)) LRel.nil,?_,by rw [hc]; rfl⟩
      unfold Ty; rw [hu]; exact ⟨b,rfl,hw⟩
    · obtain ⟨b,rfl,_,hw⟩:=DataW.trod_string hu ht
      refine ⟨β,h,_,la,Old.refl h,Ext.refl β,LRel.cons (.string b) LRel.nil,?_,by rw [hc]; rfl⟩
      unfold Ty; rw [hu]; exact ⟨b,rfl,hw⟩
    · rcases DataW.trod_slice hu ht with ⟨rfl,_⟩ | ⟨a,len,cap,elems,rest,n',hn',rfl,_,hb,hl,hcm,hel,hE,hR,_⟩
      · refine ⟨β,h,_,la,Old.refl h,Ext.refl β,LRel.cons (.nilSlice 0 0) LRel.nil,?_,by rw [hc]; rfl⟩
        unfold Ty; rw [hu]
        exact ⟨none,0,0,rfl,Nat.le_refl _,Nat.zero_le _,.inl ⟨rfl,rfl⟩⟩
      cases hn'
      obtain ⟨hrl,hR⟩:=hR rfl
      by_cases h0:cap = 0
      · subst h0
        obtain rfl:len = 0:=by omega
        obtain ⟨l2,o2⟩:=la.bare
        refine ⟨β,_,[.slice (some ⟨h.next,0,none⟩) 0 0],l2,o2,Ext.refl β,LRel.cons (.emptySlice _ _) LRel.nil,?_,by rw [hc]; rfl⟩
        unfold Ty; rw [hu]
        exact ⟨_,0,0,rfl,Nat.le_refl _,Nat.zero_le _,.inr ⟨h.next,[],0,rfl,Nat.lt_succ_self _,(by rw [TH.get_arg,HG.set_same]),rfl⟩⟩
      -- each element,aas cells of one block
      have each:∀ i,i < cap → ∃ ci x,w.cells? 0 (a.add (i * C.P.cellsOf e)) (C.P.cellsOf e) = some ci ∧ DataW.trod enc C.P w 0 (fun _ => true) true n e ci = some x:=fun i hi => by
        by_cases hil:i < len
        · have:=hE i hil
          rw [List.getElem?_eq_getElem (show i < elems.length by omega),Option.bind_eq_some_iff] at this
          obtain ⟨ci,h1,h2⟩:=this
          exact ⟨ci,_,h1,h2⟩
        · have:=hR (i - len) (by omega)
          rw [List.getElem?_eq_getElem (show i - len < rest.length by omega),Option.bind_eq_some_iff,show len + (i - len) = i by omega] at this
          obtain ⟨ci,h1,h2⟩:=this
          exact ⟨ci,_,h1,h2⟩
      obtain ⟨c0,_,q0,_⟩:=each 0 (by omega)
      rw [Nat.zero_mul,add_zero] at q0
      obtain ⟨hsp,cr,el,fz,hh,hsz0,_⟩:=cells_there q0 he
      obtain ⟨blk,off,spot⟩:=a
      cases hsp
      have piece:∀ i,i < cap → off + (i + 1) * C.P.cellsOf e ≤ cr.size ∧ ∃ x,DataW.trod enc C.P w 0 (fun _ => true) true n e ((cr.toList.drop (off + i * C.P.cellsOf e)).take (C.P.cellsOf e)) = some x:=fun i hi => by
        obtain ⟨ci,x,h1,h2⟩:=each i hi
        rw [add_at] at h1
        obtain ⟨_,cr',el',fz',hh',hsz',rfl⟩:=cells_there h1 he
        rw [hh] at hh'
        cases hh'
        exact ⟨by have:off + i * C.P.cellsOf e + C.P.cellsOf e ≤ cr.size:=hsz'; rw [Nat.succ_mul]; omega,x,h2⟩
      have hroom:off + len * C.P.cellsOf e ≤ cr.size:=by
        by_cases hz:len = 0
        · subst hz
          have:off + C.P.cellsOf e ≤ cr.size:=hsz0
          omega
        · have:=(piece (len - 1) (by omega)).1
          rwa [show len - 1 + 1 = len by omega] at this
      have hlc:((cr.toList.drop off).take (len * C.P.cellsOf e)).length = len * C.P.cellsOf e:=by simp; omega
      obtain ⟨β1,h1,c,l1,o1,e1,r1,t1⟩:=laid_row (fun t cs x => laid_type n m t cs x) (List.replicate len e) ((cr.toList.drop off).take (len * C.P.cellsOf e)) (by rw [hlc,szs_replicate])
        (fun u hu => by obtain rfl:=(List.mem_replicate.1 hu).2; exact hse) (fun k u hk => by
          have hkl:k < len:=by have:=(List.getElem?_eq_some_iff.1 hk).1; simpa using this
          have hue:u = e:=by
            rw [List.getElem?_replicate,if_pos hkl] at hk
            exact (Option.some.inj hk).symm
          subst hue
          obtain ⟨_,x,hx⟩:=piece k (by omega)
          refine ⟨x,?_⟩
          rw [List.take_replicate,szs_replicate,Nat.min_eq_left (by omega),List.drop_take,List.drop_drop,List.take_take]
          have:min (C.P.cellsOf u) (len * C.P.cellsOf u - k * C.P.cellsOf u) = C.P.cellsOf u:=by
            rw [← Nat.sub_mul]
            refine Nat.min_eq_left ?_
            calc C.P.cellsOf u = 1 * C.P.cellsOf u:=by omega
              _ ≤ (len - k) * C.P.cellsOf u:=Nat.mul_le_mul_right _ (by omega)
          rw [this]
          exact hx) β h la
      have hcl:c.length = len * C.P.cellsOf e:=by rw [r1.1]; exact hlc
      obtain ⟨l2,o2,e2⟩:=l1.arg (blk:=blk) (d:=off) (c:=c) hh (by omega) (by rw [hcl]; exact r1)
      refine ⟨_,_,[.slice (some ⟨h1.next,0,none⟩) len cap],l2,o1.trans o2,e1.trans e2,LRel.cons (.slice h1.next 0 ⟨blk,off,none⟩ len cap cap (upd_same _ _ _) rfl) LRel.nil,?_,by rw [hc]; rfl⟩
      unfold Ty; rw [hu]
      refine ⟨_,len,cap,rfl,hl,hcm,.inr ⟨h1.next,c,el,rfl,Nat.lt_succ_self _,?_,t1.mono fun _ _ => Ty.mono o2 l1.good.wf⟩⟩
      rw [TH.get_arg,HG.set_same]
    · obtain ⟨xs,n',hn',_,hl,hxl,hx⟩:=DataW.trod_struct hu ht
      cases hn'
      obtain ⟨β1,h1,ps,l1,o1,e1,r1,t1⟩:=laid_row (fun t cs x => laid_type n m t cs x) (fs.toList.map (·.type)) cs (by rw [hl,hc])
        (fun u hu => by obtain ⟨f,hfm,rfl⟩:=List.mem_map.1 hu; exact hf f hfm) (fun k u hk => by
          rw [List.getElem?_map,Option.map_eq_some_iff] at hk
          obtain ⟨f,hfk,rfl⟩:=hk
          have hkl:k < xs.length:=by have:=(List.getElem?_eq_some_iff.1 hfk).1; simp at this; omega
          have:=hx k f (by simpa using hfk)
          rw [List.getElem?_eq_getElem hkl,ho k f hfk] at this
          rw [← List.map_take]
          exact ⟨_,this⟩) β h la
      refine ⟨β1,h1,ps,l1,o1,e1,r1,?_,hl⟩
      unfold Ty; rw [hu]; exact t1
    · obtain ⟨xs,n',hn',_,hl,hxl,hx⟩:=DataW.trod_array hu ht
      cases hn'
      obtain ⟨β1,h1,ps,l1,o1,e1,r1,t1⟩:=laid_row (fun t cs x => laid_type n m t cs x) (List.replicate k e) cs (by rw [hl,hc,szs_replicate])
        (fun u hu => by obtain rfl:=(List.mem_replicate.1 hu).2; exact hse) (fun i u hi => by
          have hil:i < k:=by have:=(List.getElem?_eq_some_iff.1 hi).1; simpa using this
          have hue:u = e:=by
            rw [List.getElem?_replicate,if_pos hil] at hi
            exact (Option.some.inj hi).symm
          subst hue
          have:=hx i hil
          rw [List.getElem?_eq_getElem (show i < xs.length by omega)] at this
          rw [List.take_replicate,szs_replicate,Nat.min_eq_left (by omega)]
          exact ⟨_,this⟩) β h la
      refine ⟨β1,h1,ps,l1,o1,e1,r1,?_,hl⟩
      unfold Ty; rw [hu]; exact t1
def valOf (P:Program) (t:TypeId) (ps:List Value):Value :=
 match P.underlying t with
 | some (.struct _) | some (.array _ _) => .agg ps.toArray
 | _ => ps.headD undef
def Args (P:Program) (h:TH) (m:Nat):List TypeId → List Value → Prop
 | [],[] => True
 | t :: ts,v :: vs => (∃ ps,Ty P h m t ps ∧ v = valOf P t ps) ∧ Args P h m ts vs
 | _,_ => False
theorem Args.mono {P:Program} {h h':TH} (o:Old h h') (wf:WF h) {m:Nat}:∀ {ts:List TypeId} {vs:List Value},Args P h m ts vs → Args P h' m ts vs
 | [],[],_ => trivial
 | _ :: _,_ :: _,⟨⟨ps,h1,h2⟩,h3⟩ => ⟨⟨ps,h1.mono o wf,h2⟩,h3.mono o wf⟩
 | [],_ :: _,h => h.elim
 | _ :: _,[],h => h.elim
theorem laid_value {m:Nat} {t:TypeId} {v:Value} {d:DataW H} {pl:List MemPlace} (hs:simple C.P m t = true) (ht:DataW.Trod enc C.P w 0 (fun _ => true) true t v d pl) (hv:Value.okWide C.P w .any 0 t v) {h:TH} (la:Laid C β h w) :
  ∃ β' h' u,Laid C β' h' w ∧ Old h h' ∧ Ext β β' ∧ VRel β' u v ∧ ∃ ps,Ty C.P h' m t ps ∧ u = valOf C.P t ps:=by
 obtain ⟨n,ht⟩:=ht
 obtain ⟨β1,h1,ps,l1,o1,e1,r1,t1,n1⟩:=laid_type n m t _ _ hs ht β h la
 refine ⟨β1,h1,valOf C.P t ps,l1,o1,e1,?_,ps,t1,rfl⟩
 cases m with
 | zero => cases hs
 | succ m =>
  have agg:(∃ cs,v = .agg cs ∧ cs.size = C.P.cellsOf t ∧ Row.okWide C.P w .any 0 t cs) → VRel β1 (.agg ps.toArray) v:=fun ⟨cs,hcs,_⟩ => by
   subst hcs
   have r1:LRel β1 ps cs.toList:=r1
   exact .agg _ _ (by have:=r1.1; simpa using this) r1.2
  have one:(∀ cs,v ≠ .agg cs) → VRel β1 (ps.headD undef) v:=fun hne => by
   have hc:v.cells.toList = [v]:=by cases v <;> first | rfl | (rename_i cs; exact absurd rfl (hne cs))
   rw [hc] at r1
   match ps,r1 with
   | [u],r1 => exact r1.2 0 u v rfl rfl
   | [],r1 => have:=r1.1; simp at this
   | _ :: _ :: _,r1 => have:=r1.1; simp at this
  unfold valOf
  unfold Value.okWide at hv
  rcases simple_cases hs with ⟨hu,hc⟩ | ⟨k,hu,hc⟩ | ⟨k,hu,hc⟩ | ⟨hu,hc⟩ | ⟨e,hu,hc,he,hse⟩ | ⟨fs,hu,hf,ho,hc⟩ | ⟨k,e,hu,hse,hc⟩ <;> rw [hu] at hv ⊢ <;> simp only at hv ⊢
  ·exact one fun cs hcs => by subst hcs; simp [Cell.okWide,Cell.ok,hu] at hv
  ·exact one fun cs hcs => by subst hcs; simp [Cell.okWide,Cell.ok,hu] at hv
  ·exact one fun cs hcs => by subst hcs; simp [Cell.okWide,Cell.ok,hu] at hv
  ·exact one fun cs hcs => by subst hcs; simp [Cell.okWide,Cell.ok,hu] at hv
  ·exact one fun cs hcs => by subst hcs; simp [Cell.okWide,Cell.ok,hu] at hv
  ·exact agg hv
  ·exact agg hv
theorem laid_args {m:Nat}:∀ (ts:List TypeId) (vs:List Value) (ds:List (DataW H)) (pl:List MemPlace),(∀ t,t ∈ ts → simple C.P m t = true) → DataW.TrodAll enc C.P w 0 (fun _ => true) true ts vs ds pl →
  (∀ (j:Nat) t v,ts[j]? = some t → vs[j]? = some v → Value.okWide C.P w .any 0 t v) → ∀ {β:Emb} {h:TH},Laid C β h w →
  ∃ β' h' us,Laid C β' h' w ∧ Old h h' ∧ Ext β β' ∧ LRel β' us vs ∧ Args C.P h' m ts us
 | [],[],_,_,_,_,_,β,h,la => ⟨β,h,[],la,Old.refl h,Ext.refl β,LRel.nil,trivial⟩
 | [],_ :: _,_,_,_,ht,_,_,_,_ => by cases ‹List (DataW H)› <;> exact ht.elim
 | _ :: _,[],_,_,_,ht,_,_,_,_ => by cases ‹List (DataW H)› <;> exact ht.elim
 | _ :: _,_ :: _,[],_,_,ht,_,_,_,_ => ht.elim
 | t :: ts,v :: vs,d :: ds,pl,hs,ht,hv,β,h,la => by
  obtain ⟨p,q,h1,h2,_⟩:=ht
  obtain ⟨β1,g1,u,l1,o1,e1,r1,a1⟩:=laid_value (hs t (by simp)) h1 (hv 0 t v rfl rfl) la
  obtain ⟨β2,g2,us,l2,o2,e2,r2,a2⟩:=laid_args ts vs ds q (fun t ht => hs t (by simp [ht])) h2 (fun j t v h1 h2 => hv (j + 1) t v (by simpa using h1) (by simpa using h2)) l1
  obtain ⟨ps,b1,b2⟩:=a1
  exact ⟨β2,g2,u :: us,l2,o1.trans o2,e1.trans e2,LRel.cons (r1.mono e2) r2,⟨ps,b1.mono o2 l1.good.wf,b2⟩,a2⟩
end Go.Tidy
namespace Go.Tidy
open Go
structure Tp (P:Program) (t:TypeId) (n:Nat) (z:List Value) (row:Bool):Prop where
 i:∃ i,P.info? t = some i ∧ i.size = n ∧ i.bytes ≤ 128 ∧ ∃ zv,zeroP i = some zv ∧ zv.cells.toList = z
 d:∃ d,P.underlying t = some d ∧ isRow d = row
 n:z.length = n
structure At (h:TH) (b:Nat) (x:TB):Prop where
 get:h.get b = some x
 lt:b < h.next
theorem At.hx {h h':TH} {b:Nat} {x:TB} (a:At h b x) (s:HX h h'):At h' b x:=⟨(s.old b a.lt).trans a.get,by have:=s.next; have:=a.lt; omega⟩
theorem At.new (h:TH) (x:TB):At (h.new x) h.next x:=⟨TH.get_self h x,Nat.lt_succ_self _⟩
theorem At.upd {h:TH} {b:Nat} {x y:TB} (a:At h b x) {c:Nat} (hc:b ≠ c):At (h.upd c y) b x:=⟨by rw [TH.get_upd,if_neg hc]; exact a.get,a.lt⟩
theorem At.relock {h:TH} {b:Nat} {x:TB} (a:At h b x) (l:List Nat):At (h.withLock l) b x:=⟨a.get,a.lt⟩
variable {P:Program} {tp:TProg} {a:Regs} {h:TH} {K:Regs → TH → Prop} {rest:List TOper} {d:Option Tmp} {ty:TypeId} {i:Nat} {x y:Operand} {v vx vy vz:Value} {t u e:TypeId} {n:Nat} {z:List Value} {row:Bool}
theorem indexAddr_tp {b off m c:Nat} {k:IntKind} {j:Nat} (hu:P.underlying t = some (.slice e)) (he:Tp P e n z row) (h1:j < m):indexAddrT P t (.slice (some ⟨b,off,none⟩) m c) (.int k (j:Nat)) = some (.pointer (some ⟨b,off + j * n,none⟩)):=by
 obtain ⟨inf,q1,q2,_⟩:=he.i
 have:(j:Int) < (m:Int):=by omega
 simp [indexAddrT,hu,this,q1,q2]
def SlC (h:TH) (v:Value) (sz m:Nat) (c:List Value):Prop :=
 ∃ bo cap,v = .slice bo m cap ∧ m ≤ cap ∧ c.length = m * sz ∧ ((bo = none ∧ m = 0) ∨ ∃ b off cc fix wr el,bo = some ⟨b,off,none⟩ ∧ At h b (.cells cc fix wr el) ∧ (cc.drop off).take (m * sz) = c ∧ off + m * sz ≤ cc.length)
theorem SlC.hx {h h':TH} {sz m:Nat} {c:List Value} (s:SlC h v sz m c) (x:HX h h'):SlC h' v sz m c:=by
 obtain ⟨bo,cap,h1,h2,h3,h4⟩:=s
 exact ⟨bo,cap,h1,h2,h3,h4.imp id fun ⟨b,off,cc,fix,wr,el,q1,q2,q3,q4⟩ => ⟨b,off,cc,fix,wr,el,q1,q2.hx x,q3,q4⟩⟩
theorem SlC.relock {h:TH} {sz m:Nat} {c:List Value} (s:SlC h v sz m c) (l:List Nat):SlC (h.withLock l) v sz m c:=by
 obtain ⟨bo,cap,h1,h2,h3,h4⟩:=s
 exact ⟨bo,cap,h1,h2,h3,h4.imp id fun ⟨b,off,cc,fix,wr,el,q1,q2,q3,q4⟩ => ⟨b,off,cc,fix,wr,el,q1,q2.relock l,q3,q4⟩⟩
theorem SlC.nil (h:TH) (sz cap:Nat):SlC h (.slice none 0 cap) sz 0 []:=⟨none,cap,rfl,Nat.zero_le _,by simp,.inl ⟨rfl,rfl⟩⟩
theorem SlC.at {h:TH} {sz m:Nat} {c:List Value} (s:SlC h v sz m c) (hu:P.underlying t = some (.slice e)) (he:Tp P e sz z row) {j:Nat} (hj:j < m) {k:IntKind} :
  ∃ b o cc fix wr el,indexAddrT P t v (.int k (j:Nat)) = some (.pointer (some ⟨b,o,none⟩)) ∧ At h b (.cells cc fix wr el) ∧ o + sz ≤ cc.length ∧ (cc.drop o).take sz = (c.drop (j * sz)).take sz ∧ ∀ q,q < sz → cc[o + q]? = c[j * sz + q]?:=by
 obtain ⟨bo,cap,rfl,h2,h3,h4⟩:=s
 rcases h4 with ⟨_,h0⟩ | ⟨b,off,cc,fix,wr,el,rfl,q2,q3,q4⟩
 ·omega
 have hle:(j + 1) * sz ≤ m * sz:=Nat.mul_le_mul_right _ hj
 rw [Nat.succ_mul] at hle
 have key:∀ q,q < sz → cc[off + j * sz + q]? = c[j * sz + q]?:=fun q hq => by
  rw [← q3,List.getElem?_take_of_lt (by omega),List.getElem?_drop,Nat.add_assoc]
 refine ⟨b,off + j * sz,cc,fix,wr,el,indexAddr_tp hu he hj,q2,by omega,?_,key⟩
 apply List.ext_getElem?
 intro q
 by_cases hq:q < sz
 ·rw [List.getElem?_take_of_lt hq,List.getElem?_take_of_lt hq,List.getElem?_drop,List.getElem?_drop,key q hq]
 ·rw [List.getElem?_eq_none (by simp; omega),List.getElem?_eq_none (by simp; omega)]
def Fits (h:TH) (v:Value) (e:TypeId):Prop:=∀ b off m cap,v = .slice (some ⟨b,off,none⟩) m cap → ∃ cc fix wr el,At h b (.cells cc fix wr el) ∧ (fix = true ∨ el = e)
theorem Fits.hx {h h':TH} {v:Value} {e:TypeId} (s:Fits h v e) (x:HX h h'):Fits h' v e:=fun b off m cap hv => by
 obtain ⟨cc,fix,wr,el,h1,h2⟩:=s b off m cap hv
 exact ⟨cc,fix,wr,el,h1.hx x,h2⟩
theorem Fits.relock {h:TH} {v:Value} {e:TypeId} (s:Fits h v e) (L:List Nat):Fits (h.withLock L) v e:=fun b off m cap hv => by
 obtain ⟨cc,fix,wr,el,h1,h2⟩:=s b off m cap hv
 exact ⟨cc,fix,wr,el,h1.relock L,h2⟩
theorem Fits.of {h:TH} {b off m cap:Nat} {cc:List Value} {fix wr:Bool} {el e:TypeId} (a:At h b (.cells cc fix wr el)) (hf:fix = true ∨ el = e):Fits h (.slice (some ⟨b,off,none⟩) m cap) e:=fun b' off' m' cap' hv => by
 cases hv
 exact ⟨cc,fix,wr,el,a,hf⟩
end Go.Tidy
namespace Go.Tidy
open Go
variable {P:Program} {tp:TProg} {a:Regs} {h:TH} {K:Regs → TH → Prop} {rest:List TOper} {d:Option Tmp} {ty:TypeId} {i:Nat} {x y:Operand} {v vx vy vz:Value} {t u e:TypeId} {n:Nat} {z:List Value} {row:Bool}
structure Put (h h':TH) (b:Nat) (x:TB):Prop where
 at_:At h' b x
 oth:∀ c y,c ≠ b → At h c y → At h' c y
 next:h'.next = h.next
 floor:h'.floor = h.floor
 lock:h'.lock = h.lock
 hx:∀ h0,HX h0 h → h0.next ≤ b → HX h0 h'
theorem SlC.put {h h':TH} {b c off sz m cap:Nat} {cs:List Value} {x:TB} (s:SlC h (.slice (some ⟨b,off,none⟩) m cap) sz m cs) (p:Put h h' c x) (hc:b ≠ c):SlC h' (.slice (some ⟨b,off,none⟩) m cap) sz m cs:=by
 obtain ⟨bo,cap',h1,h2,h3,h4⟩:=s
 cases h1
 refine ⟨_,_,rfl,h2,h3,h4.imp id fun ⟨b',off',cc,fix,wr,el,q1,q2,q3,q4⟩ => ?_⟩
 cases q1
 exact ⟨_,_,cc,fix,wr,el,rfl,p.oth _ _ hc q2,q3,q4⟩
def Above (n0:Nat) (v:Value):Prop:=∀ b off sp m c,v = .slice (some ⟨b,off,sp⟩) m c → n0 ≤ b
theorem Above.slice {n0 b off m c:Nat} (h:n0 ≤ b):Above n0 (.slice (some ⟨b,off,none⟩) m c):=fun _ _ _ _ _ e => by cases e; exact h
theorem Above.nil {n0 m c:Nat}:Above n0 (.slice none m c):=fun _ _ _ _ _ e => by cases e
theorem Above.le {n0 n1:Nat} {v:Value} (h:Above n1 v) (hn:n0 ≤ n1):Above n0 v:=fun b off sp m c e => Nat.le_trans hn (h b off sp m c e)
theorem evOps_append {stp:TOper → (Operand → Value) → TH → Option (Value × TH)}:∀ (l1 l2:List TOper) (a:Regs) (h:TH),evOps stp (l1 ++ l2) a h = (evOps stp l1 a h).bind fun q => evOps stp l2 q.1 q.2
  | [],_,_,_ => rfl
  | o :: l1,l2,a,h => by
    simp only [List.cons_append,evOps]
    have ih:=evOps_append (stp:=stp) l1 l2
    cases wantT o.gt a with
    | false => simp only [Bool.cond_false]; exact ih _ _
    | true =>
      simp only [Bool.cond_true]
      cases o.locks with
      | nil =>
        simp only
        cases stp o a.eval h with
        | none => rfl
        | some q => exact ih _ _
      | cons x r =>
        simp only
        cases stp o a.eval (h.withLock (lockOf (x :: r) a.eval h.lock)) with
        | none => rfl
        | some q => exact ih _ _
theorem WO.two {l1 l2:List TOper} (w:WO P tp l1 a h fun a' h' => WO P tp l2 a' h' K):WO P tp (l1 ++ l2) a h K:=by
 unfold WO at w
 obtain ⟨n,a1,h1,e1,w2⟩:=w
 obtain ⟨n2,a2,h2,e2,q⟩:=w2
 unfold WO
 exact ⟨Max.max n n2,a2,h2,fun m hm => by rw [evOps_append,e1 m (by omega)]; exact e2 m (by omega),q⟩
theorem WO.cut (k:Nat) {l:List TOper} (w:WO P tp (l.take k) a h fun a' h' => WO P tp (l.drop k) a' h' K):WO P tp l a h K:=by
 have:=WO.two w
 rwa [List.take_append_drop] at this
end Go.Tidy
namespace Go.Tidy
open Go
structure Enc {α:Type} (enc:α → List Value) (n:Nat):Prop where
 len:∀ a,(enc a).length = n
 one:∀ a,(enc a).all oneCell = true
def cat {α:Type} (enc:α → List Value) (l:List α):List Value:=l.flatMap enc
section
variable {α:Type} {enc:α → List Value} {n:Nat}
theorem cat_cons (a:α) (l:List α):cat enc (a :: l) = enc a ++ cat enc l:=rfl
theorem cat_append (l m:List α):cat enc (l ++ m) = cat enc l ++ cat enc m:=by simp [cat]
theorem Enc.all (E:Enc enc n):∀ l:List α,(cat enc l).all oneCell = true
 | [] => rfl
 | a :: l => by rw [cat_cons,List.all_append,E.one,E.all l]; rfl
theorem Enc.drop (E:Enc enc n):∀ (l:List α) (i:Nat),(cat enc l).drop (i * n) = cat enc (l.drop i)
 | [],i => by simp [cat]
 | a :: l,0 => by simp
 | a :: l,i + 1 => by
  rw [cat_cons,Nat.succ_mul,Nat.add_comm,← List.drop_drop,List.drop_left' (E.len a),E.drop l i,List.drop_succ_cons]
theorem Enc.take (E:Enc enc n):∀ (l:List α) (i:Nat),(cat enc l).take (i * n) = cat enc (l.take i)
 | [],i => by simp [cat]
 | a :: l,0 => by simp [cat]
 | a :: l,i + 1 => by
  rw [cat_cons,Nat.succ_mul,Nat.add_comm,List.take_add,List.take_left' (E.len a),List.drop_left' (E.len a),E.take l i,List.take_succ_cons,cat_cons]
theorem Enc.at (E:Enc enc n) {l:List α} {i:Nat} {a:α} (h:l[i]? = some a):((cat enc l).drop (i * n)).take n = enc a:=by
 rw [E.drop]
 have:l.drop i = a :: l.drop (i + 1):=by
  have hi:=(List.getElem?_eq_some_iff.1 h)
  rw [List.drop_eq_getElem_cons hi.1,hi.2]
 rw [this,cat_cons,List.take_left' (E.len a)]
theorem Enc.get (E:Enc enc n) {l:List α} {i q:Nat} {a:α} (h:l[i]? = some a) (hq:q < n):(cat enc l)[i * n + q]? = (enc a)[q]?:=by
 rw [← E.at h,List.getElem?_take_of_lt hq,List.getElem?_drop]
theorem Enc.set (E:Enc enc n) {l:List α} {i:Nat} (h:i < l.length) (a:α):splice (cat enc l) (i * n) (enc a) = cat enc (l.set i a):=by
 unfold splice
 have e1:=E.take l i
 have e2:=E.drop l (i + 1)
 rw [E.len,show i * n + n = (i + 1) * n by rw [Nat.succ_mul],e1,e2,List.set_eq_take_append_cons_drop,if_pos h,cat_append,cat_cons]
end
def encF (b:Nat):List Value:=[.float .f32 b]
def encS (p:Int × Int):List Value:=[.int .i64 p.1,.int .i64 p.2]
def SlL {α:Type} (enc:α → List Value) (n:Nat) (h:TH) (v:Value) (l:List α):Prop:=SlC h v n l.length (cat enc l)
section
variable {α:Type} {enc:α → List Value} {n:Nat} {h h':TH} {v:Value} {l:List α}
theorem SlL.hx (s:SlL enc n h v l) (x:HX h h'):SlL enc n h' v l:=SlC.hx s x
theorem SlL.nil:SlL enc n h (.slice none 0 0) []:=SlC.nil h n 0
theorem SlL.relock (s:SlL enc n h v l) (L:List Nat):SlL enc n (h.withLock L) v l:=SlC.relock s L
theorem SlL.at {P:Program} {t e:TypeId} {z:List Value} {row:Bool} (s:SlL enc n h v l) (E:Enc enc n) (hu:P.underlying t = some (.slice e)) (he:Tp P e n z row) {j:Nat} {a:α} (hj:l[j]? = some a) (k:IntKind) :
  ∃ b o cc fix wr el,indexAddrT P t v (.int k (j:Nat)) = some (.pointer (some ⟨b,o,none⟩)) ∧ At h b (.cells cc fix wr el) ∧ o + n ≤ cc.length ∧ (cc.drop o).take n = enc a ∧ ∀ q,q < n → cc[o + q]? = (enc a)[q]?:=by
 have hlt:=(List.getElem?_eq_some_iff.1 hj).1
 obtain ⟨b,o,cc,fix,wr,el,h1,h2,h3,h4,h5⟩:=SlC.at s hu he hlt (k:=k)
 exact ⟨b,o,cc,fix,wr,el,h1,h2,h3,by rw [h4,E.at hj],fun q hq => by rw [h5 q hq,E.get hj hq]⟩
end
end Go.Tidy
namespace Go.Tidy
open Go
variable {P:Program} {tp:TProg} {a:Regs} {h:TH} {K:Regs → TH → Prop} {rest:List TOper} {d:Option Tmp} {ty:TypeId} {i:Nat} {x y:Operand} {v vx vy vz:Value} {t u e:TypeId} {n:Nat} {z:List Value} {row:Bool}
def bl:Value → Option Nat
 | .slice (some a) _ _ => some a.block
 | _ => none
def OwnL {α:Type} (enc:α → List Value) (n0:Nat) (h:TH) (v:Value) (e:TypeId) (l:List α):Prop :=
 (v = .slice none 0 0 ∧ l = []) ∨ (l ≠ [] ∧ ∃ b,v = .slice (some ⟨b,0,none⟩) l.length l.length ∧ n0 ≤ b ∧ At h b (.cells (cat enc l) false true e))
section
variable {α:Type} {enc:α → List Value} {n0:Nat} {h':TH} {l:List α}
theorem OwnL.nil:OwnL enc n0 h (.slice none 0 0) e []:=.inl ⟨rfl,rfl⟩
theorem OwnL.keep (o:OwnL enc n0 h v e l) (k:∀ c y,bl v = some c → At h c y → At h' c y):OwnL enc n0 h' v e l :=
 o.imp id fun ⟨h0,b,h1,h2,h3⟩ => ⟨h0,b,h1,h2,k b _ (by rw [h1]; rfl) h3⟩
theorem OwnL.hx (o:OwnL enc n0 h v e l) (x:HX h h'):OwnL enc n0 h' v e l:=o.keep fun _ _ _ a => a.hx x
theorem OwnL.lt (o:OwnL enc n0 h v e l) {c:Nat} (hc:bl v = some c):n0 ≤ c ∧ c < h.next:=by
 rcases o with ⟨rfl,rfl⟩ | ⟨_,b,rfl,h2,h3⟩
 ·cases hc
 ·cases hc; exact ⟨h2,h3.lt⟩
end
end Go.Tidy
