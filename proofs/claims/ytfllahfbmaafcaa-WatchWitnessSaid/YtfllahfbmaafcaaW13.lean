import Derived.Test.YtfllahfbmaafcaaW12
import Derived.Test.YtfllahfbmaafcaaW0
import Derived.Test.YtfllahfbmaafcaaW1
import Derived.Test.YtfllahfbmaafcaaW2
import Derived.Test.YtfllahfbmaafcaaW3
import Derived.Test.YtfllahfbmaafcaaW10
import Derived.Test.YtfllahfbmaafcaaW5
import Derived.Test.YtfllahfbmaafcaaW4
set_option linter.unusedVariables false
set_option linter.unusedSimpArgs false
namespace Go.Proofs.aG
open Go.Proofs Ab
noncomputable section
set_option maxRecDepth 100000
set_option maxHeartbeats 4000000
section
variable {q:aD} {l:List aK} (f:RF q l) {s:Nat} (hs:s<256) {t x:Int} (t0:0≤t) (t1:t≤100000)
include f hs t0 t1
theorem Uy (hx:x< -1000000000000∨1000000000000<x):cq q l [(⟨t,x,x⟩:Gate)] ((s:Nat):Int)=none:=by
 obtain ⟨r0,r1,f0,f1⟩:=f.pG
 have fs:=f.start
 have h1:1≤(pe q l [(⟨t,x,x⟩:Gate)] ((s:Nat):Int)).length:=by rw[pM];omega
 obtain ⟨p1,p2,p3⟩:=qI h1
 have len:=p1.length_eq
 have tm:∀g∈pe q l [(⟨t,x,x⟩:Gate)] ((s:Nat):Int),0≤g.time∧g.time≤100000:=fun g hg=>by
  rcases (lh f hs).1 hg with rfl | hg | ⟨j,hj,e⟩
  · exact ⟨Int.le_refl _,by simp only;omega⟩
  · obtain rfl:=List.mem_singleton.1 hg
    exact ⟨t0,t1⟩
  · have g:=(f.read j hj).2.1
    cases e1:s.testBit (l.g j).aL.toNat with
    | true=>rw[e1,if_pos rfl] at e;subst e;exact g
    | false=>rw[e1,if_neg (by decide)] at e;subst e;exact g
 have h0:(pe q l [(⟨t,x,x⟩:Gate)] ((s:Nat):Int)).g 0=⟨0,q.ai,q.af⟩:=rfl
 have s0:=p3 fun j hj=>by
  rw[h0]
  exact (tm _ (by rw[kI hj];exact List.getElem_mem hj)).1
 rw[h0] at s0
 have mS:∀j,j<(pe q l [(⟨t,x,x⟩:Gate)] ((s:Nat):Int)).length→(lH (pe q l [(⟨t,x,x⟩:Gate)] ((s:Nat):Int))).g j∈pe q l [(⟨t,x,x⟩:Gate)] ((s:Nat):Int):=fun j hj=>by
  have nD:j<(lH (pe q l [(⟨t,x,x⟩:Gate)] ((s:Nat):Int))).length:=by omega
  rw[kI nD]
  exact p1.subset (List.getElem_mem nD)
 have mx:(⟨t,x,x⟩:Gate)∈lH (pe q l [(⟨t,x,x⟩:Gate)] ((s:Nat):Int)):=p1.symm.subset ((lh f hs).2 (.inr (.inl (List.mem_singleton.2 rfl))))
 obtain ⟨j,hj,ej⟩:=List.mem_iff_getElem.1 mx
 have ej':(lH (pe q l [(⟨t,x,x⟩:Gate)] ((s:Nat):Int))).g j=⟨t,x,x⟩:=by rw[kI hj];exact ej
 have j1:1≤j:=by
  refine Nat.pos_of_ne_zero fun e=>?_
  subst e
  rw[s0] at ej'
  have a:=congrArg Gate.aw ej'
  simp only at a
  omega
 rw[A5,Option.map_eq_none_iff]
 exact Ux r0 r1 f0 f1 hx _ 1 _ o! len (Nat.le_refl _) (fun u hu=>tm _ (mS u hu)) (fun u v a b=>p2 u v a b) (by rw[s0];simp only;omega) (by rw[s0];simp only;omega) (by rw[s0];simp only;omega) ⟨j,j1,by omega,by rw[ej'],by rw[ej']⟩
omit hs in
theorem Dl (v:LZ q l s t x): -2000000000≤x∧x≤2000000000:=by
 have:=v _ (.inl rfl)
 rw[eY,if_pos (show (JK q).time≤t from t0)] at this
 have e:t -(JK q).time=t:=by show t - 0=t;omega
 rw[e] at this
 have a:(JK q).aw=q.ai:=rfl
 have b:(JK q).ar=q.af:=rfl
 simp only[a,b] at this
 have m1:=iP f.pG.2.2.1 f.pG.2.2.2 t0 t1
 have m2:=iP f.pG.1 f.pG.2.1 t0 t1
 have:=f.start
 omega
theorem Dm:cq q l [(⟨t,x,x⟩:Gate)] ((s:Nat):Int)=none↔¬(vX q l s∧LZ q l s t x):=by
 by_cases hx: -1000000000000≤x∧x≤1000000000000
 · rw[(Dk f hs t0 t1 hx.1 hx.2).1,Uw f t0]
 · have:=Uy f hs t0 t1 (x:=x) o!
   rw[this]
   refine ⟨fun _ c=>?_,fun _=>rfl⟩
   have:=Dl f t0 t1 c.2
   omega
end
section
variable {q:aD} {l:List aK} (f:RF q l) {r:List Gate} {m:Int}
include f
theorem MF (h:kS q l r m=none) {s:Nat} (hs:s<2^q.aC.length) (hm:(sz s:Int)=m):cq q l r ((s:Nat):Int)=none:=by
 have hp:=pH f.bad.2.2
 rw[kS,List.findSome?_eq_none_iff,HC f.bad.2.2,yr] at h
 have a:=h [AV.int .u64 ((s:Nat):Int)] (List.mem_map.2 ⟨s,List.mem_filter.2 ⟨List.mem_range'_1.2 ⟨Nat.zero_le _,by omega⟩,by rw[decide_eq_true_eq,A4 o!];exact hm⟩,rfl⟩)
 have b:(cq q l r ((s:Nat):Int)).map (fun w=>(((s:Nat):Int),w))=none:=a
 simpa using b
theorem Dn {y:Int×List Gate} (h:kS q l r m=some y):∃s:Nat,s<2^q.aC.length∧(sz s:Int)=m∧y.1=((s:Nat):Int)∧cq q l r ((s:Nat):Int)=some y.2:=by
 have hp:=pH f.bad.2.2
 rw[kS,HC f.bad.2.2,yr] at h
 obtain ⟨a,ha,e⟩:=List.exists_of_findSome?_eq_some h
 obtain ⟨s,h1,rfl⟩:=List.mem_map.1 ha
 obtain ⟨h2,h3⟩:=List.mem_filter.1 h1
 have h4:s<2^q.aC.length:=by have:=List.mem_range'_1.1 h2;omega
 obtain ⟨w,e1,rfl⟩:=Option.map_eq_some_iff.1 (show (cq q l r ((s:Nat):Int)).map (fun w=>(((s:Nat):Int),w))=some y from e)
 exact ⟨s,h4,by rw[←A4 o!];exact of_decide_eq_true h3,rfl,e1⟩
omit f in
theorem Om (q:aD) (l:List aK) (r:List Gate):∀(k i:Nat),pg q l r k i=none→∀j,i≤j→j<i+k→kS q l r ((j:Nat):Int)=none
 | 0,i,_,j,a,b=>by omega
 | k+1,i,h,j,a,b=>by
   rw[pg] at h
   cases e:kS q l r ((i:Nat):Int) with
   | some y=>rw[e] at h;cases h
   | none=>
     rw[e] at h
     by_cases ej:j=i
     · subst ej;exact e
     · exact Om q l r k (i+1) h j o! o!
omit f in
theorem HS (q:aD) (l:List aK) (r:List Gate) {y:Int×List Gate}:∀(k i:Nat),pg q l r k i=some y→∃j,i≤j∧j<i+k∧kS q l r ((j:Nat):Int)=some y
 | 0,i,h=>by rw[pg] at h;cases h
 | k+1,i,h=>by
   rw[pg] at h
   cases e:kS q l r ((i:Nat):Int) with
   | some z=>rw[e] at h;cases h;exact ⟨i,Nat.le_refl _,by omega,e⟩
   | none=>
     rw[e] at h
     obtain ⟨j,a,b,c⟩:=HS q l r k (i+1) h
     exact ⟨j,by omega,by omega,c⟩
end
theorem MG {q:aD} {l:List aK} (f:RF q l) {t x:Int} (t0:0≤t) (t1:t≤100000):pg q l [(⟨t,x,x⟩:Gate)] (q.bad+1).toNat 0=none↔¬uT (cC q l t) x:=by
 have hp:=pH f.bad.2.2
 have b:=f.bad
 rw[(tw f t0 t1).2]
 constructor
 · rintro h ⟨s,h1,h2,h3,h4⟩
   have a:=MF f (Om _ _ _ _ _ h q.bad.toNat (Nat.zero_le _) o!) h1 (by rw[h2];omega)
   exact (Dm f o! t0 t1).1 a ⟨h3,h4⟩
 · intro h
   cases e:pg q l [(⟨t,x,x⟩:Gate)] (q.bad+1).toNat 0 with
   | none=>rfl
   | some y=>
     exfalso
     obtain ⟨j,_,j2,e1⟩:=HS _ _ _ _ _ e
     obtain ⟨s,h1,h2,h3,h4⟩:=Dn f e1
     have hv:vX q l s∧LZ q l s t x:=by
      refine Classical.byContradiction fun c=>?_
      rw[(Dm f o! t0 t1).2 c] at h4
      cases h4
     obtain ⟨s',a1,a2,a3⟩:=Tl b.2.2 (b:=q.bad.toNat) o! (q.bad.toNat - sz s) s h1 o!
     exact h ⟨s',a1,by omega,fun i hi k hk=>hv.1 i (uy f a3 hi) k (uy f a3 hk),fun c hc=>hv.2 c (uy f a3 hc)⟩
def aei (x_:List Int) (t:Int):Int:=(x_.g (xB t ((x_.length - 1:Nat):Int)).toNat)



theorem bH.af7 {α:Type} [aF α] {h0 h:aA} {v:AV} {l:List α} (o:bH h0 h v l) (x:aY h v l) {t:TypeId} (ht:env.P.underlying t=some (.slice (aF.e α))) {i:Nat} (hi:i≤l.length):∃r,fK env t v none (some (.int .i64 ((i:Nat):Int))) none=some r∧aY h r (l.take i):=by
 by_cases lJ:i<l.length
 · exact x.pre ht lJ
 · have e:i=l.length:=by omega
   subst e
   refine ⟨v,?_,by rw[List.take_length];exact x⟩
   have sz:=x.at_.size
   rcases o with ⟨w,rfl⟩ | ⟨hn,p,op,rfl,hp,hg⟩
   · rcases w with rfl | ⟨p,rfl,_,_⟩
     · simp only[fK,ht,sz];rfl
     · simp only[fK,ht,sz];rfl
   · have hl:0<l.length:=by
      cases l with
      | nil=>exact absurd rfl hn
      | cons a l=>exact Nat.succ_pos _
     simp only[fK,ht,sz,Nat.le_refl,if_true,qo (len:=l.length) (cap:=l.length) none (some (.int .i64 ((l.length:Nat):Int))) (.inr ⟨rfl,rfl⟩) (.inl rfl) (Nat.zero_le _) (Nat.le_refl _)]
     rw[if_neg o!]
     simp





def vn:Code:=(Try.f11.body).getD .skip
theorem Dp:Try.f11.body=some vn:=by kernel_rfl
def HU:Code:=(cc vn).getD 0 .skip
def dh (l_:List Span) (x_:Int):Nat→Nat→Option (Bool)
 | 0,_=>none
 | dQ+1,i0=>(bif (decide ((l_.g i0).ay≤x_)) then (bif (decide (x_≤((l_.g i0).aq))) then some true else dh l_ x_ dQ (i0+1)) else dh l_ x_ dQ (i0+1))
theorem mW {d:Nat} {h:aA} (bJ:AV) (x_:Int) (l_:List Span) (bF:aY h bJ l_):∀(k_ i_:Nat) (_:i_+k_=l_.length) (x:Nat→AV) (hh:aA) (aQ:Tidy hh) (aW:Has h hh),aU (cz (d)) HU ⟨(bJ::(Zi x_)::rx x 2 3 ((Zn i_)::rx x 6 22 [])),hh,[],.no⟩ (.exit 0) hh (fun y=>(bJ::(Zi x_)::rx y 2 26 [])) (fun r y=>(bJ::(Zi x_)::(y 2)::(y 3)::(AV.bool r)::rx y 5 23 [])) (dh l_ x_ k_ i_)
 | 0,i0,kY,x,hh,aQ,aW=>by
   have eR:=bF.small
   have ja:dy (some (.slice 23)) (some bJ)=some (Zn l_.length):=(bF.has aW).len
   have q2:(decide (((i0:Nat):Int)<((l_.length:Nat):Int)))=false:=d!
   exact aU.out rfl (pk (d) _ _ hh _ hh (CN 2<|VV ja<|VV (bK 3 false false .i64 ((i0:Nat):Int) ((l_.length:Nat):Int))<|BB q2<|ZZ) k!) (Grow.refl aQ) k!
 | dQ+1,i0,kY,x,hh,aQ,aW=>by
   have eR:=bF.small
   have ja:dy (some (.slice 23)) (some bJ)=some (Zn l_.length):=(bF.has aW).len
   have q2:(decide (((i0:Nat):Int)<((l_.length:Nat):Int)))=true:=d!
   obtain ⟨p4,q5,jD⟩:=(bF.has aW).elem (i:=i0) o!
   have tb:cK env (some (.slice 23)) (some bJ) (some (Zn i0))=some (AV.ptr p4 q5):=jD
   have qv:bk env hh 3 (AV.ptr p4 (q5+0))=some (Zi (l_.g i0).ay):=(bF.has aW).part (t:=3) (j:=0) o! jD k! rfl
   rcases bZq (decide ((l_.g i0).ay≤x_)) with f1 | f1
   · have ic:=of_decide_eq_true f1
     obtain ⟨p9,SU,Cv⟩:=(bF.has aW).elem (i:=i0) o!
     have ND:cK env (some (.slice 23)) (some bJ) (some (Zn i0))=some (AV.ptr p9 SU):=Cv
     have AJ:bk env hh 3 (AV.ptr p9 (SU+1))=some (Zi (l_.g i0).aq):=(bF.has aW).part (t:=3) (j:=1) o! Cv k! rfl
     rcases bZq (decide (x_≤((l_.g i0).aq))) with f2 | f2
     · have my:=of_decide_eq_true f2
       exact aU.ret true (by simp only[dh,f1,f2,ak,aj]) (pk (d) _ _ hh _ hh (CN 2<|VV ja<|VV (bK 3 false false .i64 ((i0:Nat):Int) ((l_.length:Nat):Int))<|BB q2<|CN 2<|VV tb<|CC<|MM qv<|CC<|VV (sf 3 false false .i64 (l_.g i0).ay x_)<|CC<|BC f1<|BC f1<|BC f1<|BV f1 ND<|BC f1<|BM f1 AJ<|BV f1 (sf 3 false false .i64 x_ (l_.g i0).aq)<|VV (ov (decide (x_≤((l_.g i0).aq))) false f1)<|BC f2<|ZZ) k!) (Grow.refl aQ) k!
     · have my:=of_decide_eq_false f2
       have SO:=fu 3 false true i0 1 o!
       exact aU.round (by simp only[dh,f1,f2,ak,aj]) (pk (d) _ _ hh _ hh (CN 2<|VV ja<|VV (bK 3 false false .i64 ((i0:Nat):Int) ((l_.length:Nat):Int))<|BB q2<|CN 2<|VV tb<|CC<|MM qv<|CC<|VV (sf 3 false false .i64 (l_.g i0).ay x_)<|CC<|BC f1<|BC f1<|BC f1<|BV f1 ND<|BC f1<|BM f1 AJ<|BV f1 (sf 3 false false .i64 x_ (l_.g i0).aq)<|VV (ov (decide (x_≤((l_.g i0).aq))) false f1)<|BC f2<|VV SO<|CC<|ZZ) k!) (Grow.refl aQ) _ k! (fun x=>mW bJ x_ l_ bF dQ (i0+1) o! x hh aQ aW)
   · have ic:=of_decide_eq_false f1
     have u8:=fu 3 false true i0 1 o!
     exact aU.round (by simp only[dh,f1,ak,aj]) (pk (d) _ _ hh _ hh (CN 2<|VV ja<|VV (bK 3 false false .i64 ((i0:Nat):Int) ((l_.length:Nat):Int))<|BB q2<|CN 2<|VV tb<|CC<|MM qv<|CC<|VV (sf 3 false false .i64 (l_.g i0).ay x_)<|CC<|BB f1<|BB f1<|BB f1<|BB f1<|BB f1<|BB f1<|BV f1 (uL false f1)<|FF<|CC<|VV u8<|CC<|ZZ) k!) (Grow.refl aQ) _ k! (fun x=>mW bJ x_ l_ bF dQ (i0+1) o! x hh aQ aW)
def eE (l_:List Span) (x_:Int):Bool:=(match (dh l_ x_ l_.length 0) with | none=>false | some rr1=>rr1)
theorem wu {d:Nat} {h:aA} {bJ:AV} (l_:List Span) (x_:Int) (dR:aY h bJ l_) (bS:Tidy h):cz (d+1) (.fn 11) [bJ,(Zi x_)] h= .ret (AV.bool (eE l_ x_)) h:=by
 have mL:=dR.small
 cases HV:dh l_ x_ l_.length 0 with
 | none=>
   obtain ⟨yl1,h2,vV,vW⟩:=aU.n HV (mW (d:=d) (h:=h) bJ x_ l_ dR l_.length 0 o! (fun k_=>((bJ::(Zi x_)::AV.undef::AV.undef::(AV.bool false)::(Zi 0)::iL 22):List AV).getD k_ AV.undef) h bS (Has.refl _))
   have eQ:=vW.y
   have zn:h.nx≤h2.nx:=vW.n
   have dZ:Has h h2:=vW.a
   have e:eE l_ x_=false:=by simp only[eE,HV,ak,aj]
   rw[e]
   exact aE rfl (ba Try.func11 Dp rfl (.inr rfl) (pk (d) _ _ h _ h2 (CN 2<|LL vV<|CC<|ZZ) k!) k!) dZ rfl
 | some rr1=>
   obtain ⟨yl1,h2,vV,vW⟩:=aU.r HV (mW (d:=d) (h:=h) bJ x_ l_ dR l_.length 0 o! (fun k_=>((bJ::(Zi x_)::AV.undef::AV.undef::(AV.bool false)::(Zi 0)::iL 22):List AV).getD k_ AV.undef) h bS (Has.refl _))
   have eQ:=vW.y
   have zn:h.nx≤h2.nx:=vW.n
   have dZ:Has h h2:=vW.a
   have e:eE l_ x_=rr1:=by simp only[eE,HV,ak,aj]
   rw[e]
   exact aE rfl (ba Try.func11 Dp rfl (.inr rfl) (pk (d) _ _ h _ h2 (CN 2<|LL vV<|ZZ) k!) k!) dZ rfl



theorem aby {l:List Span} {r:Span} (h:r∈l):∃j,j<l.length∧l.g j=r:=by
 obtain ⟨j,hj,e⟩:=List.mem_iff_getElem.1 h
 refine ⟨j,hj,?_⟩
 rw[←e]
 show l.getD j default=_
 rw[List.getD_eq_getElem?_getD,List.getElem?_eq_getElem hj];rfl
structure SR (q:aD) (x:List Int) (bad:List Bool) (r:aK):Prop where
 aL:0≤r.aL∧r.aL<(q.aC.length:Int)
 time:0≤r.time∧r.time≤40
 value: -1000000000≤r.value∧r.value≤1000000000
 aiF:bad.g r.aL.toNat=false→aei x r.time - cn (q.aC.g r.aL.toNat) r.time≤r.value∧r.value≤aei x r.time+cn (q.aC.g r.aL.toNat) r.time
theorem zy {l:List Span} {x:Int}:∀(k i:Nat),i+k=l.length→(∃j,i≤j∧j<l.length∧(l.g j).ay≤x∧x≤(l.g j).aq)→dh l x k i=some true
 | 0,i,e,⟨j,a,b,_⟩=>by omega
 | k+1,i,e,⟨j,a,b,c,d⟩=>by
   rw[dh]
   by_cases e1:(l.g i).ay≤x
   · rw[decide_eq_true e1,ak]
     by_cases e2:x≤(l.g i).aq
     · rw[decide_eq_true e2];rfl
     · rw[decide_eq_false e2,aj]
       have nj:j≠i:=by intro h;rw[h] at d;exact e2 d
       exact zy k (i+1) o! ⟨j,by omega,b,c,d⟩
   · rw[decide_eq_false e1,aj]
     have nj:j≠i:=by intro h;rw[h] at c;exact e1 c
     exact zy k (i+1) o! ⟨j,by omega,b,c,d⟩
theorem PU {l:List Span} {x:Int} (h:uT l x):eE l x=true:=by
 obtain ⟨r,hr,a,b⟩:=h
 obtain ⟨j,hj,rfl⟩:=aby hr
 rw[eE,zy l.length 0 o! ⟨j,Nat.zero_le _,hj,a,b⟩]
theorem Canon.step:∀{l:List Span},Canon l→∀i,i<l.length→(l.g i).ay≤(l.g i).aq∧(0<i→(l.g (i - 1)).aq+1<(l.g i).ay)
 | [],_,i,h=>by cases h
 | s::l,c,0,_=>⟨c.head,fun h=>by omega⟩
 | s::l,c,i+1,h=>by
   have:=Canon.step c.tail i (by simpa using h)
   refine ⟨this.1,fun _=>?_⟩
   cases i with
   | zero=>
     have hm:l.g 0∈l:=lW (by simpa using h)
     exact c.beyond _ hm
   | succ i=>exact this.2 o!
def aek:Bool:=(List.range 256).all fun x=>dD ((x:Nat):Int)==((List.range 8).filter fun j=>x.testBit j).map fun j=>((j:Nat):Int)
theorem Uz:aek=true:=by decide+kernel
theorem On {x:Nat} (h:x<256):dD ((x:Nat):Int)=((List.range 8).filter fun j=>x.testBit j).map fun j=>((j:Nat):Int):=eq_of_beq (List.all_eq_true.1 Uz x (List.mem_range.2 h))
theorem ig {p:Prop} (h:p:=by first | omega | (simp<;>omega)):p:=h
def nR:Code:=(Try.f12.body).getD .skip
theorem mq:Try.f12.body=some nR:=by kernel_rfl
def Dq:Code:=(cc nR).getD 0 .skip
def Dr:Code:=(cc nR).getD 1 .skip
def dt (failed:List Int) (q:aD):Nat→Nat→Int→(Int)⊕(Bool)
 | 0,_,mC=>Sum.inl mC
 | dQ+1,i0,mC=>(bif (decide ((failed.g i0)<0)) then Sum.inr false else (bif (decide (((q.aC.length:Nat):Int)≤(failed.g i0))) then Sum.inr false else (bif (decide (0<((i0:Nat):Int))) then (bif (decide ((failed.g i0)≤(failed.g (i0 - 1)))) then Sum.inr false else dt failed q dQ (i0+1) (Vb .i64 mC (d_ .i64 1 (failed.g i0)))) else dt failed q dQ (i0+1) (Vb .i64 mC (d_ .i64 1 (failed.g i0))))))
theorem nU {d:Nat} {h:aA} (bJ:AV) (t:Int) (x_:Int) (eX:AV) (ez:AV) (failed:List Int) (q:aD) (l_:List aK) (values:List Int) (bL:Nat) (bF:aY h bJ l_) (eZ:gO h .i64 3 eX failed) (iy:gO h .i64 3 ez values) (nC:q.name.length<2^60) (Kk:aY h q.az q.aC) (kG:aF.ok h q) (nv:∀i,i<l_.length→0≤(l_.g i).aL∧(l_.g i).aL<(q.aC.length:Int)) (zm:l_.length≤64) (bS:Tidy h) (pU:h.nx≤bL):∀(k_ i_:Nat) (mC:Int) (_:i_+k_=failed.length) (x:Nat→AV) (hh:aA) (aQ:Tidy hh) (aW:Has h hh) (gQ:h.nx≤hh.nx) (bG:hh.get bL=some (aX.cells [(AV.str q.name),(Zi q.ai),(Zi q.af),(Zi q.aH),(Zi q.aI),(Zi q.bad),q.az] 26 false)),lE (σ:=Int) (ρ:=Bool) (cz (d+2)) Dq ⟨((x 0)::bJ::(Zi t)::(Zi x_)::eX::ez::(Pt bL)::rx x 7 6 ((Zi mC)::(Zn i_)::rx x 15 143 [])),hh,[],.no⟩ (.exit 0) hh (fun r z y=>((y 0)::bJ::(Zi t)::(Zi x_)::eX::ez::(Pt bL)::rx y 7 6 ((Zi r)::rx y 14 144 []))) (fun r z y=>((y 0)::bJ::(Zi t)::(Zi x_)::eX::ez::(Pt bL)::rx y 7 5 ((AV.bool r)::rx y 13 145 []))) (fun r z hk=>Has h hk∧hk.get bL=some (aX.cells [(AV.str q.name),(Zi q.ai),(Zi q.af),(Zi q.aH),(Zi q.aI),(Zi q.bad),q.az] 26 false)) (fun r z hk=>Has h hk) (dt failed q k_ i_ mC)
 | 0,i0,mC,kY,x,hh,aQ,aW,gQ,bG=>by
   have eR:=bF.small
   have vP:=eZ.small
   have mK:=iy.small
   have abz:=Kk.small
   have pS:=aQ _ _ bG
   have ja:dy (some (.slice 3)) (some eX)=some (Zn failed.length):=eZ.len
   have q2:(decide (((i0:Nat):Int)<((failed.length:Nat):Int)))=false:=d!
   exact lE.out mC AV.undef rfl (pk (d+2) _ _ hh _ hh (CN 2<|VV ja<|VV (bK 3 false false .i64 ((i0:Nat):Int) ((failed.length:Nat):Int))<|BB q2<|ZZ) k!) aQ o! ⟨aW,bG⟩ k!
 | dQ+1,i0,mC,kY,x,hh,aQ,aW,gQ,bG=>by
   have eR:=bF.small
   have vP:=eZ.small
   have mK:=iy.small
   have abz:=Kk.small
   have pS:=aQ _ _ bG
   have ja:dy (some (.slice 3)) (some eX)=some (Zn failed.length):=eZ.len
   have q2:(decide (((i0:Nat):Int)<((failed.length:Nat):Int)))=true:=d!
   obtain ⟨p4,q5,jD,_⟩:=eZ.elem (i:=i0) o!
   have tb:cK env (some (.slice 3)) (some eX) (some (Zn i0))=some (AV.ptr p4 q5):=jD
   have qv:bk env hh 3 (AV.ptr p4 q5)=some (Zi (failed.g i0)):=(eZ.has aW).load o! jD
   have mV:=fun {al ps} (k:Pk al _ ps)=>(CN 2<|VV ja<|VV (bK 3 false false .i64 ((i0:Nat):Int) ((failed.length:Nat):Int))<|BB q2<|CN 2<|VV tb<|MM qv<|VV (bK 3 false true .i64 (failed.g i0) 0)<|CC<|k:Pk _ [] ps)
   rcases bZq (decide ((failed.g i0)<0)) with f1 | f1
   · have ic:=of_decide_eq_true f1
     exact lE.ret false AV.undef (by simp only[dt,f1,ak,aj]) (pk (d+2) _ _ hh _ hh (mV<|BB f1<|BB f1<|BB f1<|BB f1<|BB f1<|BB f1<|BB f1<|BV f1 (ow true f1)<|CC<|TT<|TT<|TT<|TT<|CC<|HH qv<|HH (show AV.same 20 (Zi (failed.g i0)) (Zi (failed.g i0))=true from aJ 19 _ _)<|TT<|CC<|ZZ) k!) aQ o! aW k!
   · have ic:=of_decide_eq_false f1
     obtain ⟨p9,SU,Cv,_⟩:=eZ.elem (i:=i0) o!
     have ND:cK env (some (.slice 3)) (some eX) (some (Zn i0))=some (AV.ptr p9 SU):=Cv
     have AJ:bk env hh 3 (AV.ptr p9 SU)=some (Zi (failed.g i0)):=(eZ.has aW).load o! Cv
     have HI:dy (some (.slice 45)) (some q.az)=some (Zn q.aC.length):=Kk.len
     have yC:=fun {al ps} (k:Pk al _ ps)=>(mV<|BC f1<|BC f1<|BV f1 ND<|BM f1 AJ<|BC f1<|BM f1 (aO 24 6 q.az bG k!)<|BV f1 HI<|BV f1 (oe 3 false false .i64 (failed.g i0) ((q.aC.length:Nat):Int))<|VV (aZ (a:=some (AV.bool true)) (b:=some (AV.bool (decide (((q.aC.length:Nat):Int)≤(failed.g i0))))) f1)<|CC<|k:Pk _ [] ps)
     rcases bZq (decide (((q.aC.length:Nat):Int)≤(failed.g i0))) with f2 | f2
     · have my:=of_decide_eq_true f2
       have c14:AV.same 20 q.az q.az=true:=Kk.same 19
       exact lE.ret false AV.undef (by simp only[dt,f1,f2,ak,aj]) (pk (d+2) _ _ hh _ hh (yC<|BB f2<|BB f2<|BB f2<|BV f2 (ow true f2)<|HH qv<|HH (show AV.same 20 (Zi (failed.g i0)) (Zi (failed.g i0))=true from aJ 19 _ _)<|HH AJ<|HH (show AV.same 20 (Zi (failed.g i0)) (Zi (failed.g i0))=true from aJ 19 _ _)<|HH (aO 24 6 q.az bG k!)<|HH c14<|TT<|CC<|ZZ) k!) aQ o! aW k!
     · have my:=of_decide_eq_false f2
       have EP:=fun {al ps} (k:Pk al _ ps)=>(yC<|BC f2<|BV f2 (cI 3 false true .i64 ((i0:Nat):Int) 0)<|BC f2<|k:Pk _ [] ps)
       rcases bZq (decide (0<((i0:Nat):Int))) with f3 | f3
       · have lr:=of_decide_eq_true f3
         have u15:=Lu 3 false true i0 1 o! o!
         obtain ⟨p17,q18,Kl,_⟩:=eZ.elem (i:=(i0 - 1)) o!
         have Md:cK env (some (.slice 3)) (some eX) (some (Zn (i0 - 1)))=some (AV.ptr p17 q18):=Kl
         have Xw:bk env hh 3 (AV.ptr p17 q18)=some (Zi (failed.g (i0 - 1))):=(eZ.has aW).load o! Kl
         obtain ⟨p21,q22,YR,_⟩:=eZ.elem (i:=i0) o!
         have agS:cK env (some (.slice 3)) (some eX) (some (Zn i0))=some (AV.ptr p21 q22):=YR
         have ael:bk env hh 3 (AV.ptr p21 q22)=some (Zi (failed.g i0)):=(eZ.has aW).load o! YR
         have c24:AV.same 20 q.az q.az=true:=Kk.same 19
         have ES:=fun {al ps} (k:Pk al _ ps)=>(EP<|BC f3<|BC f3<|BV f3 u15<|BV f3 Md<|BM f3 Xw<|BC f3<|BC f3<|BV f3 agS<|BM f3 ael<|BV f3 (oe 3 false false .i64 (failed.g (i0 - 1)) (failed.g i0))<|BV f2 (ov (decide ((failed.g i0)≤(failed.g (i0 - 1)))) false f3)<|VV (aZ (a:=some (AV.bool true)) (b:=some (AV.bool (decide ((failed.g i0)≤(failed.g (i0 - 1)))))) f2)<|HH qv<|HH (show AV.same 20 (Zi (failed.g i0)) (Zi (failed.g i0))=true from aJ 19 _ _)<|HH AJ<|HH (show AV.same 20 (Zi (failed.g i0)) (Zi (failed.g i0))=true from aJ 19 _ _)<|HH (aO 24 6 q.az bG k!)<|HH c24<|HH Xw<|HH (show AV.same 20 (Zi (failed.g (i0 - 1))) (Zi (failed.g (i0 - 1)))=true from aJ 19 _ _)<|HH ael<|HH (show AV.same 20 (Zi (failed.g i0)) (Zi (failed.g i0))=true from aJ 19 _ _)<|k:Pk _ [] ps)
         rcases bZq (decide ((failed.g i0)≤(failed.g (i0 - 1)))) with f4 | f4
         · have jV:=of_decide_eq_true f4
           exact lE.ret false AV.undef (by simp only[dt,f1,f2,f3,f4,ak,aj]) (pk (d+2) _ _ hh _ hh (ES<|BC f4<|ZZ) k!) aQ o! aW k!
         · have jV:=of_decide_eq_false f4
           obtain ⟨p27,q28,YS,_⟩:=eZ.elem (i:=i0) o!
           have agT:cK env (some (.slice 3)) (some eX) (some (Zn i0))=some (AV.ptr p27 q28):=YS
           have agU:bk env hh 3 (AV.ptr p27 q28)=some (Zi (failed.g i0)):=(eZ.has aW).load o! YS
           have u30:cy env .shl 3 true false (some (Zi 1)) (some (Zi (failed.g i0)))=some (Zi (d_ .i64 1 (failed.g i0))):=qz 3 true false .i64 .i64 o!
           have u31:cy env .or 3 false false (some (Zi mC)) (some (Zi (d_ .i64 1 (failed.g i0))))=some (Zi (Vb .i64 mC (d_ .i64 1 (failed.g i0)))):=NL 3 false false .i64 mC (d_ .i64 1 (failed.g i0))
           have u32:=fu 3 false true i0 1 o!
           exact lE.round (by simp only[dt,f1,f2,f3,f4,ak,aj]) (pk (d+2) _ _ hh _ hh (ES<|BB f4<|CN 3<|VV agT<|MM agU<|VV u30<|VV u31<|CN 2<|VV u32<|CC<|ZZ) k!) o! _ k! (fun x=>nU bJ t x_ eX ez failed q l_ values bL bF eZ iy nC Kk kG nv zm bS pU dQ (i0+1) (Vb .i64 mC (d_ .i64 1 (failed.g i0))) o! x hh aQ aW o! bG)
       · have lr:=of_decide_eq_false f3
         have c15:AV.same 20 q.az q.az=true:=Kk.same 19
         obtain ⟨p17,q18,Kl,_⟩:=eZ.elem (i:=i0) o!
         have Md:cK env (some (.slice 3)) (some eX) (some (Zn i0))=some (AV.ptr p17 q18):=Kl
         have Xw:bk env hh 3 (AV.ptr p17 q18)=some (Zi (failed.g i0)):=(eZ.has aW).load o! Kl
         have u20:cy env .shl 3 true false (some (Zi 1)) (some (Zi (failed.g i0)))=some (Zi (d_ .i64 1 (failed.g i0))):=qz 3 true false .i64 .i64 o!
         have u21:cy env .or 3 false false (some (Zi mC)) (some (Zi (d_ .i64 1 (failed.g i0))))=some (Zi (Vb .i64 mC (d_ .i64 1 (failed.g i0)))):=NL 3 false false .i64 mC (d_ .i64 1 (failed.g i0))
         have u22:=fu 3 false true i0 1 o!
         exact lE.round (by simp only[dt,f1,f2,f3,ak,aj]) (pk (d+2) _ _ hh _ hh (EP<|BB f3<|BB f3<|BB f3<|BB f3<|BB f3<|BB f3<|BB f3<|BB f3<|BB f3<|BB f3<|BV f2 (uL false f3)<|VV (pcf true false f2)<|HH qv<|HH (show AV.same 20 (Zi (failed.g i0)) (Zi (failed.g i0))=true from aJ 19 _ _)<|HH AJ<|HH (show AV.same 20 (Zi (failed.g i0)) (Zi (failed.g i0))=true from aJ 19 _ _)<|HH (aO 24 6 q.az bG k!)<|HH c15<|FF<|CN 3<|VV Md<|MM Xw<|VV u20<|VV u21<|CN 2<|VV u22<|CC<|ZZ) k!) o! _ k! (fun x=>nU bJ t x_ eX ez failed q l_ values bL bF eZ iy nC Kk kG nv zm bS pU dQ (i0+1) (Vb .i64 mC (d_ .i64 1 (failed.g i0))) o! x hh aQ aW o! bG)
def cZ (l_:List aK) (values:List Int) (FA:Int) (q:aD):Nat→Nat→List bC→Option (List bC)
 | 0,_,lI=>some lI
 | bD+1,i1,lI=>(bif (decide ((values.g i1)<(-4000000000))) then none else (bif (decide (4000000000<(values.g i1))) then none else (bif (!(qA FA (l_.g i1).aL)) then (bif (decide ((values.g i1)<(IntKind.i64.wrap ((l_.g i1).value -(cn (q.aC.g (l_.g i1).aL.toNat) (l_.g i1).time))))) then none else (bif (decide ((IntKind.i64.wrap (((l_.g i1).value)+(cn (q.aC.g (l_.g i1).aL.toNat) (l_.g i1).time)))<(values.g i1))) then none else cZ l_ values FA q bD (i1+1) (lI++[(⟨(l_.g i1).time,(values.g i1),(values.g i1)⟩:bC)]))) else cZ l_ values FA q bD (i1+1) (lI++[(⟨(l_.g i1).time,(values.g i1),(values.g i1)⟩:bC)]))))
theorem lj {d:Nat} {h:aA} (bJ:AV) (ez:AV) (FA:Int) (l_:List aK) (q:aD) (values:List Int) (dz:Nat) (iv:aY h bJ l_) (oX:gO h .i64 3 ez values) (Cm:q.name.length<2^60) (AO:aY h q.az q.aC) (AG:aF.ok h q) (J7:∀i,i<l_.length→0≤(l_.g i).aL∧(l_.g i).aL<(q.aC.length:Int)) (Xe:l_.length≤64) (aem:values.length=l_.length) (bS:Tidy h) (D2:h.nx≤dz):∀(k_ i_:Nat) (lI:List bC) (vo:AV) (_:i_+k_=l_.length) (x:Nat→AV) (hh:aA) (aQ:Tidy hh) (aW:Has h hh) (gQ:h.nx≤hh.nx) (dP:hh.get dz=some (aX.cells [(AV.str q.name),(Zi q.ai),(Zi q.af),(Zi q.aH),(Zi q.aI),(Zi q.bad),q.az] 26 false)) (wv:bH h hh vo lI) (rS:∀y∈lI,aF.ok hh y) (UA:lI.length≤1*i_+2) (ij:b6 vo dz),im (σ:=List bC) (ζ:=AV) (cz (d+2)) Dr ⟨((x 0)::bJ::rx x 2 3 (ez::(Pt dz)::rx x 7 6 ((Zi FA)::(x 14)::vo::(Zn i_)::rx x 17 141 []))),hh,[],.no⟩ (.exit 2) hh (fun r z y=>((y 0)::bJ::rx y 2 3 (ez::(Pt dz)::rx y 7 6 ((Zi FA)::(y 14)::z::rx y 16 142 [])))) (fun r z hk=>Has h hk∧hk.get dz=some (aX.cells [(AV.str q.name),(Zi q.ai),(Zi q.af),(Zi q.aH),(Zi q.aI),(Zi q.bad),q.az] 26 false)∧bH h hk z r∧(∀y∈r,aF.ok hk y)∧r.length≤1*l_.length+2∧b6 z dz) (fun y=>((y 0)::bJ::rx y 2 3 (ez::(Pt dz)::rx y 7 5 ((AV.bool false)::(Zi FA)::rx y 14 144 [])))) (fun hk=>Has h hk) (cZ l_ values FA q k_ i_ lI)
 | 0,i1,lI,vo,kY,x,hh,aQ,aW,gQ,dP,wv,rS,UA,ij=>by
   have Cn:=iv.small
   have Cd:=oX.small
   have Mo:=AO.small
   have Ce:=aQ _ _ dP
   have rd_:=J7 i1
   have Xx:aY hh vo lI:=bH.rows wv o! rS
   have ja:dy (some (.slice 43)) (some bJ)=some (Zn l_.length):=iv.len
   have q2:(decide (((i1:Nat):Int)<((l_.length:Nat):Int)))=false:=d!
   exact im.out lI vo rfl (pk (d+2) _ _ hh _ hh (CN 2<|VV ja<|VV (bK 3 false false .i64 ((i1:Nat):Int) ((l_.length:Nat):Int))<|BB q2<|ZZ) k!) aQ o! ⟨aW,dP,wv,rS,ig,ij⟩ k!
 | bD+1,i1,lI,vo,kY,x,hh,aQ,aW,gQ,dP,wv,rS,UA,ij=>by
   have Cn:=iv.small
   have Cd:=oX.small
   have Mo:=AO.small
   have Ce:=aQ _ _ dP
   have rd_:=J7 i1
   have Xx:aY hh vo lI:=bH.rows wv o! rS
   have ja:dy (some (.slice 43)) (some bJ)=some (Zn l_.length):=iv.len
   have q2:(decide (((i1:Nat):Int)<((l_.length:Nat):Int)))=true:=d!
   obtain ⟨p4,q5,jD,_⟩:=oX.elem (i:=i1) o!
   have tb:cK env (some (.slice 3)) (some ez) (some (Zn i1))=some (AV.ptr p4 q5):=jD
   have qv:bk env hh 3 (AV.ptr p4 q5)=some (Zi (values.g i1)):=(oX.has aW).load o! jD
   have Cb:=fun {al ps} (k:Pk al _ ps)=>(CN 2<|VV ja<|VV (bK 3 false false .i64 ((i1:Nat):Int) ((l_.length:Nat):Int))<|BB q2<|CN 2<|VV tb<|MM qv<|CN 2<|VV (bK 3 false true .i64 (values.g i1) (-4000000000))<|CC<|k:Pk _ [] ps)
   rcases bZq (decide ((values.g i1)<(-4000000000))) with f1 | f1
   · have ic:=of_decide_eq_true f1
     exact im.ret (by simp only[cZ,f1,ak,aj]) (pk (d+2) _ _ hh _ hh (Cb<|BB f1<|BV f1 (ow true f1)<|TT<|CC<|ZZ) k!) aQ o! aW k!
   · have ic:=of_decide_eq_false f1
     have Aa:=fun {al ps} (k:Pk al _ ps)=>(Cb<|BC f1<|BV f1 (cI 3 false true .i64 (values.g i1) 4000000000)<|VV (aZ (a:=some (AV.bool true)) (b:=some (AV.bool (decide (4000000000<(values.g i1))))) f1)<|k:Pk _ [] ps)
     rcases bZq (decide (4000000000<(values.g i1))) with f2 | f2
     · have my:=of_decide_eq_true f2
       exact im.ret (by simp only[cZ,f1,f2,ak,aj]) (pk (d+2) _ _ hh _ hh (Aa<|BC f2<|ZZ) k!) aQ o! aW k!
     · have my:=of_decide_eq_false f2
       obtain ⟨p10,q11,S4⟩:=iv.elem (i:=i1) o!
       have ix9:cK env (some (.slice 43)) (some bJ) (some (Zn i1))=some (AV.ptr p10 q11):=S4
       have WW:bk env hh 3 (AV.ptr p10 (q11+0))=some (Zi (l_.g i1).aL):=(iv.has aW).part (t:=3) (j:=0) o! S4 k! rfl
       have U_:=NM (d:=d+1) FA (l_.g i1).aL (by first | omega | assumption | (simp only[List.length_set,List.length_replicate,List.length_append,List.length_cons,List.length_nil,List.nil_append]<;>omega) | (rw[List.length_take];omega)) aQ
       have NX:=fun {al ps} (k:Pk al _ ps)=>(Aa<|BB f2<|CN 3<|VV ix9<|CC<|MM WW<|EE U_<|CC<|k:Pk _ [] ps)
       rcases bZq (!(qA FA (l_.g i1).aL)) with f3 | f3
       · obtain ⟨p16,q17,Km⟩:=iv.elem (i:=i1) o!
         have TA:cK env (some (.slice 43)) (some bJ) (some (Zn i1))=some (AV.ptr p16 q17):=Km
         have Xy:bk env hh 3 (AV.ptr p16 (q17+0))=some (Zi (l_.g i1).aL):=(iv.has aW).part (t:=3) (j:=0) o! Km k! rfl
         obtain ⟨p20,q21,YT⟩:=AO.elem (i:=((l_.g i1).aL).toNat) o!
         have TB:cK env (some (.slice 45)) (some q.az) (some (Zi (l_.g i1).aL))=some (AV.ptr p20 q21):=by rw[show (((l_.g i1).aL):Int)=(((l_.g i1).aL.toNat:Nat):Int) by omega];exact YT
         have W6:bk env hh 45 (AV.ptr p20 q21)=some (AV.agg [(AV.str (q.aC.g (l_.g i1).aL.toNat).name),(Zi (q.aC.g (l_.g i1).aL.toNat).acc),(Zi (q.aC.g (l_.g i1).aL.toNat).bQ),(Zi (q.aC.g (l_.g i1).aL.toNat).since)]):=(AO.has aW).load o! YT
         obtain ⟨p24,q25,YU⟩:=iv.elem (i:=i1) o!
         have agV:cK env (some (.slice 43)) (some bJ) (some (Zn i1))=some (AV.ptr p24 q25):=YU
         have aen:bk env hh 3 (AV.ptr p24 (q25+1))=some (Zi (l_.g i1).time):=(iv.has aW).part (t:=3) (j:=1) o! YU k! rfl
         have k27:=EW (d:=d+1) (q.aC.g (l_.g i1).aL.toNat) (l_.g i1).time (aF.mono aW (AO.ok (i:=((l_.g i1).aL).toNat) o!)) aQ
         have c28:AV.same 20 q.az q.az=true:=AO.same 19
         have c29:AV.same 20 (AV.agg [(AV.str (q.aC.g (l_.g i1).aL.toNat).name),(Zi (q.aC.g (l_.g i1).aL.toNat).acc),(Zi (q.aC.g (l_.g i1).aL.toNat).bQ),(Zi (q.aC.g (l_.g i1).aL.toNat).since)]) (AV.agg [(AV.str (q.aC.g (l_.g i1).aL.toNat).name),(Zi (q.aC.g (l_.g i1).aL.toNat).acc),(Zi (q.aC.g (l_.g i1).aL.toNat).bQ),(Zi (q.aC.g (l_.g i1).aL.toNat).since)])=true:=dM 18 (iC (fun n=>jS n _) (iC (fun n=>aJ n _ _) (iC (fun n=>aJ n _ _) (iC (fun n=>aJ n _ _) DC))))
         obtain ⟨p31,q32,YV⟩:=iv.elem (i:=i1) o!
         have agW:cK env (some (.slice 43)) (some bJ) (some (Zn i1))=some (AV.ptr p31 q32):=YV
         have agX:bk env hh 3 (AV.ptr p31 (q32+2))=some (Zi (l_.g i1).value):=(iv.has aW).part (t:=3) (j:=2) o! YV k! rfl
         have NY:=fun {al ps} (k:Pk al _ ps)=>(NX<|BC f3<|MM (aO 24 6 q.az dP k!)<|CN 2<|VV TA<|CC<|MM Xy<|VV TB<|MM W6<|CN 2<|VV agV<|CC<|MM aen<|EE k27<|CC<|HH (aO 24 6 q.az dP k!)<|HH c28<|HH Xy<|HH (show AV.same 20 (Zi (l_.g i1).aL) (Zi (l_.g i1).aL)=true from aJ 19 _ _)<|HH W6<|HH c29<|HH aen<|HH (show AV.same 20 (Zi (l_.g i1).time) (Zi (l_.g i1).time)=true from aJ 19 _ _)<|CN 3<|VV agW<|CC<|MM agX<|CN 2<|VV (bK 3 false false .i64 (values.g i1) (IntKind.i64.wrap ((l_.g i1).value -(cn (q.aC.g (l_.g i1).aL.toNat) (l_.g i1).time))))<|CC<|k:Pk _ [] ps)
         rcases bZq (decide ((values.g i1)<(IntKind.i64.wrap ((l_.g i1).value -(cn (q.aC.g (l_.g i1).aL.toNat) (l_.g i1).time))))) with f4 | f4
         · have jV:=of_decide_eq_true f4
           exact im.ret (by simp only[cZ,f1,f2,f3,f4,ak,aj]) (pk (d+2) _ _ hh _ hh (NY<|BB f4<|BB f4<|BB f4<|BB f4<|BB f4<|BB f4<|BB f4<|BB f4<|BV f4 (ow true f4)<|TT<|CC<|ZZ) k!) aQ o! aW k!
         · have jV:=of_decide_eq_false f4
           obtain ⟨p36,q37,YW⟩:=iv.elem (i:=i1) o!
           have agY:cK env (some (.slice 43)) (some bJ) (some (Zn i1))=some (AV.ptr p36 q37):=YW
           have agZ:bk env hh 3 (AV.ptr p36 (q37+2))=some (Zi (l_.g i1).value):=(iv.has aW).part (t:=3) (j:=2) o! YW k! rfl
           have JO:=fun {al ps} (k:Pk al _ ps)=>(NY<|BC f4<|BC f4<|BC f4<|BV f4 agY<|BC f4<|BM f4 agZ<|BC f4<|BC f4<|BV f4 (cI 3 false false .i64 (values.g i1) (IntKind.i64.wrap (((l_.g i1).value)+(cn (q.aC.g (l_.g i1).aL.toNat) (l_.g i1).time))))<|VV (aZ (a:=some (AV.bool true)) (b:=some (AV.bool (decide ((IntKind.i64.wrap (((l_.g i1).value)+(cn (q.aC.g (l_.g i1).aL.toNat) (l_.g i1).time)))<(values.g i1))))) f4)<|k:Pk _ [] ps)
           rcases bZq (decide ((IntKind.i64.wrap (((l_.g i1).value)+(cn (q.aC.g (l_.g i1).aL.toNat) (l_.g i1).time)))<(values.g i1))) with f5 | f5
           · have tc:=of_decide_eq_true f5
             exact im.ret (by simp only[cZ,f1,f2,f3,f4,f5,ak,aj]) (pk (d+2) _ _ hh _ hh (JO<|BC f5<|ZZ) k!) aQ o! aW k!
           · have tc:=of_decide_eq_false f5
             obtain ⟨p41,q42,YX⟩:=iv.elem (i:=i1) o!
             have ag0:cK env (some (.slice 43)) (some bJ) (some (Zn i1))=some (AV.ptr p41 q42):=YX
             have ag2:bk env hh 3 (AV.ptr p41 (q42+1))=some (Zi (l_.g i1).time):=(iv.has aW).part (t:=3) (j:=1) o! YX k! rfl
             obtain ⟨h44,aeo,YY,ah2,aep,Oo⟩:=fY aQ (aX.cells [(Zi (l_.g i1).time),(Zi (values.g i1)),(Zi (values.g i1))] 77 false)
             have aeq:Has h h44:=aW.trans Oo
             have UB:Has hh h44:=Oo
             obtain ⟨z46,h45,abA,aer,ah3,aes,ag3,abB,abC⟩:=bH.B_ (tys:= #[78,78]) (l:=lI) (m:=[(⟨(l_.g i1).time,(values.g i1),(values.g i1)⟩:bC)]) (x:=(AV.slice hh.nx 0 1 1 false)) YY bS aeq o! (bH.has wv UB) rfl (jk (x:=(⟨(l_.g i1).time,(values.g i1),(values.g i1)⟩:bC)) aep) (by simp [aF.c,bC.c,AV.scalar]) ig rfl rfl k! k! (bytes:=24) k! (z0:=(AV.agg [(Zi 0),(Zi 0),(Zi 0)])) k! rfl (by decide)
             have aet:Has h h45:=aes
             have abD:∀y∈(lI++[(⟨(l_.g i1).time,(values.g i1),(values.g i1)⟩:bC)]),aF.ok h45 y:=eP (D:=bC) (mJ (eP (D:=bC) (h':=h44) rS) (ok_one trivial))
             have u48:=fu 3 false true i1 1 o!
             exact im.round (by simp only[cZ,f1,f2,f3,f4,f5,ak,aj]) (pk (d+2) _ _ hh _ h45 (JO<|BB f5<|CN 3<|VV ag0<|CC<|MM ag2<|CN 4<|NN aeo (fun i=>(AV.slice i 0 1 1 false))<|PP (show bX env h44 #[78,78] vo (AV.slice hh.nx 0 1 1 false)=some (z46,h45) from abA)<|CN 2<|VV u48<|CC<|ZZ) k!) o! _ k! (fun x=>lj bJ ez FA l_ q values dz iv oX Cm AO AG J7 Xe aem bS D2 bD (i1+1) (lI++[(⟨(l_.g i1).time,(values.g i1),(values.g i1)⟩:bC)]) z46 o! x h45 aer aet o! (abB _ _ ij (Oo _ _ dP)) ag3 abD ig (abC _ (YY _ _ (Oo _ _ dP)) ij))
       · obtain ⟨p16,q17,Km⟩:=iv.elem (i:=i1) o!
         have TA:cK env (some (.slice 43)) (some bJ) (some (Zn i1))=some (AV.ptr p16 q17):=Km
         have Xy:bk env hh 3 (AV.ptr p16 (q17+1))=some (Zi (l_.g i1).time):=(iv.has aW).part (t:=3) (j:=1) o! Km k! rfl
         obtain ⟨H5,aeu,EV,ah4,aev,Oq⟩:=fY aQ (aX.cells [(Zi (l_.g i1).time),(Zi (values.g i1)),(Zi (values.g i1))] 77 false)
         have Ci:Has h H5:=aW.trans Oq
         have UC:Has hh H5:=Oq
         obtain ⟨z21,Vd,abE,TC,ah5,aew,ag4,abF,abG⟩:=bH.B_ (tys:= #[78,78]) (l:=lI) (m:=[(⟨(l_.g i1).time,(values.g i1),(values.g i1)⟩:bC)]) (x:=(AV.slice hh.nx 0 1 1 false)) EV bS Ci o! (bH.has wv UC) rfl (jk (x:=(⟨(l_.g i1).time,(values.g i1),(values.g i1)⟩:bC)) aev) (by simp [aF.c,bC.c,AV.scalar]) ig rfl rfl k! k! (bytes:=24) k! (z0:=(AV.agg [(Zi 0),(Zi 0),(Zi 0)])) k! rfl (by decide)
         have TD:Has h Vd:=aew
         have abH:∀y∈(lI++[(⟨(l_.g i1).time,(values.g i1),(values.g i1)⟩:bC)]),aF.ok Vd y:=eP (D:=bC) (mJ (eP (D:=bC) (h':=H5) rS) (ok_one trivial))
         have u23:=fu 3 false true i1 1 o!
         exact im.round (by simp only[cZ,f1,f2,f3,ak,aj]) (pk (d+2) _ _ hh _ Vd (NX<|BB f3<|CN 3<|VV TA<|CC<|MM Xy<|CN 4<|NN aeu (fun i=>(AV.slice i 0 1 1 false))<|PP (show bX env H5 #[78,78] vo (AV.slice hh.nx 0 1 1 false)=some (z21,Vd) from abE)<|CN 2<|VV u23<|CC<|ZZ) k!) o! _ k! (fun x=>lj bJ ez FA l_ q values dz iv oX Cm AO AG J7 Xe aem bS D2 bD (i1+1) (lI++[(⟨(l_.g i1).time,(values.g i1),(values.g i1)⟩:bC)]) z21 o! x Vd TC TD o! (abF _ _ ij (Oq _ _ dP)) ag4 abH ig (abG _ (EV _ _ (Oq _ _ dP)) ij))
def aR (q:aD) (l_:List aK) (t:Int) (x_:Int) (failed:List Int) (values:List Int):Bool:=(bif (decide (q.bad<((failed.length:Nat):Int))) then false else (bif (!decide (((values.length:Nat):Int)=((l_.length:Nat):Int))) then false else (match (dt failed q failed.length 0 0) with | Sum.inl FA=>(match (cZ l_ values FA q l_.length 0 ([(⟨0,q.ai,q.af⟩:bC),(⟨t,x_,x_⟩:bC)])) with | none=>false | some w1=>(jI q w1)) | Sum.inr rr7=>rr7)))
theorem rT {d:Nat} {h:aA} {bJ eX ez:AV} (q:aD) (l_:List aK) (t:Int) (x_:Int) (failed:List Int) (values:List Int) (fB:aF.ok h q) (dR:aY h bJ l_) (Ds:gO h .i64 3 eX failed) (tY:gO h .i64 3 ez values) (pV:∀i,i<l_.length→0≤(l_.g i).aL∧(l_.g i).aL<(q.aC.length:Int)) (S9:l_.length≤64) (bS:Tidy h):cz (d+3) (.fn 12) [(AV.agg [(AV.str q.name),(Zi q.ai),(Zi q.af),(Zi q.aH),(Zi q.aI),(Zi q.bad),q.az]),bJ,(Zi t),(Zi x_),eX,ez] h= .ret (AV.bool (aR q l_ t x_ failed values)) h:=by
 have mL:=dR.small
 have abI:=Ds.small
 have abJ:=tY.small
 have hU:=fB.2.small
 obtain ⟨h1,cj,cg,iu,bf,cf⟩:=fY bS (aX.cells [(AV.str q.name),(Zi q.ai),(Zi q.af),(Zi q.aH),(Zi q.aI),(Zi q.bad),q.az] 26 false)
 have bA:Has h h1:=cf
 have ln2:dy (some (.slice 3)) (some eX)=some (Zn failed.length):=Ds.len
 have JP:=fun {al ps} (k:Pk al _ ps)=>(NN cj (fun i=>(Pt i))<|CN 2<|VV ln2<|CC<|MM (aO 3 5 (Zi q.bad) bf k!)<|VV (cI 3 false false .i64 ((failed.length:Nat):Int) q.bad)<|CC<|k:Pk _ [] ps)
 rcases bZq (decide (q.bad<((failed.length:Nat):Int))) with f0 | f0
 · have jW:=of_decide_eq_true f0
   have e:aR q l_ t x_ failed values=false:=by simp only[aR,f0,ak,aj]
   rw[e]
   exact aE rfl (ba Try.func12 mq rfl (.inr rfl) (pk (d+2) _ _ h _ h1 (JP<|BB f0<|BB f0<|BB f0<|BB f0<|BV f0 (ow true f0)<|TT<|CC<|ZZ) k!) k!) bA rfl
 · have jW:=of_decide_eq_false f0
   have SE:dy (some (.slice 3)) (some ez)=some (Zn values.length):=tY.len
   have ln5:dy (some (.slice 43)) (some bJ)=some (Zn l_.length):=dR.len
   have D0:=fun {al ps} (k:Pk al _ ps)=>(JP<|BC f0<|BV f0 SE<|BC f0<|BV f0 ln5<|BV f0 (kF 3 false false .i64 ((values.length:Nat):Int) ((l_.length:Nat):Int))<|k:Pk _ [] ps)
   rcases bZq (!decide (((values.length:Nat):Int)=((l_.length:Nat):Int))) with f1 | f1
   · have ic:=DS f1
     have e:aR q l_ t x_ failed values=false:=by simp only[aR,f0,f1,ak,aj]
     rw[e]
     exact aE rfl (ba Try.func12 mq rfl (.inr rfl) (pk (d+2) _ _ h _ h1 (D0<|VV (aZ (a:=some (AV.bool true)) (b:=some (AV.bool (!decide (((values.length:Nat):Int)=((l_.length:Nat):Int))))) f0)<|BC f1<|ZZ) k!) k!) bA rfl
   · have ic:=DT f1
     have aex:=nU (d:=d) (h:=h) bJ t x_ eX ez failed q l_ values h.nx dR Ds tY fB.1 fB.2 fB o! o! bS o! failed.length 0 0 o! (fun k_=>(((AV.agg [(AV.str q.name),(Zi q.ai),(Zi q.af),(Zi q.aH),(Zi q.aI),(Zi q.bad),q.az])::bJ::(Zi t)::(Zi x_)::eX::ez::(Pt h.nx)::AV.undef::AV.undef::AV.undef::AV.undef::AV.undef::(AV.bool false)::(Zi 0)::(Zi 0)::AV.undef::AV.undef::AV.undef::AV.undef::eX::(Zn failed.length)::(AV.ptr h.nx 5)::(Zi q.bad)::(AV.bool (decide (q.bad<((failed.length:Nat):Int))))::(AV.bool (decide (q.bad<((failed.length:Nat):Int))))::ez::(Zn values.length)::bJ::(Zn l_.length)::(AV.bool (!decide (((values.length:Nat):Int)=((l_.length:Nat):Int))))::(AV.bool (!decide (((values.length:Nat):Int)=((l_.length:Nat):Int))))::iL 127):List AV).getD k_ AV.undef) h1 cg bA o! bf
     cases Dt:dt failed q failed.length 0 0 with
     | inl FA=>
       obtain ⟨zo9,PK,h8,tS,uS,PD,Da,tT⟩:=lE.n Dt aex
       have qE:Has h h8:=Da
       obtain ⟨mA,E_,fZ,TG,yi,fq⟩:=fY uS (aX.cells [(Zi 0),(Zi q.ai),(Zi q.af),(Zi t),(Zi x_),(Zi x_)] 77 false)
       have ik:Has h mA:=qE.trans fq
       have aey:Has h8 mA:=fq
       have aez:bH h mA (AV.slice h8.nx 0 2 2 false) [(⟨0,q.ai,q.af⟩:bC),(⟨t,x_,x_⟩:bC)]:= .inr ⟨by simp,h8.nx,false,rfl,by omega,yi⟩
       cases hc1:cZ l_ values FA q l_.length 0 ([(⟨0,q.ai,q.af⟩:bC),(⟨t,x_,x_⟩:bC)]) with
       | none=>
         have aeA:=lj (d:=d) (h:=h) bJ ez FA l_ q values h.nx dR tY fB.1 fB.2 fB pV o! o! bS o! l_.length 0 ([(⟨0,q.ai,q.af⟩:bC),(⟨t,x_,x_⟩:bC)]) (AV.slice h8.nx 0 2 2 false) o! (fun k_=>(((PK 0)::bJ::(Zi t)::(Zi x_)::eX::ez::(Pt h.nx)::rx PK 7 6 ((Zi FA)::(PK 14)::(AV.slice h8.nx 0 2 2 false)::(Zi 0)::rx PK 17 58 ((AV.ptr h.nx 1)::(AV.agg [(Zi q.ai),(Zi q.af)])::(AV.agg [(Zi 0),(Zi q.ai),(Zi q.af)])::(Zi t)::(Zi x_)::(Zi x_)::(AV.agg [(Zi x_),(Zi x_)])::(AV.agg [(Zi t),(Zi x_),(Zi x_)])::(AV.slice h8.nx 0 2 2 false)::rx PK 84 74 []))):List AV).getD k_ AV.undef) mA fZ ik o! (fq _ _ tT) aez (mJ (ok_one trivial) (ok_one trivial)) ig (b6.slice o!)
         rw[hc1] at aeA
         obtain ⟨aiG,uR,Xz,tj,ah6,abK⟩:=aeA
         have tk:Has h uR:=abK
         have e:aR q l_ t x_ failed values=false:=by simp only[aR,f0,f1,Dt,hc1,ak,aj]
         rw[e]
         exact aE rfl (ba Try.func12 mq rfl (.inr rfl) (pk (d+2) _ _ h _ uR (D0<|VV (aZ (a:=some (AV.bool true)) (b:=some (AV.bool (!decide (((values.length:Nat):Int)=((l_.length:Nat):Int))))) f0)<|BB f1<|CN 2<|LL tS<|CC<|MM (aO 23 1 (AV.agg [(Zi q.ai),(Zi q.af)]) tT k!)<|CN 6<|NN E_ (fun i=>(AV.slice i 0 2 2 false))<|CN 2<|LL Xz<|ZZ) k!) k!) tk rfl
       | some w1=>
         have FW1:=lj (d:=d) (h:=h) bJ ez FA l_ q values h.nx dR tY fB.1 fB.2 fB pV o! o! bS o! l_.length 0 ([(⟨0,q.ai,q.af⟩:bC),(⟨t,x_,x_⟩:bC)]) (AV.slice h8.nx 0 2 2 false) o! (fun k_=>(((PK 0)::bJ::(Zi t)::(Zi x_)::eX::ez::(Pt h.nx)::rx PK 7 6 ((Zi FA)::(PK 14)::(AV.slice h8.nx 0 2 2 false)::(Zi 0)::rx PK 17 58 ((AV.ptr h.nx 1)::(AV.agg [(Zi q.ai),(Zi q.af)])::(AV.agg [(Zi 0),(Zi q.ai),(Zi q.af)])::(Zi t)::(Zi x_)::(Zi x_)::(AV.agg [(Zi x_),(Zi x_)])::(AV.agg [(Zi t),(Zi x_),(Zi x_)])::(AV.slice h8.nx 0 2 2 false)::rx PK 84 74 []))):List AV).getD k_ AV.undef) mA fZ ik o! (fq _ _ tT) aez (mJ (ok_one trivial) (ok_one trivial)) ig (b6.slice o!)
         rw[hc1] at FW1
         obtain ⟨ag5,afL,pX,G6,pE,SP,LJ,NC,UD,PV,aeB,Ot⟩:=FW1
         have Kn:aY pX ag5 w1:=bH.rows UD o! PV
         have abV:=Kn.small
         have ma:Has h pX:=LJ
         have Kv:=EY (d:=d) q w1 (aF.mono ma fB) Kn pE
         have e:aR q l_ t x_ failed values=(jI q w1):=by simp only[aR,f0,f1,Dt,hc1,ak,aj]
         rw[e]
         exact aE rfl (ba Try.func12 mq rfl (.inr rfl) (pk (d+2) _ _ h _ pX (D0<|VV (aZ (a:=some (AV.bool true)) (b:=some (AV.bool (!decide (((values.length:Nat):Int)=((l_.length:Nat):Int))))) f0)<|BB f1<|CN 2<|LL tS<|CC<|MM (aO 23 1 (AV.agg [(Zi q.ai),(Zi q.af)]) tT k!)<|CN 6<|NN E_ (fun i=>(AV.slice i 0 2 2 false))<|CN 2<|LL G6<|MM (aO 26 0 (AV.agg [(AV.str q.name),(Zi q.ai),(Zi q.af),(Zi q.aH),(Zi q.aI),(Zi q.bad),q.az]) NC k!)<|CC<|EE Kv<|CC<|ZZ) k!) k!) ma rfl
     | inr rr7=>
       obtain ⟨zo9,PK,h8,tS,uS,PD,Da⟩:=lE.r Dt aex
       have qE:Has h h8:=Da
       have e:aR q l_ t x_ failed values=rr7:=by simp only[aR,f0,f1,Dt,ak,aj]
       rw[e]
       exact aE rfl (ba Try.func12 mq rfl (.inr rfl) (pk (d+2) _ _ h _ h8 (D0<|VV (aZ (a:=some (AV.bool true)) (b:=some (AV.bool (!decide (((values.length:Nat):Int)=((l_.length:Nat):Int))))) f0)<|BB f1<|CN 2<|LL tS<|ZZ) k!) k!) qE rfl
def ex0 (failed:List Int) (n:Int):Nat→Nat→Int→(Int)⊕(Bool)
 | 0,_,v=>Sum.inl v
 | k+1,i0,v=>(bif (decide ((failed.g i0)<0)) then Sum.inr false else (bif (decide (n≤(failed.g i0))) then Sum.inr false else (bif (decide (0<((i0:Nat):Int))) then (bif (decide ((failed.g i0)≤(failed.g (i0 - 1)))) then Sum.inr false else ex0 failed n k (i0+1) (Vb .i64 v (d_ .i64 1 (failed.g i0)))) else ex0 failed n k (i0+1) (Vb .i64 v (d_ .i64 1 (failed.g i0))))))
theorem UE (failed:List Int) (q:aD):∀(k i:Nat) (v:Int),dt failed q k i v=ex0 failed ((q.aC.length:Nat):Int) k i v
 | 0,i,v=>rfl
 | k+1,i,v=>by rw[dt,ex0,UE failed q k]
def isL (o:(Int)⊕(Bool)) (s:Int):Bool:=match o with
 | .inl v=>v==s
 | .inr _=>false
def FB (s:Nat):List Int:=((List.range 8).filter fun j=>s.testBit j).map fun j=>((j:Nat):Int)
def exB:Bool:=(List.range 9).all fun n=>(List.range (2^n)).all fun s=>isL (ex0 (FB s) ((n:Nat):Int) (FB s).length 0 0) ((s:Nat):Int)
theorem XA:exB=true:=by decide+kernel
theorem abL {q:aD} (h8:q.aC.length≤8) {s:Nat} (hs:s<2^q.aC.length):dt (dD ((s:Nat):Int)) q (dD ((s:Nat):Int)).length 0 0=Sum.inl ((s:Nat):Int):=by
 have hp:=pH h8
 rw[On (show s<256 by omega),UE]
 have a:=List.all_eq_true.1 (List.all_eq_true.1 XA q.aC.length (List.mem_range.2 o!)) s (List.mem_range.2 hs)
 show ex0 (FB s) _ (FB s).length 0 0=_
 cases e:ex0 (FB s) ((q.aC.length:Nat):Int) (FB s).length 0 0 with
 | inl v=>
   rw[e] at a
   rw[show v=((s:Nat):Int) from eq_of_beq a]
 | inr v=>rw[e] at a;cases a
theorem FC {f r:Int} (f0:0≤f) (r0:0≤r) (c:bC) {a b:Int} (h:a≤b): -(f*(b - a))≤(eY f r c b).ay -(eY f r c a).ay∧(eY f r c b).ay -(eY f r c a).ay≤r*(b - a):=by
 have p1:=Int.mul_nonneg f0 (show 0≤b - a by omega)
 have p2:=Int.mul_nonneg r0 (show 0≤b - a by omega)
 rw[eY,eY]
 by_cases h1:c.time≤a
 · rw[if_pos (show c.time≤b by omega),if_pos h1]
   simp only
   have e:f*(b - c.time)=f*(b - a)+f*(a - c.time):=by rw[←Int.mul_add];congr 1;omega
   omega
 · by_cases h2:c.time≤b
   · rw[if_pos h2,if_neg h1]
     simp only
     have e:f*(b - a)=f*(b - c.time)+f*(c.time - a):=by rw[←Int.mul_add];congr 1;omega
     have e2:r*(b - a)=r*(b - c.time)+r*(c.time - a):=by rw[←Int.mul_add];congr 1;omega
     have q1:=Int.mul_nonneg f0 (show 0≤b - c.time by omega)
     have q2:=Int.mul_nonneg f0 (show 0≤c.time - a by omega)
     have q3:=Int.mul_nonneg r0 (show 0≤b - c.time by omega)
     have q4:=Int.mul_nonneg r0 (show 0≤c.time - a by omega)
     omega
   · rw[if_neg h2,if_neg h1]
     simp only
     have e:r*(c.time - a)=r*(c.time - b)+r*(b - a):=by rw[←Int.mul_add];congr 1;omega
     omega
def ML (q:aD) (l:List aK) (s:Nat) (t x:Int):List bC:=dK q l ((s:Nat):Int)++[⟨t,x,x⟩]
def HX (q:aD) (l:List aK) (s:Nat) (t x u:Int):Int:=(mz q (ML q l s t x) u).ay
section
variable {q:aD} {l:List aK} (f:RF q l) {s:Nat} (hs:s<256) {t x:Int} (t0:0≤t) (t1:t≤100000) (hE:vX q l s) (hV:LZ q l s t x)
include f hs
theorem MI (c:bC):c∈ML q l s t x↔KX q l s t x c:=by
 rw[ML,List.mem_append,List.mem_singleton,jY f hs];exact Iff.rfl
include t0 t1 hV
omit hs in
theorem kbM:∀c∈ML q l s t x,KB c:=fun c hc=>by
 rcases List.mem_append.1 hc with h | h
 · exact tv f ((s:Nat):Int) c h
 · rw[List.mem_singleton.1 h]
   have:=Dl f t0 t1 hV
   exact ⟨⟨t0,t1⟩,by simp only;omega,by simp only;omega,by simp only;omega,by simp only;omega⟩
include hE
omit t1 in
theorem agM:nV q.aI q.aH (ML q l s t x):=fun i hi k hk=>(Uw f t0).2 ⟨hE,hV⟩ i ((MI f hs i).1 hi) k ((MI f hs k).1 hk)
theorem uD {u:Int} (u0:0≤u) (u1:u≤100000):(∃c∈ML q l s t x,HX q l s t x u=(eY q.aI q.aH c u).ay)∧(∀c,KX q l s t x c→(eY q.aI q.aH c u).ay≤HX q l s t x u∧HX q l s t x u≤(eY q.aI q.aH c u).aq)∧∀a b,(∀y,(a≤y∧y≤b)↔∀c,KX q l s t x c→(eY q.aI q.aH c u).ay≤y∧y≤(eY q.aI q.aH c u).aq)→a=HX q l s t x u:=by
 obtain ⟨r0,r1,f0,f1⟩:=f.pG
 have pos:0<(ML q l s t x).length:=by rw[ML,List.length_append,List.length_singleton];omega
 obtain ⟨a1,a2,a3⟩:=Ys f0 f1 r0 r1 (kbM f t0 t1 hV) u0 u1 pos
 obtain ⟨b1,b2,b3⟩:=at_mem f0 f1 r0 r1 (kbM f t0 t1 hV) u0 u1 pos (agM f hs t0 hE hV)
 have all:=(b3 _).1 ⟨Int.le_refl _,b1⟩
 refine ⟨a1,fun c hc=>all c ((MI f hs c).2 hc),fun a b h=>?_⟩
 have same:∀y,(a≤y∧y≤b)↔((mz q (ML q l s t x) u).ay≤y∧y≤(mz q (ML q l s t x) u).aq):=fun y=>by
  rw[h,b3]
  exact ⟨fun g c hc=>g c ((MI f hs c).1 hc),fun g c hc=>g c ((MI f hs c).2 hc)⟩
 have c1:=(same (mz q (ML q l s t x) u).ay).2 ⟨Int.le_refl _,b1⟩
 have c2:=(same a).1 ⟨Int.le_refl _,by omega⟩
 show a=(mz q (ML q l s t x) u).ay
 omega
theorem Ko {a b:Int} (a0:0≤a) (hab:a≤b) (b1:b≤100000): -(q.aI*(b - a))≤HX q l s t x b - HX q l s t x a∧HX q l s t x b - HX q l s t x a≤q.aH*(b - a):=by
 obtain ⟨r0,r1,f0,f1⟩:=f.pG
 obtain ⟨⟨c,hc,ec⟩,ga,_⟩:=uD f hs t0 t1 hE hV a0 (show a≤100000 by omega)
 obtain ⟨⟨d,hd,ed⟩,gb,_⟩:=uD f hs t0 t1 hE hV (show 0≤b by omega) b1
 have x1:=FC f0 r0 c hab
 have x2:=FC f0 r0 d hab
 have y1:=(gb c ((MI f hs c).1 hc)).1
 have y2:=(ga d ((MI f hs d).1 hd)).1
 omega
theorem PW {pts:List bC} (hp:∀p∈pts,(0≤p.time∧p.time≤100000)∧p.aw≤HX q l s t x p.time∧HX q l s t x p.time≤p.ar∧-1000000000000≤p.aw∧p.ar≤1000000000000):jI q pts=true:=by
 obtain ⟨r0,r1,f0,f1⟩:=f.pG
 have kb:∀p∈pts,KB p:=fun p h=>by
  obtain ⟨a,b,c,d,e⟩:=hp p h
  exact ⟨a,d,by omega,by omega,e⟩
 refine (CI f0 f1 r0 r1 kb).2 fun i hi k hk=>?_
 obtain ⟨⟨a0,a1⟩,a2,a3,_,_⟩:=hp i hi
 obtain ⟨⟨b0,b1⟩,b2,b3,_,_⟩:=hp k hk
 have go:(eY q.aI q.aH i k.time).ay≤HX q l s t x k.time∧HX q l s t x k.time≤(eY q.aI q.aH i k.time).aq:=by
  rw[eY]
  by_cases h:i.time≤k.time
  · rw[if_pos h]
    have:=Ko f hs t0 t1 hE hV a0 h b1
    simp only;omega
  · rw[if_neg h]
    have:=Ko f hs t0 t1 hE hV b0 (show k.time≤i.time by omega) a1
    simp only;omega
 omega
end
end
end Go.Proofs.aG
