import Derived.Test.YtkffioplnoajdaaGreatW0
import Derived.Test.YtkffioplnoajdaaGreatW1
import Derived.Test.YtkffioplnoajdaaGreatW5
import Derived.Test.YtkffioplnoajdaaGreatW6
import Derived.Test.YtkffioplnoajdaaGreatW4
namespace Go.Proofs.aP
open Go.Proofs Ab
set_option maxRecDepth 100000
set_option maxHeartbeats 4000000
set_option linter.unusedVariables false
set_option linter.unusedSimpArgs false
noncomputable def Cp:Code:=(Tryz.f64.body).getD .skip
theorem kU:Tryz.f64.body=some Cp:=by kernel_rfl
def cC (ahead:List Span) (s:Span):Int:=(bif (!(dg s.a_)) then 1 else (bif (!(dg s.aN)) then 1 else (bif (decide (s.aN<s.a_)) then 1 else (bif (decide (0<((ahead.length:Nat):Int))) then (bif (decide (s.a_≤((ahead.g (ahead.length - 1)).aN))) then 1 else 0) else 0))))
theorem I2 {d:Nat} {h:au} {mY:AV} (ahead:List Span) (s:Span) (iJ:aS h mY ahead) (qd:aL.ok h s) (bW:Tidy h):cR (d+3) (.fn 64) [mY,(AV.agg [(Zi s.a_),(Zi s.aN)])] h= .ret (Zi (cC ahead s)) h:=by
 have A6:=iJ.small
 obtain ⟨h1,bM,cx,jc,aQ,cA⟩:=j_ bW (aM.cells [(Zi s.a_),(Zi s.aN)] 74 false)
 have bt:Has h h1:=cA
 have k2:=pZ (d:=d) s.a_ cx
 rcases Bool.eq_false_or_eq_true (!(dg s.a_)) with f0 | f0
 · have e:cC ahead s=1:=by simp only[cC,f0,cond_true,cond_false]
   rw[e]
   exact aD rfl (bb Tryz.func64 kU rfl (.inr rfl) (pk (d+2) _ _ h _ h1 (NN bM (fun i=>(Pt i))<|CN 2<|MM (aw 3 0 (Zi s.a_) aQ k!)<|EE k2<|CN 2<|BB f0<|BC f0<|ZZ) k!) k!) bt rfl
 · have k4:=pZ (d:=d) s.aN cx
   rcases Bool.eq_false_or_eq_true (!(dg s.aN)) with f1 | f1
   · have e:cC ahead s=1:=by simp only[cC,f0,f1,cond_true,cond_false]
     rw[e]
     exact aD rfl (bb Tryz.func64 kU rfl (.inr rfl) (pk (d+2) _ _ h _ h1 (NN bM (fun i=>(Pt i))<|CN 2<|MM (aw 3 0 (Zi s.a_) aQ k!)<|EE k2<|CN 2<|BC f0<|MM (aw 3 1 (Zi s.aN) aQ k!)<|EE k4<|CN 2<|BB f1<|BC f1<|ZZ) k!) k!) bt rfl
   · rcases Bool.eq_false_or_eq_true (decide (s.aN<s.a_)) with f2 | f2
     · have jw:=of_decide_eq_true f2
       have e:cC ahead s=1:=by simp only[cC,f0,f1,f2,cond_true,cond_false]
       rw[e]
       exact aD rfl (bb Tryz.func64 kU rfl (.inr rfl) (pk (d+2) _ _ h _ h1 (NN bM (fun i=>(Pt i))<|CN 2<|MM (aw 3 0 (Zi s.a_) aQ k!)<|EE k2<|CN 2<|BC f0<|MM (aw 3 1 (Zi s.aN) aQ k!)<|EE k4<|CN 2<|BC f1<|MM (aw 3 0 (Zi s.a_) aQ k!)<|CC<|MM (aw 3 1 (Zi s.aN) aQ k!)<|VV (bR 3 false false .i64 s.a_ s.aN)<|CC<|BC f2<|ZZ) k!) k!) bt rfl
     · have jw:=of_decide_eq_false f2
       have ln7:b6 (some (.slice 74)) (some mY)=some (Zn ahead.length):=iJ.len
       rcases Bool.eq_false_or_eq_true (decide (0<((ahead.length:Nat):Int))) with f3 | f3
       · have mX:=of_decide_eq_true f3
         have ln9:b6 (some (.slice 74)) (some mY)=some (Zn ahead.length):=iJ.len
         have u10:=aeL 3 false true ahead.length 1 o! o!
         obtain ⟨p12,q13,BW⟩:=iJ.elem (i:=(ahead.length - 1)) o!
         have LD:bS env (some (.slice 74)) (some mY) (some (Zn (ahead.length - 1)))=some (AV.ptr p12 q13):=BW
         have Cq:bh env h1 3 (AV.ptr p12 (q13+1))=some (Zi ((ahead.g (ahead.length - 1)).aN)):=(iJ.has bt).part (t:=3) (j:=1) o! BW k! rfl
         rcases Bool.eq_false_or_eq_true (decide (s.a_≤((ahead.g (ahead.length - 1)).aN))) with f4 | f4
         · have sy:=of_decide_eq_true f4
           have e:cC ahead s=1:=by simp only[cC,f0,f1,f2,f3,f4,cond_true,cond_false]
           rw[e]
           exact aD rfl (bb Tryz.func64 kU rfl (.inr rfl) (pk (d+2) _ _ h _ h1 (NN bM (fun i=>(Pt i))<|CN 2<|MM (aw 3 0 (Zi s.a_) aQ k!)<|EE k2<|CN 2<|BC f0<|MM (aw 3 1 (Zi s.aN) aQ k!)<|EE k4<|CN 2<|BC f1<|MM (aw 3 0 (Zi s.a_) aQ k!)<|CC<|MM (aw 3 1 (Zi s.aN) aQ k!)<|VV (bR 3 false false .i64 s.a_ s.aN)<|CC<|BC f2<|VV ln7<|VV (bR 3 false true .i64 ((ahead.length:Nat):Int) 0)<|CC<|BC f3<|BM f3 (aw 3 0 (Zi s.a_) aQ k!)<|BC f3<|BC f3<|BV f3 ln9<|BV f3 u10<|BV f3 LD<|BC f3<|BM f3 Cq<|BV f3 (pS 3 false false .i64 s.a_ ((ahead.g (ahead.length - 1)).aN))<|VV (kI (decide (s.a_≤((ahead.g (ahead.length - 1)).aN))) false f3)<|CC<|HH (aw 3 0 (Zi s.a_) aQ k!)<|HH (show AV.same 20 (Zi s.a_) (Zi s.a_)=true from aJ 19 _ _)<|HH Cq<|HH (show AV.same 20 (Zi ((ahead.g (ahead.length - 1)).aN)) (Zi ((ahead.g (ahead.length - 1)).aN))=true from aJ 19 _ _)<|BC f4<|ZZ) k!) k!) bt rfl
         · have sy:=of_decide_eq_false f4
           have e:cC ahead s=0:=by simp only[cC,f0,f1,f2,f3,f4,cond_true,cond_false]
           rw[e]
           exact aD rfl (bb Tryz.func64 kU rfl (.inr rfl) (pk (d+2) _ _ h _ h1 (NN bM (fun i=>(Pt i))<|CN 2<|MM (aw 3 0 (Zi s.a_) aQ k!)<|EE k2<|CN 2<|BC f0<|MM (aw 3 1 (Zi s.aN) aQ k!)<|EE k4<|CN 2<|BC f1<|MM (aw 3 0 (Zi s.a_) aQ k!)<|CC<|MM (aw 3 1 (Zi s.aN) aQ k!)<|VV (bR 3 false false .i64 s.a_ s.aN)<|CC<|BC f2<|VV ln7<|VV (bR 3 false true .i64 ((ahead.length:Nat):Int) 0)<|CC<|BC f3<|BM f3 (aw 3 0 (Zi s.a_) aQ k!)<|BC f3<|BC f3<|BV f3 ln9<|BV f3 u10<|BV f3 LD<|BC f3<|BM f3 Cq<|BV f3 (pS 3 false false .i64 s.a_ ((ahead.g (ahead.length - 1)).aN))<|VV (kI (decide (s.a_≤((ahead.g (ahead.length - 1)).aN))) false f3)<|CC<|HH (aw 3 0 (Zi s.a_) aQ k!)<|HH (show AV.same 20 (Zi s.a_) (Zi s.a_)=true from aJ 19 _ _)<|HH Cq<|HH (show AV.same 20 (Zi ((ahead.g (ahead.length - 1)).aN)) (Zi ((ahead.g (ahead.length - 1)).aN))=true from aJ 19 _ _)<|BC f4<|ZZ) k!) k!) bt rfl
       · have mX:=of_decide_eq_false f3
         have e:cC ahead s=0:=by simp only[cC,f0,f1,f2,f3,cond_true,cond_false]
         rw[e]
         exact aD rfl (bb Tryz.func64 kU rfl (.inr rfl) (pk (d+2) _ _ h _ h1 (NN bM (fun i=>(Pt i))<|CN 2<|MM (aw 3 0 (Zi s.a_) aQ k!)<|EE k2<|CN 2<|BC f0<|MM (aw 3 1 (Zi s.aN) aQ k!)<|EE k4<|CN 2<|BC f1<|MM (aw 3 0 (Zi s.a_) aQ k!)<|CC<|MM (aw 3 1 (Zi s.aN) aQ k!)<|VV (bR 3 false false .i64 s.a_ s.aN)<|CC<|BC f2<|VV ln7<|VV (bR 3 false true .i64 ((ahead.length:Nat):Int) 0)<|CC<|BB f3<|BB f3<|BB f3<|BB f3<|BB f3<|BB f3<|BB f3<|BB f3<|BB f3<|BV f3 (tS false f3)<|CC<|FF<|CC<|ZZ) k!) k!) bt rfl
noncomputable def tK:Code:=(Tryz.f61.body).getD .skip
theorem xG:Tryz.f61.body=some tK:=by kernel_rfl
def fF (other:bJ) (r:bJ):Bool:=(decide (other.name=r.name))
theorem xH {d:Nat} {h:au} (other:bJ) (r:bJ) (rB:Nat) (CL:aL.ok h other) (h_r:aL.ok h r) (g_r:h.get rB=some (.cells (aL.c r) 41 false)) (bW:Tidy h):cR (d+1) (.fn 61) [(AV.agg [(AV.str other.name),(Zi other.ay),other.cB]),(Pt rB)] h= .ret (AV.bool (fF other r)) h:=by
 have aaz:=CL.2.small
 have Y4:=h_r.2.small
 obtain ⟨h1,bM,cx,jc,aQ,cA⟩:=j_ bW (aM.cells [(AV.str other.name),(Zi other.ay),other.cB] 41 false)
 have bt:Has h h1:=cA
 have e:fF other r=(decide (other.name=r.name)):=by simp only[fF,cond_true,cond_false]
 rw[e]
 exact aD rfl (bb Tryz.func61 xG rfl (.inr rfl) (pk (d) _ _ h _ h1 (NN bM (fun i=>(Pt i))<|CN 2<|MM (aw 9 0 (AV.str other.name) aQ k!)<|CC<|MM (aw 9 0 (AV.str r.name) (cA _ _ g_r) k!)<|VV (KY 9 false false other.name r.name)<|CC<|ZZ) k!) k!) bt rfl
noncomputable def ou:Code:=(Tryz.f115.body).getD .skip
theorem qw:Tryz.f115.body=some ou:=by kernel_rfl
noncomputable def v7:Code:=(bE ou).getD 0 .skip
def dy (s:List bJ) (P:bJ→Bool):Nat→Nat→Option (Int)
 | 0,_=>none
 | dz+1,i0=>(bif (P (s.g i0)) then some ((i0:Nat):Int) else dy s P dz (i0+1))
theorem kD {d:Nat} {h:au} (sV:AV) (g:FuncId) (cap:List AV) (s:List bJ) (P:bJ→Bool) (bn:aS h sV s) (hP:∀y∈s,∀hh,Tidy hh→Has h hh→cR d (.fn g) (.agg (aL.c y)::cap) hh= .ret (.bool (P y)) hh):∀(k_ i_:Nat) (_:i_+k_=s.length) (x:Nat→AV) (hh:au) (aE:Tidy hh) (aB:Has h hh),aA (cR (d)) v7 ⟨(sV::(AV.func g [] cap)::rx x 2 5 ((Zn s.length)::(Zn i_)::rx x 9 10 [])),hh,[],.no⟩ (.exit 0) hh (fun y=>(sV::(AV.func g [] cap)::rx y 2 5 ((Zn s.length)::rx y 8 11 []))) (fun r y=>(sV::(AV.func g [] cap)::(y 2)::(y 3)::(Zi r)::(y 5)::(y 6)::(Zn s.length)::rx y 8 11 [])) (dy s P k_ i_)
 | 0,i0,fX,x,hh,aE,aB=>by
   have cm:=bn.small
   have q1:(decide (((i0:Nat):Int)<((s.length:Nat):Int)))=false:=d!
   exact aA.out rfl (pk (d) _ _ hh _ hh (VV (ba 3 false false .i64 ((i0:Nat):Int) ((s.length:Nat):Int))<|BB q1<|ZZ) k!) (bF.refl aE) k!
 | dz+1,i0,fX,x,hh,aE,aB=>by
   have cm:=bn.small
   have q1:(decide (((i0:Nat):Int)<((s.length:Nat):Int)))=true:=d!
   obtain ⟨p3,q4,cX⟩:=(bn.has aB).elem (i:=i0) o!
   have gv:bS env (some (.slice 41)) (some sV) (some (Zn i0))=some (AV.ptr p3 q4):=cX
   have g5:bh env hh 41 (AV.ptr p3 q4)=some (AV.agg [(AV.str ((s.g i0).name)),(Zi ((s.g i0).ay)),((s.g i0).cB)]):=(bn.has aB).load o! cX
   have k6:=hP (s.g i0) (Pq o!) hh aE aB
   rcases Bool.eq_false_or_eq_true (P (s.g i0)) with f1 | f1
   · exact aA.ret ((i0:Nat):Int) (by simp only[dy,f1,cond_true,cond_false]) (pk (d) _ _ hh _ hh (VV (ba 3 false false .i64 ((i0:Nat):Int) ((s.length:Nat):Int))<|BB q1<|CN 5<|VV gv<|MM g5<|EE k6<|BB f1<|CN 2<|ZZ) k!) (bF.refl aE) k!
   · have u8:=fe 3 false true i0 1 o!
     exact aA.round (by simp only[dy,f1,cond_true,cond_false]) (pk (d) _ _ hh _ hh (VV (ba 3 false false .i64 ((i0:Nat):Int) ((s.length:Nat):Int))<|BB q1<|CN 5<|VV gv<|MM g5<|EE k6<|BV f1 u8<|CC<|ZZ) k!) (bF.refl aE) _ k! (fun x=>kD sV g cap s P bn hP dz (i0+1) o! x hh aE aB)
def eM (s:List bJ) (P:bJ→Bool):Int:=(match (dy s P s.length 0) with | none=>(-1) | some AZ=>AZ)
theorem zG {d:Nat} {h:au} {sV:AV} {g:FuncId} {cap:List AV} (s:List bJ) (P:bJ→Bool) (qd:aS h sV s) (hP:∀y∈s,∀hh,Tidy hh→Has h hh→cR d (.fn g) (.agg (aL.c y)::cap) hh= .ret (.bool (P y)) hh) (bW:Tidy h):cR (d+1) (.fn 115) [sV,(AV.func g [] cap)] h= .ret (Zi (eM s P)) h:=by
 have zy:=qd.small
 have dG:b6 (some (.slice 41)) (some sV)=some (Zn s.length):=qd.len
 cases ef:dy s P s.length 0 with
 | none=>
   obtain ⟨Mm,h3,dD,dq⟩:=aA.n ef (kD (d:=d) (h:=h) sV g cap s P qd hP s.length 0 o! (fun k_=>((sV::(AV.func g [] cap)::AV.undef::AV.undef::(Zi 0)::AV.undef::sV::(Zn s.length)::(Zi 0)::g4 10):List AV).getD k_ AV.undef) h bW (Has.refl _))
   have nh:=dq.y
   have uR:h.nx≤h3.nx:=dq.n
   have iz:Has h h3:=dq.a
   have e:eM s P=(-1):=by simp only[eM,ef,cond_true,cond_false]
   rw[e]
   exact aD rfl (bb Tryz.func115 qw rfl (.inr rfl) (pk (d) _ _ h _ h3 (CN 2<|VV dG<|CC<|LL dD<|CC<|ZZ) k!) k!) iz rfl
 | some AZ=>
   obtain ⟨Mm,h3,dD,dq⟩:=aA.r ef (kD (d:=d) (h:=h) sV g cap s P qd hP s.length 0 o! (fun k_=>((sV::(AV.func g [] cap)::AV.undef::AV.undef::(Zi 0)::AV.undef::sV::(Zn s.length)::(Zi 0)::g4 10):List AV).getD k_ AV.undef) h bW (Has.refl _))
   have nh:=dq.y
   have uR:h.nx≤h3.nx:=dq.n
   have iz:Has h h3:=dq.a
   have e:eM s P=AZ:=by simp only[eM,ef,cond_true,cond_false]
   rw[e]
   exact aD rfl (bb Tryz.func115 qw rfl (.inr rfl) (pk (d) _ _ h _ h3 (CN 2<|VV dG<|CC<|LL dD<|ZZ) k!) k!) iz rfl
noncomputable def rK:Code:=(Tryz.f60.body).getD .skip
theorem uY:Tryz.f60.body=some rK:=by kernel_rfl
def dW (s:List bJ) (P:bJ→Bool):Bool:=(decide (0≤(eM s P)))
theorem uZ {d:Nat} {h:au} {sV:AV} {g:FuncId} {cap:List AV} (s:List bJ) (P:bJ→Bool) (qd:aS h sV s) (hP:∀y∈s,∀hh,Tidy hh→Has h hh→cR d (.fn g) (.agg (aL.c y)::cap) hh= .ret (.bool (P y)) hh) (bW:Tidy h):cR (d+2) (.fn 60) [sV,(AV.func g [] cap)] h= .ret (AV.bool (dW s P)) h:=by
 have zy:=qd.small
 have k1:=zG (d:=d) s P qd hP bW
 have e:dW s P=(decide (0≤(eM s P))):=by simp only[dW,cond_true,cond_false]
 rw[e]
 exact aD rfl (bb Tryz.func60 uY rfl (.inr rfl) (pk (d+1) _ _ h _ h (CN 3<|EE k1<|VV (lH 3 false true .i64 (eM s P) 0)<|CC<|ZZ) k!) k!) (Has.refl _) rfl
noncomputable def va:Code:=(Tryz.f24.body).getD .skip
theorem ka:Tryz.f24.body=some va:=by kernel_rfl
def bw (ahead:List bJ) (r:bJ):Int:=(bif (!(gC r.name)) then 5 else (bif (dW ahead (fun y=>fF y r)) then 6 else (bif (!(fS r.ay 1000)) then 1 else (da r.off 16 (fun jx=>cC (List.take jx r.off) (List.g r.off jx))))))
theorem zH {d:Nat} {h:au} {mY:AV} (ahead:List bJ) (r:bJ) (iJ:aS h mY ahead) (h_r:aL.ok h r) (bW:Tidy h):cR (d+6) (.fn 24) [mY,(AV.agg [(AV.str r.name),(Zi r.ay),r.cB])] h= .ret (Zi (bw ahead r)) h:=by
 have A6:=iJ.small
 have Y4:=h_r.2.small
 obtain ⟨h1,bM,cx,jc,aQ,cA⟩:=j_ bW (aM.cells [(AV.str r.name),(Zi r.ay),r.cB] 41 false)
 have bt:Has h h1:=cA
 have k2:=Ex (d:=d+4) r.name h_r.1 cx
 rcases Bool.eq_false_or_eq_true (!(gC r.name)) with f0 | f0
 · have e:bw ahead r=5:=by simp only[bw,f0,cond_true,cond_false]
   rw[e]
   exact aD rfl (bb Tryz.func24 ka rfl (.inr rfl) (pk (d+5) _ _ h _ h1 (NN bM (fun i=>(Pt i))<|CN 2<|MM (aw 9 0 (AV.str r.name) aQ k!)<|EE k2<|CN 2<|BC f0<|ZZ) k!) k!) bt rfl
 · have k4:=uZ (d:=d+3) ahead (fun y=>fF y r) (iJ.has bt) (fun y hy hh yy aa=>xH (d:=d+2) y r h.nx (aL.mono aa ((iJ.has bt).oks y hy)) (aL.mono aa (aL.mono bt h_r)) (aa _ _ aQ) yy) cx
   rcases Bool.eq_false_or_eq_true (dW ahead (fun y=>fF y r)) with f1 | f1
   · have e:bw ahead r=6:=by simp only[bw,f0,f1,cond_true,cond_false]
     rw[e]
     exact aD rfl (bb Tryz.func24 ka rfl (.inr rfl) (pk (d+5) _ _ h _ h1 (NN bM (fun i=>(Pt i))<|CN 2<|MM (aw 9 0 (AV.str r.name) aQ k!)<|EE k2<|CN 2<|BB f0<|CN 2<|EE k4<|CC<|BC f1<|ZZ) k!) k!) bt rfl
   · have k6:=Ez (d:=d+4) r.ay 1000 cx
     rcases Bool.eq_false_or_eq_true (!(fS r.ay 1000)) with f2 | f2
     · have e:bw ahead r=1:=by simp only[bw,f0,f1,f2,cond_true,cond_false]
       rw[e]
       exact aD rfl (bb Tryz.func24 ka rfl (.inr rfl) (pk (d+5) _ _ h _ h1 (NN bM (fun i=>(Pt i))<|CN 2<|MM (aw 9 0 (AV.str r.name) aQ k!)<|EE k2<|CN 2<|BB f0<|CN 2<|EE k4<|CC<|BC f1<|MM (aw 3 1 (Zi r.ay) aQ k!)<|EE k6<|CN 2<|BC f2<|ZZ) k!) k!) bt rfl
     · have k8:=zF (d:=d+4) r.off 16 (fun jx=>cC (List.take jx r.off) (List.g r.off jx)) (h_r.2.has bt) (fun jx hj aV hh yy aa fa=>I2 (d:=d+1) (List.take jx r.off) (List.g r.off jx) fa (aL.mono aa ((h_r.2.has bt).ok hj)) yy) cx
       have e:bw ahead r=(da r.off 16 (fun jx=>cC (List.take jx r.off) (List.g r.off jx))):=by simp only[bw,f0,f1,f2,cond_true,cond_false]
       rw[e]
       exact aD rfl (bb Tryz.func24 ka rfl (.inr rfl) (pk (d+5) _ _ h _ h1 (NN bM (fun i=>(Pt i))<|CN 2<|MM (aw 9 0 (AV.str r.name) aQ k!)<|EE k2<|CN 2<|BB f0<|CN 2<|EE k4<|CC<|BC f1<|MM (aw 3 1 (Zi r.ay) aQ k!)<|EE k6<|CN 2<|BC f2<|MM (aw 39 2 r.cB aQ k!)<|EE k8<|CC<|ZZ) k!) k!) bt rfl
def yk (P:Nat→Int):Nat→Nat→Option Int
 | 0,_=>none
 | k+1,i=>bif !decide (P i=0) then some (P i) else yk P k (i+1)
def JK (n:Nat) (cr:Int) (P:Nat→Int):Int:=bif decide (cr<((n:Nat):Int)) then 3 else match yk P n 0 with | none=>0 | some r=>r
theorem LG {P:Nat→Int}:∀{k i:Nat},yk P k i=none→∀j,i≤j→j<i+k→P j=0
 | 0,i,_,j,p,q=>by omega
 | k+1,i,h,j,p,q=>by
   rw[yk] at h
   by_cases e:P i=0
   · rw[decide_eq_true e] at h
     by_cases z:j=i
     · rw[z];exact e
     · exact LG (k:=k) (i:=i+1) h j o! o!
   · rw[decide_eq_false e] at h;cases h
theorem vb {P:Nat→Int}:∀{k i:Nat} {r:Int},yk P k i=some r→r≠0
 | 0,i,r,h=>by cases h
 | k+1,i,r,h=>by
   rw[yk] at h
   by_cases e:P i=0
   · rw[decide_eq_true e] at h;exact vb (k:=k) h
   · rw[decide_eq_false e] at h;cases h;exact e
theorem ov {n:Nat} {cr:Int} {P:Nat→Int} (h:JK n cr P=0):(n:Int)≤cr∧∀j,j<n→P j=0:=by
 unfold JK at h
 by_cases a:cr<((n:Nat):Int)
 · rw[decide_eq_true a] at h;cases h
 · rw[decide_eq_false a,cond_false] at h
   cases e:yk P n 0 with
   | none=>exact ⟨by omega,fun j hj=>LG e j o! o!⟩
   | some r=>rw[e] at h;exact absurd h (vb e)
theorem Vs {P:Nat→Int} {l:List Int}:∀{k i:Nat},eD P l k i=yk P k i
 | 0,i=>rfl
 | k+1,i=>by rw[eD,yk,Vs]
theorem Vt {P:Nat→Int} {l:List jh}:∀{k i:Nat},eE P l k i=yk P k i
 | 0,i=>rfl
 | k+1,i=>by rw[eE,yk,Vt]
theorem PQ {P:Nat→Int} {l:List Task}:∀{k i:Nat},dU P l k i=yk P k i
 | 0,i=>rfl
 | k+1,i=>by rw[dU,yk,PQ]
theorem Vu {P:Nat→Int} {l:List bJ}:∀{k i:Nat},cP P l k i=yk P k i
 | 0,i=>rfl
 | k+1,i=>by rw[cP,yk,Vu]
theorem PS {P:Nat→Int} {l:List Span}:∀{k i:Nat},dV P l k i=yk P k i
 | 0,i=>rfl
 | k+1,i=>by rw[dV,yk,PS]
theorem Vv (l:List Int) (m:Int) (P:Nat→Int):ch l m P=JK l.length m P:=by rw[ch,JK,Vs];rfl
theorem Vw (l:List jh) (m:Int) (P:Nat→Int):dI l m P=JK l.length m P:=by rw[dI,JK,Vt];rfl
theorem zJ (l:List Task) (m:Int) (P:Nat→Int):bK l m P=JK l.length m P:=by rw[bK,JK,PQ];rfl
theorem Vx (l:List bJ) (m:Int) (P:Nat→Int):bz l m P=JK l.length m P:=by rw[bz,JK,Vu];rfl
theorem PT (l:List Span) (m:Int) (P:Nat→Int):da l m P=JK l.length m P:=by rw[da,JK,PS];rfl
theorem zK {j:cz} {a:List Task} {t:Task} (h:cZ j a t=0):∀q,q<t.az.length→0≤t.az.g q∧t.az.g q<(j.ab.length:Int):=by
 intro q hq
 unfold cZ at h
 cases n1:gC t.name with
 | false=>rw[n1] at h;cases h
 | true=>
 cases n2:fm a (fun y=>ic y t) with
 | true=>rw[n1,n2] at h;cases h
 | false=>
 cases n3:dg t.aI with
 | false=>rw[n1,n2,n3] at h;cases h
 | true=>
 rw[n1,n2,n3] at h
 by_cases e:ch t.az ((t.az.length:Nat):Int) (fun jx=>cO (List.take jx t.az) (List.g t.az jx) j)=0
 · rw[Vv] at e
   have:=(ov e).2 q hq
   unfold cO fR at this
   cases n4:ly (t.az.g q) ((j.ab.length:Nat):Int) with
   | false=>rw[show List.g t.az q=t.az.g q from rfl,n4] at this;cases this
   | true=>exact AW n4
 · rw[decide_eq_false e] at h;exact absurd h e
theorem BX {j:cz} (h:bK j.ab 64 (fun jx=>eK (List.take jx j.ab) (List.g j.ab jx) j)=0):j.ab.length≤100000:=by
 rw[zJ] at h;have:=(ov h).1;omega
theorem sE {j:cz} (h:bK j.ab 64 (fun jx=>eK (List.take jx j.ab) (List.g j.ab jx) j)=0):∀i,i<j.ab.length→∀q,q<(j.ab.g i).az.length→0≤(j.ab.g i).az.g q∧(j.ab.g i).az.g q<(j.ab.length:Int):=by
 rw[zJ] at h
 exact fun i hi=>zK ((ov h).2 i hi)
def anyI (P:Nat→Bool):Nat→Nat→Bool
 | 0,_=>false
 | k+1,i=>P i||anyI P k (i+1)
theorem qa {P Q:Nat→Bool}:∀{k i:Nat},(∀n,i≤n→n<i+k→P n=Q n)→anyI P k i=anyI Q k i
 | 0,i,h=>rfl
 | k+1,i,h=>by rw[anyI,anyI,h i (Nat.le_refl _) o!,qa (k:=k) (i:=i+1) fun n p q=>h n o! o!]
theorem xK {P:Nat→Bool}:∀{k i:Nat},anyI P k i=false→∀n,i≤n→n<i+k→P n=false
 | 0,i,_,n,p,q=>by omega
 | k+1,i,h,n,p,q=>by
   rw[anyI,Bool.or_eq_false_iff] at h
   by_cases e:n=i
   · rw[e];exact h.1
   · exact xK h.2 n o! o!
theorem Vy {s:List bJ} {P:bJ→Bool}:∀k i,(dy s P k i=none∧anyI (fun n=>P (s.g n)) k i=false)∨∃n:Nat,dy s P k i=some (n:Int)∧anyI (fun n=>P (s.g n)) k i=true
 | 0,i=> .inl ⟨rfl,rfl⟩
 | k+1,i=>by
   rw[dy,anyI]
   cases h:P (s.g i) with
   | true=>exact .inr ⟨i,rfl,rfl⟩
   | false=>exact Vy k (i+1)
theorem acF (s:List bJ) (P:bJ→Bool):dW s P=anyI (fun n=>P (s.g n)) s.length 0:=by
 rw[dW,eM]
 rcases Vy (s:=s) (P:=P) s.length 0 with ⟨e,f⟩ | ⟨n,e,f⟩
 · rw[e,f];rfl
 · rw[e,f];exact decide_eq_true (Int.natCast_nonneg n)
theorem PU {s:List Task} {P:Task→Bool}:∀k i,(fl s P k i=none∧anyI (fun n=>P (s.g n)) k i=false)∨∃n:Nat,fl s P k i=some (n:Int)∧anyI (fun n=>P (s.g n)) k i=true
 | 0,i=> .inl ⟨rfl,rfl⟩
 | k+1,i=>by
   rw[fl,anyI]
   cases h:P (s.g i) with
   | true=>exact .inr ⟨i,rfl,rfl⟩
   | false=>exact PU k (i+1)
theorem Y5 (s:List Task) (P:Task→Bool):fm s P=anyI (fun n=>P (s.g n)) s.length 0:=by
 rw[fm,ig]
 rcases PU (s:=s) (P:=P) s.length 0 with ⟨e,f⟩ | ⟨n,e,f⟩
 · rw[e,f];rfl
 · rw[e,f];exact decide_eq_true (Int.natCast_nonneg n)
theorem Vz {s:List jh} {P:jh→Bool}:∀k i,(fK s P k i=none∧anyI (fun n=>P (s.g n)) k i=false)∨∃n:Nat,fK s P k i=some (n:Int)∧anyI (fun n=>P (s.g n)) k i=true
 | 0,i=> .inl ⟨rfl,rfl⟩
 | k+1,i=>by
   rw[fK,anyI]
   cases h:P (s.g i) with
   | true=>exact .inr ⟨i,rfl,rfl⟩
   | false=>exact Vz k (i+1)
theorem VA (s:List jh) (P:jh→Bool):gK s P=anyI (fun n=>P (s.g n)) s.length 0:=by
 rw[gK,jC]
 rcases Vz (s:=s) (P:=P) s.length 0 with ⟨e,f⟩ | ⟨n,e,f⟩
 · rw[e,f];rfl
 · rw[e,f];exact decide_eq_true (Int.natCast_nonneg n)
theorem VB {s:List Int} {v:Int}:∀k i,(ie s v k i=none∧anyI (fun n=>decide (v=s.g n)) k i=false)∨∃n:Nat,ie s v k i=some (n:Int)∧anyI (fun n=>decide (v=s.g n)) k i=true
 | 0,i=> .inl ⟨rfl,rfl⟩
 | k+1,i=>by
   rw[ie,anyI]
   cases h:decide (v=s.g i) with
   | true=>exact .inr ⟨i,rfl,rfl⟩
   | false=>exact VB k (i+1)
theorem acG (s:List Int) (v:Int):kA s v=anyI (fun n=>decide (v=s.g n)) s.length 0:=by
 rw[kA,mV]
 rcases VB (s:=s) (v:=v) s.length 0 with ⟨e,f⟩ | ⟨n,e,f⟩
 · rw[e,f];rfl
 · rw[e,f];exact decide_eq_true (Int.natCast_nonneg n)
theorem qb {α:Type} {l:List α} {n:Nat} (h:n≤l.length):(l.take n).length=n:=by rw[List.length_take];omega
theorem xL {α:Type} [Inhabited α] {l:List α} {n i:Nat} (h:i<n):(l.take n).g i=l.g i:=by
 rw[List.g,List.g,List.getD_eq_getElem?_getD,List.getD_eq_getElem?_getD,List.getElem?_take_of_lt h]
theorem qx {x:Int} (h:dg x=true):0≤x∧x≤100000:=by
 unfold dg fS at h
 by_cases z:0≤x
 · rw[decide_eq_true z,cond_true] at h;exact ⟨z,of_decide_eq_true h⟩
 · rw[decide_eq_false z] at h;cases h
structure eA (j:cz):Prop where
 nt:j.ab.length≤64
 nr:j.af.length≤16
 nb:∀i,i<j.ab.length→∀q,q<(j.ab.g i).az.length→0≤(j.ab.g i).az.g q∧(j.ab.g i).az.g q<(j.ab.length:Int)
 ro:∀r,r<j.af.length→(j.af.g r).off.length≤16∧∀q,q<(j.af.g r).off.length→0≤((j.af.g r).off.g q).a_∧((j.af.g r).off.g q).aN≤100000
 rs:∀r,r<j.af.length→(∀q,q<(j.af.g r).off.length→((j.af.g r).off.g q).a_≤((j.af.g r).off.g q).aN)∧(∀q,0<q→q<(j.af.g r).off.length→((j.af.g r).off.g (q - 1)).aN<((j.af.g r).off.g q).a_)∧0≤(j.af.g r).ay∧(j.af.g r).ay≤1000
 ur:∀i,i<j.ab.length→∀q,q<(j.ab.g i).ar.length→0≤((j.ab.g i).ar.g q).ah∧((j.ab.g i).ar.g q).ah<(j.af.length:Int)
 um:∀i,i<j.ab.length→∀q,q<(j.ab.g i).ar.length→1≤((j.ab.g i).ar.g q).ay∧((j.ab.g i).ar.g q).ay≤(j.af.g (Int.toNat ((j.ab.g i).ar.g q).ah)).ay
 ud:∀i,i<j.ab.length→∀a,a<(j.ab.g i).ar.length→∀b,a<b→b<(j.ab.g i).ar.length→((j.ab.g i).ar.g a).ah≠((j.ab.g i).ar.g b).ah
 tk:∀i,i<j.ab.length→0≤(j.ab.g i).aI∧(j.ab.g i).aI≤100000
 io:¬(dh j.ab).length<j.ab.length
theorem F7 {j:cz} {b:List jh} {u:jh} (h:dx j b u=0):(0≤u.ah∧u.ah<(j.af.length:Int))∧(∀n,n<b.length→(b.g n).ah≠u.ah)∧1≤u.ay∧u.ay≤(j.af.g (Int.toNat u.ah)).ay:=by
 unfold dx at h
 cases a:ly u.ah ((j.af.length:Nat):Int) with
 | false=>rw[a] at h;cases h
 | true=>
 cases c:gK b (fun y=>jj y u) with
 | true=>rw[a,c] at h;cases h
 | false=>
 rw[a,c] at h
 by_cases d1:u.ay<1
 · rw[decide_eq_true d1] at h;cases h
 · rw[decide_eq_false d1] at h
   by_cases d2:1000<u.ay
   · rw[decide_eq_true d2] at h;cases h
   · rw[decide_eq_false d2] at h
     by_cases d3:(j.af.g (Int.toNat u.ah)).ay<u.ay
     · rw[decide_eq_true d3] at h;cases h
     · rw[VA] at c
       refine ⟨AW a,fun n hn e=>?_,by omega,by omega⟩
       have t:=xK c n (Nat.zero_le _) o!
       unfold jj at t
       rw[decide_eq_true e] at t;cases t
theorem F8 {b:List Span} {s:Span} (h:cC b s=0):0≤s.a_∧s.aN≤100000∧s.a_≤s.aN∧(0<b.length→(b.g (b.length - 1)).aN<s.a_):=by
 unfold cC at h
 cases a:dg s.a_ with
 | false=>rw[a] at h;cases h
 | true=>
 cases c:dg s.aN with
 | false=>rw[a,c] at h;cases h
 | true=>
 rw[a,c] at h
 have x:=qx a
 have y:=qx c
 by_cases d1:s.aN<s.a_
 · rw[decide_eq_true d1] at h;cases h
 · rw[decide_eq_false d1] at h
   refine ⟨x.1,y.2,by omega,fun hb=>?_⟩
   rw[decide_eq_true (show 0<((b.length:Nat):Int) by omega)] at h
   by_cases d2:s.a_≤(b.g (b.length - 1)).aN
   · rw[decide_eq_true d2] at h;cases h
   · omega
theorem xM {b:List bJ} {r:bJ} (h:bw b r=0):(0≤r.ay∧r.ay≤1000)∧r.off.length≤16∧∀q,q<r.off.length→cC (r.off.take q) (r.off.g q)=0:=by
 unfold bw at h
 cases a:gC r.name with
 | false=>rw[a] at h;cases h
 | true=>
 cases c:dW b (fun y=>fF y r) with
 | true=>rw[a,c] at h;cases h
 | false=>
 cases e:fS r.ay 1000 with
 | false=>rw[a,c,e] at h;cases h
 | true=>
 rw[a,c,e] at h
 have h:da r.off 16 (fun jx=>cC (List.take jx r.off) (List.g r.off jx))=0:=h
 rw[PT] at h
 have z:=ov h
 refine ⟨?_,by omega,fun q hq=>z.2 q hq⟩
 unfold fS at e
 by_cases z:0≤r.ay
 · rw[decide_eq_true z,cond_true] at e;exact ⟨z,of_decide_eq_true e⟩
 · rw[decide_eq_false z] at e;cases e
theorem EG {j:cz} {b:List Task} {t:Task} (h:cZ j b t=0):(0≤t.aI∧t.aI≤100000)∧∀q,q<t.ar.length→dx j (t.ar.take q) (t.ar.g q)=0:=by
 unfold cZ at h
 cases n1:gC t.name with
 | false=>rw[n1] at h;cases h
 | true=>
 cases n2:fm b (fun y=>ic y t) with
 | true=>rw[n1,n2] at h;cases h
 | false=>
 cases n3:dg t.aI with
 | false=>rw[n1,n2,n3] at h;cases h
 | true=>
 rw[n1,n2,n3] at h
 by_cases e:ch t.az ((t.az.length:Nat):Int) (fun jx=>cO (List.take jx t.az) (List.g t.az jx) j)=0
 · rw[decide_eq_true e] at h
   have h:dI t.ar ((t.ar.length:Nat):Int) (fun jx=>fL (List.take jx t.ar) (List.g t.ar jx) j)=0:=h
   rw[Vw] at h
   exact ⟨qx n3,fun q hq=>(ov h).2 q hq⟩
 · rw[decide_eq_false e] at h;exact absurd h e
theorem NT {j:cz} (h:(bif (!decide ((bz j.af 16 (fun jx=>bw (List.take jx j.af) (List.g j.af jx)))=0)) then (bz j.af 16 (fun jx=>bw (List.take jx j.af) (List.g j.af jx))) else (bif (!decide ((bK j.ab 64 (fun jx=>eK (List.take jx j.ab) (List.g j.ab jx) j))=0)) then (bK j.ab 64 (fun jx=>eK (List.take jx j.ab) (List.g j.ab jx) j)) else (bif (decide ((((dh j.ab).length:Nat):Int)<((j.ab.length:Nat):Int))) then 11 else 0)))=0):eA j:=by
 by_cases a:bz j.af 16 (fun jx=>bw (List.take jx j.af) (List.g j.af jx))=0
 · by_cases b:bK j.ab 64 (fun jx=>eK (List.take jx j.ab) (List.g j.ab jx) j)=0
   · by_cases c:(((dh j.ab).length:Nat):Int)<((j.ab.length:Nat):Int)
     · rw[decide_eq_true a,decide_eq_true b,decide_eq_true c] at h;cases h
     · have nb:=sE b
       rw[Vx] at a
       rw[zJ] at b
       have za:=ov a
       have zb:=ov b
       have rr:=fun r (hr:r<j.af.length)=>xM (za.2 r hr)
       have tt:=fun i (hi:i<j.ab.length)=>EG (zb.2 i hi)
       have oo:=fun r (hr:r<j.af.length) q (hq:q<(j.af.g r).off.length)=>F8 ((rr r hr).2.2 q hq)
       have uu:=fun i (hi:i<j.ab.length) q (hq:q<(j.ab.g i).ar.length)=>F7 ((tt i hi).2 q hq)
       exact {
        nt:=by omega
        nr:=by omega
        nb:=nb
        ro:=fun r hr=>⟨(rr r hr).2.1,fun q hq=>⟨(oo r hr q hq).1,(oo r hr q hq).2.1⟩⟩
        rs:=fun r hr=>⟨fun q hq=>(oo r hr q hq).2.2.1,fun q h0 hq=>by
         have:=(oo r hr q hq).2.2.2
         rw[qb (Nat.le_of_lt hq),xL o!] at this
         exact this h0,(rr r hr).1⟩
        ur:=fun i hi q hq=>(uu i hi q hq).1
        um:=fun i hi q hq=>(uu i hi q hq).2.2
        ud:=fun i hi a ha b ZS hb=>by
         have:=(uu i hi b hb).2.1 a (by rw[qb (Nat.le_of_lt hb)];exact ZS)
         rw[xL ZS] at this;exact this
        tk:=fun i hi=>(tt i hi).1
        io:=by omega}
   · rw[decide_eq_true a,decide_eq_false b] at h;exact absurd h b
 · rw[decide_eq_false a] at h;exact absurd h a
noncomputable def zL:Code:=(Tryz.f58.body).getD .skip
theorem He:Tryz.f58.body=some zL:=by kernel_rfl
noncomputable def LH:Code:=(bE zL).getD 0 .skip
def kE (x_:Task) (aG:List Bool):Nat→Nat→Option (Bool)
 | 0,_=>none
 | dz+1,i0=>(bif (!(aG.g (x_.az.g i0).toNat)) then some false else kE x_ aG dz (i0+1))
theorem sG {d:Nat} {h:au} (bp:AV) (x_:Task) (aG:List Bool) (br:Nat) (bn:nv h 4 bp aG) (b8:x_.name.length<2^60) (ew:b_ h .i64 3 x_.aO x_.az) (ma:aS h x_.aU x_.ar) (gU:aL.ok h x_) (iy:∀q,q<x_.az.length→0≤x_.az.g q∧x_.az.g q<(aG.length:Int)):∀(k_ i_:Nat) (_:i_+k_=x_.az.length) (x:Nat→AV) (hh:au) (aE:Tidy hh) (aB:Has h hh) (bj:hh.get br=some (aM.cells [(AV.str x_.name),(Zi x_.aI),x_.aO,x_.aU] 44 false)),aA (cR (d)) LH ⟨((x 0)::bp::(Pt br)::(x 3)::(x 4)::(Zn i_)::rx x 6 16 []),hh,[],.no⟩ (.exit 0) hh (fun y=>((y 0)::bp::(Pt br)::rx y 3 19 [])) (fun r y=>((y 0)::bp::(Pt br)::(y 3)::(AV.bool r)::rx y 5 17 [])) (kE x_ aG k_ i_)
 | 0,i0,fX,x,hh,aE,aB,bj=>by
   have cm:=bn.small
   have jA:=ew.small
   have xN:=ma.small
   have je:=aE _ _ bj
   have dG:b6 (some (.slice 3)) (some x_.aO)=some (Zn x_.az.length):=(ew.has aB).len
   have q2:(decide (((i0:Nat):Int)<((x_.az.length:Nat):Int)))=false:=d!
   exact aA.out rfl (pk (d) _ _ hh _ hh (CN 2<|MM (aw 26 2 x_.aO bj k!)<|VV dG<|VV (ba 3 false false .i64 ((i0:Nat):Int) ((x_.az.length:Nat):Int))<|BB q2<|ZZ) k!) (bF.refl aE) k!
 | dz+1,i0,fX,x,hh,aE,aB,bj=>by
   have cm:=bn.small
   have jA:=ew.small
   have xN:=ma.small
   have je:=aE _ _ bj
   obtain ⟨nd1,nd2⟩:=iy i0 o!
   have dG:b6 (some (.slice 3)) (some x_.aO)=some (Zn x_.az.length):=(ew.has aB).len
   have q2:(decide (((i0:Nat):Int)<((x_.az.length:Nat):Int)))=true:=d!
   obtain ⟨p4,q5,iW,_⟩:=(ew.has aB).elem (i:=i0) o!
   have iG:bS env (some (.slice 3)) (some x_.aO) (some (Zn i0))=some (AV.ptr p4 q5):=iW
   have iV:bh env hh 3 (AV.ptr p4 q5)=some (Zi (x_.az.g i0)):=(ew.has aB).load o! iW
   obtain ⟨p8,q9,zD,_⟩:=(bn.has aB).elem (i:=(x_.az.g i0).toNat) o!
   have NA:bS env (some (.slice 4)) (some bp) (some (Zi (x_.az.g i0)))=some (AV.ptr p8 q9):=by rw[show ((x_.az.g i0):Int)=(((x_.az.g i0).toNat:Nat):Int) by omega];exact zD
   have o_:bh env hh 4 (AV.ptr p8 q9)=some (AV.bool (aG.g (x_.az.g i0).toNat)):=(bn.has aB).load o! zD
   rcases Bool.eq_false_or_eq_true (!(aG.g (x_.az.g i0).toNat)) with f1 | f1
   · exact aA.ret false (by simp only[kE,f1,cond_true,cond_false]) (pk (d) _ _ hh _ hh (CN 2<|MM (aw 26 2 x_.aO bj k!)<|VV dG<|VV (ba 3 false false .i64 ((i0:Nat):Int) ((x_.az.length:Nat):Int))<|BB q2<|CN 2<|MM (aw 26 2 x_.aO bj k!)<|CC<|VV iG<|MM iV<|VV NA<|MM o_<|CC<|BC f1<|ZZ) k!) (bF.refl aE) k!
   · have Rt:=fe 3 false true i0 1 o!
     exact aA.round (by simp only[kE,f1,cond_true,cond_false]) (pk (d) _ _ hh _ hh (CN 2<|MM (aw 26 2 x_.aO bj k!)<|VV dG<|VV (ba 3 false false .i64 ((i0:Nat):Int) ((x_.az.length:Nat):Int))<|BB q2<|CN 2<|MM (aw 26 2 x_.aO bj k!)<|CC<|VV iG<|MM iV<|VV NA<|MM o_<|CC<|BC f1<|VV Rt<|CC<|ZZ) k!) (bF.refl aE) _ k! (fun x=>sG bp x_ aG br bn b8 ew ma gU iy dz (i0+1) o! x hh aE aB bj)
def jF (x_:Task) (aG:List Bool):Bool:=(match (kE x_ aG x_.az.length 0) with | none=>true | some AZ=>AZ)
theorem Ru {d:Nat} {h:au} {bp:AV} (x_:Task) (aG:List Bool) (g8:aL.ok h x_) (jU:nv h 4 bp aG) (lI:∀q,q<x_.az.length→0≤x_.az.g q∧x_.az.g q<(aG.length:Int)) (bW:Tidy h):cR (d+1) (.fn 58) [(AV.agg [(AV.str x_.name),(Zi x_.aI),x_.aO,x_.aU]),bp] h= .ret (AV.bool (jF x_ aG)) h:=by
 have EH:=jU.small
 have EI:=g8.2.2.small
 obtain ⟨h1,bM,cx,jc,aQ,cA⟩:=j_ bW (aM.cells [(AV.str x_.name),(Zi x_.aI),x_.aO,x_.aU] 44 false)
 have bt:Has h h1:=cA
 cases ef:kE x_ aG x_.az.length 0 with
 | none=>
   obtain ⟨Mm,h3,dD,dq⟩:=aA.n ef (sG (d:=d) (h:=h) bp x_ aG h.nx jU g8.1 g8.2.1 g8.2.2 g8 lI x_.az.length 0 o! (fun k_=>(((AV.agg [(AV.str x_.name),(Zi x_.aI),x_.aO,x_.aU])::bp::(Pt h.nx)::AV.undef::(AV.bool false)::(Zi 0)::g4 16):List AV).getD k_ AV.undef) h1 cx bt aQ)
   have nh:=dq.y
   have uR:h1.nx≤h3.nx:=dq.n
   have iz:Has h h3:=bt.trans dq.a
   have e:jF x_ aG=true:=by simp only[jF,ef,cond_true,cond_false]
   rw[e]
   exact aD rfl (bb Tryz.func58 He rfl (.inr rfl) (pk (d) _ _ h _ h3 (NN bM (fun i=>(Pt i))<|CN 2<|LL dD<|CC<|ZZ) k!) k!) iz rfl
 | some AZ=>
   obtain ⟨Mm,h3,dD,dq⟩:=aA.r ef (sG (d:=d) (h:=h) bp x_ aG h.nx jU g8.1 g8.2.1 g8.2.2 g8 lI x_.az.length 0 o! (fun k_=>(((AV.agg [(AV.str x_.name),(Zi x_.aI),x_.aO,x_.aU])::bp::(Pt h.nx)::AV.undef::(AV.bool false)::(Zi 0)::g4 16):List AV).getD k_ AV.undef) h1 cx bt aQ)
   have nh:=dq.y
   have uR:h1.nx≤h3.nx:=dq.n
   have iz:Has h h3:=bt.trans dq.a
   have e:jF x_ aG=AZ:=by simp only[jF,ef,cond_true,cond_false]
   rw[e]
   exact aD rfl (bb Tryz.func58 He rfl (.inr rfl) (pk (d) _ _ h _ h3 (NN bM (fun i=>(Pt i))<|CN 2<|LL dD<|ZZ) k!) k!) iz rfl
noncomputable def qU:Code:=(Tryz.f22.body).getD .skip
theorem NU:Tryz.f22.body=some qU:=by kernel_rfl
noncomputable def I3:Code:=(bE qU).getD 0 .skip
noncomputable def I4:Code:=(bE qU).getD 1 .skip
def bQ (bD:List Bool) (j:cz):Nat→Int→Int→Int
 | 0,fU,ft=>fU
 | qN+1,fU,ft=>(bif (decide (0≤ft)) then (bif (!(bD.g ft.toNat)) then (bif (jF (j.ab.g ft.toNat) bD) then bQ bD j qN ft (ft - 1) else bQ bD j qN fU (ft - 1)) else bQ bD j qN fU (ft - 1)) else fU)
theorem nR {d:Nat} {h:au} (j:cz) (z0:AV) (bD:List Bool) (cE:Nat) (cK:Nat) (dM:aS h j.aj j.ab) (dm:aS h j.ag j.af) (l9:aL.ok h j) (pa:∀i,i<j.ab.length→∀q,q<(j.ab.g i).az.length→0≤(j.ab.g i).az.g q∧(j.ab.g i).az.g q<(j.ab.length:Int)) (sr:j.ab.length≤100000) (dv:bD.length=j.ab.length):∀(k_:Nat) (fU:Int) (ft:Int) (_:(ft+1≤(k_:Int))) (_:((-1≤fU∧fU<(j.ab.length:Int)∧(0≤fU→bD.g fU.toNat=false))∧ft<(j.ab.length:Int))) (x:Nat→AV) (hh:au) (aE:Tidy hh) (aB:Has h hh) (bZ:hh.get cE=some (aM.cells [j.aj,j.ag] 25 false)) (cf:hh.get cK=some (aM.cells (bs bD) 4 false)),cN (cR (d+1)) I4 ⟨((x 0)::(Pt cE)::(x 2)::(AV.slice cK 0 j.ab.length j.ab.length false)::z0::(Zi fU)::(Zi ft)::rx x 7 37 []),hh,[],.no⟩ (.exit 2) hh (fun r y=>((y 0)::(Pt cE)::(y 2)::(AV.slice cK 0 j.ab.length j.ab.length false)::z0::(Zi r)::rx y 6 38 [])) (fun r=>(-1≤r∧r<(j.ab.length:Int)∧(0≤r→bD.g r.toNat=false))) (bQ bD j k_ fU ft)
 | 0,fU,ft,fX,cL,x,hh,aE,aB,bZ,cf=>by
   have jy:=dM.small
   have jz:=dm.small
   have ss:=aE _ _ bZ
   have AS:=aE _ _ cf
   have q1:(decide (0≤ft))=false:=d!
   exact cN.out fU rfl (pk (d+1) _ _ hh _ hh (CC<|VV (lH 3 false true .i64 ft 0)<|BB q1<|ZZ) k!) (bF.refl aE) (show (-1≤fU∧fU<(j.ab.length:Int)∧(0≤fU→bD.g fU.toNat=false)) from (by first | omega | exact cL.1 | (refine ⟨⟨by omega,by omega,fun _=>?_⟩,by omega⟩;first | exact cL.1.2.2 o! | simp_all))) k!
 | qN+1,fU,ft,fX,cL,x,hh,aE,aB,bZ,cf=>by
   have jy:=dM.small
   have jz:=dm.small
   have ss:=aE _ _ bZ
   have AS:=aE _ _ cf
   have NB:=pa
   rcases Bool.eq_false_or_eq_true (decide (0≤ft)) with f0 | f0
   · have dO:=of_decide_eq_true f0
     have gv:bS env (some (.slice 4)) (some (AV.slice cK 0 j.ab.length j.ab.length false)) (some (Zi ft))=some (AV.ptr cK ft.toNat):=km k! (show ft.toNat<j.ab.length by omega) o!
     have YA:bh env hh 4 (AV.ptr cK ft.toNat)=some (AV.bool (bD.g ft.toNat)):=Ys k! cf l!
     rcases Bool.eq_false_or_eq_true (!(bD.g ft.toNat)) with f1 | f1
     · obtain ⟨p6,q7,VC⟩:=(dM.has aB).elem (i:=ft.toNat) o!
       have WW:bS env (some (.slice 44)) (some j.aj) (some (Zi ft))=some (AV.ptr p6 q7):=by rw[show (ft:Int)=((ft.toNat:Nat):Int) by omega];exact VC
       have ld8:bh env hh 44 (AV.ptr p6 q7)=some (AV.agg [(AV.str ((j.ab.g ft.toNat).name)),(Zi ((j.ab.g ft.toNat).aI)),((j.ab.g ft.toNat).aO),((j.ab.g ft.toNat).aU)]):=(dM.has aB).load o! VC
       have k9:=Ru (d:=d) (j.ab.g ft.toNat) bD ((dM.has aB).ok (i:=ft.toNat) o!) (nv.own (op:=false) k! k! cf l! o!) (by first | omega | assumption | (intro q hq;have q_:=NB _ o! q hq;omega)) aE
       rcases Bool.eq_false_or_eq_true (jF (j.ab.g ft.toNat) bD) with f2 | f2
       · have w11:IntKind.i64.wrap (ft - 1)=ft - 1:=wrap_i64 o! o!
         exact cN.round (by simp only[bQ,f0,f1,f2,cond_true,cond_false]) (pk (d+1) _ _ hh _ hh (CC<|VV (lH 3 false true .i64 ft 0)<|BB f0<|CN 2<|VV gv<|MM YA<|CN 2<|BC f1<|BM f1 (aw 22 0 j.aj bZ k!)<|BC f1<|BV f1 WW<|BM f1 ld8<|BC f1<|BB f1<|EE k9<|VV (kI (jF (j.ab.g ft.toNat) bD) false f1)<|BB f2<|CN 3<|VV (uz 3 false true w11)<|CC<|ZZ) k!) (bF.refl aE) _ k! (fun x=>nR j z0 bD cE cK dM dm l9 pa sr dv qN ft (ft - 1) o! (show ((-1≤ft∧ft<(j.ab.length:Int)∧(0≤ft→bD.g ft.toNat=false))∧(ft - 1)<(j.ab.length:Int)) from (by first | omega | exact cL.1 | (refine ⟨⟨by omega,by omega,fun _=>?_⟩,by omega⟩;first | exact cL.1.2.2 o! | simp_all))) x hh aE aB bZ cf)
       · have w11:IntKind.i64.wrap (ft - 1)=ft - 1:=wrap_i64 o! o!
         exact cN.round (by simp only[bQ,f0,f1,f2,cond_true,cond_false]) (pk (d+1) _ _ hh _ hh (CC<|VV (lH 3 false true .i64 ft 0)<|BB f0<|CN 2<|VV gv<|MM YA<|CN 2<|BC f1<|BM f1 (aw 22 0 j.aj bZ k!)<|BC f1<|BV f1 WW<|BM f1 ld8<|BC f1<|BB f1<|EE k9<|VV (kI (jF (j.ab.g ft.toNat) bD) false f1)<|BC f2<|VV (uz 3 false true w11)<|CC<|ZZ) k!) (bF.refl aE) _ k! (fun x=>nR j z0 bD cE cK dM dm l9 pa sr dv qN fU (ft - 1) o! (show ((-1≤fU∧fU<(j.ab.length:Int)∧(0≤fU→bD.g fU.toNat=false))∧(ft - 1)<(j.ab.length:Int)) from (by first | omega | exact cL.1 | (refine ⟨⟨by omega,by omega,fun _=>?_⟩,by omega⟩;first | exact cL.1.2.2 o! | simp_all))) x hh aE aB bZ cf)
     · have w5:IntKind.i64.wrap (ft - 1)=ft - 1:=wrap_i64 o! o!
       exact cN.round (by simp only[bQ,f0,f1,cond_true,cond_false]) (pk (d+1) _ _ hh _ hh (CC<|VV (lH 3 false true .i64 ft 0)<|BB f0<|CN 2<|VV gv<|MM YA<|CN 2<|BB f1<|BB f1<|BB f1<|BB f1<|BB f1<|BB f1<|BV f1 (tS false f1)<|FF<|CC<|VV (uz 3 false true w5)<|CC<|ZZ) k!) (bF.refl aE) _ k! (fun x=>nR j z0 bD cE cK dM dm l9 pa sr dv qN fU (ft - 1) o! (show ((-1≤fU∧fU<(j.ab.length:Int)∧(0≤fU→bD.g fU.toNat=false))∧(ft - 1)<(j.ab.length:Int)) from (by first | omega | exact cL.1 | (refine ⟨⟨by omega,by omega,fun _=>?_⟩,by omega⟩;first | exact cL.1.2.2 o! | simp_all))) x hh aE aB bZ cf)
   · have dO:=of_decide_eq_false f0
     exact cN.out fU (by simp only[bQ,f0,cond_true,cond_false]) (pk (d+1) _ _ hh _ hh (CC<|VV (lH 3 false true .i64 ft 0)<|BB f0<|ZZ) k!) (bF.refl aE) (show (-1≤fU∧fU<(j.ab.length:Int)∧(0≤fU→bD.g fU.toNat=false)) from (by first | omega | exact cL.1 | (refine ⟨⟨by omega,by omega,fun _=>?_⟩,by omega⟩;first | exact cL.1.2.2 o! | simp_all))) k!
def fV (j:cz):Nat→List Int→List Bool→List Int
 | 0,zM,bD=>default
 | dz+1,zM,bD=>(bif (decide ((bQ bD j ((((j.ab.length:Nat):Int) - 1)+1).toNat (-1) (((j.ab.length:Nat):Int) - 1))<0)) then zM else fV j dz (zM++[(bQ bD j ((((j.ab.length:Nat):Int) - 1)+1).toNat (-1) (((j.ab.length:Nat):Int) - 1))]) (bD.set (bQ bD j ((((j.ab.length:Nat):Int) - 1)+1).toNat (-1) (((j.ab.length:Nat):Int) - 1)).toNat true))
theorem wB {d:Nat} {h:au} {gg0:au} (j:cz) (br:Nat) (dw:Nat) (bn:aS h j.aj j.ab) (b8:aS h j.ag j.af) (gU:aL.ok h j) (iy:∀i,i<j.ab.length→∀q,q<(j.ab.g i).az.length→0≤(j.ab.g i).az.g q∧(j.ab.g i).az.g q<(j.ab.length:Int)) (kr:j.ab.length≤100000) (bW:Tidy h) (AQ:h.nx≤br) (Nj:h.nx≤dw) (xu:dw≠br) (NG0:h.nx≤gg0.nx) (K9:br<gg0.nx) (UL:dw<gg0.nx):∀(k_:Nat) (zM:List Int) (bD:List Bool) (z0:AV) (_:((nF bD:Nat):Int)+1≤(k_:Int)) (_:(zM.length+nF bD=j.ab.length)) (x:Nat→AV) (hh:au) (aE:Tidy hh) (aB:Has h hh) (jv:h.nx≤hh.nx) (mo:bD.length=j.ab.length) (bj:hh.get br=some (aM.cells [j.aj,j.ag] 25 false)) (dR:hh.get dw=some (aM.cells (bs bD) 4 false)) (PB:g7 3 gg0 hh z0 (zs .i64 zM)) (lz0:zM.length≤1000000000) (BR:gg0.nx≤hh.nx),cg (σ:=List Bool) (ρ:=List Int) (cR (d+1)) I3 ⟨((x 0)::(Pt br)::(x 2)::(AV.slice dw 0 j.ab.length j.ab.length false)::z0::rx x 5 39 []),hh,[],.no⟩ (.exit 0) hh (fun r z y=>((y 0)::(Pt br)::(y 2)::(AV.slice dw 0 j.ab.length j.ab.length false)::rx y 4 40 [])) (fun r z y=>((y 0)::(Pt br)::z::(AV.slice dw 0 j.ab.length j.ab.length false)::rx y 4 40 [])) (fun r z hk=>True) (fun r z hk=>Has h hk∧g7 3 gg0 hk z (zs .i64 r)∧r.length≤1000000000) (Sum.inr (fV j k_ zM bD))
 | 0,zM,bD,z0,fX,cL,x,hh,aE,aB,jv,mo,bj,dR,PB,lz0,BR=>by
   exfalso;omega
 | dz+1,zM,bD,z0,fX,cL,x,hh,aE,aB,jv,mo,bj,dR,PB,lz0,BR=>by
   have cm:=bn.small
   have eJ:=b8.small
   have je:=aE _ _ bj
   have FR:=aE _ _ dR
   have NB:=iy
   have dG:b6 (some (.slice 44)) (some j.aj)=some (Zn j.ab.length):=bn.len
   have w2:IntKind.i64.wrap (((j.ab.length:Nat):Int) - 1)=((j.ab.length:Nat):Int) - 1:=wrap_i64 o! o!
   obtain ⟨Ae,h4,iA,gH,CM⟩:=nR (d:=d) (h:=h) j z0 bD br dw bn b8 gU NB o! o! ((((j.ab.length:Nat):Int) - 1)+1).toNat (-1) (((j.ab.length:Nat):Int) - 1) o! (show ((-1≤(-1)∧(-1)<(j.ab.length:Int)∧(0≤(-1)→bD.g (-1).toNat=false))∧(((j.ab.length:Nat):Int) - 1)<(j.ab.length:Int)) from (by first | omega | exact cL.1 | (refine ⟨⟨by omega,by omega,fun _=>?_⟩,by omega⟩;first | exact cL.1.2.2 o! | simp_all))) (fun k_=>(((x 0)::(Pt br)::(x 2)::(AV.slice dw 0 j.ab.length j.ab.length false)::z0::(Zi (-1))::(Zi (((j.ab.length:Nat):Int) - 1))::rx x 7 4 ((Pt br)::j.aj::(Zn j.ab.length)::(Zi (((j.ab.length:Nat):Int) - 1))::rx x 15 29 [])):List AV).getD k_ AV.undef) hh aE aB bj dR
   have nA:=gH.y
   have Lm:hh.nx≤h4.nx:=gH.n
   have kQ:Has h h4:=aB.trans gH.a
   have PV:Has hh h4:=gH.a
   rcases Bool.eq_false_or_eq_true (decide ((bQ bD j ((((j.ab.length:Nat):Int) - 1)+1).toNat (-1) (((j.ab.length:Nat):Int) - 1))<0)) with f0 | f0
   · have dO:=of_decide_eq_true f0
     exact cg.ret zM z0 (congrArg Sum.inr (by simp only[fV,f0,cond_true,cond_false])) (pk (d+1) _ _ hh _ h4 (CN 2<|MM (aw 22 0 j.aj bj k!)<|VV dG<|VV (uz 3 false true w2)<|CC<|LL iA<|CC<|VV (ba 3 false true .i64 (bQ bD j ((((j.ab.length:Nat):Int) - 1)+1).toNat (-1) (((j.ab.length:Nat):Int) - 1)) 0)<|BB f0<|CN 2<|ZZ) k!) nA o! ⟨kQ,(PB.has PV),(by first | omega | (simp<;>omega))⟩ k!
   · have dO:=of_decide_eq_false f0
     have BN:bS env (some (.slice 4)) (some (AV.slice dw 0 j.ab.length j.ab.length false)) (some (Zi (bQ bD j ((((j.ab.length:Nat):Int) - 1)+1).toNat (-1) (((j.ab.length:Nat):Int) - 1))))=some (AV.ptr dw (bQ bD j ((((j.ab.length:Nat):Int) - 1)+1).toNat (-1) (((j.ab.length:Nat):Int) - 1)).toNat):=km k! (show (bQ bD j ((((j.ab.length:Nat):Int) - 1)+1).toNat (-1) (((j.ab.length:Nat):Int) - 1)).toNat<j.ab.length by omega) o!
     obtain ⟨h7,acI⟩:∃IK:au,IK=h4.put dw (some (aM.cells (bs (bD.set (bQ bD j ((((j.ab.length:Nat):Int) - 1)+1).toNat (-1) (((j.ab.length:Nat):Int) - 1)).toNat true)) 4 false)):=⟨_,rfl⟩
     have ks:dL env h4 4 (AV.ptr dw (bQ bD j ((((j.ab.length:Nat):Int) - 1)+1).toNat (-1) (((j.ab.length:Nat):Int) - 1)).toNat) (AV.bool true)=some h7:=by rw[acI];exact pT k! (gH.a _ _ dR) l!
     have VD:Iw h4 h7 dw (aM.cells (bs (bD.set (bQ bD j ((((j.ab.length:Nat):Int) - 1)+1).toNat (-1) (((j.ab.length:Nat):Int) - 1)).toNat true)) 4 false):=by rw[acI];exact j9 nA (gH.a _ _ dR)
     have fQ:=VD.1
     have zl:h7.nx=h4.nx:=by rw[acI];rfl
     have eL:Has h h7:=VD.has kQ bW o!
     obtain ⟨h8,ab9,qO,aca,dE,AT⟩:=j_ fQ (aM.cells [(Zi (bQ bD j ((((j.ab.length:Nat):Int) - 1)+1).toNat (-1) (((j.ab.length:Nat):Int) - 1)))] 3 false)
     have pc:Has h h8:=eL.trans AT
     have Y6:Has h7 h8:=AT
     obtain ⟨z10,h9,afK,nz,FN,acJ,ahZ⟩:=g7.Yt (k:= .i64) (g:=gg0) (tys:= #[26,26]) (v:=(bQ bD j ((((j.ab.length:Nat):Int) - 1)+1).toNat (-1) (((j.ab.length:Nat):Int) - 1))) (L:=zM) qO o! (((PB.has PV).chg VD o!).has Y6) dE (by first | omega | (simp<;>omega)) rfl rfl k! k! k! (bytes:=8) k! (z0:=Zi 0) k! rfl (by decide)
     have hZ:Has h h9:=Has.Nd pc bW o! acJ
     exact cg.round (congrArg Sum.inr (by simp only[fV,f0,cond_true,cond_false])) (pk (d+1) _ _ hh _ h9 (CN 2<|MM (aw 22 0 j.aj bj k!)<|VV dG<|VV (uz 3 false true w2)<|CC<|LL iA<|CC<|VV (ba 3 false true .i64 (bQ bD j ((((j.ab.length:Nat):Int) - 1)+1).toNat (-1) (((j.ab.length:Nat):Int) - 1)) 0)<|BB f0<|CN 2<|VV BN<|SS ks<|CN 2<|NN ab9 (fun i=>(AV.slice i 0 1 1 false))<|PP (show dJ env h8 #[26,26] z0 (AV.slice h7.nx 0 1 1 false)=some (z10,h9) from afK)<|CC<|ZZ) k!) o! _ k! (fun x=>wB j br dw bn b8 gU iy kr bW AQ Nj xu NG0 K9 UL dz (zM++[(bQ bD j ((((j.ab.length:Nat):Int) - 1)+1).toNat (-1) (((j.ab.length:Nat):Int) - 1))]) (bD.set (bQ bD j ((((j.ab.length:Nat):Int) - 1)+1).toNat (-1) (((j.ab.length:Nat):Int) - 1)).toNat true) z10 (by have e_:=Vh o! o! (CM.2.2 o!);first | omega | (simp only[List.length_append,List.length_cons,List.length_nil];omega)) (show ((zM++[(bQ bD j ((((j.ab.length:Nat):Int) - 1)+1).toNat (-1) (((j.ab.length:Nat):Int) - 1))]).length+nF (bD.set (bQ bD j ((((j.ab.length:Nat):Int) - 1)+1).toNat (-1) (((j.ab.length:Nat):Int) - 1)).toNat true)=j.ab.length) from (by have e_:=Vh o! o! (CM.2.2 o!);first | omega | (simp only[List.length_append,List.length_cons,List.length_nil];omega))) x h9 nz hZ o! l! (acJ _ _ o! (AT _ _ (VD.2.2 _ _ o! (gH.a _ _ bj)))) (acJ _ _ o! (AT _ _ VD.2.1)) ahZ (by first | omega | (simp<;>omega)) o!)
def dX (j:cz):List Int:=(fV j (((nF (List.replicate j.ab.length false):Nat):Int)+1).toNat ([]) (List.replicate j.ab.length false))
theorem EJ {d:Nat} {h:au} (j:cz) (bH:aL.ok h j) (lI:∀i,i<j.ab.length→∀q,q<(j.ab.g i).az.length→0≤(j.ab.g i).az.g q∧(j.ab.g i).az.g q<(j.ab.length:Int)) (oL:j.ab.length≤100000) (bW:Tidy h):∃z hk,cR (d+2) (.fn 22) [(AV.agg [j.aj,j.ag])] h= .ret z hk∧bF h hk∧b_ hk .i64 3 z (dX j)∧g7 3 h hk z (zs .i64 (dX j)):=by
 have dP:=bH.1.small
 have dQ:=bH.2.small
 obtain ⟨h1,bM,cx,jc,aQ,cA⟩:=j_ bW (aM.cells [j.aj,j.ag] 25 false)
 have bt:Has h h1:=cA
 have re:b6 (some (.slice 44)) (some j.aj)=some (Zn j.ab.length):=bH.1.len
 have mk3:yU env (some (.slice 4)) (some (Zn j.ab.length)) (some (Zn j.ab.length))=some (aM.cells (bT [(AV.bool false)] j.ab.length) 4 false,fun i=>AV.slice i 0 j.ab.length j.ab.length false):=pr (bytes:=1) (z:=(AV.bool false)) k! k! k! rfl (by decide) o!
 obtain ⟨h4,Nu,nA,YU,U4,IM⟩:=j_ cx (aM.cells (bT [(AV.bool false)] j.ab.length) 4 false)
 have kQ:Has h h4:=bt.trans IM
 have VE:h4.get h1.nx=some (aM.cells (bs (List.replicate j.ab.length false)) 4 false):=by have q:=U4;rw[AN] at q;exact q
 obtain ⟨zo7,Fm,h6,p_,jf,NM,LB,NQ,acB⟩:=cg.r rfl (wB (d:=d) (h:=h) (gg0:=h4) j h.nx h1.nx bH.1 bH.2 bH lI o! bW o! o! o! o! o! o! (((nF (List.replicate j.ab.length false):Nat):Int)+1).toNat ([]) (List.replicate j.ab.length false) AV.aH o! (show (([]).length+nF (List.replicate j.ab.length false)=j.ab.length) from (by rw[xx];simp)) (fun k_=>(((AV.agg [j.aj,j.ag])::(Pt h.nx)::AV.aH::(AV.slice h1.nx 0 j.ab.length j.ab.length false)::AV.aH::AV.undef::AV.undef::(Pt h.nx)::j.aj::(Zn j.ab.length)::(AV.slice h1.nx 0 j.ab.length j.ab.length false)::g4 33):List AV).getD k_ AV.undef) h4 nA kQ o! l! (IM _ _ aQ) VE (.inl ⟨rfl,rfl⟩) (Nat.zero_le _) o!)
 have ia:Has h h6:=LB
 have e:dX j=(fV j (((nF (List.replicate j.ab.length false):Nat):Int)+1).toNat ([]) (List.replicate j.ab.length false)):=by simp only[dX,cond_true,cond_false]
 rw[e]
 have oz:=g7.le (h0:=h) NQ o!
 exact ⟨zo7,ju rfl (bb Tryz.func22 NU rfl (.inr rfl) (pk (d+1) _ _ h _ h6 (NN bM (fun i=>(Pt i))<|CN 2<|MM (aw 22 0 j.aj aQ k!)<|VV re<|KK mk3 Nu<|CN 2<|LL p_<|ZZ) k!) k!) bW ⟨jf,ia,by omega⟩ (P:=fun hh=>b_ hh .i64 3 zo7 (fV j (((nF (List.replicate j.ab.length false):Nat):Int)+1).toNat ([]) (List.replicate j.ab.length false))∧g7 3 h hh zo7 (zs .i64 (fV j (((nF (List.replicate j.ab.length false):Nat):Int)+1).toNat ([]) (List.replicate j.ab.length false)))) ⟨oz.zs o! k! k!,oz⟩ fun v=>⟨oz.K2 v k! k!,oz.K4 v⟩⟩
theorem Hf {x:Task} {p:List Bool}:∀k i,kE x p k i=bif anyI (fun n=> !(p.g (Int.toNat (x.az.g n)))) k i then some false else none
 | 0,i=>rfl
 | k+1,i=>by
   rw[kE,anyI,Hf k (i+1)]
   cases p.g (Int.toNat (x.az.g i))<;>rfl
theorem LI (x:Task) (p:List Bool):jF x p= !(anyI (fun n=> !(p.g (Int.toNat (x.az.g n)))) x.az.length 0):=by
 rw[jF,Hf]
 cases anyI (fun n=> !(p.g (Int.toNat (x.az.g n)))) x.az.length 0<;>rfl
theorem PW {s:List Int} {P:Nat→Bool}:∀k i,(fM s P k i=none∧anyI P k i=false)∨∃n:Nat,fM s P k i=some (n:Int)∧anyI P k i=true
 | 0,i=> .inl ⟨rfl,rfl⟩
 | k+1,i=>by
   rw[fM,anyI]
   cases h:P i with
   | true=>exact .inr ⟨i,rfl,rfl⟩
   | false=>exact PW k (i+1)
theorem Y7 (s:List Int) (P:Nat→Bool):gL s P=anyI P s.length 0:=by
 rw[gL,jD]
 rcases PW (s:=s) (P:=P) s.length 0 with ⟨e,f⟩ | ⟨n,e,f⟩
 · rw[e,f];rfl
 · rw[e,f];exact decide_eq_true (Int.natCast_nonneg n)
def NV (ts:List Task) (p:List Bool) (i:Nat):Bool:= !(p.g i)&&jF (ts.g i) p
theorem Rv (ts:List Task) (p:List Bool) (t:Int):mZ ts p t=NV ts p (Int.toNat t):=by
 rw[mZ,NV,Y7,LI]
 cases p.g (Int.toNat t)<;>rfl
def jG (P:Nat→Bool):Nat→Nat→Option Nat
 | 0,_=>none
 | k+1,i=>bif P i then some i else jG P k (i+1)
theorem qy {P:Nat→Bool}:∀{k i m:Nat},jG P k i=some m→P m=true∧i≤m∧m<i+k
 | 0,i,m,h=>by cases h
 | k+1,i,m,h=>by
   rw[jG] at h
   cases e:P i with
   | true=>rw[e] at h;cases h;exact ⟨e,Nat.le_refl _,by omega⟩
   | false=>
     rw[e] at h
     have:=qy (k:=k) h
     exact ⟨this.1,by omega,by omega⟩
theorem BZ {P:Nat→Bool}:∀(k i:Nat),jG P (k+1) i=match jG P k i with | some q=>some q | none=>bif P (i+k) then some (i+k) else none
 | 0,i=>by rw[jG,jG];rfl
 | k+1,i=>by
   rw[jG,BZ k (i+1),jG]
   cases P i with
   | true=>rfl
   | false=>
     rw[cond_false,cond_false,show i+1+k=i+(k+1) by omega]
theorem A7 {a:List Bool} {j:cz}:∀(m kq:Nat) (v:Int),m≤kq→bQ a j kq v ((m:Int) - 1)=match jG (NV j.ab a) m 0 with | some q=>(q:Int) | none=>v
 | 0,kq,v,h=>by
   cases kq with
   | zero=>rw[bQ];rfl
   | succ kq=>rw[bQ,decide_eq_false (by omega:¬(0:Int)≤((0:Nat):Int) - 1)];rfl
 | m+1,0,v,h=>by omega
 | m+1,kq+1,v,h=>by
   rw[bQ,decide_eq_true (by omega:(0:Int)≤((m+1:Nat):Int) - 1),cond_true,show ((m+1:Nat):Int) - 1=((m:Nat):Int) by omega,Int.toNat_natCast,A7 m kq _ o!,A7 m kq _ o!,BZ,Nat.zero_add]
   have e:NV j.ab a m=(!(a.g m)&&jF (j.ab.g m) a):=rfl
   rw[e]
   cases a.g m<;>cases jF (j.ab.g m) a<;>cases jG (NV j.ab a) m 0<;>rfl
def PX (ts:List Task) (x:List Int×List Bool):List Int×List Bool:=match jG (NV ts x.2) ts.length 0 with | some q=>(x.1++[(q:Int)],x.2.set q true) | none=>x
def xO (ts:List Task):Nat→List Int×List Bool→List Int×List Bool
 | 0,x=>x
 | k+1,x=>xO ts k (PX ts x)
theorem VF {order:List Int} {ts:List Task} (ho:∀i,i<ts.length→order.g i=(i:Int)):∀(k i:Nat) (v:List Int) (a:List Bool),i+k=ts.length→fh order ts k i v a=match jG (NV ts a) k i with | some q=>(v++[(q:Int)],a.set q true) | none=>(v,a)
 | 0,i,v,a,h=>rfl
 | k+1,i,v,a,h=>by
   rw[fh,jG,Rv,ho i o!,Int.toNat_natCast,VF ho k (i+1) v a o!]
   cases NV ts a i<;>rfl
theorem VG {order:List Int} {ts:List Task} (ho:∀i,i<ts.length→order.g i=(i:Int)) (hl:order.length=ts.length):∀(k i:Nat) (v:List Int) (a:List Bool),fN order ts k i v a=xO ts k (v,a)
 | 0,i,v,a=>rfl
 | k+1,i,v,a=>by
   rw[fN,VG ho hl k (i+1),xO,hl,VF ho _ _ _ _ o!,PX]
theorem VH {ts:List Task}:∀(k i:Nat) (a:List Int),a.length=ts.length→i+k=ts.length→(∀q,q<i→a.g q=(q:Int))→(fp ts k i a).length=ts.length∧∀q,q<ts.length→(fp ts k i a).g q=(q:Int)
 | 0,i,a,hl,h,hq=>⟨hl,fun q hq'=>hq q o!⟩
 | k+1,i,a,hl,h,hq=>by
   rw[fp]
   refine VH k (i+1) _ (by rw[List.length_set];exact hl) o! fun q hq'=>?_
   by_cases e:q=i
   · subst e;exact iS o!
   · rw[bf (Ne.symm e)];exact hq q o!
theorem xP (ts:List Task):dh ts=(xO ts ts.length ([],List.replicate ts.length false)).1:=by
 obtain ⟨h1,h2⟩:=VH (ts:=ts) ts.length 0 (List.replicate ts.length 0) (by rw[List.length_replicate]) o! fun q h=>by omega
 rw[dh,jE,VG h2 h1,h1];rfl
theorem PY:∀{l:List Bool},nF l=0→∀i,i<l.length→l.g i=true
 | [],_,i,h=>by simp at h
 | b::l,h,0,_=>by
   cases b with
   | true=>rfl
   | false=>simp [nF] at h
 | b::l,h,i+1,hi=>by
   have:nF l=0:=by
    rw[nF] at h;omega
   exact PY this i (by simpa using hi)
theorem Y8 (ts:List Task) (x:List Int×List Bool):(PX ts x).2.length=x.2.length:=by
 rw[PX];cases jG (NV ts x.2) ts.length 0 with
 | none=>rfl
 | some q=>exact List.length_set ..
theorem VI {ts:List Task} {a:List Bool} {m:Nat} (h:NV ts a m=true):a.g m=false∧jF (ts.g m) a=true:=by
 rw[NV] at h
 cases e:a.g m with
 | true=>rw[e] at h;cases h
 | false=>rw[e] at h;exact ⟨rfl,h⟩
theorem Rw (ts:List Task) (x:List Int×List Bool) (hl:x.2.length=ts.length):(PX ts x).1.length+nF (PX ts x).2=x.1.length+nF x.2:=by
 rw[PX]
 cases e:jG (NV ts x.2) ts.length 0 with
 | none=>rfl
 | some q=>
   have f:=qy e
   have:=IP (l:=x.2) (n:=q) o! (VI f.1).1
   show (x.1++[(q:Int)]).length+nF (x.2.set q true)=_
   rw[List.length_append,List.length_singleton];omega
theorem xQ (ts:List Task):∀(k:Nat) (x:List Int×List Bool),x.2.length=ts.length→(xO ts k x).1.length+nF (xO ts k x).2=x.1.length+nF x.2∧(xO ts k x).2.length=ts.length
 | 0,x,hl=>⟨rfl,hl⟩
 | k+1,x,hl=>by
   rw[xO]
   have h:=xQ ts k (PX ts x) (by rw[Y8];exact hl)
   rw[Rw ts x hl] at h
   exact h
theorem LJ {ts:List Task} {x:List Int×List Bool} (h:jG (NV ts x.2) ts.length 0=none):∀k,xO ts k x=x
 | 0=>rfl
 | k+1=>by
   have:PX ts x=x:=by rw[PX,h]
   rw[xO,this,LJ h k]
theorem Hg {j:cz}:∀(k kq:Nat) (v:List Int) (a:List Bool),a.length=j.ab.length→nF a≤k→nF a+1≤kq→fV j kq v a=(xO j.ab k (v,a)).1
 | k,0,v,a,hl,h1,h2=>by omega
 | k,kq+1,v,a,hl,h1,h2=>by
   rw[fV,show Int.toNat ((((j.ab.length:Nat):Int) - 1)+1)=j.ab.length by omega,A7 _ _ _ (Nat.le_refl _)]
   cases e:jG (NV j.ab a) j.ab.length 0 with
   | none=>
     rw[LJ (x:=(v,a)) e]
     rfl
   | some q=>
     have f:=qy e
     have g:=VI f.1
     have c:=IP (l:=a) (n:=q) o! g.1
     match k,h1 with
     | 0,h1=>omega
     | k+1,h1=>
       have s:PX j.ab (v,a)=(v++[(q:Int)],a.set q true):=by rw[PX,e]
       rw[xO,s]
       show (bif decide ((q:Int)<0) then v else fV j kq (v++[(q:Int)]) (a.set (Int.toNat (q:Int)) true))=_
       rw[decide_eq_false (by omega:¬(q:Int)<0),cond_false,Int.toNat_natCast]
       exact Hg k kq _ _ (by rw[List.length_set];exact hl) o! o!
theorem A8 (j:cz):dh j.ab=dX j:=by
 rw[xP,dX,xx]
 exact (Hg _ _ _ _ (by rw[List.length_replicate]) (by rw[xx];exact Nat.le_refl _) (by rw[xx];omega)).symm
theorem Rx (j:cz):(dX j).length≤j.ab.length:=by
 rw[←A8,xP]
 have:=(xQ j.ab j.ab.length ([],List.replicate j.ab.length false) (by rw[List.length_replicate])).1
 rw[xx] at this
 have e:(([],List.replicate j.ab.length false):List Int×List Bool).1.length=0:=rfl
 omega
theorem Hh {ts:List Task} {m:Nat}:∀(k:Nat) (x:List Int×List Bool),(xO ts k x).2.g m=true→x.2.g m=true∨∀q,q<(ts.g m).az.length→Int.toNat ((ts.g m).az.g q)≠m
 | 0,x,h=> .inl h
 | k+1,x,h=>by
   rw[xO] at h
   rcases Hh k (PX ts x) h with g | g
   · rw[PX] at g
     cases e:jG (NV ts x.2) ts.length 0 with
     | none=>rw[e] at g;exact .inl g
     | some q=>
       rw[e] at g
       have f:=qy e
       have n:=VI f.1
       by_cases z:q=m
       · subst z
         refine .inr fun i hi ei=>?_
         have r:=n.2
         rw[LI] at r
         have:=xK (P:=fun i=> !(x.2.g (Int.toNat ((ts.g q).az.g i)))) (k:=(ts.g q).az.length) (i:=0) (by cases z:anyI (fun i=> !(x.2.g (Int.toNat ((ts.g q).az.g i)))) (ts.g q).az.length 0;rfl;rw[z] at r;cases r) i (Nat.zero_le _) o!
         rw[ei,n.1] at this;cases this
       · refine .inl ?_
         have:(x.2.set q true).g m=x.2.g m:=by
          rw[List.g,List.g,List.getD_eq_getElem?_getD,List.getD_eq_getElem?_getD,List.getElem?_set_ne z]
         exact this.symm.trans g
   · exact .inr g
theorem Y9 {j:cz} (F:eA j) {i:Nat} (hi:i<j.ab.length):∀q,q<(j.ab.g i).az.length→(j.ab.g i).az.g q≠(i:Int):=by
 have c:=xQ j.ab j.ab.length ([],List.replicate j.ab.length false) (by rw[List.length_replicate])
 have l:=F.io
 rw[xP] at l
 rw[xx] at c
 have e0:(([],List.replicate j.ab.length false):List Int×List Bool).1.length=0:=rfl
 have z:nF (xO j.ab j.ab.length ([],List.replicate j.ab.length false)).2=0:=by omega
 rcases Hh (m:=i) _ _ (PY z i (by rw[c.2];exact hi)) with g | g
 · have:(List.replicate j.ab.length false).g i=false:=by
    rw[List.g,List.getD_eq_getElem?_getD,List.getElem?_replicate,if_pos hi];rfl
   rw[this] at g;cases g
 · exact fun q hq e=>g q hq (by rw[e,Int.toNat_natCast])
end Go.Proofs.aP
