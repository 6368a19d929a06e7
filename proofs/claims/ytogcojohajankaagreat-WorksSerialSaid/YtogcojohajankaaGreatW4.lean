import Derived.Test.YtogcojohajankaaGreatW0
import Derived.Test.YtogcojohajankaaGreatW1
import Derived.Test.YtogcojohajankaaGreatW3
namespace Go.Proofs.aJ
open Go.Proofs Ab
set_option maxRecDepth 100000
set_option maxHeartbeats 4000000
set_option linter.unusedVariables false
set_option linter.unusedSimpArgs false
noncomputable def DP:Code:=(Tryz.f107.body).getD .skip
theorem lB:Tryz.f107.body=some DP:=by kernel_rfl
def dI (j:cG) (before:List jH) (u:jH):Int:=(bif (!(iI u.ah ((j.af.length:Nat):Int))) then 7 else (bif (hU before (fun y=>jO y u)) then 6 else (bif (decide (u.aB<1)) then 1 else (bif (decide (1000<u.aB)) then 1 else (bif (decide (((j.af.g u.ah.toNat).aB)<u.aB)) then 9 else 0)))))
theorem K7 {d:Nat} {h:aw} {ng:AV} (j:cG) (before:List jH) (u:jH) (bZ:aG.ok h j) (ka:aM h ng before) (h_u:aG.ok h u) (ct:Tidy h):cU (d+4) (.fn 107) [(AV.agg [j.ao,j.ai]),ng,(AV.agg [(Zi u.ah),(Zi u.aB)])] h= .ret (Zi (dI j before u)) h:=by
 have y_:=ka.small
 have eT:=bZ.1.small
 have eU:=bZ.2.small
 obtain ⟨h1,dH,cP,kr,bk,bW⟩:=kh ct (aH.cells [j.ao,j.ai] 25 false)
 have bB:Has h h1:=bW
 obtain ⟨h2,P1,vO,abn,pE,rz⟩:=kh cP (aH.cells [(Zi u.ah),(Zi u.aB)] 80 false)
 have kJ:Has h h2:=bB.trans rz
 have L8:cc (some (.slice 36)) (some j.ai)=some (Zn j.af.length):=bZ.2.len
 have k4:=Gi (d:=d+2) u.ah ((j.af.length:Nat):Int) vO
 have dR:=fun {al ps} (k:Pk al _ ps)=>(NN dH (fun i=>(Pt i))<|NN P1 (fun i=>(Pt i))<|CN 2<|MM (aI 3 0 (Zi u.ah) pE k!)<|CC<|MM (aI 23 1 j.ai (rz _ _ bk) k!)<|VV L8<|EE k4<|CN 2<|k:Pk _ [] ps)
 rcases Bool.eq_false_or_eq_true (!(iI u.ah ((j.af.length:Nat):Int))) with f0 | f0
 · have e:dI j before u=7:=by simp only[dI,f0,cond_true,cond_false]
   rw[e]
   exact aE rfl (aZ Tryz.func107 lB rfl (.inr rfl) (pk (d+3) _ _ h _ h2 (dR<|BC f0<|ZZ) k!) k!) kJ rfl
 · have aky:(iI u.ah ((j.af.length:Nat):Int))=true:=d!
   have ajk:=su aky
   have k6:=DN (d:=d+1) before (fun y=>jO y u) (ka.has kJ) (fun y hy hh yy aa=>HY (d:=d) y u h1.nx (aG.mono aa ((ka.has kJ).oks y hy)) (aG.mono aa trivial) (aa _ _ pE) yy) vO
   have hI:=fun {al ps} (k:Pk al _ ps)=>(dR<|BB f0<|CN 2<|EE k6<|CC<|k:Pk _ [] ps)
   rcases Bool.eq_false_or_eq_true (hU before (fun y=>jO y u)) with f1 | f1
   · have e:dI j before u=6:=by simp only[dI,f0,f1,cond_true,cond_false]
     rw[e]
     exact aE rfl (aZ Tryz.func107 lB rfl (.inr rfl) (pk (d+3) _ _ h _ h2 (hI<|BC f1<|ZZ) k!) k!) kJ rfl
   · have mH:=fun {al ps} (k:Pk al _ ps)=>(hI<|BC f1<|MM (aI 3 1 (Zi u.aB) pE k!)<|VV (bO 3 false true .i64 u.aB 1)<|CC<|k:Pk _ [] ps)
     rcases Bool.eq_false_or_eq_true (decide (u.aB<1)) with f2 | f2
     · have jZ:=of_decide_eq_true f2
       have e:dI j before u=1:=by simp only[dI,f0,f1,f2,cond_true,cond_false]
       rw[e]
       exact aE rfl (aZ Tryz.func107 lB rfl (.inr rfl) (pk (d+3) _ _ h _ h2 (mH<|BB f2<|BB f2<|BV f2 (xV true f2)<|CC<|TT<|CC<|ZZ) k!) k!) kJ rfl
     · have jZ:=of_decide_eq_false f2
       have vc:=fun {al ps} (k:Pk al _ ps)=>(mH<|BC f2<|BM f2 (aI 3 1 (Zi u.aB) pE k!)<|BV f2 (dw 3 false true .i64 u.aB 1000)<|VV (b8 (a:=some (AV.bool true)) (b:=some (AV.bool (decide (1000<u.aB)))) f2)<|CC<|k:Pk _ [] ps)
       rcases Bool.eq_false_or_eq_true (decide (1000<u.aB)) with f3 | f3
       · have lV:=of_decide_eq_true f3
         have e:dI j before u=1:=by simp only[dI,f0,f1,f2,f3,cond_true,cond_false]
         rw[e]
         exact aE rfl (aZ Tryz.func107 lB rfl (.inr rfl) (pk (d+3) _ _ h _ h2 (vc<|BC f3<|ZZ) k!) k!) kJ rfl
       · have lV:=of_decide_eq_false f3
         obtain ⟨p11,q12,ado⟩:=bZ.2.elem (i:=u.ah.toNat) o!
         have P4:bR env (some (.slice 36)) (some j.ai) (some (Zi u.ah))=some (AV.ptr p11 q12):=by rw[show (u.ah:Int)=((u.ah.toNat:Nat):Int) by omega];exact ado
         have ah9:aY env h2 3 (AV.ptr p11 (q12+1))=some (Zi ((j.af.g u.ah.toNat).aB)):=(bZ.2.has kJ).part (t:=3) (j:=1) o! ado k! rfl
         have U':AV.same 20 j.ai j.ai=true:=bZ.2.same 19
         have zI:=fun {al ps} (k:Pk al _ ps)=>(vc<|BC f3<|MM (aI 3 1 (Zi u.aB) pE k!)<|CC<|MM (aI 23 1 j.ai (rz _ _ bk) k!)<|CC<|MM (aI 3 0 (Zi u.ah) pE k!)<|VV P4<|CC<|MM ah9<|VV (dw 3 false false .i64 u.aB ((j.af.g u.ah.toNat).aB))<|CC<|HH (aI 3 1 (Zi u.aB) pE k!)<|HH (show AV.same 20 (Zi u.aB) (Zi u.aB)=true from aK 19 _ _)<|HH (aI 23 1 j.ai (rz _ _ bk) k!)<|HH U'<|HH (aI 3 0 (Zi u.ah) pE k!)<|HH (show AV.same 20 (Zi u.ah) (Zi u.ah)=true from aK 19 _ _)<|HH ah9<|HH (show AV.same 20 (Zi ((j.af.g u.ah.toNat).aB)) (Zi ((j.af.g u.ah.toNat).aB))=true from aK 19 _ _)<|k:Pk _ [] ps)
         rcases Bool.eq_false_or_eq_true (decide (((j.af.g u.ah.toNat).aB)<u.aB)) with f4 | f4
         · have rE:=of_decide_eq_true f4
           have e:dI j before u=9:=by simp only[dI,f0,f1,f2,f3,f4,cond_true,cond_false]
           rw[e]
           exact aE rfl (aZ Tryz.func107 lB rfl (.inr rfl) (pk (d+3) _ _ h _ h2 (zI<|BC f4<|ZZ) k!) k!) kJ rfl
         · have rE:=of_decide_eq_false f4
           have e:dI j before u=0:=by simp only[dI,f0,f1,f2,f3,f4,cond_true,cond_false]
           rw[e]
           exact aE rfl (aZ Tryz.func107 lB rfl (.inr rfl) (pk (d+3) _ _ h _ h2 (zI<|BC f4<|ZZ) k!) k!) kJ rfl
noncomputable def AT:Code:=(Tryz.f106.body).getD .skip
theorem Gq:Tryz.f106.body=some AT:=by kernel_rfl
def gG (before:List jH) (u:jH) (j:cG):Int:=(dI j before u)
theorem Gr {d:Nat} {h:aw} {ng:AV} (before:List jH) (u:jH) (j:cG) (jB:Nat) (ka:aM h ng before) (h_u:aG.ok h u) (bZ:aG.ok h j) (g_j:h.get jB=some (.cells (aG.c j) 25 false)) (ct:Tidy h):cU (d+5) (.fn 106) [ng,(AV.agg [(Zi u.ah),(Zi u.aB)]),(Pt jB)] h= .ret (Zi (gG before u j)) h:=by
 have y_:=ka.small
 have eT:=bZ.1.small
 have eU:=bZ.2.small
 obtain ⟨h1,dH,cP,kr,bk,bW⟩:=kh ct (aH.cells [(Zi u.ah),(Zi u.aB)] 80 false)
 have bB:Has h h1:=bW
 have k2:=K7 (d:=d) j before u (aG.mono bB bZ) (ka.has bB) trivial cP
 have e:gG before u j=(dI j before u):=by simp only[gG,cond_true,cond_false]
 rw[e]
 exact aE rfl (aZ Tryz.func106 Gq rfl (.inr rfl) (pk (d+4) _ _ h _ h1 (NN dH (fun i=>(Pt i))<|CC<|MM (aI 25 0 (AV.agg [j.ao,j.ai]) (bW _ _ g_j) k!)<|CC<|MM (aI 80 0 (AV.agg [(Zi u.ah),(Zi u.aB)]) bk k!)<|EE k2<|CC<|ZZ) k!) k!) bB rfl
noncomputable def sv:Code:=(Tryz.f139.body).getD .skip
theorem yb:Tryz.f139.body=some sv:=by kernel_rfl
noncomputable def DQ:Code:=(bw sv).getD 0 .skip
def fQ (s:List Task) (P:Task→Bool):Nat→Nat→Option (Int)
 | 0,_=>none
 | cS+1,i0=>(bif (P (s.g i0)) then some ((i0:Nat):Int) else fQ s P cS (i0+1))
theorem sw {d:Nat} {h:aw} (sV:AV) (g:FuncId) (cap:List AV) (s:List Task) (P:Task→Bool) (bb:aM h sV s) (hP:∀y∈s,∀hh,Tidy hh→Has h hh→cU d (.fn g) (.agg (aG.c y)::cap) hh= .ret (.bool (P y)) hh):∀(k_ i_:Nat) (_:i_+k_=s.length) (x:Nat→AV) (hh:aw) (aA:Tidy hh) (ay:Has h hh),aC (cU (d)) DQ ⟨(sV::(AV.func g [] cap)::rx x 2 5 ((Zn s.length)::(Zn i_)::rx x 9 10 [])),hh,[],.no⟩ (.exit 0) hh (fun y=>(sV::(AV.func g [] cap)::rx y 2 5 ((Zn s.length)::rx y 8 11 []))) (fun r y=>(sV::(AV.func g [] cap)::(y 2)::(y 3)::(Zi r)::(y 5)::(y 6)::(Zn s.length)::rx y 8 11 [])) (fQ s P k_ i_)
 | 0,i0,gq,x,hh,aA,ay=>by
   have cr:=bb.small
   have q1:(decide (((i0:Nat):Int)<((s.length:Nat):Int)))=false:=d!
   exact aC.out rfl (pk (d) _ _ hh _ hh (VV (bO 3 false false .i64 ((i0:Nat):Int) ((s.length:Nat):Int))<|BB q1<|ZZ) k!) (bp.refl aA) k!
 | cS+1,i0,gq,x,hh,aA,ay=>by
   have cr:=bb.small
   have q1:(decide (((i0:Nat):Int)<((s.length:Nat):Int)))=true:=d!
   obtain ⟨p3,q4,cF⟩:=(bb.has ay).elem (i:=i0) o!
   have jL:bR env (some (.slice 39)) (some sV) (some (Zn i0))=some (AV.ptr p3 q4):=cF
   have j9:aY env hh 39 (AV.ptr p3 q4)=some (AV.agg [(AV.str ((s.g i0).name)),(Zi ((s.g i0).takes)),((s.g i0).aO),((s.g i0).aS)]):=(bb.has ay).load o! cF
   have k6:=hP (s.g i0) (R4 o!) hh aA ay
   have dR:=fun {al ps} (k:Pk al _ ps)=>(VV (bO 3 false false .i64 ((i0:Nat):Int) ((s.length:Nat):Int))<|BB q1<|CN 5<|VV jL<|MM j9<|EE k6<|k:Pk _ [] ps)
   rcases Bool.eq_false_or_eq_true (P (s.g i0)) with f1 | f1
   · exact aC.ret ((i0:Nat):Int) (by simp only[fQ,f1,cond_true,cond_false]) (pk (d) _ _ hh _ hh (dR<|BB f1<|CN 2<|ZZ) k!) (bp.refl aA) k!
   · have u8:=dZ 3 false true i0 1 o!
     exact aC.round (by simp only[fQ,f1,cond_true,cond_false]) (pk (d) _ _ hh _ hh (dR<|BV f1 u8<|CC<|ZZ) k!) (bp.refl aA) _ k! (fun x=>sw sV g cap s P bb hP cS (i0+1) o! x hh aA ay)
def iX (s:List Task) (P:Task→Bool):Int:=(match (fQ s P s.length 0) with | none=>(-1) | some xC=>xC)
theorem HZ {d:Nat} {h:aw} {sV:AV} {g:FuncId} {cap:List AV} (s:List Task) (P:Task→Bool) (sU:aM h sV s) (hP:∀y∈s,∀hh,Tidy hh→Has h hh→cU d (.fn g) (.agg (aG.c y)::cap) hh= .ret (.bool (P y)) hh) (ct:Tidy h):cU (d+1) (.fn 139) [sV,(AV.func g [] cap)] h= .ret (Zi (iX s P)) h:=by
 have AQ:=sU.small
 have gL:cc (some (.slice 39)) (some sV)=some (Zn s.length):=sU.len
 have Di:=sw (d:=d) (h:=h) sV g cap s P sU hP s.length 0 o! (fun k_=>((sV::(AV.func g [] cap)::AV.undef::AV.undef::(Zi 0)::AV.undef::sV::(Zn s.length)::(Zi 0)::lk 10):List AV).getD k_ AV.undef) h ct (Has.refl _)
 cases dz:fQ s P s.length 0 with
 | none=>
   obtain ⟨Cb,h3,dy,dt⟩:=aC.n dz Di
   have l9:=dt.y
   have tz:h.nx≤h3.nx:=dt.n
   have iy:Has h h3:=dt.a
   have e:iX s P=(-1):=by simp only[iX,dz,cond_true,cond_false]
   rw[e]
   exact aE rfl (aZ Tryz.func139 yb rfl (.inr rfl) (pk (d) _ _ h _ h3 (CN 2<|VV gL<|CC<|LL dy<|CC<|ZZ) k!) k!) iy rfl
 | some xC=>
   obtain ⟨Cb,h3,dy,dt⟩:=aC.r dz Di
   have l9:=dt.y
   have tz:h.nx≤h3.nx:=dt.n
   have iy:Has h h3:=dt.a
   have e:iX s P=xC:=by simp only[iX,dz,cond_true,cond_false]
   rw[e]
   exact aE rfl (aZ Tryz.func139 yb rfl (.inr rfl) (pk (d) _ _ h _ h3 (CN 2<|VV gL<|CC<|LL dy<|ZZ) k!) k!) iy rfl
noncomputable def xD:Code:=(Tryz.f100.body).getD .skip
theorem Cp:Tryz.f100.body=some xD:=by kernel_rfl
def fR (s:List Task) (P:Task→Bool):Bool:=(decide (0≤(iX s P)))
theorem Cq {d:Nat} {h:aw} {sV:AV} {g:FuncId} {cap:List AV} (s:List Task) (P:Task→Bool) (sU:aM h sV s) (hP:∀y∈s,∀hh,Tidy hh→Has h hh→cU d (.fn g) (.agg (aG.c y)::cap) hh= .ret (.bool (P y)) hh) (ct:Tidy h):cU (d+2) (.fn 100) [sV,(AV.func g [] cap)] h= .ret (AV.bool (fR s P)) h:=by
 have AQ:=sU.small
 have k1:=HZ (d:=d) s P sU hP ct
 have e:fR s P=(decide (0≤(iX s P))):=by simp only[fR,cond_true,cond_false]
 rw[e]
 exact aE rfl (aZ Tryz.func100 Cp rfl (.inr rfl) (pk (d+1) _ _ h _ h (CN 3<|EE k1<|VV (pc 3 false true .i64 (iX s P) 0)<|CC<|ZZ) k!) k!) (Has.refl _) rfl
noncomputable def kl:Code:=(Tryz.f87.body).getD .skip
theorem zd:Tryz.f87.body=some kl:=by kernel_rfl
noncomputable def K8:Code:=(bw kl).getD 0 .skip
noncomputable def tS:Code:=(kT kl).getD 1 .skip
noncomputable def tT:Code:=(kT kl).getD 6 .skip
noncomputable def pG:Code:=(kT kl).getD 7 .skip
noncomputable def pH:Code:=(kT kl).getD 8 .skip
def jP (text:List UInt8):Nat→Nat→Option (Bool)
 | 0,_=>none
 | cS+1,i0=>(bif (bif (!(bif (decide (97≤(((text.g i0).toNat:Nat):Int))) then (decide ((((text.g i0).toNat:Nat):Int)≤122)) else false)) then (bif (decide (((i0:Nat):Int)=0)) then true else (!(bif (decide (48≤(((text.g i0).toNat:Nat):Int))) then (bif (decide ((((text.g i0).toNat:Nat):Int)≤57)) then true else (decide ((((text.g i0).toNat:Nat):Int)=45))) else (decide ((((text.g i0).toNat:Nat):Int)=45))))) else false) then some false else jP text cS (i0+1))
theorem yd {d:Nat} {h:aw} (text:List UInt8) (bb:text.length<2^60):∀(k_ i_:Nat) (_:i_+k_=(List.length text)) (x:Nat→AV) (hh:aw) (aA:Tidy hh) (ay:Has h hh),aC (cU (d)) K8 ⟨((AV.str text)::rx x 1 13 ((Zn (List.length text))::(Zn i_)::rx x 16 39 [])),hh,[],.no⟩ (.exit 0) hh (fun y=>((AV.str text)::rx y 1 13 ((Zn (List.length text))::rx y 15 40 []))) (fun r y=>((AV.str text)::(y 1)::(AV.bool r)::rx y 3 11 ((Zn (List.length text))::rx y 15 40 []))) (jP text k_ i_)
 | 0,i0,gq,x,hh,aA,ay=>by
   have q1:(decide (((i0:Nat):Int)<((List.length text:Nat):Int)))=false:=d!
   exact aC.out rfl (pk (d) _ _ hh _ hh (VV (bO 3 false false .i64 ((i0:Nat):Int) ((List.length text:Nat):Int))<|BB q1<|ZZ) k!) (bp.refl aA) k!
 | cS+1,i0,gq,x,hh,aA,ay=>by
   have q1:(decide (((i0:Nat):Int)<((List.length text:Nat):Int)))=true:=d!
   obtain ⟨Ee,ze⟩:∃Ee:Nat→AV,Ev env (cU (d)) tT ⟨((AV.str text)::(x 1)::(x 2)::(Zn i0)::rx x 4 10 ((Zn (List.length text))::(Zn i0)::(AV.bool (decide (((i0:Nat):Int)<((List.length text:Nat):Int))))::(Zn i0)::rx x 18 37 [])),hh,[],.no⟩ .normal ⟨((AV.str text)::(x 1)::(x 2)::(Zn i0)::(AV.bool (bif (decide (97≤(((text.g i0).toNat:Nat):Int))) then (decide ((((text.g i0).toNat:Nat):Int)≤122)) else false))::rx x 5 9 ((Zn (List.length text))::(Zn i0)::(AV.bool (decide (((i0:Nat):Int)<((List.length text:Nat):Int))))::(Zn i0)::rx Ee 18 10 (rx x 28 27 []))),hh,[],.no⟩:=by
    have jL:yL env (some .string) (some (AV.str text)) (some (Zn i0))=some (AV.int .u8 (((text.g i0).toNat:Nat):Int)):=pD (j:=i0) o!
    rcases Bool.eq_false_or_eq_true (decide (97≤(((text.g i0).toNat:Nat):Int))) with f0 | f0
    · have dx:=of_decide_eq_true f0
      have U_:yL env (some .string) (some (AV.str text)) (some (Zn i0))=some (AV.int .u8 (((text.g i0).toNat:Nat):Int)):=pD (j:=i0) o!
      have ev:=pk (d) tT ((AV.str text)::(x 1)::(x 2)::(Zn i0)::rx x 4 10 ((Zn (List.length text))::(Zn i0)::(AV.bool (decide (((i0:Nat):Int)<((List.length text:Nat):Int))))::(Zn i0)::rx x 18 37 [])) hh .normal hh (CN 2<|VV jL<|VV (pc 5 false true .u8 (((text.g i0).toNat:Nat):Int) 97)<|CC<|BC f0<|BC f0<|BV f0 U_<|BV f0 (uW 5 false true .u8 (((text.g i0).toNat:Nat):Int) 122)<|VV (pe (decide ((((text.g i0).toNat:Nat):Int)≤122)) false f0)<|CC<|ZZ) k!
      rw[show (bif (decide (97≤(((text.g i0).toNat:Nat):Int))) then (decide ((((text.g i0).toNat:Nat):Int)≤122)) else false)=(decide ((((text.g i0).toNat:Nat):Int)≤122)) by simp only[f0,cond_true,cond_false]]
      exact kI ev k!
    · have dx:=of_decide_eq_false f0
      have ev:=pk (d) tT ((AV.str text)::(x 1)::(x 2)::(Zn i0)::rx x 4 10 ((Zn (List.length text))::(Zn i0)::(AV.bool (decide (((i0:Nat):Int)<((List.length text:Nat):Int))))::(Zn i0)::rx x 18 37 [])) hh .normal hh (CN 2<|VV jL<|VV (pc 5 false true .u8 (((text.g i0).toNat:Nat):Int) 97)<|CC<|BB f0<|BB f0<|BB f0<|BV f0 (sS false f0)<|CC<|ZZ) k!
      rw[show (bif (decide (97≤(((text.g i0).toNat:Nat):Int))) then (decide ((((text.g i0).toNat:Nat):Int)≤122)) else false)=false by simp only[f0,cond_true,cond_false]]
      exact kI ev k!
   obtain ⟨yj3,ae8⟩:∃yj3:Nat→AV,Ev env (cU (d)) pG ⟨((AV.str text)::(x 1)::(x 2)::(Zn i0)::(AV.bool (bif (decide (97≤(((text.g i0).toNat:Nat):Int))) then (decide ((((text.g i0).toNat:Nat):Int)≤122)) else false))::rx x 5 9 ((Zn (List.length text))::(Zn i0)::(AV.bool (decide (((i0:Nat):Int)<((List.length text:Nat):Int))))::(Zn i0)::rx Ee 18 10 (rx x 28 27 []))),hh,[],.no⟩ .normal ⟨((AV.str text)::(x 1)::(x 2)::(Zn i0)::(AV.bool (bif (decide (97≤(((text.g i0).toNat:Nat):Int))) then (decide ((((text.g i0).toNat:Nat):Int)≤122)) else false))::(AV.bool (bif (decide (48≤(((text.g i0).toNat:Nat):Int))) then (bif (decide ((((text.g i0).toNat:Nat):Int)≤57)) then true else (decide ((((text.g i0).toNat:Nat):Int)=45))) else (decide ((((text.g i0).toNat:Nat):Int)=45))))::rx x 6 8 ((Zn (List.length text))::(Zn i0)::(AV.bool (decide (((i0:Nat):Int)<((List.length text:Nat):Int))))::(Zn i0)::rx Ee 18 10 (rx yj3 28 16 (rx x 44 11 [])))),hh,[],.no⟩:=by
    have vP:yL env (some .string) (some (AV.str text)) (some (Zn i0))=some (AV.int .u8 (((text.g i0).toNat:Nat):Int)):=pD (j:=i0) o!
    rcases Bool.eq_false_or_eq_true (decide (48≤(((text.g i0).toNat:Nat):Int))) with f0 | f0
    · have dx:=of_decide_eq_true f0
      have ix5:yL env (some .string) (some (AV.str text)) (some (Zn i0))=some (AV.int .u8 (((text.g i0).toNat:Nat):Int)):=pD (j:=i0) o!
      rcases Bool.eq_false_or_eq_true (decide ((((text.g i0).toNat:Nat):Int)≤57)) with f1 | f1
      · have dQ:=of_decide_eq_true f1
        have ev:=pk (d) pG ((AV.str text)::(x 1)::(x 2)::(Zn i0)::(AV.bool (bif (decide (97≤(((text.g i0).toNat:Nat):Int))) then (decide ((((text.g i0).toNat:Nat):Int)≤122)) else false))::rx x 5 9 ((Zn (List.length text))::(Zn i0)::(AV.bool (decide (((i0:Nat):Int)<((List.length text:Nat):Int))))::(Zn i0)::rx Ee 18 10 (rx x 28 27 []))) hh .normal hh (CN 2<|VV vP<|VV (pc 5 false true .u8 (((text.g i0).toNat:Nat):Int) 48)<|CC<|BC f0<|BC f0<|BV f0 ix5<|BV f0 (uW 5 false true .u8 (((text.g i0).toNat:Nat):Int) 57)<|VV (pe (decide ((((text.g i0).toNat:Nat):Int)≤57)) false f0)<|CC<|BB f1<|BB f1<|BB f1<|BV f1 (xV true f1)<|CC<|ZZ) k!
        rw[show (bif (decide (48≤(((text.g i0).toNat:Nat):Int))) then (bif (decide ((((text.g i0).toNat:Nat):Int)≤57)) then true else (decide ((((text.g i0).toNat:Nat):Int)=45))) else (decide ((((text.g i0).toNat:Nat):Int)=45)))=true by simp only[f0,f1,cond_true,cond_false]]
        exact kI ev k!
      · have dQ:=of_decide_eq_false f1
        have Qb:yL env (some .string) (some (AV.str text)) (some (Zn i0))=some (AV.int .u8 (((text.g i0).toNat:Nat):Int)):=pD (j:=i0) o!
        have ev:=pk (d) pG ((AV.str text)::(x 1)::(x 2)::(Zn i0)::(AV.bool (bif (decide (97≤(((text.g i0).toNat:Nat):Int))) then (decide ((((text.g i0).toNat:Nat):Int)≤122)) else false))::rx x 5 9 ((Zn (List.length text))::(Zn i0)::(AV.bool (decide (((i0:Nat):Int)<((List.length text:Nat):Int))))::(Zn i0)::rx Ee 18 10 (rx x 28 27 []))) hh .normal hh (CN 2<|VV vP<|VV (pc 5 false true .u8 (((text.g i0).toNat:Nat):Int) 48)<|CC<|BC f0<|BC f0<|BV f0 ix5<|BV f0 (uW 5 false true .u8 (((text.g i0).toNat:Nat):Int) 57)<|VV (pe (decide ((((text.g i0).toNat:Nat):Int)≤57)) false f0)<|CC<|BC f1<|BC f1<|BV f1 Qb<|BV f1 (xy 5 false true .u8 (((text.g i0).toNat:Nat):Int) 45)<|VV (b8 (a:=some (AV.bool true)) (b:=some (AV.bool (decide ((((text.g i0).toNat:Nat):Int)=45)))) f1)<|CC<|ZZ) k!
        rw[show (bif (decide (48≤(((text.g i0).toNat:Nat):Int))) then (bif (decide ((((text.g i0).toNat:Nat):Int)≤57)) then true else (decide ((((text.g i0).toNat:Nat):Int)=45))) else (decide ((((text.g i0).toNat:Nat):Int)=45)))=(decide ((((text.g i0).toNat:Nat):Int)=45)) by simp only[f0,f1,cond_true,cond_false]]
        exact kI ev k!
    · have dx:=of_decide_eq_false f0
      have ix5:yL env (some .string) (some (AV.str text)) (some (Zn i0))=some (AV.int .u8 (((text.g i0).toNat:Nat):Int)):=pD (j:=i0) o!
      have ev:=pk (d) pG ((AV.str text)::(x 1)::(x 2)::(Zn i0)::(AV.bool (bif (decide (97≤(((text.g i0).toNat:Nat):Int))) then (decide ((((text.g i0).toNat:Nat):Int)≤122)) else false))::rx x 5 9 ((Zn (List.length text))::(Zn i0)::(AV.bool (decide (((i0:Nat):Int)<((List.length text:Nat):Int))))::(Zn i0)::rx Ee 18 10 (rx x 28 27 []))) hh .normal hh (CN 2<|VV vP<|VV (pc 5 false true .u8 (((text.g i0).toNat:Nat):Int) 48)<|CC<|BB f0<|BB f0<|BB f0<|BV f0 (sS false f0)<|CC<|FF<|CC<|FF<|CC<|FF<|VV ix5<|FF<|VV (xy 5 false true .u8 (((text.g i0).toNat:Nat):Int) 45)<|CN 2<|ZZ) k!
      rw[show (bif (decide (48≤(((text.g i0).toNat:Nat):Int))) then (bif (decide ((((text.g i0).toNat:Nat):Int)≤57)) then true else (decide ((((text.g i0).toNat:Nat):Int)=45))) else (decide ((((text.g i0).toNat:Nat):Int)=45)))=(decide ((((text.g i0).toNat:Nat):Int)=45)) by simp only[f0,cond_true,cond_false]]
      exact kI ev k!
   obtain ⟨yj4,FI⟩:∃yj4:Nat→AV,Ev env (cU (d)) pH ⟨((AV.str text)::(x 1)::(x 2)::(Zn i0)::(AV.bool (bif (decide (97≤(((text.g i0).toNat:Nat):Int))) then (decide ((((text.g i0).toNat:Nat):Int)≤122)) else false))::(AV.bool (bif (decide (48≤(((text.g i0).toNat:Nat):Int))) then (bif (decide ((((text.g i0).toNat:Nat):Int)≤57)) then true else (decide ((((text.g i0).toNat:Nat):Int)=45))) else (decide ((((text.g i0).toNat:Nat):Int)=45))))::rx x 6 8 ((Zn (List.length text))::(Zn i0)::(AV.bool (decide (((i0:Nat):Int)<((List.length text:Nat):Int))))::(Zn i0)::rx Ee 18 10 (rx yj3 28 16 (rx x 44 11 [])))),hh,[],.no⟩ .normal ⟨((AV.str text)::(x 1)::(x 2)::(Zn i0)::(AV.bool (bif (decide (97≤(((text.g i0).toNat:Nat):Int))) then (decide ((((text.g i0).toNat:Nat):Int)≤122)) else false))::(AV.bool (bif (decide (48≤(((text.g i0).toNat:Nat):Int))) then (bif (decide ((((text.g i0).toNat:Nat):Int)≤57)) then true else (decide ((((text.g i0).toNat:Nat):Int)=45))) else (decide ((((text.g i0).toNat:Nat):Int)=45))))::rx x 6 8 ((Zn (List.length text))::(Zn i0)::(AV.bool (decide (((i0:Nat):Int)<((List.length text:Nat):Int))))::(Zn i0)::rx Ee 18 10 (rx yj3 28 16 (rx yj4 44 9 ((AV.bool (bif (!(bif (decide (97≤(((text.g i0).toNat:Nat):Int))) then (decide ((((text.g i0).toNat:Nat):Int)≤122)) else false)) then (bif (decide (((i0:Nat):Int)=0)) then true else (!(bif (decide (48≤(((text.g i0).toNat:Nat):Int))) then (bif (decide ((((text.g i0).toNat:Nat):Int)≤57)) then true else (decide ((((text.g i0).toNat:Nat):Int)=45))) else (decide ((((text.g i0).toNat:Nat):Int)=45))))) else false))::(x 54)::[]))))),hh,[],.no⟩:=by
    rcases Bool.eq_false_or_eq_true (!(bif (decide (97≤(((text.g i0).toNat:Nat):Int))) then (decide ((((text.g i0).toNat:Nat):Int)≤122)) else false)) with f0 | f0
    · rcases Bool.eq_false_or_eq_true (decide (((i0:Nat):Int)=0)) with f1 | f1
      · have dQ:=of_decide_eq_true f1
        have ev:=pk (d) pH ((AV.str text)::(x 1)::(x 2)::(Zn i0)::(AV.bool (bif (decide (97≤(((text.g i0).toNat:Nat):Int))) then (decide ((((text.g i0).toNat:Nat):Int)≤122)) else false))::(AV.bool (bif (decide (48≤(((text.g i0).toNat:Nat):Int))) then (bif (decide ((((text.g i0).toNat:Nat):Int)≤57)) then true else (decide ((((text.g i0).toNat:Nat):Int)=45))) else (decide ((((text.g i0).toNat:Nat):Int)=45))))::rx x 6 8 ((Zn (List.length text))::(Zn i0)::(AV.bool (decide (((i0:Nat):Int)<((List.length text:Nat):Int))))::(Zn i0)::rx Ee 18 10 (rx yj3 28 16 (rx x 44 11 [])))) hh .normal hh (CN 3<|BC f0<|BV f0 (xy 3 false true .i64 ((i0:Nat):Int) 0)<|BC f0<|BB f1<|BB f1<|BV f0 (xV true f1)<|VV (pe true false f0)<|ZZ) k!
        rw[show (bif (!(bif (decide (97≤(((text.g i0).toNat:Nat):Int))) then (decide ((((text.g i0).toNat:Nat):Int)≤122)) else false)) then (bif (decide (((i0:Nat):Int)=0)) then true else (!(bif (decide (48≤(((text.g i0).toNat:Nat):Int))) then (bif (decide ((((text.g i0).toNat:Nat):Int)≤57)) then true else (decide ((((text.g i0).toNat:Nat):Int)=45))) else (decide ((((text.g i0).toNat:Nat):Int)=45))))) else false)=true by simp only[f0,f1,cond_true,cond_false]]
        exact kI ev k!
      · have dQ:=of_decide_eq_false f1
        have ev:=pk (d) pH ((AV.str text)::(x 1)::(x 2)::(Zn i0)::(AV.bool (bif (decide (97≤(((text.g i0).toNat:Nat):Int))) then (decide ((((text.g i0).toNat:Nat):Int)≤122)) else false))::(AV.bool (bif (decide (48≤(((text.g i0).toNat:Nat):Int))) then (bif (decide ((((text.g i0).toNat:Nat):Int)≤57)) then true else (decide ((((text.g i0).toNat:Nat):Int)=45))) else (decide ((((text.g i0).toNat:Nat):Int)=45))))::rx x 6 8 ((Zn (List.length text))::(Zn i0)::(AV.bool (decide (((i0:Nat):Int)<((List.length text:Nat):Int))))::(Zn i0)::rx Ee 18 10 (rx yj3 28 16 (rx x 44 11 [])))) hh .normal hh (CN 3<|BC f0<|BV f0 (xy 3 false true .i64 ((i0:Nat):Int) 0)<|BC f0<|BC f1<|BC f1<|BV f0 (b8 (a:=some (AV.bool true)) (b:=some (AV.bool (!(bif (decide (48≤(((text.g i0).toNat:Nat):Int))) then (bif (decide ((((text.g i0).toNat:Nat):Int)≤57)) then true else (decide ((((text.g i0).toNat:Nat):Int)=45))) else (decide ((((text.g i0).toNat:Nat):Int)=45)))))) f1)<|VV (pe (!(bif (decide (48≤(((text.g i0).toNat:Nat):Int))) then (bif (decide ((((text.g i0).toNat:Nat):Int)≤57)) then true else (decide ((((text.g i0).toNat:Nat):Int)=45))) else (decide ((((text.g i0).toNat:Nat):Int)=45)))) false f0)<|ZZ) k!
        rw[show (bif (!(bif (decide (97≤(((text.g i0).toNat:Nat):Int))) then (decide ((((text.g i0).toNat:Nat):Int)≤122)) else false)) then (bif (decide (((i0:Nat):Int)=0)) then true else (!(bif (decide (48≤(((text.g i0).toNat:Nat):Int))) then (bif (decide ((((text.g i0).toNat:Nat):Int)≤57)) then true else (decide ((((text.g i0).toNat:Nat):Int)=45))) else (decide ((((text.g i0).toNat:Nat):Int)=45))))) else false)=(!(bif (decide (48≤(((text.g i0).toNat:Nat):Int))) then (bif (decide ((((text.g i0).toNat:Nat):Int)≤57)) then true else (decide ((((text.g i0).toNat:Nat):Int)=45))) else (decide ((((text.g i0).toNat:Nat):Int)=45)))) by simp only[f0,f1,cond_true,cond_false]]
        exact kI ev k!
    · have ev:=pk (d) pH ((AV.str text)::(x 1)::(x 2)::(Zn i0)::(AV.bool (bif (decide (97≤(((text.g i0).toNat:Nat):Int))) then (decide ((((text.g i0).toNat:Nat):Int)≤122)) else false))::(AV.bool (bif (decide (48≤(((text.g i0).toNat:Nat):Int))) then (bif (decide ((((text.g i0).toNat:Nat):Int)≤57)) then true else (decide ((((text.g i0).toNat:Nat):Int)=45))) else (decide ((((text.g i0).toNat:Nat):Int)=45))))::rx x 6 8 ((Zn (List.length text))::(Zn i0)::(AV.bool (decide (((i0:Nat):Int)<((List.length text:Nat):Int))))::(Zn i0)::rx Ee 18 10 (rx yj3 28 16 (rx x 44 11 [])))) hh .normal hh (CN 3<|BB f0<|BB f0<|BB f0<|BV f0 (sS false f0)<|ZZ) k!
      rw[show (bif (!(bif (decide (97≤(((text.g i0).toNat:Nat):Int))) then (decide ((((text.g i0).toNat:Nat):Int)≤122)) else false)) then (bif (decide (((i0:Nat):Int)=0)) then true else (!(bif (decide (48≤(((text.g i0).toNat:Nat):Int))) then (bif (decide ((((text.g i0).toNat:Nat):Int)≤57)) then true else (decide ((((text.g i0).toNat:Nat):Int)=45))) else (decide ((((text.g i0).toNat:Nat):Int)=45))))) else false)=false by simp only[f0,cond_true,cond_false]]
      exact kI ev k!
   have dR:=fun {al ps} (k:Pk al _ ps)=>(VV (bO 3 false false .i64 ((i0:Nat):Int) ((List.length text:Nat):Int))<|BB q1<|CN 2<|LL ze<|LL ae8<|LL FI<|k:Pk _ [] ps)
   rcases Bool.eq_false_or_eq_true (bif (!(bif (decide (97≤(((text.g i0).toNat:Nat):Int))) then (decide ((((text.g i0).toNat:Nat):Int)≤122)) else false)) then (bif (decide (((i0:Nat):Int)=0)) then true else (!(bif (decide (48≤(((text.g i0).toNat:Nat):Int))) then (bif (decide ((((text.g i0).toNat:Nat):Int)≤57)) then true else (decide ((((text.g i0).toNat:Nat):Int)=45))) else (decide ((((text.g i0).toNat:Nat):Int)=45))))) else false) with f1 | f1
   · exact aC.ret false (by simp only[jP,f1,cond_true,cond_false]) (pk (d) _ _ hh _ hh (dR<|BC f1<|ZZ) k!) (bp.refl aA) k!
   · have u6:=dZ 3 false true i0 1 o!
     exact aC.round (by simp only[jP,f1,cond_true,cond_false]) (pk (d) _ _ hh _ hh (dR<|BV f1 u6<|CC<|ZZ) k!) (bp.refl aA) _ k! (fun x=>yd text bb cS (i0+1) o! x hh aA ay)
def g8 (text:List UInt8):Bool:=(bif (bif (decide (text=[])) then true else (decide (16<((List.length text:Nat):Int)))) then false else (match (jP text (List.length text) 0) with | none=>true | some y8=>y8))
theorem Gs {d:Nat} {h:aw} (text:List UInt8) (Qc:text.length<2^60) (ct:Tidy h):cU (d+1) (.fn 87) [(AV.str text)] h= .ret (AV.bool (g8 text)) h:=by
 obtain ⟨yj1,Qd⟩:∃yj1:Nat→AV,Ev env (cU (d)) tS ⟨((AV.str text)::AV.undef::(AV.bool false)::lk 52),h,[],.no⟩ .normal ⟨((AV.str text)::AV.undef::(AV.bool false)::AV.undef::AV.undef::AV.undef::rx yj1 6 6 ((AV.bool (bif (decide (text=[])) then true else (decide (16<((List.length text:Nat):Int)))))::lk 42)),h,[],.no⟩:=by
  rcases Bool.eq_false_or_eq_true (decide (text=[])) with f0 | f0
  · have dx:=of_decide_eq_true f0
    have ev:=pk (d) tS ((AV.str text)::AV.undef::(AV.bool false)::lk 52) h .normal h (CC<|VV (TX 9 false true text [])<|CC<|BB f0<|BB f0<|BV f0 (xV true f0)<|ZZ) k!
    rw[show (bif (decide (text=[])) then true else (decide (16<((List.length text:Nat):Int))))=true by simp only[f0,cond_true,cond_false]]
    exact kI ev k!
  · have dx:=of_decide_eq_false f0
    have sn2:text.length<2^60:=Qc
    have ev:=pk (d) tS ((AV.str text)::AV.undef::(AV.bool false)::lk 52) h .normal h (CC<|VV (TX 9 false true text [])<|CC<|BC f0<|BC f0<|BV f0 (dw 3 false true .i64 ((List.length text:Nat):Int) 16)<|VV (b8 (a:=some (AV.bool true)) (b:=some (AV.bool (decide (16<((List.length text:Nat):Int))))) f0)<|ZZ) k!
    rw[show (bif (decide (text=[])) then true else (decide (16<((List.length text:Nat):Int))))=(decide (16<((List.length text:Nat):Int))) by simp only[f0,cond_true,cond_false]]
    exact kI ev k!
 rcases Bool.eq_false_or_eq_true (bif (decide (text=[])) then true else (decide (16<((List.length text:Nat):Int)))) with f0 | f0
 · have e:g8 text=false:=by simp only[g8,f0,cond_true,cond_false]
   rw[e]
   exact aE rfl (aZ Tryz.func87 zd rfl (.inr rfl) (pk (d) _ _ h _ h (CC<|LL Qd<|BC f0<|ZZ) k!) k!) (Has.refl _) rfl
 · have sn3:text.length<2^60:=Qc
   have Di:=yd (d:=d) (h:=h) text Qc (List.length text) 0 o! (fun k_=>(((AV.str text)::AV.undef::(AV.bool false)::AV.undef::AV.undef::AV.undef::rx yj1 6 6 ((AV.bool (bif (decide (text=[])) then true else (decide (16<((List.length text:Nat):Int)))))::(AV.str text)::(Zn (List.length text))::(Zi 0)::lk 39)):List AV).getD k_ AV.undef) h ct (Has.refl _)
   cases dg:jP text (List.length text) 0 with
   | none=>
     obtain ⟨xB,h5,dX,dC⟩:=aC.n dg Di
     have kK:=dC.y
     have tC:h.nx≤h5.nx:=dC.n
     have gE:Has h h5:=dC.a
     have e:g8 text=true:=by simp only[g8,f0,dg,cond_true,cond_false]
     rw[e]
     exact aE rfl (aZ Tryz.func87 zd rfl (.inr rfl) (pk (d) _ _ h _ h5 (CC<|LL Qd<|BB f0<|CN 3<|LL dX<|CC<|ZZ) k!) k!) gE rfl
   | some y8=>
     obtain ⟨xB,h5,dX,dC⟩:=aC.r dg Di
     have kK:=dC.y
     have tC:h.nx≤h5.nx:=dC.n
     have gE:Has h h5:=dC.a
     have e:g8 text=y8:=by simp only[g8,f0,dg,cond_true,cond_false]
     rw[e]
     exact aE rfl (aZ Tryz.func87 zd rfl (.inr rfl) (pk (d) _ _ h _ h5 (CC<|LL Qd<|BB f0<|CN 3<|LL dX<|ZZ) k!) k!) gE rfl
noncomputable def H0:Code:=(Tryz.f95.body).getD .skip
theorem Gt:Tryz.f95.body=some H0:=by kernel_rfl
def iY (x_:Int) (dB:Int):Bool:=(bif (decide (0≤x_)) then (decide (x_≤dB)) else false)
theorem Gu {d:Nat} {h:aw} (x_:Int) (dB:Int) (ct:Tidy h):cU (d+1) (.fn 95) [(Zi x_),(Zi dB)] h= .ret (AV.bool (iY x_ dB)) h:=by
 rcases Bool.eq_false_or_eq_true (decide (0≤x_)) with f0 | f0
 · have dx:=of_decide_eq_true f0
   have e:iY x_ dB=(decide (x_≤dB)):=by simp only[iY,f0,cond_true,cond_false]
   rw[e]
   exact aE rfl (aZ Tryz.func95 Gt rfl (.inr rfl) (pk (d) _ _ h _ h (CN 2<|VV (pc 3 false true .i64 x_ 0)<|CC<|BC f0<|BC f0<|BV f0 (uW 3 false false .i64 x_ dB)<|VV (pe (decide (x_≤dB)) false f0)<|CC<|ZZ) k!) k!) (Has.refl _) rfl
 · have dx:=of_decide_eq_false f0
   have e:iY x_ dB=false:=by simp only[iY,f0,cond_true,cond_false]
   rw[e]
   exact aE rfl (aZ Tryz.func95 Gt rfl (.inr rfl) (pk (d) _ _ h _ h (CN 2<|VV (pc 3 false true .i64 x_ 0)<|CC<|BB f0<|BB f0<|BV f0 (sS false f0)<|CC<|ZZ) k!) k!) (Has.refl _) rfl
noncomputable def H2:Code:=(Tryz.f41.body).getD .skip
theorem Qe:Tryz.f41.body=some H2:=by kernel_rfl
def g9 (t:Int):Bool:=(iY t 100000)
theorem zf {d:Nat} {h:aw} (t:Int) (ct:Tidy h):cU (d+2) (.fn 41) [(Zi t)] h= .ret (AV.bool (g9 t)) h:=by
 have k1:=Gu (d:=d) t 100000 ct
 have e:g9 t=(iY t 100000):=by simp only[g9,cond_true,cond_false]
 rw[e]
 exact aE rfl (aZ Tryz.func41 Qe rfl (.inr rfl) (pk (d+1) _ _ h _ h (CN 2<|EE k1<|CC<|ZZ) k!) k!) (Has.refl _) rfl
noncomputable def Cr:Code:=(Tryz.f46.body).getD .skip
theorem mb:Tryz.f46.body=some Cr:=by kernel_rfl
def dh (j:cG) (ahead:List Task) (t:Task):Int:=(bif (!(g8 t.name)) then 5 else (bif (fR ahead (fun y=>iV y t)) then 6 else (bif (!(g9 t.takes)) then 1 else (bif (!decide ((cI t.ax ((t.ax.length:Nat):Int) (fun jx=>dj (List.take jx t.ax) (List.g t.ax jx) j))=0)) then (cI t.ax ((t.ax.length:Nat):Int) (fun jx=>dj (List.take jx t.ax) (List.g t.ax jx) j)) else (dN t.au ((t.au.length:Nat):Int) (fun jx=>gG (List.take jx t.au) (List.g t.au jx) j))))))
theorem H4 {d:Nat} {h:aw} {nh:AV} (j:cG) (ahead:List Task) (t:Task) (bZ:aG.ok h j) (jn:aM h nh ahead) (Up:aG.ok h t) (ct:Tidy h):cU (d+8) (.fn 46) [(AV.agg [j.ao,j.ai]),nh,(AV.agg [(AV.str t.name),(Zi t.takes),t.aO,t.aS])] h= .ret (Zi (dh j ahead t)) h:=by
 have Cs:=jn.small
 have eT:=bZ.1.small
 have eU:=bZ.2.small
 have Je:=Up.2.2.small
 obtain ⟨h1,dH,cP,kr,bk,bW⟩:=kh ct (aH.cells [j.ao,j.ai] 25 false)
 have bB:Has h h1:=bW
 obtain ⟨h2,P1,vO,abn,pE,rz⟩:=kh cP (aH.cells [(AV.str t.name),(Zi t.takes),t.aO,t.aS] 39 false)
 have kJ:Has h h2:=bB.trans rz
 have k3:=Gs (d:=d+6) t.name Up.1 vO
 have dR:=fun {al ps} (k:Pk al _ ps)=>(NN dH (fun i=>(Pt i))<|NN P1 (fun i=>(Pt i))<|CN 2<|MM (aI 9 0 (AV.str t.name) pE k!)<|EE k3<|CN 2<|k:Pk _ [] ps)
 rcases Bool.eq_false_or_eq_true (!(g8 t.name)) with f0 | f0
 · have e:dh j ahead t=5:=by simp only[dh,f0,cond_true,cond_false]
   rw[e]
   exact aE rfl (aZ Tryz.func46 mb rfl (.inr rfl) (pk (d+7) _ _ h _ h2 (dR<|BC f0<|ZZ) k!) k!) kJ rfl
 · have k5:=Cq (d:=d+5) ahead (fun y=>iV y t) (jn.has kJ) (fun y hy hh yy aa=>Gk (d:=d+4) y t h1.nx (aG.mono aa ((jn.has kJ).oks y hy)) (aG.mono aa (aG.mono kJ Up)) (aa _ _ pE) yy) vO
   have hI:=fun {al ps} (k:Pk al _ ps)=>(dR<|BB f0<|CN 2<|EE k5<|CC<|k:Pk _ [] ps)
   rcases Bool.eq_false_or_eq_true (fR ahead (fun y=>iV y t)) with f1 | f1
   · have e:dh j ahead t=6:=by simp only[dh,f0,f1,cond_true,cond_false]
     rw[e]
     exact aE rfl (aZ Tryz.func46 mb rfl (.inr rfl) (pk (d+7) _ _ h _ h2 (hI<|BC f1<|ZZ) k!) k!) kJ rfl
   · have k7:=zf (d:=d+5) t.takes vO
     have mH:=fun {al ps} (k:Pk al _ ps)=>(hI<|BC f1<|MM (aI 3 1 (Zi t.takes) pE k!)<|EE k7<|CN 2<|k:Pk _ [] ps)
     rcases Bool.eq_false_or_eq_true (!(g9 t.takes)) with f2 | f2
     · have e:dh j ahead t=1:=by simp only[dh,f0,f1,f2,cond_true,cond_false]
       rw[e]
       exact aE rfl (aZ Tryz.func46 mb rfl (.inr rfl) (pk (d+7) _ _ h _ h2 (mH<|BC f2<|ZZ) k!) k!) kJ rfl
     · have ln9:cc (some (.slice 3)) (some t.aO)=some (Zn t.ax.length):=Up.2.1.len
       have k10:=Cj (d:=d+6) t.ax ((t.ax.length:Nat):Int) (fun jx=>dj (List.take jx t.ax) (List.g t.ax jx) j) (Up.2.1.has kJ) (fun jx hj aV hh yy aa fa=>Gn (d:=d+2) (List.take jx t.ax) (List.g t.ax jx) j h.nx fa (aG.mono aa (aG.mono kJ bZ)) (aa _ _ (rz _ _ bk)) yy) vO
       have vc:=fun {al ps} (k:Pk al _ ps)=>(mH<|BC f2<|MM (aI 26 2 t.aO pE k!)<|CC<|MM (aI 26 2 t.aO pE k!)<|VV ln9<|CC<|EE k10<|CN 2<|VV (pa 29 false true .i64 (cI t.ax ((t.ax.length:Nat):Int) (fun jx=>dj (List.take jx t.ax) (List.g t.ax jx) j)) 0)<|k:Pk _ [] ps)
       rcases Bool.eq_false_or_eq_true (!decide ((cI t.ax ((t.ax.length:Nat):Int) (fun jx=>dj (List.take jx t.ax) (List.g t.ax jx) j))=0)) with f3 | f3
       · have lV:=HJ f3
         have e:dh j ahead t=(cI t.ax ((t.ax.length:Nat):Int) (fun jx=>dj (List.take jx t.ax) (List.g t.ax jx) j)):=by simp only[dh,f0,f1,f2,f3,cond_true,cond_false]
         rw[e]
         exact aE rfl (aZ Tryz.func46 mb rfl (.inr rfl) (pk (d+7) _ _ h _ h2 (vc<|BB f3<|CN 2<|ZZ) k!) k!) kJ rfl
       · have lV:=HK f3
         have X0:cc (some (.slice 80)) (some t.aS)=some (Zn t.au.length):=Up.2.2.len
         have k13:=Ck (d:=d+6) t.au ((t.au.length:Nat):Int) (fun jx=>gG (List.take jx t.au) (List.g t.au jx) j) (Up.2.2.has kJ) (fun jx hj aV hh yy aa fa=>Gr (d:=d+1) (List.take jx t.au) (List.g t.au jx) j h.nx fa (aG.mono aa ((Up.2.2.has kJ).ok hj)) (aG.mono aa (aG.mono kJ bZ)) (aa _ _ (rz _ _ bk)) yy) vO
         have e:dh j ahead t=(dN t.au ((t.au.length:Nat):Int) (fun jx=>gG (List.take jx t.au) (List.g t.au jx) j)):=by simp only[dh,f0,f1,f2,f3,cond_true,cond_false]
         rw[e]
         exact aE rfl (aZ Tryz.func46 mb rfl (.inr rfl) (pk (d+7) _ _ h _ h2 (vc<|BC f3<|MM (aI 37 3 t.aS pE k!)<|CC<|MM (aI 37 3 t.aS pE k!)<|VV X0<|CC<|EE k13<|CC<|ZZ) k!) k!) kJ rfl
noncomputable def H5:Code:=(Tryz.f45.body).getD .skip
theorem Qf:Tryz.f45.body=some H5:=by kernel_rfl
def fS (ahead:List Task) (t:Task) (j:cG):Int:=(dh j ahead t)
theorem Qg {d:Nat} {h:aw} {nh:AV} (ahead:List Task) (t:Task) (j:cG) (jB:Nat) (jn:aM h nh ahead) (Up:aG.ok h t) (bZ:aG.ok h j) (g_j:h.get jB=some (.cells (aG.c j) 25 false)) (ct:Tidy h):cU (d+9) (.fn 45) [nh,(AV.agg [(AV.str t.name),(Zi t.takes),t.aO,t.aS]),(Pt jB)] h= .ret (Zi (fS ahead t j)) h:=by
 have Cs:=jn.small
 have Je:=Up.2.2.small
 have eT:=bZ.1.small
 have eU:=bZ.2.small
 obtain ⟨h1,dH,cP,kr,bk,bW⟩:=kh ct (aH.cells [(AV.str t.name),(Zi t.takes),t.aO,t.aS] 39 false)
 have bB:Has h h1:=bW
 have k2:=H4 (d:=d) j ahead t (aG.mono bB bZ) (jn.has bB) (aG.mono bB Up) cP
 have e:fS ahead t j=(dh j ahead t):=by simp only[fS,cond_true,cond_false]
 rw[e]
 exact aE rfl (aZ Tryz.func45 Qf rfl (.inr rfl) (pk (d+8) _ _ h _ h1 (NN dH (fun i=>(Pt i))<|CC<|MM (aI 25 0 (AV.agg [j.ao,j.ai]) (bW _ _ g_j) k!)<|CC<|MM (aI 39 0 (AV.agg [(AV.str t.name),(Zi t.takes),t.aO,t.aS]) bk k!)<|EE k2<|CC<|ZZ) k!) k!) bB rfl
noncomputable def H6:Code:=(Tryz.f109.body).getD .skip
theorem Qh:Tryz.f109.body=some H6:=by kernel_rfl
def cg (s:List Bool):List Bool:=s
theorem Qi {d:Nat} {h:aw} (s:List Bool) (sB:Nat) (sN:Nat) (sF:Bool) (g_s:h.get sB=some (aH.cells (bs s) 4 false)) (l_s:s.length=sN) (t_s:sB<h.nx) (nE:s.length≤1000000000) (ct:Tidy h):∃z n op hk,cU (d+1) (.fn 109) [(AV.slice sB 0 sN sN sF)] h= .ret (.slice z 0 n n op) hk∧bp h hk∧hk.get z=some (aH.cells (bs (cg s)) 4 false)∧(cg s).length=n∧h.nx≤z:=by
 obtain ⟨h1,dH,cP,kr,bk,bW⟩:=kh ct (aH.cells [] 4 false)
 have bB:Has h h1:=bW
 obtain ⟨qb3,qf4,h2,aia,vO,akz,akA,aib,ams⟩:=K3 (tys:= #[73,73]) (n:=sN) (b:=sB) (f:=sF) cP bk (bW _ _ g_s) (by first | (rw[PQ];omega) | (rw[fZ];omega)) (by first | exact Uo _ | exact xm _) o! rfl rfl k! k! k! (bytes:=1) k! (z0:=AV.bool false) k! rfl (by decide)
 have kJ:Has h h2:=bB.trans akA
 have e:cg s=s:=by simp only[cg,cond_true,cond_false]
 rw[e]
 exact ⟨qb3,sN,qf4,eu rfl (aZ Tryz.func109 Qh rfl (.inr rfl) (pk (d) _ _ h _ h2 (CN 3<|FF<|NN dH (fun i=>(AV.slice i 0 0 0 false))<|CC<|PP (show di env h1 #[73,73] (AV.slice h.nx 0 0 0 false) (AV.slice sB 0 sN sN sF)=some ((AV.slice qb3 0 sN sN qf4),h2) from aia)<|CC<|ZZ) k!) k!) ct ⟨vO,kJ,by omega⟩ (P:=fun hh=>hh.get qb3=some (aH.cells (bs s) 4 false)∧(s).length=sN∧h.nx≤qb3) ⟨aib,l!,by omega⟩ fun v=>(r_ v o!).elim⟩
noncomputable def uH:Code:=(Tryz.f159.body).getD .skip
theorem AU:Tryz.f159.body=some uH:=by kernel_rfl
noncomputable def Gv:Code:=(bw uH).getD 0 .skip
def gH (s:List Int) (P:Nat→Bool):Nat→Nat→Option (Int)
 | 0,_=>none
 | cS+1,i0=>(bif (P i0) then some ((i0:Nat):Int) else gH s P cS (i0+1))
theorem uI {d:Nat} {h:aw} (sV:AV) (g:FuncId) (cap:List AV) (s:List Int) (P:Nat→Bool) (bb:bS h .i64 3 sV s) (hP:∀i hh,i<s.length→Tidy hh→Has h hh→cU d (.fn g) (.int .i64 (List.g s i)::cap) hh= .ret (.bool (P i)) hh):∀(k_ i_:Nat) (_:i_+k_=s.length) (x:Nat→AV) (hh:aw) (aA:Tidy hh) (ay:Has h hh),aC (cU (d)) Gv ⟨(sV::(AV.func g [] cap)::rx x 2 5 ((Zn s.length)::(Zn i_)::rx x 9 10 [])),hh,[],.no⟩ (.exit 0) hh (fun y=>(sV::(AV.func g [] cap)::rx y 2 5 ((Zn s.length)::rx y 8 11 []))) (fun r y=>(sV::(AV.func g [] cap)::(y 2)::(y 3)::(Zi r)::(y 5)::(y 6)::(Zn s.length)::rx y 8 11 [])) (gH s P k_ i_)
 | 0,i0,gq,x,hh,aA,ay=>by
   have cr:=bb.small
   have q1:(decide (((i0:Nat):Int)<((s.length:Nat):Int)))=false:=d!
   exact aC.out rfl (pk (d) _ _ hh _ hh (VV (bO 3 false false .i64 ((i0:Nat):Int) ((s.length:Nat):Int))<|BB q1<|ZZ) k!) (bp.refl aA) k!
 | cS+1,i0,gq,x,hh,aA,ay=>by
   have cr:=bb.small
   have q1:(decide (((i0:Nat):Int)<((s.length:Nat):Int)))=true:=d!
   obtain ⟨p3,q4,cF,_⟩:=(bb.has ay).elem (i:=i0) o!
   have jL:bR env (some (.slice 3)) (some sV) (some (Zn i0))=some (AV.ptr p3 q4):=cF
   have j9:aY env hh 3 (AV.ptr p3 q4)=some (Zi (s.g i0)):=(bb.has ay).load o! cF
   have k6:=hP i0 hh o! aA ay
   have dR:=fun {al ps} (k:Pk al _ ps)=>(VV (bO 3 false false .i64 ((i0:Nat):Int) ((s.length:Nat):Int))<|BB q1<|CN 5<|VV jL<|MM j9<|EE k6<|k:Pk _ [] ps)
   rcases Bool.eq_false_or_eq_true (P i0) with f1 | f1
   · exact aC.ret ((i0:Nat):Int) (by simp only[gH,f1,cond_true,cond_false]) (pk (d) _ _ hh _ hh (dR<|BB f1<|CN 2<|ZZ) k!) (bp.refl aA) k!
   · have u8:=dZ 3 false true i0 1 o!
     exact aC.round (by simp only[gH,f1,cond_true,cond_false]) (pk (d) _ _ hh _ hh (dR<|BV f1 u8<|CC<|ZZ) k!) (bp.refl aA) _ k! (fun x=>uI sV g cap s P bb hP cS (i0+1) o! x hh aA ay)
def j1 (s:List Int) (P:Nat→Bool):Int:=(match (gH s P s.length 0) with | none=>(-1) | some xC=>xC)
theorem K9 {d:Nat} {h:aw} {sV:AV} {g:FuncId} {cap:List AV} (s:List Int) (P:Nat→Bool) (sU:bS h .i64 3 sV s) (hP:∀i hh,i<s.length→Tidy hh→Has h hh→cU d (.fn g) (.int .i64 (List.g s i)::cap) hh= .ret (.bool (P i)) hh) (ct:Tidy h):cU (d+1) (.fn 159) [sV,(AV.func g [] cap)] h= .ret (Zi (j1 s P)) h:=by
 have AQ:=sU.small
 have gL:cc (some (.slice 3)) (some sV)=some (Zn s.length):=sU.len
 have Di:=uI (d:=d) (h:=h) sV g cap s P sU hP s.length 0 o! (fun k_=>((sV::(AV.func g [] cap)::AV.undef::AV.undef::(Zi 0)::AV.undef::sV::(Zn s.length)::(Zi 0)::lk 10):List AV).getD k_ AV.undef) h ct (Has.refl _)
 cases dz:gH s P s.length 0 with
 | none=>
   obtain ⟨Cb,h3,dy,dt⟩:=aC.n dz Di
   have l9:=dt.y
   have tz:h.nx≤h3.nx:=dt.n
   have iy:Has h h3:=dt.a
   have e:j1 s P=(-1):=by simp only[j1,dz,cond_true,cond_false]
   rw[e]
   exact aE rfl (aZ Tryz.func159 AU rfl (.inr rfl) (pk (d) _ _ h _ h3 (CN 2<|VV gL<|CC<|LL dy<|CC<|ZZ) k!) k!) iy rfl
 | some xC=>
   obtain ⟨Cb,h3,dy,dt⟩:=aC.r dz Di
   have l9:=dt.y
   have tz:h.nx≤h3.nx:=dt.n
   have iy:Has h h3:=dt.a
   have e:j1 s P=xC:=by simp only[j1,dz,cond_true,cond_false]
   rw[e]
   exact aE rfl (aZ Tryz.func159 AU rfl (.inr rfl) (pk (d) _ _ h _ h3 (CN 2<|VV gL<|CC<|LL dy<|ZZ) k!) k!) iy rfl
noncomputable def zg:Code:=(Tryz.f141.body).getD .skip
theorem DS:Tryz.f141.body=some zg:=by kernel_rfl
def hX (s:List Int) (P:Nat→Bool):Bool:=(decide (0≤(j1 s P)))
theorem DT {d:Nat} {h:aw} {sV:AV} {g:FuncId} {cap:List AV} (s:List Int) (P:Nat→Bool) (sU:bS h .i64 3 sV s) (hP:∀i hh,i<s.length→Tidy hh→Has h hh→cU d (.fn g) (.int .i64 (List.g s i)::cap) hh= .ret (.bool (P i)) hh) (ct:Tidy h):cU (d+2) (.fn 141) [sV,(AV.func g [] cap)] h= .ret (AV.bool (hX s P)) h:=by
 have AQ:=sU.small
 have k1:=K9 (d:=d) s P sU hP ct
 have e:hX s P=(decide (0≤(j1 s P))):=by simp only[hX,cond_true,cond_false]
 rw[e]
 exact aE rfl (aZ Tryz.func141 DS rfl (.inr rfl) (pk (d+1) _ _ h _ h (CN 3<|EE k1<|VV (pc 3 false true .i64 (j1 s P) 0)<|CC<|ZZ) k!) k!) (Has.refl _) rfl
noncomputable def Gw:Code:=(Tryz.f142.body).getD .skip
theorem NU:Tryz.f142.body=some Gw:=by kernel_rfl
def n5 (lA:Int) (gX:List Bool):Bool:=(!(gX.g lA.toNat))
theorem NV {d:Nat} {h:aw} {lC:AV} (lA:Int) (gX:List Bool) (Sv:Nat) (ni:l7 h 4 lC gX) (X2:h.get Sv=some (aH.cells [lC] 73 false)) (nE:0≤lA) (qI:lA<(gX.length:Int)) (ct:Tidy h):cU (d+1) (.fn 142) [(Zi lA),(Pt Sv)] h= .ret (AV.bool (n5 lA gX)) h:=by
 have Qj:=ni.small
 obtain ⟨p2,q3,NW,_⟩:=ni.elem (i:=lA.toNat) o!
 have ix1:bR env (some (.slice 4)) (some lC) (some (Zi lA))=some (AV.ptr p2 q3):=by rw[show (lA:Int)=((lA.toNat:Nat):Int) by omega];exact NW
 have ZW:aY env h 4 (AV.ptr p2 q3)=some (AV.bool (gX.g lA.toNat)):=ni.load o! NW
 have e:n5 lA gX=(!(gX.g lA.toNat)):=by simp only[n5,cond_true,cond_false]
 rw[e]
 exact aE rfl (aZ Tryz.func142 NU rfl (.inr rfl) (pk (d) _ _ h _ h (CC<|MM (aI 73 0 lC X2 k!)<|CC<|VV ix1<|MM ZW<|CN 2<|ZZ) k!) k!) (Has.refl _) rfl
noncomputable def H7:Code:=(Tryz.f110.body).getD .skip
theorem Gy:Tryz.f110.body=some H7:=by kernel_rfl
def kX (ab:List Task) (gX:List Bool) (task:Int):Bool:=(bif (!(gX.g task.toNat)) then (!(hX ((ab.g task.toNat).ax) (fun i=>n5 (List.g ((ab.g task.toNat).ax) i) gX))) else false)
theorem Qk {d:Nat} {h:aw} {ao lC:AV} (ab:List Task) (gX:List Bool) (task:Int) (lD:aM h ao ab) (ni:l7 h 4 lC gX) (nE:0≤task) (qI:task<(gX.length:Int)) (yS:gX.length=ab.length) (Ar:∀i,i<(ab.g task.toNat).ax.length→0≤(ab.g task.toNat).ax.g i∧(ab.g task.toNat).ax.g i<(gX.length:Int)) (ct:Tidy h):cU (d+4) (.fn 110) [ao,lC,(Zi task)] h= .ret (AV.bool (kX ab gX task)) h:=by
 have Jf:=lD.small
 have Qj:=ni.small
 obtain ⟨h1,dH,cP,kr,bk,bW⟩:=kh ct (aH.cells [lC] 73 false)
 have bB:Has h h1:=bW
 obtain ⟨p3,q4,cF,_⟩:=ni.elem (i:=task.toNat) o!
 have jL:bR env (some (.slice 4)) (some lC) (some (Zi task))=some (AV.ptr p3 q4):=by rw[show (task:Int)=((task.toNat:Nat):Int) by omega];exact cF
 have j9:aY env h1 4 (AV.ptr p3 q4)=some (AV.bool (gX.g task.toNat)):=(ni.has bB).load o! cF
 have dR:=fun {al ps} (k:Pk al _ ps)=>(AA (.a (aH.cells [lC] 73 false) (Pt h.nx) h1)<|HH dH<|HH (show ∃mk:Nat→AV,some (aH.cells (AV.cells lC) 73 false,fun i=>AV.ptr i 0)=some (aH.cells [lC] 73 false,mk)∧mk h.nx=(Pt h.nx) from ⟨_,(by rw[KE ni.scalar]),rfl⟩)<|CC<|MM (aI 73 0 lC bk k!)<|CC<|VV jL<|MM j9<|CN 2<|k:Pk _ [] ps)
 rcases Bool.eq_false_or_eq_true (!(gX.g task.toNat)) with f0 | f0
 · obtain ⟨p8,q9,sx⟩:=lD.elem (i:=task.toNat) o!
   have Qb:bR env (some (.slice 39)) (some ao) (some (Zi task))=some (AV.ptr p8 q9):=by rw[show (task:Int)=((task.toNat:Nat):Int) by omega];exact sx
   have vY:aY env h1 26 (AV.ptr p8 (q9+2))=some ((ab.g task.toNat).aO):=(lD.has bB).part (t:=26) (j:=2) o! sx k! rfl
   have U9:=DT (d:=d+1) ((ab.g task.toNat).ax) (fun i=>n5 (List.g ((ab.g task.toNat).ax) i) gX) (((lD.ok (i:=task.toNat) o!).2.1).has bB) (fun i hh hi yy aa=>by have q_:=Ar i hi;exact NV (d:=d) (List.g ((ab.g task.toNat).ax) i) gX h.nx ((ni.has bB).has aa) (aa _ _ bk) o! o! yy) cP
   have e:kX ab gX task=(!(hX ((ab.g task.toNat).ax) (fun i=>n5 (List.g ((ab.g task.toNat).ax) i) gX))):=by simp only[kX,f0,cond_true,cond_false]
   rw[e]
   exact aE rfl (aZ Tryz.func110 Gy rfl (.inr rfl) (pk (d+3) _ _ h _ h1 (dR<|BC f0<|BC f0<|BV f0 Qb<|BC f0<|BM f0 vY<|BC f0<|BB f0<|EE U9<|BC f0<|VV (pe (!(hX ((ab.g task.toNat).ax) (fun i=>n5 (List.g ((ab.g task.toNat).ax) i) gX))) false f0)<|CC<|ZZ) k!) k!) bB rfl
 · have e:kX ab gX task=false:=by simp only[kX,f0,cond_true,cond_false]
   rw[e]
   exact aE rfl (aZ Tryz.func110 Gy rfl (.inr rfl) (pk (d+3) _ _ h _ h1 (dR<|BB f0<|BB f0<|BB f0<|BB f0<|BB f0<|BB f0<|BB f0<|BV f0 (sS false f0)<|CC<|ZZ) k!) k!) bB rfl
theorem mc {p:Prop} (h:p:=by first | omega | assumption | exact NB _ o! | (intro q hq;have q_:=NB _ o! q hq;omega)):p:=h
theorem ff {p:Prop} (h:p:=by first | omega | (simp<;>omega)):p:=h
noncomputable def pg:Code:=(Tryz.f51.body).getD .skip
theorem K_:Tryz.f51.body=some pg:=by kernel_rfl
noncomputable def GA:Code:=(bw pg).getD 0 .skip
noncomputable def GB:Code:=(bw pg).getD 1 .skip
def cm (order:List Int) (ab:List Task):Nat→Nat→List Int→List Bool→List Int×List Bool
 | 0,_,sy,jI=>(sy,jI)
 | nH+1,i1,sy,jI=>(bif (kX ab jI (order.g i1)) then ((sy++[(order.g i1)]),(jI.set (order.g i1).toNat true)) else cm order ab nH (i1+1) sy jI)
theorem uJ {d:Nat} {h:aw} {gg1:aw} (ao:AV) (bf:AV) (aj:List Bool) (NX:Bool) (order:List Int) (i0:Nat) (ab:List Task) (d_:Nat) (db:aM h ao ab) (ft:bS h .i64 3 bf order) (AE:i0<order.length) (mP:∀i,i<ab.length→∀q,q<(ab.g i).ax.length→0≤(ab.g i).ax.g q∧(ab.g i).ax.g q<(ab.length:Int)) (qJ:∀q,q<order.length→0≤order.g q∧order.g q<(ab.length:Int)) (ry:aj.length=ab.length) (xz:ab.length≤100000) (Ct:order.length≤100000) (Cu:(cg aj).length=ab.length) (ct:Tidy h) (aeM:h.nx≤d_) (NG1:h.nx≤gg1.nx) (aic:d_<gg1.nx):∀(k_ i_:Nat) (sy:List Int) (jI:List Bool) (z1:AV) (_:i_+k_=order.length) (_:((sy.length≤i0+1)∧(sy.length≤i0))) (x:Nat→AV) (hh:aw) (aA:Tidy hh) (ay:Has h hh) (ij:h.nx≤hh.nx) (Nx:jI.length=((cg aj).length)) (cN:hh.get d_=some (aH.cells (bs jI) 4 false)) (X3:gK 3 gg1 hh z1 (zs .i64 sy)) (lz1:sy.length≤1000000000) (adr:gg1.nx≤hh.nx),cA (σ:=List Int×List Bool) (ρ:=Unit) (cU (d+4)) GB ⟨(ao::bf::rx x 2 5 ((AV.slice d_ 0 ((cg aj).length) ((cg aj).length) NX)::z1::rx x 9 5 ((Zn order.length)::(Zn i0)::(x 16)::bf::(Zn order.length)::(Zn i_)::rx x 20 17 []))),hh,[],.no⟩ (.exit 2) hh (fun r z y=>(ao::bf::rx y 2 5 ((AV.slice d_ 0 ((cg aj).length) ((cg aj).length) NX)::z::rx y 9 5 ((Zn order.length)::(Zn i0)::(y 16)::bf::(Zn order.length)::rx y 19 18 [])))) (fun r z y=>(ao::bf::rx y 2 5 ((AV.slice d_ 0 ((cg aj).length) ((cg aj).length) NX)::rx y 8 6 ((Zn order.length)::(Zn i0)::(y 16)::bf::(Zn order.length)::rx y 19 18 [])))) (fun r z hk=>Has h hk∧hk.get d_=some (aH.cells (bs r.2) 4 false)∧r.2.length=((cg aj).length)∧(r.1.length≤i0+1)∧gK 3 gg1 hk z (zs .i64 r.1)∧r.1.length≤1000000000) (fun r z hk=>Has h hk) (Sum.inl (cm order ab k_ i_ sy jI))
 | 0,i1,sy,jI,z1,gq,fV,x,hh,aA,ay,ij,Nx,cN,X3,lz1,adr=>by
   have ik:=db.small
   have jY:=ft.small
   have tG:=aA _ _ cN
   have NB:=mP
   have OB:=qJ
   have ob_:=OB i1
   have akB:i1<order.length→0≤order.g i1∧order.g i1<(ab.length:Int):=ob_
   have q1:(decide (((i1:Nat):Int)<((order.length:Nat):Int)))=false:=d!
   exact cA.out (sy,jI) z1 rfl (pk (d+4) _ _ hh _ hh (VV (bO 3 false false .i64 ((i1:Nat):Int) ((order.length:Nat):Int))<|BB q1<|ZZ) k!) aA o! ⟨ay,cN,l!,(show (sy.length≤i0+1) from ff),X3,ff⟩ k!
 | nH+1,i1,sy,jI,z1,gq,fV,x,hh,aA,ay,ij,Nx,cN,X3,lz1,adr=>by
   have ik:=db.small
   have jY:=ft.small
   have tG:=aA _ _ cN
   have NB:=mP
   have OB:=qJ
   have ob_:=OB i1
   have akB:i1<order.length→0≤order.g i1∧order.g i1<(ab.length:Int):=ob_
   have q1:(decide (((i1:Nat):Int)<((order.length:Nat):Int)))=true:=d!
   obtain ⟨p3,q4,cF,_⟩:=ft.elem (i:=i1) o!
   have jL:bR env (some (.slice 3)) (some bf) (some (Zn i1))=some (AV.ptr p3 q4):=cF
   have j9:aY env hh 3 (AV.ptr p3 q4)=some (Zi (order.g i1)):=(ft.has ay).load o! cF
   have k6:=Qk (d:=d) ab jI (order.g i1) (db.has ay) (l7.own (op:=NX) (n:=((cg aj).length)) k! k! cN l! o!) mc mc mc mc aA
   have dR:=fun {al ps} (k:Pk al _ ps)=>(VV (bO 3 false false .i64 ((i1:Nat):Int) ((order.length:Nat):Int))<|BV q1 jL<|MM j9<|CN 4<|EE k6<|k:Pk _ [] ps)
   rcases Bool.eq_false_or_eq_true (kX ab jI (order.g i1)) with f1 | f1
   · have HR:bR env (some (.slice 4)) (some (AV.slice d_ 0 ((cg aj).length) ((cg aj).length) NX)) (some (Zi (order.g i1)))=some (AV.ptr d_ (order.g i1).toNat):=jw k! (show (order.g i1).toNat<((cg aj).length) by omega) o!
     obtain ⟨h9,Ql⟩:∃KY:aw,KY=hh.put d_ (some (aH.cells (bs (jI.set (order.g i1).toNat true)) 4 false)):=⟨_,rfl⟩
     have ae9:dW env hh 4 (AV.ptr d_ (order.g i1).toNat) (AV.bool true)=some h9:=by rw[Ql];exact r7 k! cN l!
     have GC:KA hh h9 d_ (aH.cells (bs (jI.set (order.g i1).toNat true)) 4 false):=by rw[Ql];exact kE aA cN
     have pF:=GC.1
     have aeV:h9.nx=hh.nx:=by rw[Ql];rfl
     have my:Has h h9:=GC.has ay ct o!
     obtain ⟨qE,F1,kU,Sf,xY,j_⟩:=kh pF (aH.cells [(Zi (order.g i1))] 3 false)
     have jm:Has h qE:=my.trans j_
     have X4:Has h9 qE:=j_
     obtain ⟨z12,uX,Qm,uD,aid,Sw,afa⟩:=gK.abl (k:= .i64) (g:=gg1) (tys:= #[26,26]) (v:=(order.g i1)) (L:=sy) kU o! ((X3.chg GC o!).has X4) xY ff rfl rfl k! k! k! (bytes:=8) k! (z0:=Zi 0) k! rfl (by decide)
     have AF:Has h uX:=Has.PS jm ct o! Sw
     exact cA.out ((sy++[(order.g i1)]),(jI.set (order.g i1).toNat true)) z12 (congrArg Sum.inl (by simp only[cm,f1,cond_true,cond_false])) (pk (d+4) _ _ hh _ uX (dR<|BB f1<|CN 2<|VV HR<|SS ae9<|CN 2<|NN F1 (fun i=>(AV.slice i 0 1 1 false))<|PP (show di env qE #[26,26] z1 (AV.slice h9.nx 0 1 1 false)=some (z12,uX) from Qm)<|CC<|ZZ) k!) uD o! ⟨AF,(Sw _ _ o! (j_ _ _ GC.2.1)),l!,(show ((sy++[(order.g i1)]).length≤i0+1) from ff),afa,ff⟩ k!
   · have u8:=dZ 3 false true i1 1 o!
     exact cA.round (congrArg Sum.inl (by simp only[cm,f1,cond_true,cond_false])) (pk (d+4) _ _ hh _ hh (dR<|BV f1 u8<|CC<|ZZ) k!) o! _ k! (fun x=>uJ ao bf aj NX order i0 ab d_ db ft AE mP qJ ry xz Ct Cu ct aeM NG1 aic nH (i1+1) sy jI z1 o! (show ((sy.length≤i0+1)∧(sy.length≤i0)) from ff) x hh aA ay o! l! cN X3 ff o!)
def cT (order:List Int) (ab:List Task):Nat→Nat→List Int→List Bool→List Int×List Bool
 | 0,_,fN,aW=>(fN,aW)
 | cS+1,i0,fN,aW=>cT order ab cS (i0+1) ((cm order ab order.length 0 fN aW).1) ((cm order ab order.length 0 fN aW).2)
theorem uK {d:Nat} {h:aw} {gg0:aw} (ao:AV) (bf:AV) (aj:List Bool) (NX:Bool) (order:List Int) (ab:List Task) (a_:Nat) (bb:aM h ao ab) (cf:bS h .i64 3 bf order) (fq:∀i,i<ab.length→∀q,q<(ab.g i).ax.length→0≤(ab.g i).ax.g q∧(ab.g i).ax.g q<(ab.length:Int)) (hH:∀q,q<order.length→0≤order.g q∧order.g q<(ab.length:Int)) (ly:aj.length=ab.length) (mw:ab.length≤100000) (l8:order.length≤100000) (mO:(cg aj).length=ab.length) (ct:Tidy h) (tA:h.nx≤a_) (NG0:h.nx≤gg0.nx) (Ny:a_<gg0.nx):∀(k_ i_:Nat) (fN:List Int) (aW:List Bool) (z0:AV) (_:i_+k_=order.length) (x:Nat→AV) (hh:aw) (aA:Tidy hh) (ay:Has h hh) (ij:h.nx≤hh.nx) (iS:aW.length=((cg aj).length)) (bh:hh.get a_=some (aH.cells (bs aW) 4 false)) (Se:gK 3 gg0 hh z0 (zs .i64 fN)) (lz0:fN.length≤i_) (Df:gg0.nx≤hh.nx),cA (σ:=List Int×List Bool) (ρ:=Unit) (cU (d+4)) GA ⟨(ao::bf::rx x 2 5 ((AV.slice a_ 0 ((cg aj).length) ((cg aj).length) NX)::z0::rx x 9 5 ((Zn order.length)::(Zn i_)::rx x 16 21 []))),hh,[],.no⟩ (.exit 0) hh (fun r z y=>(ao::bf::rx y 2 5 ((AV.slice a_ 0 ((cg aj).length) ((cg aj).length) NX)::z::rx y 9 5 ((Zn order.length)::rx y 15 22 [])))) (fun r z y=>(ao::bf::rx y 2 5 ((AV.slice a_ 0 ((cg aj).length) ((cg aj).length) NX)::rx y 8 6 ((Zn order.length)::rx y 15 22 [])))) (fun r z hk=>Has h hk∧hk.get a_=some (aH.cells (bs r.2) 4 false)∧r.2.length=((cg aj).length)∧gK 3 gg0 hk z (zs .i64 r.1)∧r.1.length≤order.length) (fun r z hk=>Has h hk) (Sum.inl (cT order ab k_ i_ fN aW))
 | 0,i0,fN,aW,z0,gq,x,hh,aA,ay,ij,iS,bh,Se,lz0,Df=>by
   have cr:=bb.small
   have eQ:=cf.small
   have ji:=aA _ _ bh
   have NB:=fq
   have OB:=hH
   have q1:(decide (((i0:Nat):Int)<((order.length:Nat):Int)))=false:=d!
   exact cA.out (fN,aW) z0 rfl (pk (d+4) _ _ hh _ hh (VV (bO 3 false false .i64 ((i0:Nat):Int) ((order.length:Nat):Int))<|BB q1<|ZZ) k!) aA o! ⟨ay,bh,l!,Se,ff⟩ k!
 | cS+1,i0,fN,aW,z0,gq,x,hh,aA,ay,ij,iS,bh,Se,lz0,Df=>by
   have cr:=bb.small
   have eQ:=cf.small
   have ji:=aA _ _ bh
   have NB:=fq
   have OB:=hH
   have q1:(decide (((i0:Nat):Int)<((order.length:Nat):Int)))=true:=d!
   have K5:cc (some (.slice 3)) (some bf)=some (Zn order.length):=cf.len
   obtain ⟨zo5,yl3,h4,nX,nW,NI,aie,afb,akC,tM,afc,akD⟩:=cA.n rfl (uJ (d:=d) (h:=h) (gg1:=gg0) ao bf aj NX order i0 ab a_ bb cf o! (by assumption) (by assumption) o! o! o! (by assumption) ct o! o! o! order.length 0 fN aW z0 o! (show ((fN.length≤i0+1)∧(fN.length≤i0)) from ff) (fun k_=>((ao::bf::rx x 2 5 ((AV.slice a_ 0 ((cg aj).length) ((cg aj).length) NX)::z0::rx x 9 5 ((Zn order.length)::(Zn i0)::(AV.bool (decide (((i0:Nat):Int)<((order.length:Nat):Int))))::bf::(Zn order.length)::(Zi 0)::rx x 20 17 []))):List AV).getD k_ AV.undef) hh aA ay o! l! bh Se ff o!)
   have nJ:Has h h4:=aie
   have u6:=dZ 3 false true i0 1 o!
   exact cA.round (congrArg Sum.inl (by simp only[cT,cond_true,cond_false])) (pk (d+4) _ _ hh _ h4 (VV (bO 3 false false .i64 ((i0:Nat):Int) ((order.length:Nat):Int))<|BC q1<|VV K5<|CC<|LL nX<|VV u6<|CC<|ZZ) k!) o! _ k! (fun x=>uK ao bf aj NX order ab a_ bb cf fq hH ly mw l8 mO ct tA NG0 Ny cS (i0+1) ((cm order ab order.length 0 fN aW).1) ((cm order ab order.length 0 fN aW).2) zo5 o! x h4 nW nJ o! l! afb afc ff o!)
def aF (ab:List Task) (order:List Int) (aj:List Bool):List Int:=((cT order ab order.length 0 ([]) (cg aj)).1)
theorem tU {d:Nat} {h:aw} {ao bf:AV} (ab:List Task) (order:List Int) (aj:List Bool) (aP:Nat) (placedN:Nat) (Ef:Bool) (lD:aM h ao ab) (cQ:bS h .i64 3 bf order) (bQ:h.get aP=some (aH.cells (bs aj) 4 false)) (qn:aj.length=placedN) (aif:aP<h.nx) (nE:∀i,i<ab.length→∀q,q<(ab.g i).ax.length→0≤(ab.g i).ax.g q∧(ab.g i).ax.g q<(ab.length:Int)) (qI:∀q,q<order.length→0≤order.g q∧order.g q<(ab.length:Int)) (yS:aj.length=ab.length) (Ar:ab.length≤100000) (DJ:order.length≤100000) (ct:Tidy h):∃z hk,cU (d+5) (.fn 51) [ao,bf,(AV.slice aP 0 placedN placedN Ef)] h= .ret z hk∧bp h hk∧bS hk .i64 3 z (aF ab order aj)∧gK 3 h hk z (zs .i64 (aF ab order aj)):=by
 have Jf:=lD.small
 have mI:=cQ.small
 obtain ⟨qb1,_,NX,h3,akE,dt,X5,rfl,akF⟩:=Qi (d:=d+3) aj aP placedN Ef bQ l! o! mc ct
 have l9:=dt.y
 have tz:h.nx≤h3.nx:=dt.n
 have iy:Has h h3:=dt.a
 have al2:=l9 _ _ X5
 have akG:(cg aj).length=List.length aj:=rfl
 have Eg:cc (some (.slice 3)) (some bf)=some (Zn order.length):=cQ.len
 obtain ⟨zo7,yl5,h6,v3,kM,abS,X6,akH,akI,Qo,afd⟩:=cA.n rfl (uK (d:=d) (h:=h) (gg0:=h3) ao bf aj NX order ab qb1 lD cQ (by assumption) (by assumption) o! o! o! (by assumption) ct o! o! o! order.length 0 ([]) (cg aj) AV.aD o! (fun k_=>((ao::bf::(AV.slice aP 0 placedN placedN Ef)::AV.undef::AV.undef::AV.undef::AV.aD::(AV.slice qb1 0 ((cg aj).length) ((cg aj).length) NX)::AV.aD::AV.undef::AV.undef::(AV.slice aP 0 placedN placedN Ef)::(AV.slice qb1 0 ((cg aj).length) ((cg aj).length) NX)::bf::(Zn order.length)::(Zi 0)::lk 21):List AV).getD k_ AV.undef) h3 l9 iy o! l! X5 (.inl ⟨rfl,rfl⟩) (Nat.zero_le _) o!)
 have jA:Has h h6:=X6
 have e:aF ab order aj=((cT order ab order.length 0 ([]) (cg aj)).1):=by simp only[aF,cond_true,cond_false]
 rw[e]
 have oz:=gK.le (h0:=h) Qo o!
 exact ⟨zo7,eu rfl (aZ Tryz.func51 K_ rfl (.inr rfl) (pk (d+4) _ _ h _ h6 (CN 2<|EE akE<|CN 3<|VV Eg<|CC<|LL v3<|CN 2<|ZZ) k!) k!) ct ⟨kM,jA,by omega⟩ (P:=fun hh=>bS hh .i64 3 zo7 ((cT order ab order.length 0 ([]) (cg aj)).1)∧gK 3 h hh zo7 (zs .i64 ((cT order ab order.length 0 ([]) (cg aj)).1))) ⟨oz.zs o! k! k!,oz⟩ fun v=>⟨oz.W8 v k! k!,oz.Xa v⟩⟩
end Go.Proofs.aJ
