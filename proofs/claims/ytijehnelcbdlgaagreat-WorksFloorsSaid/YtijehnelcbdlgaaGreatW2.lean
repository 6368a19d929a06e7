import Derived.Test.YtijehnelcbdlgaaGreatW0
import Derived.Test.YtijehnelcbdlgaaGreatW1
namespace Go.Proofs.aE
open Go.Proofs Ab
noncomputable section
set_option maxRecDepth 100000
set_option maxHeartbeats 4000000
set_option linter.unusedVariables false
set_option linter.unusedSimpArgs false
def na:Code:=(Tryz.f70.body).getD .skip
theorem g9:Tryz.f70.body=some na:=by kernel_rfl
def uI:Code:=(bz na).getD 0 .skip
def bX (x_:aZ):Nat→Nat→Option (Int)
 | 0,_=>none
 | c7+1,i0=>(bif (!(dD (x_.off.g i0).bt)) then some 1 else (bif (!(dD (x_.off.g i0).aP)) then some 1 else (bif (decide ((x_.off.g i0).aP<((x_.off.g i0).bt))) then some 1 else (bif (decide (0<((i0:Nat):Int))) then (bif (decide ((x_.off.g i0).bt≤((x_.off.g (i0 - 1)).aP))) then some 1 else bX x_ c7 (i0+1)) else bX x_ c7 (i0+1)))))
theorem g_ {d:Nat} {h:ak} (x_:aZ) (bh:Nat) (aO:x_.name.length<2^60) (bL:aH h x_.cE x_.off) (gS:aB.ok h x_):∀(k_ i_:Nat) (_:i_+k_=x_.off.length) (x:Nat→AV) (hh:ak) (az:Tidy hh) (aw:Has h hh) (aM:hh.get bh=some (aK.cells [(AV.str x_.name),(Zi x_.aC),x_.cE] 45 false)),aA (cA (d+1)) uI ⟨((x 0)::(Pt bh)::(x 2)::(Zn i_)::rx x 4 58 []),hh,[],.no⟩ (.exit 0) hh (fun y=>((y 0)::(Pt bh)::rx y 2 60 [])) (fun r y=>((y 0)::(Pt bh)::(Zi r)::rx y 3 59 [])) (bX x_ k_ i_)
 | 0,i0,fK,x,hh,az,aw,aM=>by
   have eD:=bL.small
   have jh:=az _ _ aM
   have dx:bJ (some (.slice 52)) (some x_.cE)=some (Zn x_.off.length):=(bL.has aw).len
   have q2:(decide (((i0:Nat):Int)<((x_.off.length:Nat):Int)))=false:=d!
   exact aA.out rfl (pk (d+1) _ _ hh _ hh (CN 2<|MM (ao 43 2 x_.cE aM k!)<|VV dx<|VV (aQ 3 false false .i64 ((i0:Nat):Int) ((x_.off.length:Nat):Int))<|BB q2<|ZZ) k!) (bC.refl az) k!
 | c7+1,i0,fK,x,hh,az,aw,aM=>by
   have eD:=bL.small
   have jh:=az _ _ aM
   have dx:bJ (some (.slice 52)) (some x_.cE)=some (Zn x_.off.length):=(bL.has aw).len
   have q2:(decide (((i0:Nat):Int)<((x_.off.length:Nat):Int)))=true:=d!
   obtain ⟨p4,q5,jW⟩:=(bL.has aw).elem (i:=i0) o!
   have kV:b_ env (some (.slice 52)) (some x_.cE) (some (Zn i0))=some (AV.ptr p4 q5):=jW
   have lX:bm env hh 52 (AV.ptr p4 q5)=some (AV.agg [(Zi (x_.off.g i0).bt),(Zi (x_.off.g i0).aP)]):=(bL.has aw).load o! jW
   obtain ⟨h7,ss,eP,xq,gT,jt⟩:=ik az (aK.cells [(Zi 0),(Zi 0)] 52 false)
   have er:Has hh h7:=jt
   obtain ⟨h8,uJ,kh,RR,cY,hF⟩:=nJ (t:=52) (n:=2) (i:=hh.nx) (L:=[(Zi (x_.off.g i0).bt),(Zi (x_.off.g i0).aP)]) eP gT k! rfl rfl (by simp only[AV.cells,List.all_cons,List.all_nil,Bool.and_true,Bool.and_self,fp,dV,fq,ft,db,iF,iG,iH,iI,iJ,fu])
   have iR:Has hh h8:=Has.cI er hF az o!
   have k9:=yV (d:=d) (x_.off.g i0).bt kh
   rcases Bool.eq_false_or_eq_true (!(dD (x_.off.g i0).bt)) with f1 | f1
   · exact aA.ret 1 (by simp only[bX,f1,aj,af]) (pk (d+1) _ _ hh _ h8 (CN 2<|MM (ao 43 2 x_.cE aM k!)<|VV dx<|VV (aQ 3 false false .i64 ((i0:Nat):Int) ((x_.off.length:Nat):Int))<|BC q2<|MM (ao 43 2 x_.cE aM k!)<|CC<|VV kV<|MM lX<|NN ss (fun i=>(Pt i))<|SS uJ<|CC<|MM (ao 3 0 (Zi (x_.off.g i0).bt) cY k!)<|EE k9<|CN 2<|BB f1<|BB f1<|BB f1<|BV f1 (qI true f1)<|CC<|TT<|TT<|TT<|TT<|TT<|CN 2<|TT<|TT<|TT<|TT<|CC<|HH (ao 3 0 (Zi (x_.off.g i0).bt) cY k!)<|HH (show AV.same 20 (Zi (x_.off.g i0).bt) (Zi (x_.off.g i0).bt)=true from aJ 19 _ _)<|TT<|CC<|ZZ) k!) (⟨kh,iR,by omega⟩) k!
   · have Ix:=yV (d:=d) (x_.off.g i0).aP kh
     rcases Bool.eq_false_or_eq_true (!(dD (x_.off.g i0).aP)) with f2 | f2
     · exact aA.ret 1 (by simp only[bX,f1,f2,aj,af]) (pk (d+1) _ _ hh _ h8 (CN 2<|MM (ao 43 2 x_.cE aM k!)<|VV dx<|VV (aQ 3 false false .i64 ((i0:Nat):Int) ((x_.off.length:Nat):Int))<|BC q2<|MM (ao 43 2 x_.cE aM k!)<|CC<|VV kV<|MM lX<|NN ss (fun i=>(Pt i))<|SS uJ<|CC<|MM (ao 3 0 (Zi (x_.off.g i0).bt) cY k!)<|EE k9<|CN 2<|BC f1<|BM f1 (ao 3 1 (Zi (x_.off.g i0).aP) cY k!)<|BB f1<|EE Ix<|BC f1<|VV (bf (a:=some (AV.bool true)) (b:=some (AV.bool (!(dD (x_.off.g i0).aP)))) f1)<|CC<|BB f2<|BB f2<|BB f2<|BB f2<|BV f2 (qI true f2)<|CC<|TT<|TT<|TT<|TT<|CC<|HH (ao 3 0 (Zi (x_.off.g i0).bt) cY k!)<|HH (show AV.same 20 (Zi (x_.off.g i0).bt) (Zi (x_.off.g i0).bt)=true from aJ 19 _ _)<|HH (ao 3 1 (Zi (x_.off.g i0).aP) cY k!)<|HH (show AV.same 20 (Zi (x_.off.g i0).aP) (Zi (x_.off.g i0).aP)=true from aJ 19 _ _)<|TT<|CC<|ZZ) k!) (⟨kh,iR,by omega⟩) k!
     · rcases Bool.eq_false_or_eq_true (decide ((x_.off.g i0).aP<((x_.off.g i0).bt))) with f3 | f3
       · have mu:=of_decide_eq_true f3
         exact aA.ret 1 (by simp only[bX,f1,f2,f3,aj,af]) (pk (d+1) _ _ hh _ h8 (CN 2<|MM (ao 43 2 x_.cE aM k!)<|VV dx<|VV (aQ 3 false false .i64 ((i0:Nat):Int) ((x_.off.length:Nat):Int))<|BC q2<|MM (ao 43 2 x_.cE aM k!)<|CC<|VV kV<|MM lX<|NN ss (fun i=>(Pt i))<|SS uJ<|CC<|MM (ao 3 0 (Zi (x_.off.g i0).bt) cY k!)<|EE k9<|CN 2<|BC f1<|BM f1 (ao 3 1 (Zi (x_.off.g i0).aP) cY k!)<|BB f1<|EE Ix<|BC f1<|VV (bf (a:=some (AV.bool true)) (b:=some (AV.bool (!(dD (x_.off.g i0).aP)))) f1)<|CC<|BC f2<|BM f2 (ao 3 0 (Zi (x_.off.g i0).bt) cY k!)<|BC f2<|BM f2 (ao 3 1 (Zi (x_.off.g i0).aP) cY k!)<|BV f2 (bK 3 false false .i64 (x_.off.g i0).bt (x_.off.g i0).aP)<|VV (bf (a:=some (AV.bool true)) (b:=some (AV.bool (decide ((x_.off.g i0).aP<((x_.off.g i0).bt))))) f2)<|CC<|BB f3<|BB f3<|BB f3<|BV f3 (qI true f3)<|HH (ao 3 0 (Zi (x_.off.g i0).bt) cY k!)<|HH (show AV.same 20 (Zi (x_.off.g i0).bt) (Zi (x_.off.g i0).bt)=true from aJ 19 _ _)<|HH (ao 3 1 (Zi (x_.off.g i0).aP) cY k!)<|HH (show AV.same 20 (Zi (x_.off.g i0).aP) (Zi (x_.off.g i0).aP)=true from aJ 19 _ _)<|HH (ao 3 0 (Zi (x_.off.g i0).bt) cY k!)<|HH (show AV.same 20 (Zi (x_.off.g i0).bt) (Zi (x_.off.g i0).bt)=true from aJ 19 _ _)<|HH (ao 3 1 (Zi (x_.off.g i0).aP) cY k!)<|HH (show AV.same 20 (Zi (x_.off.g i0).aP) (Zi (x_.off.g i0).aP)=true from aJ 19 _ _)<|TT<|CC<|ZZ) k!) (⟨kh,iR,by omega⟩) k!
       · have mu:=of_decide_eq_false f3
         rcases Bool.eq_false_or_eq_true (decide (0<((i0:Nat):Int))) with f4 | f4
         · have tj:=of_decide_eq_true f4
           have T':=RB 3 false true i0 1 o! o!
           obtain ⟨p17,q18,IK⟩:=(bL.has aw).elem (i:=(i0 - 1)) o!
           have RS:b_ env (some (.slice 52)) (some x_.cE) (some (Zn (i0 - 1)))=some (AV.ptr p17 q18):=IK
           have F3:bm env h8 3 (AV.ptr p17 (q18+1))=some (Zi (x_.off.g (i0 - 1)).aP):=((bL.has aw).has iR).part (t:=3) (j:=1) o! IK k! rfl
           have PH:AV.same 20 x_.cE x_.cE=true:=(bL.has aw).same 19
           rcases Bool.eq_false_or_eq_true (decide ((x_.off.g i0).bt≤((x_.off.g (i0 - 1)).aP))) with f5 | f5
           · have RP:=of_decide_eq_true f5
             exact aA.ret 1 (by simp only[bX,f1,f2,f3,f4,f5,aj,af]) (pk (d+1) _ _ hh _ h8 (CN 2<|MM (ao 43 2 x_.cE aM k!)<|VV dx<|VV (aQ 3 false false .i64 ((i0:Nat):Int) ((x_.off.length:Nat):Int))<|BC q2<|MM (ao 43 2 x_.cE aM k!)<|CC<|VV kV<|MM lX<|NN ss (fun i=>(Pt i))<|SS uJ<|CC<|MM (ao 3 0 (Zi (x_.off.g i0).bt) cY k!)<|EE k9<|CN 2<|BC f1<|BM f1 (ao 3 1 (Zi (x_.off.g i0).aP) cY k!)<|BB f1<|EE Ix<|BC f1<|VV (bf (a:=some (AV.bool true)) (b:=some (AV.bool (!(dD (x_.off.g i0).aP)))) f1)<|CC<|BC f2<|BM f2 (ao 3 0 (Zi (x_.off.g i0).bt) cY k!)<|BC f2<|BM f2 (ao 3 1 (Zi (x_.off.g i0).aP) cY k!)<|BV f2 (bK 3 false false .i64 (x_.off.g i0).bt (x_.off.g i0).aP)<|VV (bf (a:=some (AV.bool true)) (b:=some (AV.bool (decide ((x_.off.g i0).aP<((x_.off.g i0).bt))))) f2)<|CC<|BC f3<|BV f3 (bK 3 false true .i64 ((i0:Nat):Int) 0)<|BC f3<|BC f4<|BM f4 (ao 3 0 (Zi (x_.off.g i0).bt) cY k!)<|BC f4<|BM f4 (ao 43 2 x_.cE (hF _ _ o! (jt _ _ aM)) k!)<|BC f4<|BV f4 T'<|BV f4 RS<|BC f4<|BM f4 F3<|BV f4 (kI 3 false false .i64 (x_.off.g i0).bt (x_.off.g (i0 - 1)).aP)<|BV f3 (nK (decide ((x_.off.g i0).bt≤((x_.off.g (i0 - 1)).aP))) false f4)<|VV (bf (a:=some (AV.bool true)) (b:=some (AV.bool (decide ((x_.off.g i0).bt≤((x_.off.g (i0 - 1)).aP))))) f3)<|HH (ao 3 0 (Zi (x_.off.g i0).bt) cY k!)<|HH (show AV.same 20 (Zi (x_.off.g i0).bt) (Zi (x_.off.g i0).bt)=true from aJ 19 _ _)<|HH (ao 3 1 (Zi (x_.off.g i0).aP) cY k!)<|HH (show AV.same 20 (Zi (x_.off.g i0).aP) (Zi (x_.off.g i0).aP)=true from aJ 19 _ _)<|HH (ao 3 0 (Zi (x_.off.g i0).bt) cY k!)<|HH (show AV.same 20 (Zi (x_.off.g i0).bt) (Zi (x_.off.g i0).bt)=true from aJ 19 _ _)<|HH (ao 3 1 (Zi (x_.off.g i0).aP) cY k!)<|HH (show AV.same 20 (Zi (x_.off.g i0).aP) (Zi (x_.off.g i0).aP)=true from aJ 19 _ _)<|HH (ao 3 0 (Zi (x_.off.g i0).bt) cY k!)<|HH (show AV.same 20 (Zi (x_.off.g i0).bt) (Zi (x_.off.g i0).bt)=true from aJ 19 _ _)<|HH (ao 43 2 x_.cE (hF _ _ o! (jt _ _ aM)) k!)<|HH PH<|HH F3<|HH (show AV.same 20 (Zi (x_.off.g (i0 - 1)).aP) (Zi (x_.off.g (i0 - 1)).aP)=true from aJ 19 _ _)<|BC f5<|ZZ) k!) (⟨kh,iR,by omega⟩) k!
           · have RP:=of_decide_eq_false f5
             have u22:=ew 3 false true i0 1 o!
             exact aA.round (by simp only[bX,f1,f2,f3,f4,f5,aj,af]) (pk (d+1) _ _ hh _ h8 (CN 2<|MM (ao 43 2 x_.cE aM k!)<|VV dx<|VV (aQ 3 false false .i64 ((i0:Nat):Int) ((x_.off.length:Nat):Int))<|BC q2<|MM (ao 43 2 x_.cE aM k!)<|CC<|VV kV<|MM lX<|NN ss (fun i=>(Pt i))<|SS uJ<|CC<|MM (ao 3 0 (Zi (x_.off.g i0).bt) cY k!)<|EE k9<|CN 2<|BC f1<|BM f1 (ao 3 1 (Zi (x_.off.g i0).aP) cY k!)<|BB f1<|EE Ix<|BC f1<|VV (bf (a:=some (AV.bool true)) (b:=some (AV.bool (!(dD (x_.off.g i0).aP)))) f1)<|CC<|BC f2<|BM f2 (ao 3 0 (Zi (x_.off.g i0).bt) cY k!)<|BC f2<|BM f2 (ao 3 1 (Zi (x_.off.g i0).aP) cY k!)<|BV f2 (bK 3 false false .i64 (x_.off.g i0).bt (x_.off.g i0).aP)<|VV (bf (a:=some (AV.bool true)) (b:=some (AV.bool (decide ((x_.off.g i0).aP<((x_.off.g i0).bt))))) f2)<|CC<|BC f3<|BV f3 (bK 3 false true .i64 ((i0:Nat):Int) 0)<|BC f3<|BC f4<|BM f4 (ao 3 0 (Zi (x_.off.g i0).bt) cY k!)<|BC f4<|BM f4 (ao 43 2 x_.cE (hF _ _ o! (jt _ _ aM)) k!)<|BC f4<|BV f4 T'<|BV f4 RS<|BC f4<|BM f4 F3<|BV f4 (kI 3 false false .i64 (x_.off.g i0).bt (x_.off.g (i0 - 1)).aP)<|BV f3 (nK (decide ((x_.off.g i0).bt≤((x_.off.g (i0 - 1)).aP))) false f4)<|VV (bf (a:=some (AV.bool true)) (b:=some (AV.bool (decide ((x_.off.g i0).bt≤((x_.off.g (i0 - 1)).aP))))) f3)<|HH (ao 3 0 (Zi (x_.off.g i0).bt) cY k!)<|HH (show AV.same 20 (Zi (x_.off.g i0).bt) (Zi (x_.off.g i0).bt)=true from aJ 19 _ _)<|HH (ao 3 1 (Zi (x_.off.g i0).aP) cY k!)<|HH (show AV.same 20 (Zi (x_.off.g i0).aP) (Zi (x_.off.g i0).aP)=true from aJ 19 _ _)<|HH (ao 3 0 (Zi (x_.off.g i0).bt) cY k!)<|HH (show AV.same 20 (Zi (x_.off.g i0).bt) (Zi (x_.off.g i0).bt)=true from aJ 19 _ _)<|HH (ao 3 1 (Zi (x_.off.g i0).aP) cY k!)<|HH (show AV.same 20 (Zi (x_.off.g i0).aP) (Zi (x_.off.g i0).aP)=true from aJ 19 _ _)<|HH (ao 3 0 (Zi (x_.off.g i0).bt) cY k!)<|HH (show AV.same 20 (Zi (x_.off.g i0).bt) (Zi (x_.off.g i0).bt)=true from aJ 19 _ _)<|HH (ao 43 2 x_.cE (hF _ _ o! (jt _ _ aM)) k!)<|HH PH<|HH F3<|HH (show AV.same 20 (Zi (x_.off.g (i0 - 1)).aP) (Zi (x_.off.g (i0 - 1)).aP)=true from aJ 19 _ _)<|BC f5<|VV u22<|CC<|ZZ) k!) (⟨kh,iR,by omega⟩) _ k! (fun x=>g_ x_ bh aO bL gS c7 (i0+1) o! x h8 kh (aw.trans iR) (hF _ _ o! (jt _ _ aM)))
         · have tj:=of_decide_eq_false f4
           have T':=ew 3 false true i0 1 o!
           exact aA.round (by simp only[bX,f1,f2,f3,f4,aj,af]) (pk (d+1) _ _ hh _ h8 (CN 2<|MM (ao 43 2 x_.cE aM k!)<|VV dx<|VV (aQ 3 false false .i64 ((i0:Nat):Int) ((x_.off.length:Nat):Int))<|BC q2<|MM (ao 43 2 x_.cE aM k!)<|CC<|VV kV<|MM lX<|NN ss (fun i=>(Pt i))<|SS uJ<|CC<|MM (ao 3 0 (Zi (x_.off.g i0).bt) cY k!)<|EE k9<|CN 2<|BC f1<|BM f1 (ao 3 1 (Zi (x_.off.g i0).aP) cY k!)<|BB f1<|EE Ix<|BC f1<|VV (bf (a:=some (AV.bool true)) (b:=some (AV.bool (!(dD (x_.off.g i0).aP)))) f1)<|CC<|BC f2<|BM f2 (ao 3 0 (Zi (x_.off.g i0).bt) cY k!)<|BC f2<|BM f2 (ao 3 1 (Zi (x_.off.g i0).aP) cY k!)<|BV f2 (bK 3 false false .i64 (x_.off.g i0).bt (x_.off.g i0).aP)<|VV (bf (a:=some (AV.bool true)) (b:=some (AV.bool (decide ((x_.off.g i0).aP<((x_.off.g i0).bt))))) f2)<|CC<|BC f3<|BV f3 (bK 3 false true .i64 ((i0:Nat):Int) 0)<|BC f3<|BB f4<|BB f4<|BB f4<|BB f4<|BB f4<|BB f4<|BB f4<|BB f4<|BB f4<|BB f4<|BV f3 (vK false f4)<|VV (pcf true false f3)<|HH (ao 3 0 (Zi (x_.off.g i0).bt) cY k!)<|HH (show AV.same 20 (Zi (x_.off.g i0).bt) (Zi (x_.off.g i0).bt)=true from aJ 19 _ _)<|HH (ao 3 1 (Zi (x_.off.g i0).aP) cY k!)<|HH (show AV.same 20 (Zi (x_.off.g i0).aP) (Zi (x_.off.g i0).aP)=true from aJ 19 _ _)<|HH (ao 3 0 (Zi (x_.off.g i0).bt) cY k!)<|HH (show AV.same 20 (Zi (x_.off.g i0).bt) (Zi (x_.off.g i0).bt)=true from aJ 19 _ _)<|HH (ao 3 1 (Zi (x_.off.g i0).aP) cY k!)<|HH (show AV.same 20 (Zi (x_.off.g i0).aP) (Zi (x_.off.g i0).aP)=true from aJ 19 _ _)<|FF<|CC<|VV T'<|CC<|ZZ) k!) (⟨kh,iR,by omega⟩) _ k! (fun x=>g_ x_ bh aO bL gS c7 (i0+1) o! x h8 kh (aw.trans iR) (hF _ _ o! (jt _ _ aM)))
def bG (x_:aZ):Int:=(bif (decide (x_.aC<0)) then 1 else (bif (decide (1000<x_.aC)) then 1 else (bif (decide (16<((x_.off.length:Nat):Int))) then 3 else (match (bX x_ x_.off.length 0) with | none=>0 | some rr6=>rr6))))
theorem xr {d:Nat} {h:ak} (x_:aZ) (fP:aB.ok h x_) (bM:Tidy h):cA (d+2) (.fn 70) [(AV.agg [(AV.str x_.name),(Zi x_.aC),x_.cE])] h= .ret (Zi (bG x_)) h:=by
 have RU:=fP.2.small
 obtain ⟨h1,bD,cb,ib,aI,cf⟩:=ik bM (aK.cells [(AV.str x_.name),(Zi x_.aC),x_.cE] 45 false)
 have bx:Has h h1:=cf
 rcases Bool.eq_false_or_eq_true (decide (x_.aC<0)) with f0 | f0
 · have fw:=of_decide_eq_true f0
   have e:bG x_=1:=by simp only[bG,f0,aj,af]
   rw[e]
   exact ax rfl (aR Tryz.func70 g9 rfl (.inr rfl) (pk (d+1) _ _ h _ h1 (NN bD (fun i=>(Pt i))<|CN 2<|MM (ao 3 1 (Zi x_.aC) aI k!)<|VV (aQ 3 false true .i64 x_.aC 0)<|CC<|BB f0<|BB f0<|BV f0 (qI true f0)<|TT<|CC<|ZZ) k!) k!) bx rfl
 · have fw:=of_decide_eq_false f0
   rcases Bool.eq_false_or_eq_true (decide (1000<x_.aC)) with f1 | f1
   · have ea:=of_decide_eq_true f1
     have e:bG x_=1:=by simp only[bG,f0,f1,aj,af]
     rw[e]
     exact ax rfl (aR Tryz.func70 g9 rfl (.inr rfl) (pk (d+1) _ _ h _ h1 (NN bD (fun i=>(Pt i))<|CN 2<|MM (ao 3 1 (Zi x_.aC) aI k!)<|VV (aQ 3 false true .i64 x_.aC 0)<|CC<|BC f0<|BM f0 (ao 3 1 (Zi x_.aC) aI k!)<|BV f0 (bK 3 false true .i64 x_.aC 1000)<|VV (bf (a:=some (AV.bool true)) (b:=some (AV.bool (decide (1000<x_.aC)))) f0)<|BC f1<|ZZ) k!) k!) bx rfl
   · have ea:=of_decide_eq_false f1
     have JO:bJ (some (.slice 52)) (some x_.cE)=some (Zn x_.off.length):=fP.2.len
     rcases Bool.eq_false_or_eq_true (decide (16<((x_.off.length:Nat):Int))) with f2 | f2
     · have jX:=of_decide_eq_true f2
       have e:bG x_=3:=by simp only[bG,f0,f1,f2,aj,af]
       rw[e]
       exact ax rfl (aR Tryz.func70 g9 rfl (.inr rfl) (pk (d+1) _ _ h _ h1 (NN bD (fun i=>(Pt i))<|CN 2<|MM (ao 3 1 (Zi x_.aC) aI k!)<|VV (aQ 3 false true .i64 x_.aC 0)<|CC<|BC f0<|BM f0 (ao 3 1 (Zi x_.aC) aI k!)<|BV f0 (bK 3 false true .i64 x_.aC 1000)<|VV (bf (a:=some (AV.bool true)) (b:=some (AV.bool (decide (1000<x_.aC)))) f0)<|BC f1<|MM (ao 43 2 x_.cE aI k!)<|VV JO<|VV (bK 3 false true .i64 ((x_.off.length:Nat):Int) 16)<|BC f2<|ZZ) k!) k!) bx rfl
     · have jX:=of_decide_eq_false f2
       cases F4:bX x_ x_.off.length 0 with
       | none=>
         obtain ⟨yl6,h7,B4,pj⟩:=aA.n F4 (g_ (d:=d) (h:=h) x_ h.nx fP.1 fP.2 fP x_.off.length 0 o! (fun k_=>(((AV.agg [(AV.str x_.name),(Zi x_.aC),x_.cE])::(Pt h.nx)::(Zi 0)::(Zi 0)::AV.undef::(AV.ptr h.nx 1)::(Zi x_.aC)::(AV.bool (decide (x_.aC<0)))::(AV.bool (decide (x_.aC<0)))::(AV.ptr h.nx 1)::(Zi x_.aC)::(AV.bool (decide (1000<x_.aC)))::(AV.bool (decide (1000<x_.aC)))::(AV.ptr h.nx 2)::x_.cE::(Zn x_.off.length)::(AV.bool (decide (16<((x_.off.length:Nat):Int))))::gB 45):List AV).getD k_ AV.undef) h1 cb bx aI)
         have eP:=pj.y
         have VP:h1.nx≤h7.nx:=pj.n
         have er:Has h h7:=bx.trans pj.a
         have e:bG x_=0:=by simp only[bG,f0,f1,f2,F4,aj,af]
         rw[e]
         exact ax rfl (aR Tryz.func70 g9 rfl (.inr rfl) (pk (d+1) _ _ h _ h7 (NN bD (fun i=>(Pt i))<|CN 2<|MM (ao 3 1 (Zi x_.aC) aI k!)<|VV (aQ 3 false true .i64 x_.aC 0)<|CC<|BC f0<|BM f0 (ao 3 1 (Zi x_.aC) aI k!)<|BV f0 (bK 3 false true .i64 x_.aC 1000)<|VV (bf (a:=some (AV.bool true)) (b:=some (AV.bool (decide (1000<x_.aC)))) f0)<|BC f1<|MM (ao 43 2 x_.cE aI k!)<|VV JO<|VV (bK 3 false true .i64 ((x_.off.length:Nat):Int) 16)<|BC f2<|LL B4<|CC<|ZZ) k!) k!) er rfl
       | some rr6=>
         obtain ⟨yl6,h7,B4,pj⟩:=aA.r F4 (g_ (d:=d) (h:=h) x_ h.nx fP.1 fP.2 fP x_.off.length 0 o! (fun k_=>(((AV.agg [(AV.str x_.name),(Zi x_.aC),x_.cE])::(Pt h.nx)::(Zi 0)::(Zi 0)::AV.undef::(AV.ptr h.nx 1)::(Zi x_.aC)::(AV.bool (decide (x_.aC<0)))::(AV.bool (decide (x_.aC<0)))::(AV.ptr h.nx 1)::(Zi x_.aC)::(AV.bool (decide (1000<x_.aC)))::(AV.bool (decide (1000<x_.aC)))::(AV.ptr h.nx 2)::x_.cE::(Zn x_.off.length)::(AV.bool (decide (16<((x_.off.length:Nat):Int))))::gB 45):List AV).getD k_ AV.undef) h1 cb bx aI)
         have eP:=pj.y
         have VP:h1.nx≤h7.nx:=pj.n
         have er:Has h h7:=bx.trans pj.a
         have e:bG x_=rr6:=by simp only[bG,f0,f1,f2,F4,aj,af]
         rw[e]
         exact ax rfl (aR Tryz.func70 g9 rfl (.inr rfl) (pk (d+1) _ _ h _ h7 (NN bD (fun i=>(Pt i))<|CN 2<|MM (ao 3 1 (Zi x_.aC) aI k!)<|VV (aQ 3 false true .i64 x_.aC 0)<|CC<|BC f0<|BM f0 (ao 3 1 (Zi x_.aC) aI k!)<|BV f0 (bK 3 false true .i64 x_.aC 1000)<|VV (bf (a:=some (AV.bool true)) (b:=some (AV.bool (decide (1000<x_.aC)))) f0)<|BC f1<|MM (ao 43 2 x_.cE aI k!)<|VV JO<|VV (bK 3 false true .i64 ((x_.off.length:Nat):Int) 16)<|BC f2<|LL B4<|ZZ) k!) k!) er rfl
def iD:Code:=(Tryz.f71.body).getD .skip
theorem mS:Tryz.f71.body=some iD:=by kernel_rfl
def Av:Code:=(bz iD).getD 0 .skip
def Aw:Code:=(bz iD).getD 1 .skip
def Ax:Code:=(bz iD).getD 2 .skip
def Ay:Code:=(bz iD).getD 3 .skip
def dG (i0:Nat) (x_:Task):Nat→Nat→Option (Int)
 | 0,_=>none
 | n8+1,i1=>(bif (decide ((x_.aq.g i1)=(x_.aq.g i0))) then some 6 else dG i0 x_ n8 (i1+1))
theorem my {d:Nat} {h:ak} (i0:Nat) (j:cF) (x_:Task) (dL:Nat) (lG:Nat) (ct:aH h j.ah j.ab) (fO:aH h j.ag j.ae) (vM:x_.name.length<2^60) (yW:bW h .i64 3 x_.aG x_.aq) (Zh:aH h x_.bq x_.aF) (qv:aB.ok h j) (OJ:aB.ok h x_) (nR:i0<x_.aq.length):∀(k_ i_:Nat) (_:i_+k_=i0) (x:Nat→AV) (hh:ak) (az:Tidy hh) (aw:Has h hh) (ca:hh.get dL=some (aK.cells [j.ah,j.ag] 25 false)) (ju:hh.get lG=some (aK.cells [(AV.str x_.name),(Zi x_.aL),x_.aG,x_.bq] 48 false)),aA (cA (d+1)) Aw ⟨((x 0)::(x 1)::(Pt dL)::(Pt lG)::(x 4)::(Zn i0)::(Zn i_)::rx x 7 102 []),hh,[],.no⟩ (.exit 2) hh (fun y=>((y 0)::(y 1)::(Pt dL)::(Pt lG)::(y 4)::(Zn i0)::rx y 6 103 [])) (fun r y=>((y 0)::(y 1)::(Pt dL)::(Pt lG)::(Zi r)::(Zn i0)::rx y 6 103 [])) (dG i0 x_ k_ i_)
 | 0,i1,fK,x,hh,az,aw,ca,ju=>by
   have kK:=ct.small
   have jr:=fO.small
   have KP:=yW.small
   have Zj:=Zh.small
   have so:=az _ _ ca
   have OL:=az _ _ ju
   have q1:(decide (((i1:Nat):Int)<((i0:Nat):Int)))=false:=d!
   exact aA.out rfl (pk (d+1) _ _ hh _ hh (CN 2<|VV (aQ 3 false false .i64 ((i1:Nat):Int) ((i0:Nat):Int))<|BB q1<|ZZ) k!) (bC.refl az) k!
 | n8+1,i1,fK,x,hh,az,aw,ca,ju=>by
   have kK:=ct.small
   have jr:=fO.small
   have KP:=yW.small
   have Zj:=Zh.small
   have so:=az _ _ ca
   have OL:=az _ _ ju
   have q1:(decide (((i1:Nat):Int)<((i0:Nat):Int)))=true:=d!
   obtain ⟨p3,q4,eb,_⟩:=(yW.has aw).elem (i:=i1) o!
   have jE:b_ env (some (.slice 3)) (some x_.aG) (some (Zn i1))=some (AV.ptr p3 q4):=eb
   have jK:bm env hh 3 (AV.ptr p3 q4)=some (Zi (x_.aq.g i1)):=(yW.has aw).load o! eb
   obtain ⟨p7,q8,IL,_⟩:=(yW.has aw).elem (i:=i0) o!
   have MW:b_ env (some (.slice 3)) (some x_.aG) (some (Zn i0))=some (AV.ptr p7 q8):=IL
   have MX:bm env hh 3 (AV.ptr p7 q8)=some (Zi (x_.aq.g i0)):=(yW.has aw).load o! IL
   have JQ:AV.same 20 x_.aG x_.aG=true:=(yW.has aw).same 19
   rcases Bool.eq_false_or_eq_true (decide ((x_.aq.g i1)=(x_.aq.g i0))) with f1 | f1
   · have ea:=of_decide_eq_true f1
     exact aA.ret 6 (by simp only[dG,f1,aj,af]) (pk (d+1) _ _ hh _ hh (CN 2<|VV (aQ 3 false false .i64 ((i1:Nat):Int) ((i0:Nat):Int))<|BC q1<|MM (ao 26 2 x_.aG ju k!)<|CC<|VV jE<|MM jK<|CC<|MM (ao 26 2 x_.aG ju k!)<|CC<|VV MW<|MM MX<|VV (f_ 3 false false .i64 (x_.aq.g i1) (x_.aq.g i0))<|HH (ao 26 2 x_.aG ju k!)<|HH JQ<|HH jK<|HH (show AV.same 20 (Zi (x_.aq.g i1)) (Zi (x_.aq.g i1))=true from aJ 19 _ _)<|HH (ao 26 2 x_.aG ju k!)<|HH JQ<|HH MX<|HH (show AV.same 20 (Zi (x_.aq.g i0)) (Zi (x_.aq.g i0))=true from aJ 19 _ _)<|BC f1<|ZZ) k!) (bC.refl az) k!
   · have ea:=of_decide_eq_false f1
     have OI:=ew 3 false true i1 1 o!
     exact aA.round (by simp only[dG,f1,aj,af]) (pk (d+1) _ _ hh _ hh (CN 2<|VV (aQ 3 false false .i64 ((i1:Nat):Int) ((i0:Nat):Int))<|BC q1<|MM (ao 26 2 x_.aG ju k!)<|CC<|VV jE<|MM jK<|CC<|MM (ao 26 2 x_.aG ju k!)<|CC<|VV MW<|MM MX<|VV (f_ 3 false false .i64 (x_.aq.g i1) (x_.aq.g i0))<|HH (ao 26 2 x_.aG ju k!)<|HH JQ<|HH jK<|HH (show AV.same 20 (Zi (x_.aq.g i1)) (Zi (x_.aq.g i1))=true from aJ 19 _ _)<|HH (ao 26 2 x_.aG ju k!)<|HH JQ<|HH MX<|HH (show AV.same 20 (Zi (x_.aq.g i0)) (Zi (x_.aq.g i0))=true from aJ 19 _ _)<|BC f1<|VV OI<|CC<|ZZ) k!) (bC.refl az) _ k! (fun x=>my i0 j x_ dL lG ct fO vM yW Zh qv OJ nR n8 (i1+1) o! x hh az aw ca ju)
def cJ (x_:Task) (j:cF):Nat→Nat→Option (Int)
 | 0,_=>none
 | c7+1,i0=>(bif (decide ((x_.aq.g i0)<0)) then some 7 else (bif (decide (((j.ab.length:Nat):Int)≤(x_.aq.g i0))) then some 7 else (match (dG i0 x_ i0 0) with | none=>cJ x_ j c7 (i0+1) | some Zk=>some Zk)))
theorem mz {d:Nat} {h:ak} (x_:Task) (j:cF) (bh:Nat) (dg:Nat) (aO:aH h j.ah j.ab) (bL:aH h j.ag j.ae) (jY:x_.name.length<2^60) (tw:bW h .i64 3 x_.aG x_.aq) (RV:aH h x_.bq x_.aF) (gS:aB.ok h j) (OM:aB.ok h x_):∀(k_ i_:Nat) (_:i_+k_=x_.aq.length) (x:Nat→AV) (hh:ak) (az:Tidy hh) (aw:Has h hh) (aM:hh.get bh=some (aK.cells [j.ah,j.ag] 25 false)) (cS:hh.get dg=some (aK.cells [(AV.str x_.name),(Zi x_.aL),x_.aG,x_.bq] 48 false)),aA (cA (d+1)) Av ⟨((x 0)::(x 1)::(Pt bh)::(Pt dg)::(x 4)::(Zn i_)::rx x 6 103 []),hh,[],.no⟩ (.exit 0) hh (fun y=>((y 0)::(y 1)::(Pt bh)::(Pt dg)::rx y 4 105 [])) (fun r y=>((y 0)::(y 1)::(Pt bh)::(Pt dg)::(Zi r)::rx y 5 104 [])) (cJ x_ j k_ i_)
 | 0,i0,fK,x,hh,az,aw,aM,cS=>by
   have bY:=aO.small
   have eD:=bL.small
   have KQ:=tw.small
   have Zl:=RV.small
   have jh:=az _ _ aM
   have Az:=az _ _ cS
   have dx:bJ (some (.slice 3)) (some x_.aG)=some (Zn x_.aq.length):=(tw.has aw).len
   have q2:(decide (((i0:Nat):Int)<((x_.aq.length:Nat):Int)))=false:=d!
   exact aA.out rfl (pk (d+1) _ _ hh _ hh (CN 2<|MM (ao 26 2 x_.aG cS k!)<|VV dx<|VV (aQ 3 false false .i64 ((i0:Nat):Int) ((x_.aq.length:Nat):Int))<|BB q2<|ZZ) k!) (bC.refl az) k!
 | c7+1,i0,fK,x,hh,az,aw,aM,cS=>by
   have bY:=aO.small
   have eD:=bL.small
   have KQ:=tw.small
   have Zl:=RV.small
   have jh:=az _ _ aM
   have Az:=az _ _ cS
   have dx:bJ (some (.slice 3)) (some x_.aG)=some (Zn x_.aq.length):=(tw.has aw).len
   have q2:(decide (((i0:Nat):Int)<((x_.aq.length:Nat):Int)))=true:=d!
   obtain ⟨p4,q5,jW,_⟩:=(tw.has aw).elem (i:=i0) o!
   have kV:b_ env (some (.slice 3)) (some x_.aG) (some (Zn i0))=some (AV.ptr p4 q5):=jW
   have lX:bm env hh 3 (AV.ptr p4 q5)=some (Zi (x_.aq.g i0)):=(tw.has aw).load o! jW
   rcases Bool.eq_false_or_eq_true (decide ((x_.aq.g i0)<0)) with f1 | f1
   · have ea:=of_decide_eq_true f1
     have c8:AV.same 20 x_.aG x_.aG=true:=(tw.has aw).same 19
     exact aA.ret 7 (by simp only[cJ,f1,aj,af]) (pk (d+1) _ _ hh _ hh (CN 2<|MM (ao 26 2 x_.aG cS k!)<|VV dx<|VV (aQ 3 false false .i64 ((i0:Nat):Int) ((x_.aq.length:Nat):Int))<|BC q2<|MM (ao 26 2 x_.aG cS k!)<|CC<|VV kV<|MM lX<|VV (aQ 3 false true .i64 (x_.aq.g i0) 0)<|CC<|BB f1<|BB f1<|BB f1<|BB f1<|BB f1<|BB f1<|BB f1<|BB f1<|BV f1 (qI true f1)<|HH (ao 26 2 x_.aG cS k!)<|HH c8<|HH lX<|HH (show AV.same 20 (Zi (x_.aq.g i0)) (Zi (x_.aq.g i0))=true from aJ 19 _ _)<|TT<|CC<|ZZ) k!) (bC.refl az) k!
   · have ea:=of_decide_eq_false f1
     obtain ⟨p9,JM,xn,_⟩:=(tw.has aw).elem (i:=i0) o!
     have OF:b_ env (some (.slice 3)) (some x_.aG) (some (Zn i0))=some (AV.ptr p9 JM):=xn
     have uH:bm env hh 3 (AV.ptr p9 JM)=some (Zi (x_.aq.g i0)):=(tw.has aw).load o! xn
     have KL:bJ (some (.slice 48)) (some j.ah)=some (Zn j.ab.length):=(aO.has aw).len
     have IE:AV.same 20 x_.aG x_.aG=true:=(tw.has aw).same 19
     have RL:AV.same 20 j.ah j.ah=true:=(aO.has aw).same 19
     rcases Bool.eq_false_or_eq_true (decide (((j.ab.length:Nat):Int)≤(x_.aq.g i0))) with f2 | f2
     · have jX:=of_decide_eq_true f2
       exact aA.ret 7 (by simp only[cJ,f1,f2,aj,af]) (pk (d+1) _ _ hh _ hh (CN 2<|MM (ao 26 2 x_.aG cS k!)<|VV dx<|VV (aQ 3 false false .i64 ((i0:Nat):Int) ((x_.aq.length:Nat):Int))<|BC q2<|MM (ao 26 2 x_.aG cS k!)<|CC<|VV kV<|MM lX<|VV (aQ 3 false true .i64 (x_.aq.g i0) 0)<|CC<|BC f1<|BM f1 (ao 26 2 x_.aG cS k!)<|BC f1<|BV f1 OF<|BM f1 uH<|BC f1<|BM f1 (ao 22 0 j.ah aM k!)<|BV f1 KL<|BV f1 (jf 3 false false .i64 (x_.aq.g i0) ((j.ab.length:Nat):Int))<|VV (bf (a:=some (AV.bool true)) (b:=some (AV.bool (decide (((j.ab.length:Nat):Int)≤(x_.aq.g i0))))) f1)<|HH (ao 26 2 x_.aG cS k!)<|HH IE<|HH lX<|HH (show AV.same 20 (Zi (x_.aq.g i0)) (Zi (x_.aq.g i0))=true from aJ 19 _ _)<|HH (ao 26 2 x_.aG cS k!)<|HH IE<|HH uH<|HH (show AV.same 20 (Zi (x_.aq.g i0)) (Zi (x_.aq.g i0))=true from aJ 19 _ _)<|HH (ao 22 0 j.ah aM k!)<|HH RL<|BC f2<|ZZ) k!) (bC.refl az) k!
     · have jX:=of_decide_eq_false f2
       cases AX:dG i0 x_ i0 0 with
       | none=>
         obtain ⟨ad3,Ua,F5,xu⟩:=aA.n AX (my (d:=d) (h:=hh) i0 j x_ bh dg (aO.has aw) (bL.has aw) jY (tw.has aw) (RV.has aw) (aB.mono aw gS) (aB.mono aw OM) o! i0 0 o! (fun k_=>(((x 0)::(x 1)::(Pt bh)::(Pt dg)::(x 4)::(Zn i0)::(Zi 0)::rx x 7 7 ((Zn i0)::(AV.ptr dg 2)::x_.aG::(Zn x_.aq.length)::(AV.bool (decide (((i0:Nat):Int)<((x_.aq.length:Nat):Int))))::(x 19)::(x 20)::(AV.ptr dg 2)::x_.aG::(Zn i0)::(AV.ptr p4 q5)::(Zi (x_.aq.g i0))::(AV.bool (decide ((x_.aq.g i0)<0)))::(AV.bool (decide ((x_.aq.g i0)<0)))::(AV.ptr dg 2)::x_.aG::(Zn i0)::(AV.ptr p9 JM)::(Zi (x_.aq.g i0))::(Pt bh)::j.ah::(Zn j.ab.length)::(AV.bool (decide (((j.ab.length:Nat):Int)≤(x_.aq.g i0))))::(AV.bool (decide (((j.ab.length:Nat):Int)≤(x_.aq.g i0))))::rx x 38 71 [])):List AV).getD k_ AV.undef) hh az (Has.refl _) aM cS)
         have El:=xu.y
         have abH:hh.nx≤Ua.nx:=xu.n
         have Em:Has hh Ua:=xu.a
         have u18:=ew 3 false true i0 1 o!
         exact aA.round (by simp only[cJ,f1,f2,AX,aj,af]) (pk (d+1) _ _ hh _ Ua (CN 2<|MM (ao 26 2 x_.aG cS k!)<|VV dx<|VV (aQ 3 false false .i64 ((i0:Nat):Int) ((x_.aq.length:Nat):Int))<|BC q2<|MM (ao 26 2 x_.aG cS k!)<|CC<|VV kV<|MM lX<|VV (aQ 3 false true .i64 (x_.aq.g i0) 0)<|CC<|BC f1<|BM f1 (ao 26 2 x_.aG cS k!)<|BC f1<|BV f1 OF<|BM f1 uH<|BC f1<|BM f1 (ao 22 0 j.ah aM k!)<|BV f1 KL<|BV f1 (jf 3 false false .i64 (x_.aq.g i0) ((j.ab.length:Nat):Int))<|VV (bf (a:=some (AV.bool true)) (b:=some (AV.bool (decide (((j.ab.length:Nat):Int)≤(x_.aq.g i0))))) f1)<|HH (ao 26 2 x_.aG cS k!)<|HH IE<|HH lX<|HH (show AV.same 20 (Zi (x_.aq.g i0)) (Zi (x_.aq.g i0))=true from aJ 19 _ _)<|HH (ao 26 2 x_.aG cS k!)<|HH IE<|HH uH<|HH (show AV.same 20 (Zi (x_.aq.g i0)) (Zi (x_.aq.g i0))=true from aJ 19 _ _)<|HH (ao 22 0 j.ah aM k!)<|HH RL<|BC f2<|LL F5<|CC<|VV u18<|CC<|ZZ) k!) (⟨El,Em,by omega⟩) _ k! (fun x=>mz x_ j bh dg aO bL jY tw RV gS OM c7 (i0+1) o! x Ua El (aw.trans Em) (xu.a _ _ aM) (xu.a _ _ cS))
       | some Zk=>
         obtain ⟨ad3,Ua,F5,xu⟩:=aA.r AX (my (d:=d) (h:=hh) i0 j x_ bh dg (aO.has aw) (bL.has aw) jY (tw.has aw) (RV.has aw) (aB.mono aw gS) (aB.mono aw OM) o! i0 0 o! (fun k_=>(((x 0)::(x 1)::(Pt bh)::(Pt dg)::(x 4)::(Zn i0)::(Zi 0)::rx x 7 7 ((Zn i0)::(AV.ptr dg 2)::x_.aG::(Zn x_.aq.length)::(AV.bool (decide (((i0:Nat):Int)<((x_.aq.length:Nat):Int))))::(x 19)::(x 20)::(AV.ptr dg 2)::x_.aG::(Zn i0)::(AV.ptr p4 q5)::(Zi (x_.aq.g i0))::(AV.bool (decide ((x_.aq.g i0)<0)))::(AV.bool (decide ((x_.aq.g i0)<0)))::(AV.ptr dg 2)::x_.aG::(Zn i0)::(AV.ptr p9 JM)::(Zi (x_.aq.g i0))::(Pt bh)::j.ah::(Zn j.ab.length)::(AV.bool (decide (((j.ab.length:Nat):Int)≤(x_.aq.g i0))))::(AV.bool (decide (((j.ab.length:Nat):Int)≤(x_.aq.g i0))))::rx x 38 71 [])):List AV).getD k_ AV.undef) hh az (Has.refl _) aM cS)
         have El:=xu.y
         have abH:hh.nx≤Ua.nx:=xu.n
         have Em:Has hh Ua:=xu.a
         exact aA.ret Zk (by simp only[cJ,f1,f2,AX,aj,af]) (pk (d+1) _ _ hh _ Ua (CN 2<|MM (ao 26 2 x_.aG cS k!)<|VV dx<|VV (aQ 3 false false .i64 ((i0:Nat):Int) ((x_.aq.length:Nat):Int))<|BC q2<|MM (ao 26 2 x_.aG cS k!)<|CC<|VV kV<|MM lX<|VV (aQ 3 false true .i64 (x_.aq.g i0) 0)<|CC<|BC f1<|BM f1 (ao 26 2 x_.aG cS k!)<|BC f1<|BV f1 OF<|BM f1 uH<|BC f1<|BM f1 (ao 22 0 j.ah aM k!)<|BV f1 KL<|BV f1 (jf 3 false false .i64 (x_.aq.g i0) ((j.ab.length:Nat):Int))<|VV (bf (a:=some (AV.bool true)) (b:=some (AV.bool (decide (((j.ab.length:Nat):Int)≤(x_.aq.g i0))))) f1)<|HH (ao 26 2 x_.aG cS k!)<|HH IE<|HH lX<|HH (show AV.same 20 (Zi (x_.aq.g i0)) (Zi (x_.aq.g i0))=true from aJ 19 _ _)<|HH (ao 26 2 x_.aG cS k!)<|HH IE<|HH uH<|HH (show AV.same 20 (Zi (x_.aq.g i0)) (Zi (x_.aq.g i0))=true from aJ 19 _ _)<|HH (ao 22 0 j.ah aM k!)<|HH RL<|BC f2<|LL F5<|ZZ) k!) (⟨El,Em,by omega⟩) k!
def dH (i2:Nat) (x_:Task):Nat→Nat→Option (Int)
 | 0,_=>none
 | Zm+1,i3=>(bif (decide ((x_.aF.g i3).ai=((x_.aF.g i2).ai))) then some 6 else dH i2 x_ Zm (i3+1))
theorem mA {d:Nat} {h:ak} (i2:Nat) (j:cF) (x_:Task) (B6:Nat) (RW:Nat) (RX:Nat) (AB:aH h j.ah j.ab) (KR:aH h j.ag j.ae) (ad4:x_.name.length<2^60) (Zo:bW h .i64 3 x_.aG x_.aq) (ON:aH h x_.bq x_.aF) (Zp:aB.ok h j) (ad5:aB.ok h x_) (ad6:aB.ok h (x_.aF.g i2)) (RY:i2<x_.aF.length):∀(k_ i_:Nat) (_:i_+k_=i2) (x:Nat→AV) (hh:ak) (az:Tidy hh) (aw:Has h hh) (rq:hh.get B6=some (aK.cells [j.ah,j.ag] 25 false)) (F6:hh.get RW=some (aK.cells [(AV.str x_.name),(Zi x_.aL),x_.aG,x_.bq] 48 false)) (F7:hh.get RX=some (aK.cells [(Zi (x_.aF.g i2).ai),(Zi (x_.aF.g i2).aC)] 50 false)),aA (cA (d+1)) Ay ⟨((x 0)::(x 1)::(Pt B6)::(Pt RW)::rx x 4 3 ((Zn i2)::(Pt RX)::(Zn i_)::rx x 10 99 [])),hh,[],.no⟩ (.exit 6) hh (fun y=>((y 0)::(y 1)::(Pt B6)::(Pt RW)::rx y 4 3 ((Zn i2)::(Pt RX)::rx y 9 100 []))) (fun r y=>((y 0)::(y 1)::(Pt B6)::(Pt RW)::(Zi r)::(y 5)::(y 6)::(Zn i2)::(Pt RX)::rx y 9 100 [])) (dH i2 x_ k_ i_)
 | 0,i3,fK,x,hh,az,aw,rq,F6,F7=>by
   have KS:=AB.small
   have KT:=KR.small
   have Zq:=Zo.small
   have Zr:=ON.small
   have Zs:=az _ _ rq
   have ad7:=az _ _ F6
   have ad8:=az _ _ F7
   have q1:(decide (((i3:Nat):Int)<((i2:Nat):Int)))=false:=d!
   exact aA.out rfl (pk (d+1) _ _ hh _ hh (CN 2<|VV (aQ 3 false false .i64 ((i3:Nat):Int) ((i2:Nat):Int))<|BB q1<|ZZ) k!) (bC.refl az) k!
 | Zm+1,i3,fK,x,hh,az,aw,rq,F6,F7=>by
   have KS:=AB.small
   have KT:=KR.small
   have Zq:=Zo.small
   have Zr:=ON.small
   have Zs:=az _ _ rq
   have ad7:=az _ _ F6
   have ad8:=az _ _ F7
   have q1:(decide (((i3:Nat):Int)<((i2:Nat):Int)))=true:=d!
   obtain ⟨p3,q4,eb⟩:=(ON.has aw).elem (i:=i3) o!
   have jE:b_ env (some (.slice 50)) (some x_.bq) (some (Zn i3))=some (AV.ptr p3 q4):=eb
   have jK:bm env hh 3 (AV.ptr p3 (q4+0))=some (Zi (x_.aF.g i3).ai):=(ON.has aw).part (t:=3) (j:=0) o! eb k! rfl
   have c6:AV.same 20 x_.bq x_.bq=true:=(ON.has aw).same 19
   rcases Bool.eq_false_or_eq_true (decide ((x_.aF.g i3).ai=((x_.aF.g i2).ai))) with f1 | f1
   · have ea:=of_decide_eq_true f1
     exact aA.ret 6 (by simp only[dH,f1,aj,af]) (pk (d+1) _ _ hh _ hh (CN 2<|VV (aQ 3 false false .i64 ((i3:Nat):Int) ((i2:Nat):Int))<|BC q1<|MM (ao 46 3 x_.bq F6 k!)<|CC<|VV jE<|CC<|MM jK<|CC<|MM (ao 3 0 (Zi (x_.aF.g i2).ai) F7 k!)<|VV (f_ 3 false false .i64 (x_.aF.g i3).ai (x_.aF.g i2).ai)<|HH (ao 46 3 x_.bq F6 k!)<|HH c6<|HH jK<|HH (show AV.same 20 (Zi (x_.aF.g i3).ai) (Zi (x_.aF.g i3).ai)=true from aJ 19 _ _)<|HH (ao 3 0 (Zi (x_.aF.g i2).ai) F7 k!)<|HH (show AV.same 20 (Zi (x_.aF.g i2).ai) (Zi (x_.aF.g i2).ai)=true from aJ 19 _ _)<|BC f1<|ZZ) k!) (bC.refl az) k!
   · have ea:=of_decide_eq_false f1
     have u8:=ew 3 false true i3 1 o!
     exact aA.round (by simp only[dH,f1,aj,af]) (pk (d+1) _ _ hh _ hh (CN 2<|VV (aQ 3 false false .i64 ((i3:Nat):Int) ((i2:Nat):Int))<|BC q1<|MM (ao 46 3 x_.bq F6 k!)<|CC<|VV jE<|CC<|MM jK<|CC<|MM (ao 3 0 (Zi (x_.aF.g i2).ai) F7 k!)<|VV (f_ 3 false false .i64 (x_.aF.g i3).ai (x_.aF.g i2).ai)<|HH (ao 46 3 x_.bq F6 k!)<|HH c6<|HH jK<|HH (show AV.same 20 (Zi (x_.aF.g i3).ai) (Zi (x_.aF.g i3).ai)=true from aJ 19 _ _)<|HH (ao 3 0 (Zi (x_.aF.g i2).ai) F7 k!)<|HH (show AV.same 20 (Zi (x_.aF.g i2).ai) (Zi (x_.aF.g i2).ai)=true from aJ 19 _ _)<|BC f1<|VV u8<|CC<|ZZ) k!) (bC.refl az) _ k! (fun x=>mA i2 j x_ B6 RW RX AB KR ad4 Zo ON Zp ad5 ad6 RY Zm (i3+1) o! x hh az aw rq F6 F7)
def b5 (x_:Task) (j:cF):Nat→Nat→Option (Int)
 | 0,_=>none
 | RZ+1,i2=>(bif (decide ((x_.aF.g i2).ai<0)) then some 7 else (bif (decide (((j.ae.length:Nat):Int)≤((x_.aF.g i2).ai))) then some 7 else (match (dH i2 x_ i2 0) with | none=>(bif (decide ((x_.aF.g i2).aC<1)) then some 1 else (bif (decide (1000<((x_.aF.g i2).aC))) then some 1 else (bif (decide ((j.ae.g (x_.aF.g i2).ai.toNat).aC<((x_.aF.g i2).aC))) then some 9 else b5 x_ j RZ (i2+1)))) | some Zt=>some Zt)))
theorem mB {d:Nat} {h:ak} (x_:Task) (j:cF) (lH:Nat) (su:Nat) (mC:aH h j.ah j.ab) (oS:aH h j.ag j.ae) (Zu:x_.name.length<2^60) (R0:bW h .i64 3 x_.aG x_.aq) (B7:aH h x_.bq x_.aF) (Di:aB.ok h j) (Zv:aB.ok h x_):∀(k_ i_:Nat) (_:i_+k_=x_.aF.length) (x:Nat→AV) (hh:ak) (az:Tidy hh) (aw:Has h hh) (fU:hh.get lH=some (aK.cells [j.ah,j.ag] 25 false)) (mg:hh.get su=some (aK.cells [(AV.str x_.name),(Zi x_.aL),x_.aG,x_.bq] 48 false)),aA (cA (d+1)) Ax ⟨((x 0)::(x 1)::(Pt lH)::(Pt su)::rx x 4 3 ((Zn i_)::rx x 8 101 [])),hh,[],.no⟩ (.exit 4) hh (fun y=>((y 0)::(y 1)::(Pt lH)::(Pt su)::rx y 4 105 [])) (fun r y=>((y 0)::(y 1)::(Pt lH)::(Pt su)::(Zi r)::rx y 5 104 [])) (b5 x_ j k_ i_)
 | 0,i2,fK,x,hh,az,aw,fU,mg=>by
   have B8:=mC.small
   have B9:=oS.small
   have Zw:=R0.small
   have Zx:=B7.small
   have R1:=az _ _ fU
   have Zy:=az _ _ mg
   have dx:bJ (some (.slice 50)) (some x_.bq)=some (Zn x_.aF.length):=(B7.has aw).len
   have q2:(decide (((i2:Nat):Int)<((x_.aF.length:Nat):Int)))=false:=d!
   exact aA.out rfl (pk (d+1) _ _ hh _ hh (CN 2<|MM (ao 46 3 x_.bq mg k!)<|VV dx<|VV (aQ 3 false false .i64 ((i2:Nat):Int) ((x_.aF.length:Nat):Int))<|BB q2<|ZZ) k!) (bC.refl az) k!
 | RZ+1,i2,fK,x,hh,az,aw,fU,mg=>by
   have B8:=mC.small
   have B9:=oS.small
   have Zw:=R0.small
   have Zx:=B7.small
   have R1:=az _ _ fU
   have Zy:=az _ _ mg
   have dx:bJ (some (.slice 50)) (some x_.bq)=some (Zn x_.aF.length):=(B7.has aw).len
   have q2:(decide (((i2:Nat):Int)<((x_.aF.length:Nat):Int)))=true:=d!
   obtain ⟨p4,q5,jW⟩:=(B7.has aw).elem (i:=i2) o!
   have kV:b_ env (some (.slice 50)) (some x_.bq) (some (Zn i2))=some (AV.ptr p4 q5):=jW
   have lX:bm env hh 50 (AV.ptr p4 q5)=some (AV.agg [(Zi (x_.aF.g i2).ai),(Zi (x_.aF.g i2).aC)]):=(B7.has aw).load o! jW
   obtain ⟨h7,ss,eP,xq,gT,jt⟩:=ik az (aK.cells [(Zi 0),(Zi 0)] 50 false)
   have er:Has hh h7:=jt
   obtain ⟨h8,uJ,kh,RR,cY,hF⟩:=nJ (t:=50) (n:=2) (i:=hh.nx) (L:=[(Zi (x_.aF.g i2).ai),(Zi (x_.aF.g i2).aC)]) eP gT k! rfl rfl (by simp only[AV.cells,List.all_cons,List.all_nil,Bool.and_true,Bool.and_self,fp,dV,fq,ft,db,iF,iG,iH,iI,iJ,fu])
   have iR:Has hh h8:=Has.cI er hF az o!
   rcases Bool.eq_false_or_eq_true (decide ((x_.aF.g i2).ai<0)) with f1 | f1
   · have ea:=of_decide_eq_true f1
     exact aA.ret 7 (by simp only[b5,f1,aj,af]) (pk (d+1) _ _ hh _ h8 (CN 2<|MM (ao 46 3 x_.bq mg k!)<|VV dx<|VV (aQ 3 false false .i64 ((i2:Nat):Int) ((x_.aF.length:Nat):Int))<|BC q2<|MM (ao 46 3 x_.bq mg k!)<|CC<|VV kV<|MM lX<|NN ss (fun i=>(Pt i))<|SS uJ<|CC<|MM (ao 3 0 (Zi (x_.aF.g i2).ai) cY k!)<|VV (aQ 3 false true .i64 (x_.aF.g i2).ai 0)<|CC<|BB f1<|BB f1<|BB f1<|BB f1<|BB f1<|BV f1 (qI true f1)<|TT<|CC<|ZZ) k!) (⟨kh,iR,by omega⟩) k!
   · have ea:=of_decide_eq_false f1
     have pO:bJ (some (.slice 45)) (some j.ag)=some (Zn j.ae.length):=(oS.has aw).len
     rcases Bool.eq_false_or_eq_true (decide (((j.ae.length:Nat):Int)≤((x_.aF.g i2).ai))) with f2 | f2
     · have jX:=of_decide_eq_true f2
       exact aA.ret 7 (by simp only[b5,f1,f2,aj,af]) (pk (d+1) _ _ hh _ h8 (CN 2<|MM (ao 46 3 x_.bq mg k!)<|VV dx<|VV (aQ 3 false false .i64 ((i2:Nat):Int) ((x_.aF.length:Nat):Int))<|BC q2<|MM (ao 46 3 x_.bq mg k!)<|CC<|VV kV<|MM lX<|NN ss (fun i=>(Pt i))<|SS uJ<|CC<|MM (ao 3 0 (Zi (x_.aF.g i2).ai) cY k!)<|VV (aQ 3 false true .i64 (x_.aF.g i2).ai 0)<|CC<|BC f1<|BM f1 (ao 3 0 (Zi (x_.aF.g i2).ai) cY k!)<|BC f1<|BM f1 (ao 23 1 j.ag (hF _ _ o! (jt _ _ fU)) k!)<|BV f1 pO<|BV f1 (jf 3 false false .i64 (x_.aF.g i2).ai ((j.ae.length:Nat):Int))<|VV (bf (a:=some (AV.bool true)) (b:=some (AV.bool (decide (((j.ae.length:Nat):Int)≤((x_.aF.g i2).ai))))) f1)<|BC f2<|ZZ) k!) (⟨kh,iR,by omega⟩) k!
     · have jX:=of_decide_eq_false f2
       cases ru:dH i2 x_ i2 0 with
       | none=>
         obtain ⟨ad9,oT,uk,du⟩:=aA.n ru (mA (d:=d) (h:=hh) i2 j x_ lH su hh.nx (mC.has aw) (oS.has aw) Zu (R0.has aw) (B7.has aw) (aB.mono aw Di) (aB.mono aw Zv) ((B7.has aw).ok (i:=i2) o!) o! i2 0 o! (fun k_=>(((x 0)::(x 1)::(Pt lH)::(Pt su)::rx x 4 3 ((Zn i2)::(Pt hh.nx)::(Zi 0)::rx x 10 44 ((Zn i2)::(AV.ptr su 3)::x_.bq::(Zn x_.aF.length)::(AV.bool (decide (((i2:Nat):Int)<((x_.aF.length:Nat):Int))))::(x 59)::(x 60)::(AV.ptr su 3)::x_.bq::(Zn i2)::(AV.ptr p4 q5)::(AV.agg [(Zi (x_.aF.g i2).ai),(Zi (x_.aF.g i2).aC)])::(Pt hh.nx)::(Zi (x_.aF.g i2).ai)::(AV.bool (decide ((x_.aF.g i2).ai<0)))::(AV.bool (decide ((x_.aF.g i2).ai<0)))::(Pt hh.nx)::(Zi (x_.aF.g i2).ai)::(AV.ptr lH 1)::j.ag::(Zn j.ae.length)::(AV.bool (decide (((j.ae.length:Nat):Int)≤((x_.aF.g i2).ai))))::(AV.bool (decide (((j.ae.length:Nat):Int)≤((x_.aF.g i2).ai))))::rx x 77 32 []))):List AV).getD k_ AV.undef) h8 kh iR (hF _ _ o! (jt _ _ fU)) (hF _ _ o! (jt _ _ mg)) cY)
         have nf:=du.y
         have MY:h8.nx≤oT.nx:=du.n
         have lD:Has hh oT:=iR.trans du.a
         rcases Bool.eq_false_or_eq_true (decide ((x_.aF.g i2).aC<1)) with f4 | f4
         · have tj:=of_decide_eq_true f4
           exact aA.ret 1 (by simp only[b5,f1,f2,ru,f4,aj,af]) (pk (d+1) _ _ hh _ oT (CN 2<|MM (ao 46 3 x_.bq mg k!)<|VV dx<|VV (aQ 3 false false .i64 ((i2:Nat):Int) ((x_.aF.length:Nat):Int))<|BC q2<|MM (ao 46 3 x_.bq mg k!)<|CC<|VV kV<|MM lX<|NN ss (fun i=>(Pt i))<|SS uJ<|CC<|MM (ao 3 0 (Zi (x_.aF.g i2).ai) cY k!)<|VV (aQ 3 false true .i64 (x_.aF.g i2).ai 0)<|CC<|BC f1<|BM f1 (ao 3 0 (Zi (x_.aF.g i2).ai) cY k!)<|BC f1<|BM f1 (ao 23 1 j.ag (hF _ _ o! (jt _ _ fU)) k!)<|BV f1 pO<|BV f1 (jf 3 false false .i64 (x_.aF.g i2).ai ((j.ae.length:Nat):Int))<|VV (bf (a:=some (AV.bool true)) (b:=some (AV.bool (decide (((j.ae.length:Nat):Int)≤((x_.aF.g i2).ai))))) f1)<|BC f2<|LL uk<|CC<|MM (ao 3 1 (Zi (x_.aF.g i2).aC) (du.a _ _ cY) k!)<|VV (aQ 3 false true .i64 (x_.aF.g i2).aC 1)<|CC<|BB f4<|BB f4<|BV f4 (qI true f4)<|TT<|CC<|ZZ) k!) (⟨nf,lD,by omega⟩) k!
         · have tj:=of_decide_eq_false f4
           rcases Bool.eq_false_or_eq_true (decide (1000<((x_.aF.g i2).aC))) with f5 | f5
           · have RP:=of_decide_eq_true f5
             exact aA.ret 1 (by simp only[b5,f1,f2,ru,f4,f5,aj,af]) (pk (d+1) _ _ hh _ oT (CN 2<|MM (ao 46 3 x_.bq mg k!)<|VV dx<|VV (aQ 3 false false .i64 ((i2:Nat):Int) ((x_.aF.length:Nat):Int))<|BC q2<|MM (ao 46 3 x_.bq mg k!)<|CC<|VV kV<|MM lX<|NN ss (fun i=>(Pt i))<|SS uJ<|CC<|MM (ao 3 0 (Zi (x_.aF.g i2).ai) cY k!)<|VV (aQ 3 false true .i64 (x_.aF.g i2).ai 0)<|CC<|BC f1<|BM f1 (ao 3 0 (Zi (x_.aF.g i2).ai) cY k!)<|BC f1<|BM f1 (ao 23 1 j.ag (hF _ _ o! (jt _ _ fU)) k!)<|BV f1 pO<|BV f1 (jf 3 false false .i64 (x_.aF.g i2).ai ((j.ae.length:Nat):Int))<|VV (bf (a:=some (AV.bool true)) (b:=some (AV.bool (decide (((j.ae.length:Nat):Int)≤((x_.aF.g i2).ai))))) f1)<|BC f2<|LL uk<|CC<|MM (ao 3 1 (Zi (x_.aF.g i2).aC) (du.a _ _ cY) k!)<|VV (aQ 3 false true .i64 (x_.aF.g i2).aC 1)<|CC<|BC f4<|BM f4 (ao 3 1 (Zi (x_.aF.g i2).aC) (du.a _ _ cY) k!)<|BV f4 (bK 3 false true .i64 (x_.aF.g i2).aC 1000)<|VV (bf (a:=some (AV.bool true)) (b:=some (AV.bool (decide (1000<((x_.aF.g i2).aC))))) f4)<|BC f5<|ZZ) k!) (⟨nf,lD,by omega⟩) k!
           · have RP:=of_decide_eq_false f5
             obtain ⟨p17,q18,IK⟩:=(oS.has aw).elem (i:=((x_.aF.g i2).ai).toNat) o!
             have RS:b_ env (some (.slice 45)) (some j.ag) (some (Zi (x_.aF.g i2).ai))=some (AV.ptr p17 q18):=by rw[show (((x_.aF.g i2).ai):Int)=(((x_.aF.g i2).ai.toNat:Nat):Int) by omega];exact IK
             have F3:bm env oT 3 (AV.ptr p17 (q18+1))=some (Zi (j.ae.g (x_.aF.g i2).ai.toNat).aC):=((oS.has aw).has lD).part (t:=3) (j:=1) o! IK k! rfl
             have PH:AV.same 20 j.ag j.ag=true:=(oS.has aw).same 19
             rcases Bool.eq_false_or_eq_true (decide ((j.ae.g (x_.aF.g i2).ai.toNat).aC<((x_.aF.g i2).aC))) with f6 | f6
             · have aea:=of_decide_eq_true f6
               exact aA.ret 9 (by simp only[b5,f1,f2,ru,f4,f5,f6,aj,af]) (pk (d+1) _ _ hh _ oT (CN 2<|MM (ao 46 3 x_.bq mg k!)<|VV dx<|VV (aQ 3 false false .i64 ((i2:Nat):Int) ((x_.aF.length:Nat):Int))<|BC q2<|MM (ao 46 3 x_.bq mg k!)<|CC<|VV kV<|MM lX<|NN ss (fun i=>(Pt i))<|SS uJ<|CC<|MM (ao 3 0 (Zi (x_.aF.g i2).ai) cY k!)<|VV (aQ 3 false true .i64 (x_.aF.g i2).ai 0)<|CC<|BC f1<|BM f1 (ao 3 0 (Zi (x_.aF.g i2).ai) cY k!)<|BC f1<|BM f1 (ao 23 1 j.ag (hF _ _ o! (jt _ _ fU)) k!)<|BV f1 pO<|BV f1 (jf 3 false false .i64 (x_.aF.g i2).ai ((j.ae.length:Nat):Int))<|VV (bf (a:=some (AV.bool true)) (b:=some (AV.bool (decide (((j.ae.length:Nat):Int)≤((x_.aF.g i2).ai))))) f1)<|BC f2<|LL uk<|CC<|MM (ao 3 1 (Zi (x_.aF.g i2).aC) (du.a _ _ cY) k!)<|VV (aQ 3 false true .i64 (x_.aF.g i2).aC 1)<|CC<|BC f4<|BM f4 (ao 3 1 (Zi (x_.aF.g i2).aC) (du.a _ _ cY) k!)<|BV f4 (bK 3 false true .i64 (x_.aF.g i2).aC 1000)<|VV (bf (a:=some (AV.bool true)) (b:=some (AV.bool (decide (1000<((x_.aF.g i2).aC))))) f4)<|BC f5<|MM (ao 3 1 (Zi (x_.aF.g i2).aC) (du.a _ _ cY) k!)<|CC<|MM (ao 23 1 j.ag (du.a _ _ (hF _ _ o! (jt _ _ fU))) k!)<|CC<|MM (ao 3 0 (Zi (x_.aF.g i2).ai) (du.a _ _ cY) k!)<|VV RS<|CC<|MM F3<|VV (bK 3 false false .i64 (x_.aF.g i2).aC (j.ae.g (x_.aF.g i2).ai.toNat).aC)<|HH (ao 3 1 (Zi (x_.aF.g i2).aC) (du.a _ _ cY) k!)<|HH (show AV.same 20 (Zi (x_.aF.g i2).aC) (Zi (x_.aF.g i2).aC)=true from aJ 19 _ _)<|HH (ao 23 1 j.ag (du.a _ _ (hF _ _ o! (jt _ _ fU))) k!)<|HH PH<|HH (ao 3 0 (Zi (x_.aF.g i2).ai) (du.a _ _ cY) k!)<|HH (show AV.same 20 (Zi (x_.aF.g i2).ai) (Zi (x_.aF.g i2).ai)=true from aJ 19 _ _)<|HH F3<|HH (show AV.same 20 (Zi (j.ae.g (x_.aF.g i2).ai.toNat).aC) (Zi (j.ae.g (x_.aF.g i2).ai.toNat).aC)=true from aJ 19 _ _)<|BC f6<|ZZ) k!) (⟨nf,lD,by omega⟩) k!
             · have aea:=of_decide_eq_false f6
               have u22:=ew 3 false true i2 1 o!
               exact aA.round (by simp only[b5,f1,f2,ru,f4,f5,f6,aj,af]) (pk (d+1) _ _ hh _ oT (CN 2<|MM (ao 46 3 x_.bq mg k!)<|VV dx<|VV (aQ 3 false false .i64 ((i2:Nat):Int) ((x_.aF.length:Nat):Int))<|BC q2<|MM (ao 46 3 x_.bq mg k!)<|CC<|VV kV<|MM lX<|NN ss (fun i=>(Pt i))<|SS uJ<|CC<|MM (ao 3 0 (Zi (x_.aF.g i2).ai) cY k!)<|VV (aQ 3 false true .i64 (x_.aF.g i2).ai 0)<|CC<|BC f1<|BM f1 (ao 3 0 (Zi (x_.aF.g i2).ai) cY k!)<|BC f1<|BM f1 (ao 23 1 j.ag (hF _ _ o! (jt _ _ fU)) k!)<|BV f1 pO<|BV f1 (jf 3 false false .i64 (x_.aF.g i2).ai ((j.ae.length:Nat):Int))<|VV (bf (a:=some (AV.bool true)) (b:=some (AV.bool (decide (((j.ae.length:Nat):Int)≤((x_.aF.g i2).ai))))) f1)<|BC f2<|LL uk<|CC<|MM (ao 3 1 (Zi (x_.aF.g i2).aC) (du.a _ _ cY) k!)<|VV (aQ 3 false true .i64 (x_.aF.g i2).aC 1)<|CC<|BC f4<|BM f4 (ao 3 1 (Zi (x_.aF.g i2).aC) (du.a _ _ cY) k!)<|BV f4 (bK 3 false true .i64 (x_.aF.g i2).aC 1000)<|VV (bf (a:=some (AV.bool true)) (b:=some (AV.bool (decide (1000<((x_.aF.g i2).aC))))) f4)<|BC f5<|MM (ao 3 1 (Zi (x_.aF.g i2).aC) (du.a _ _ cY) k!)<|CC<|MM (ao 23 1 j.ag (du.a _ _ (hF _ _ o! (jt _ _ fU))) k!)<|CC<|MM (ao 3 0 (Zi (x_.aF.g i2).ai) (du.a _ _ cY) k!)<|VV RS<|CC<|MM F3<|VV (bK 3 false false .i64 (x_.aF.g i2).aC (j.ae.g (x_.aF.g i2).ai.toNat).aC)<|HH (ao 3 1 (Zi (x_.aF.g i2).aC) (du.a _ _ cY) k!)<|HH (show AV.same 20 (Zi (x_.aF.g i2).aC) (Zi (x_.aF.g i2).aC)=true from aJ 19 _ _)<|HH (ao 23 1 j.ag (du.a _ _ (hF _ _ o! (jt _ _ fU))) k!)<|HH PH<|HH (ao 3 0 (Zi (x_.aF.g i2).ai) (du.a _ _ cY) k!)<|HH (show AV.same 20 (Zi (x_.aF.g i2).ai) (Zi (x_.aF.g i2).ai)=true from aJ 19 _ _)<|HH F3<|HH (show AV.same 20 (Zi (j.ae.g (x_.aF.g i2).ai.toNat).aC) (Zi (j.ae.g (x_.aF.g i2).ai.toNat).aC)=true from aJ 19 _ _)<|BC f6<|VV u22<|CC<|ZZ) k!) (⟨nf,lD,by omega⟩) _ k! (fun x=>mB x_ j lH su mC oS Zu R0 B7 Di Zv RZ (i2+1) o! x oT nf (aw.trans lD) (du.a _ _ (hF _ _ o! (jt _ _ fU))) (du.a _ _ (hF _ _ o! (jt _ _ mg))))
       | some Zt=>
         obtain ⟨ad9,oT,uk,du⟩:=aA.r ru (mA (d:=d) (h:=hh) i2 j x_ lH su hh.nx (mC.has aw) (oS.has aw) Zu (R0.has aw) (B7.has aw) (aB.mono aw Di) (aB.mono aw Zv) ((B7.has aw).ok (i:=i2) o!) o! i2 0 o! (fun k_=>(((x 0)::(x 1)::(Pt lH)::(Pt su)::rx x 4 3 ((Zn i2)::(Pt hh.nx)::(Zi 0)::rx x 10 44 ((Zn i2)::(AV.ptr su 3)::x_.bq::(Zn x_.aF.length)::(AV.bool (decide (((i2:Nat):Int)<((x_.aF.length:Nat):Int))))::(x 59)::(x 60)::(AV.ptr su 3)::x_.bq::(Zn i2)::(AV.ptr p4 q5)::(AV.agg [(Zi (x_.aF.g i2).ai),(Zi (x_.aF.g i2).aC)])::(Pt hh.nx)::(Zi (x_.aF.g i2).ai)::(AV.bool (decide ((x_.aF.g i2).ai<0)))::(AV.bool (decide ((x_.aF.g i2).ai<0)))::(Pt hh.nx)::(Zi (x_.aF.g i2).ai)::(AV.ptr lH 1)::j.ag::(Zn j.ae.length)::(AV.bool (decide (((j.ae.length:Nat):Int)≤((x_.aF.g i2).ai))))::(AV.bool (decide (((j.ae.length:Nat):Int)≤((x_.aF.g i2).ai))))::rx x 77 32 []))):List AV).getD k_ AV.undef) h8 kh iR (hF _ _ o! (jt _ _ fU)) (hF _ _ o! (jt _ _ mg)) cY)
         have nf:=du.y
         have MY:h8.nx≤oT.nx:=du.n
         have lD:Has hh oT:=iR.trans du.a
         exact aA.ret Zt (by simp only[b5,f1,f2,ru,aj,af]) (pk (d+1) _ _ hh _ oT (CN 2<|MM (ao 46 3 x_.bq mg k!)<|VV dx<|VV (aQ 3 false false .i64 ((i2:Nat):Int) ((x_.aF.length:Nat):Int))<|BC q2<|MM (ao 46 3 x_.bq mg k!)<|CC<|VV kV<|MM lX<|NN ss (fun i=>(Pt i))<|SS uJ<|CC<|MM (ao 3 0 (Zi (x_.aF.g i2).ai) cY k!)<|VV (aQ 3 false true .i64 (x_.aF.g i2).ai 0)<|CC<|BC f1<|BM f1 (ao 3 0 (Zi (x_.aF.g i2).ai) cY k!)<|BC f1<|BM f1 (ao 23 1 j.ag (hF _ _ o! (jt _ _ fU)) k!)<|BV f1 pO<|BV f1 (jf 3 false false .i64 (x_.aF.g i2).ai ((j.ae.length:Nat):Int))<|VV (bf (a:=some (AV.bool true)) (b:=some (AV.bool (decide (((j.ae.length:Nat):Int)≤((x_.aF.g i2).ai))))) f1)<|BC f2<|LL uk<|ZZ) k!) (⟨nf,lD,by omega⟩) k!
def cn (j:cF) (x_:Task):Int:=(bif (!(dD x_.aL)) then 1 else (match (cJ x_ j x_.aq.length 0) with | none=>(match (b5 x_ j x_.aF.length 0) with | none=>0 | some rr7=>rr7) | some Zz=>Zz))
theorem Dj {d:Nat} {h:ak} (j:cF) (x_:Task) (bF:aB.ok h j) (fP:aB.ok h x_) (bM:Tidy h):cA (d+2) (.fn 71) [(AV.agg [j.ah,j.ag]),(AV.agg [(AV.str x_.name),(Zi x_.aL),x_.aG,x_.bq])] h= .ret (Zi (cn j x_)) h:=by
 have eS:=bF.1.small
 have eT:=bF.2.small
 have B_:=fP.2.2.small
 obtain ⟨h1,bD,cb,ib,aI,cf⟩:=ik bM (aK.cells [j.ah,j.ag] 25 false)
 have bx:Has h h1:=cf
 obtain ⟨h2,fA,eW,xw,bS,cx⟩:=ik cb (aK.cells [(AV.str x_.name),(Zi x_.aL),x_.aG,x_.bq] 48 false)
 have cD:Has h h2:=bx.trans cx
 have k3:=yV (d:=d) x_.aL eW
 rcases Bool.eq_false_or_eq_true (!(dD x_.aL)) with f0 | f0
 · have e:cn j x_=1:=by simp only[cn,f0,aj,af]
   rw[e]
   exact ax rfl (aR Tryz.func71 mS rfl (.inr rfl) (pk (d+1) _ _ h _ h2 (NN bD (fun i=>(Pt i))<|NN fA (fun i=>(Pt i))<|CN 2<|MM (ao 3 1 (Zi x_.aL) bS k!)<|EE k3<|CC<|BC f0<|ZZ) k!) k!) cD rfl
 · cases pQ:cJ x_ j x_.aq.length 0 with
   | none=>
     obtain ⟨OO,h6,nL,B'⟩:=aA.n pQ (mz (d:=d) (h:=h) x_ j h.nx h1.nx bF.1 bF.2 fP.1 fP.2.1 fP.2.2 bF fP x_.aq.length 0 o! (fun k_=>(((AV.agg [j.ah,j.ag])::(AV.agg [(AV.str x_.name),(Zi x_.aL),x_.aG,x_.bq])::(Pt h.nx)::(Pt h1.nx)::(Zi 0)::(Zi 0)::AV.undef::AV.undef::AV.undef::AV.undef::(AV.ptr h1.nx 1)::(Zi x_.aL)::(AV.bool (dD x_.aL))::(AV.bool (!(dD x_.aL)))::gB 95):List AV).getD k_ AV.undef) h2 eW cD (cx _ _ aI) bS)
     have mD:=B'.y
     have R2:h2.nx≤h6.nx:=B'.n
     have kW:Has h h6:=cD.trans B'.a
     cases F8:b5 x_ j x_.aF.length 0 with
     | none=>
       obtain ⟨KU,h8,vN,pR⟩:=aA.n F8 (mB (d:=d) (h:=h) x_ j h.nx h1.nx bF.1 bF.2 fP.1 fP.2.1 fP.2.2 bF fP x_.aF.length 0 o! (fun k_=>(((OO 0)::(OO 1)::(Pt h.nx)::(Pt h1.nx)::rx OO 4 3 ((Zi 0)::rx OO 8 101 [])):List AV).getD k_ AV.undef) h6 mD kW (B'.a _ _ (cx _ _ aI)) (B'.a _ _ bS))
       have kh:=pR.y
       have VS:h6.nx≤h8.nx:=pR.n
       have iR:Has h h8:=kW.trans pR.a
       have VT:Has h6 h8:=pR.a
       have e:cn j x_=0:=by simp only[cn,f0,pQ,F8,aj,af]
       rw[e]
       exact ax rfl (aR Tryz.func71 mS rfl (.inr rfl) (pk (d+1) _ _ h _ h8 (NN bD (fun i=>(Pt i))<|NN fA (fun i=>(Pt i))<|CN 2<|MM (ao 3 1 (Zi x_.aL) bS k!)<|EE k3<|CC<|BC f0<|LL nL<|CC<|LL vN<|CC<|ZZ) k!) k!) iR rfl
     | some rr7=>
       obtain ⟨KU,h8,vN,pR⟩:=aA.r F8 (mB (d:=d) (h:=h) x_ j h.nx h1.nx bF.1 bF.2 fP.1 fP.2.1 fP.2.2 bF fP x_.aF.length 0 o! (fun k_=>(((OO 0)::(OO 1)::(Pt h.nx)::(Pt h1.nx)::rx OO 4 3 ((Zi 0)::rx OO 8 101 [])):List AV).getD k_ AV.undef) h6 mD kW (B'.a _ _ (cx _ _ aI)) (B'.a _ _ bS))
       have kh:=pR.y
       have VS:h6.nx≤h8.nx:=pR.n
       have iR:Has h h8:=kW.trans pR.a
       have VT:Has h6 h8:=pR.a
       have e:cn j x_=rr7:=by simp only[cn,f0,pQ,F8,aj,af]
       rw[e]
       exact ax rfl (aR Tryz.func71 mS rfl (.inr rfl) (pk (d+1) _ _ h _ h8 (NN bD (fun i=>(Pt i))<|NN fA (fun i=>(Pt i))<|CN 2<|MM (ao 3 1 (Zi x_.aL) bS k!)<|EE k3<|CC<|BC f0<|LL nL<|CC<|LL vN<|ZZ) k!) k!) iR rfl
   | some Zz=>
     obtain ⟨OO,h6,nL,B'⟩:=aA.r pQ (mz (d:=d) (h:=h) x_ j h.nx h1.nx bF.1 bF.2 fP.1 fP.2.1 fP.2.2 bF fP x_.aq.length 0 o! (fun k_=>(((AV.agg [j.ah,j.ag])::(AV.agg [(AV.str x_.name),(Zi x_.aL),x_.aG,x_.bq])::(Pt h.nx)::(Pt h1.nx)::(Zi 0)::(Zi 0)::AV.undef::AV.undef::AV.undef::AV.undef::(AV.ptr h1.nx 1)::(Zi x_.aL)::(AV.bool (dD x_.aL))::(AV.bool (!(dD x_.aL)))::gB 95):List AV).getD k_ AV.undef) h2 eW cD (cx _ _ aI) bS)
     have mD:=B'.y
     have R2:h2.nx≤h6.nx:=B'.n
     have kW:Has h h6:=cD.trans B'.a
     have e:cn j x_=Zz:=by simp only[cn,f0,pQ,aj,af]
     rw[e]
     exact ax rfl (aR Tryz.func71 mS rfl (.inr rfl) (pk (d+1) _ _ h _ h6 (NN bD (fun i=>(Pt i))<|NN fA (fun i=>(Pt i))<|CN 2<|MM (ao 3 1 (Zi x_.aL) bS k!)<|EE k3<|CC<|BC f0<|LL nL<|ZZ) k!) k!) kW rfl
def xy:Code:=(Tryz.f88.body).getD .skip
theorem En:Tryz.f88.body=some xy:=by kernel_rfl
def IM:Code:=(bz xy).getD 0 .skip
def jZ (x_:Task) (bB:List Bool):Nat→Nat→Option (Bool)
 | 0,_=>none
 | c7+1,i0=>(bif (!(bB.g (x_.aq.g i0).toNat)) then some false else jZ x_ bB c7 (i0+1))
theorem rv {d:Nat} {h:ak} (kl:AV) (x_:Task) (bB:List Bool) (bh:Nat) (aO:rl h 4 kl bB) (bL:x_.name.length<2^60) (jY:bW h .i64 3 x_.aG x_.aq) (tw:aH h x_.bq x_.aF) (gS:aB.ok h x_) (gM:∀q,q<x_.aq.length→0≤x_.aq.g q∧x_.aq.g q<(bB.length:Int)):∀(k_ i_:Nat) (_:i_+k_=x_.aq.length) (x:Nat→AV) (hh:ak) (az:Tidy hh) (aw:Has h hh) (aM:hh.get bh=some (aK.cells [(AV.str x_.name),(Zi x_.aL),x_.aG,x_.bq] 48 false)),aA (cA (d)) IM ⟨((x 0)::kl::(Pt bh)::(x 3)::(x 4)::(Zn i_)::rx x 6 16 []),hh,[],.no⟩ (.exit 0) hh (fun y=>((y 0)::kl::(Pt bh)::rx y 3 19 [])) (fun r y=>((y 0)::kl::(Pt bh)::(y 3)::(AV.bool r)::rx y 5 17 [])) (jZ x_ bB k_ i_)
 | 0,i0,fK,x,hh,az,aw,aM=>by
   have bY:=aO.small
   have vO:=jY.small
   have KQ:=tw.small
   have jh:=az _ _ aM
   have dx:bJ (some (.slice 3)) (some x_.aG)=some (Zn x_.aq.length):=(jY.has aw).len
   have q2:(decide (((i0:Nat):Int)<((x_.aq.length:Nat):Int)))=false:=d!
   exact aA.out rfl (pk (d) _ _ hh _ hh (CN 2<|MM (ao 26 2 x_.aG aM k!)<|VV dx<|VV (aQ 3 false false .i64 ((i0:Nat):Int) ((x_.aq.length:Nat):Int))<|BB q2<|ZZ) k!) (bC.refl az) k!
 | c7+1,i0,fK,x,hh,az,aw,aM=>by
   have bY:=aO.small
   have vO:=jY.small
   have KQ:=tw.small
   have jh:=az _ _ aM
   obtain ⟨nd1,nd2⟩:=gM i0 o!
   have dx:bJ (some (.slice 3)) (some x_.aG)=some (Zn x_.aq.length):=(jY.has aw).len
   have q2:(decide (((i0:Nat):Int)<((x_.aq.length:Nat):Int)))=true:=d!
   obtain ⟨p4,q5,jW,_⟩:=(jY.has aw).elem (i:=i0) o!
   have kV:b_ env (some (.slice 3)) (some x_.aG) (some (Zn i0))=some (AV.ptr p4 q5):=jW
   have lX:bm env hh 3 (AV.ptr p4 q5)=some (Zi (x_.aq.g i0)):=(jY.has aw).load o! jW
   obtain ⟨p8,q9,tu,_⟩:=(aO.has aw).elem (i:=(x_.aq.g i0).toNat) o!
   have JP:b_ env (some (.slice 4)) (some kl) (some (Zi (x_.aq.g i0)))=some (AV.ptr p8 q9):=by rw[show ((x_.aq.g i0):Int)=(((x_.aq.g i0).toNat:Nat):Int) by omega];exact tu
   have sq:bm env hh 4 (AV.ptr p8 q9)=some (AV.bool (bB.g (x_.aq.g i0).toNat)):=(aO.has aw).load o! tu
   rcases Bool.eq_false_or_eq_true (!(bB.g (x_.aq.g i0).toNat)) with f1 | f1
   · exact aA.ret false (by simp only[jZ,f1,aj,af]) (pk (d) _ _ hh _ hh (CN 2<|MM (ao 26 2 x_.aG aM k!)<|VV dx<|VV (aQ 3 false false .i64 ((i0:Nat):Int) ((x_.aq.length:Nat):Int))<|BB q2<|CN 2<|MM (ao 26 2 x_.aG aM k!)<|CC<|VV kV<|MM lX<|VV JP<|MM sq<|CC<|BC f1<|ZZ) k!) (bC.refl az) k!
   · have OI:=ew 3 false true i0 1 o!
     exact aA.round (by simp only[jZ,f1,aj,af]) (pk (d) _ _ hh _ hh (CN 2<|MM (ao 26 2 x_.aG aM k!)<|VV dx<|VV (aQ 3 false false .i64 ((i0:Nat):Int) ((x_.aq.length:Nat):Int))<|BB q2<|CN 2<|MM (ao 26 2 x_.aG aM k!)<|CC<|VV kV<|MM lX<|VV JP<|MM sq<|CC<|BC f1<|VV OI<|CC<|ZZ) k!) (bC.refl az) _ k! (fun x=>rv kl x_ bB bh aO bL jY tw gS gM c7 (i0+1) o! x hh az aw aM)
def il (x_:Task) (bB:List Bool):Bool:=(match (jZ x_ bB x_.aq.length 0) with | none=>true | some uK=>uK)
theorem OP {d:Nat} {h:ak} {kl:AV} (x_:Task) (bB:List Bool) (fP:aB.ok h x_) (Ca:rl h 4 kl bB) (ly:∀q,q<x_.aq.length→0≤x_.aq.g q∧x_.aq.g q<(bB.length:Int)) (bM:Tidy h):cA (d+1) (.fn 88) [(AV.agg [(AV.str x_.name),(Zi x_.aL),x_.aG,x_.bq]),kl] h= .ret (AV.bool (il x_ bB)) h:=by
 have ZA:=Ca.small
 have B_:=fP.2.2.small
 obtain ⟨h1,bD,cb,ib,aI,cf⟩:=ik bM (aK.cells [(AV.str x_.name),(Zi x_.aL),x_.aG,x_.bq] 48 false)
 have bx:Has h h1:=cf
 cases dk:jZ x_ bB x_.aq.length 0 with
 | none=>
   obtain ⟨Eo,h3,cW,dE⟩:=aA.n dk (rv (d:=d) (h:=h) kl x_ bB h.nx Ca fP.1 fP.2.1 fP.2.2 fP ly x_.aq.length 0 o! (fun k_=>(((AV.agg [(AV.str x_.name),(Zi x_.aL),x_.aG,x_.bq])::kl::(Pt h.nx)::AV.undef::(AV.bool false)::(Zi 0)::gB 16):List AV).getD k_ AV.undef) h1 cb bx aI)
   have j0:=dE.y
   have oU:h1.nx≤h3.nx:=dE.n
   have fB:Has h h3:=bx.trans dE.a
   have e:il x_ bB=true:=by simp only[il,dk,aj,af]
   rw[e]
   exact ax rfl (aR Tryz.func88 En rfl (.inr rfl) (pk (d) _ _ h _ h3 (NN bD (fun i=>(Pt i))<|CN 2<|LL cW<|CC<|ZZ) k!) k!) fB rfl
 | some uK=>
   obtain ⟨Eo,h3,cW,dE⟩:=aA.r dk (rv (d:=d) (h:=h) kl x_ bB h.nx Ca fP.1 fP.2.1 fP.2.2 fP ly x_.aq.length 0 o! (fun k_=>(((AV.agg [(AV.str x_.name),(Zi x_.aL),x_.aG,x_.bq])::kl::(Pt h.nx)::AV.undef::(AV.bool false)::(Zi 0)::gB 16):List AV).getD k_ AV.undef) h1 cb bx aI)
   have j0:=dE.y
   have oU:h1.nx≤h3.nx:=dE.n
   have fB:Has h h3:=bx.trans dE.a
   have e:il x_ bB=uK:=by simp only[il,dk,aj,af]
   rw[e]
   exact ax rfl (aR Tryz.func88 En rfl (.inr rfl) (pk (d) _ _ h _ h3 (NN bD (fun i=>(Pt i))<|CN 2<|LL cW<|ZZ) k!) k!) fB rfl
def nF:List Bool→Nat
 | []=>0
 | b::l=>(bif b then 0 else 1)+nF l
theorem vP:∀n,nF (List.replicate n false)=n
 | 0=>rfl
 | n+1=>by rw[List.replicate_succ,nF,vP n];simp;omega
theorem F9:∀{l:List Bool} {n:Nat},n<l.length→l.g n=false→nF (l.set n true)+1=nF l
 | b::l,0,_,e=>by
   have e:b=false:=e
   subst e
   simp only[List.set_cons_zero,nF,aj,af];omega
 | b::l,n+1,h,e=>by
   have q:=F9 (l:=l) (n:=n) (by simpa using h) e
   simp only[List.set_cons_succ,nF];omega
theorem R3 {l:List Bool} {n:Int} (h0:0≤n) (h1:n<l.length) (h2:l.g (Int.toNat n)=false):nF (l.set (Int.toNat n) true)+1=nF l:=F9 o! h2
end
end Go.Proofs.aE
