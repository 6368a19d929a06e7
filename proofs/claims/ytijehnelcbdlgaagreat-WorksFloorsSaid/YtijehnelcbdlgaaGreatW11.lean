import Derived.Test.YtijehnelcbdlgaaGreatW0
import Derived.Test.YtijehnelcbdlgaaGreatW4
import Derived.Test.YtijehnelcbdlgaaGreatW6
import Derived.Test.YtijehnelcbdlgaaGreatW8
import Derived.Test.YtijehnelcbdlgaaGreatW1
import Derived.Test.YtijehnelcbdlgaaGreatW10
import Derived.Test.YtijehnelcbdlgaaGreatW9
namespace Go.Proofs.aE
open Go.Proofs Ab
noncomputable section
set_option maxRecDepth 100000
set_option maxHeartbeats 4000000
set_option linter.unusedVariables false
set_option linter.unusedSimpArgs false
def o_:Code:=(Tryz.f31.body).getD .skip
theorem sf:Tryz.f31.body=some o_:=by kernel_rfl
def x9:Code:=(bz o_).getD 0 .skip
def cX (j:cF) (chain:List Int):Nat→Nat→Int→(Int)⊕(Bool)
 | 0,_,AL=>Sum.inl AL
 | c7+1,i0,AL=>(bif (!(fQ (chain.g i0) ((j.ab.length:Nat):Int))) then Sum.inr false else (bif (decide (0<((i0:Nat):Int))) then (bif (!(aY (j.ab.g (chain.g i0).toNat).aq (chain.g (i0 - 1)))) then Sum.inr false else cX j chain c7 (i0+1) (IntKind.i64.wrap (AL+((j.ab.g (chain.g i0).toNat).aL)))) else cX j chain c7 (i0+1) (IntKind.i64.wrap (AL+((j.ab.g (chain.g i0).toNat).aL)))))
theorem iX {d:Nat} {h:ak} (aS:AV) (ay:Int) (chain:List Int) (j:cF) (bh:Nat) (aO:bW h .i64 3 aS chain) (bL:aH h j.ah j.ab) (jY:aH h j.ag j.ae) (gS:aB.ok h j) (bM:Tidy h) (pT:h.nx≤bh):∀(k_ i_:Nat) (AL:Int) (_:i_+k_=chain.length) (x:Nat→AV) (hh:ak) (az:Tidy hh) (aw:Has h hh) (gv:h.nx≤hh.nx) (aM:hh.get bh=some (aK.cells [j.ah,j.ag] 25 false)),bI (σ:=Int) (ρ:=Bool) (cA (d+2)) x9 ⟨((x 0)::aS::(Zi ay)::(Pt bh)::rx x 4 3 ((Zi AL)::(x 8)::(x 9)::aS::(Zn chain.length)::(Zn i_)::rx x 13 41 [])),hh,[],.no⟩ (.exit 0) hh (fun r z y=>((y 0)::aS::(Zi ay)::(Pt bh)::rx y 4 3 ((Zi r)::(y 8)::(y 9)::aS::(Zn chain.length)::rx y 12 42 []))) (fun r z y=>((y 0)::aS::(Zi ay)::(Pt bh)::(y 4)::(y 5)::(AV.bool r)::rx y 7 3 (aS::(Zn chain.length)::rx y 12 42 []))) (fun r z hk=>Has h hk∧hk.get bh=some (aK.cells [j.ah,j.ag] 25 false)) (fun r z hk=>Has h hk) (cX j chain k_ i_ AL)
 | 0,i0,AL,fK,x,hh,az,aw,gv,aM=>by
   have bY:=aO.small
   have eD:=bL.small
   have vO:=jY.small
   have jh:=az _ _ aM
   have q1:(decide (((i0:Nat):Int)<((chain.length:Nat):Int)))=false:=d!
   exact bI.out AL AV.undef rfl (pk (d+2) _ _ hh _ hh (VV (aQ 3 false false .i64 ((i0:Nat):Int) ((chain.length:Nat):Int))<|BB q1<|ZZ) k!) az o! ⟨aw,aM⟩ k!
 | c7+1,i0,AL,fK,x,hh,az,aw,gv,aM=>by
   have bY:=aO.small
   have eD:=bL.small
   have vO:=jY.small
   have jh:=az _ _ aM
   have q1:(decide (((i0:Nat):Int)<((chain.length:Nat):Int)))=true:=d!
   obtain ⟨p3,q4,eb,_⟩:=aO.elem (i:=i0) o!
   have jE:b_ env (some (.slice 3)) (some aS) (some (Zn i0))=some (AV.ptr p3 q4):=eb
   have jK:bm env hh 3 (AV.ptr p3 q4)=some (Zi (chain.g i0)):=(aO.has aw).load o! eb
   have AW:bJ (some (.slice 48)) (some j.ah)=some (Zn j.ab.length):=bL.len
   have k7:=xE (d:=d+1) (chain.g i0) ((j.ab.length:Nat):Int) az
   rcases Bool.eq_false_or_eq_true (!(fQ (chain.g i0) ((j.ab.length:Nat):Int))) with f1 | f1
   · have c9:AV.same 20 j.ah j.ah=true:=bL.same 19
     exact bI.ret false AV.undef (by simp only[cX,f1,aj,af]) (pk (d+2) _ _ hh _ hh (VV (aQ 3 false false .i64 ((i0:Nat):Int) ((chain.length:Nat):Int))<|BC q1<|VV jE<|MM jK<|CN 4<|MM (ao 22 0 j.ah aM k!)<|VV AW<|EE k7<|CN 2<|BB f1<|BB f1<|BB f1<|BV f1 (qI true f1)<|HH (ao 22 0 j.ah aM k!)<|HH c9<|TT<|CC<|ZZ) k!) az o! aw k!
   · have aaB:(fQ (chain.g i0) ((j.ab.length:Nat):Int))=true:=d!
     have adr:=qy aaB
     rcases Bool.eq_false_or_eq_true (decide (0<((i0:Nat):Int))) with f2 | f2
     · have jX:=of_decide_eq_true f2
       obtain ⟨Sa,K4,tD⟩:=bL.elem (i:=(chain.g i0).toNat) o!
       have Dq:b_ env (some (.slice 48)) (some j.ah) (some (Zi (chain.g i0)))=some (AV.ptr Sa K4):=by rw[show ((chain.g i0):Int)=(((chain.g i0).toNat:Nat):Int) by omega];exact tD
       have uL:bm env hh 26 (AV.ptr Sa (K4+2))=some ((j.ab.g (chain.g i0).toNat).aG):=(bL.has aw).part (t:=26) (j:=2) o! tD k! rfl
       have Ub:=RB 3 false true i0 1 o! o!
       obtain ⟨p16,q17,X3,_⟩:=aO.elem (i:=(i0 - 1)) o!
       have acY:b_ env (some (.slice 3)) (some aS) (some (Zn (i0 - 1)))=some (AV.ptr p16 q17):=X3
       have WB:bm env hh 3 (AV.ptr p16 q17)=some (Zi (chain.g (i0 - 1))):=(aO.has aw).load o! X3
       have k19:=mV (d:=d) (j.ab.g (chain.g i0).toNat).aq (chain.g (i0 - 1)) ((bL.ok (i:=(chain.g i0).toNat) o!).2.1.has aw) az
       have PH:AV.same 20 j.ah j.ah=true:=bL.same 19
       have c21:AV.same 20 (j.ab.g (chain.g i0).toNat).aG (j.ab.g (chain.g i0).toNat).aG=true:=((bL.ok (i:=(chain.g i0).toNat) o!).2.1).same 19
       rcases Bool.eq_false_or_eq_true (!(aY (j.ab.g (chain.g i0).toNat).aq (chain.g (i0 - 1)))) with f3 | f3
       · exact bI.ret false AV.undef (by simp only[cX,f1,f2,f3,aj,af]) (pk (d+2) _ _ hh _ hh (VV (aQ 3 false false .i64 ((i0:Nat):Int) ((chain.length:Nat):Int))<|BC q1<|VV jE<|MM jK<|CN 4<|MM (ao 22 0 j.ah aM k!)<|VV AW<|EE k7<|CN 2<|BC f1<|BV f1 (bK 3 false true .i64 ((i0:Nat):Int) 0)<|BC f1<|BC f2<|BM f2 (ao 22 0 j.ah aM k!)<|BC f2<|BV f2 Dq<|BC f2<|BM f2 uL<|BC f2<|BC f2<|BV f2 Ub<|BV f2 acY<|BM f2 WB<|BB f2<|EE k19<|BC f2<|BV f1 (nK (!(aY (j.ab.g (chain.g i0).toNat).aq (chain.g (i0 - 1)))) false f2)<|VV (bf (a:=some (AV.bool true)) (b:=some (AV.bool (!(aY (j.ab.g (chain.g i0).toNat).aq (chain.g (i0 - 1)))))) f1)<|HH (ao 22 0 j.ah aM k!)<|HH PH<|HH (ao 22 0 j.ah aM k!)<|HH PH<|HH uL<|HH c21<|HH WB<|HH (show AV.same 20 (Zi (chain.g (i0 - 1))) (Zi (chain.g (i0 - 1)))=true from aJ 19 _ _)<|BC f3<|ZZ) k!) az o! aw k!
       · obtain ⟨p24,q25,X4⟩:=bL.elem (i:=(chain.g i0).toNat) o!
         have ae3:b_ env (some (.slice 48)) (some j.ah) (some (Zi (chain.g i0)))=some (AV.ptr p24 q25):=by rw[show ((chain.g i0):Int)=(((chain.g i0).toNat:Nat):Int) by omega];exact X4
         have ae4:bm env hh 3 (AV.ptr p24 (q25+1))=some (Zi (j.ab.g (chain.g i0).toNat).aL):=(bL.has aw).part (t:=3) (j:=1) o! X4 k! rfl
         have u27:=ew 3 false true i0 1 o!
         exact bI.round (by simp only[cX,f1,f2,f3,aj,af]) (pk (d+2) _ _ hh _ hh (VV (aQ 3 false false .i64 ((i0:Nat):Int) ((chain.length:Nat):Int))<|BC q1<|VV jE<|MM jK<|CN 4<|MM (ao 22 0 j.ah aM k!)<|VV AW<|EE k7<|CN 2<|BC f1<|BV f1 (bK 3 false true .i64 ((i0:Nat):Int) 0)<|BC f1<|BC f2<|BM f2 (ao 22 0 j.ah aM k!)<|BC f2<|BV f2 Dq<|BC f2<|BM f2 uL<|BC f2<|BC f2<|BV f2 Ub<|BV f2 acY<|BM f2 WB<|BB f2<|EE k19<|BC f2<|BV f1 (nK (!(aY (j.ab.g (chain.g i0).toNat).aq (chain.g (i0 - 1)))) false f2)<|VV (bf (a:=some (AV.bool true)) (b:=some (AV.bool (!(aY (j.ab.g (chain.g i0).toNat).aq (chain.g (i0 - 1)))))) f1)<|HH (ao 22 0 j.ah aM k!)<|HH PH<|HH (ao 22 0 j.ah aM k!)<|HH PH<|HH uL<|HH c21<|HH WB<|HH (show AV.same 20 (Zi (chain.g (i0 - 1))) (Zi (chain.g (i0 - 1)))=true from aJ 19 _ _)<|BB f3<|CN 2<|MM (ao 22 0 j.ah aM k!)<|CC<|VV ae3<|CC<|MM ae4<|CN 2<|VV u27<|CC<|ZZ) k!) o! _ k! (fun x=>iX aS ay chain j bh aO bL jY gS bM pT c7 (i0+1) (IntKind.i64.wrap (AL+((j.ab.g (chain.g i0).toNat).aL))) o! x hh az aw o! aM)
     · have jX:=of_decide_eq_false f2
       have JQ:AV.same 20 j.ah j.ah=true:=bL.same 19
       obtain ⟨IV,IW,ni⟩:=bL.elem (i:=(chain.g i0).toNat) o!
       have vQ:b_ env (some (.slice 48)) (some j.ah) (some (Zi (chain.g i0)))=some (AV.ptr IV IW):=by rw[show ((chain.g i0):Int)=(((chain.g i0).toNat:Nat):Int) by omega];exact ni
       have rC:bm env hh 3 (AV.ptr IV (IW+1))=some (Zi (j.ab.g (chain.g i0).toNat).aL):=(bL.has aw).part (t:=3) (j:=1) o! ni k! rfl
       have T':=ew 3 false true i0 1 o!
       exact bI.round (by simp only[cX,f1,f2,aj,af]) (pk (d+2) _ _ hh _ hh (VV (aQ 3 false false .i64 ((i0:Nat):Int) ((chain.length:Nat):Int))<|BC q1<|VV jE<|MM jK<|CN 4<|MM (ao 22 0 j.ah aM k!)<|VV AW<|EE k7<|CN 2<|BC f1<|BV f1 (bK 3 false true .i64 ((i0:Nat):Int) 0)<|BC f1<|BB f2<|BB f2<|BB f2<|BB f2<|BB f2<|BB f2<|BB f2<|BB f2<|BB f2<|BB f2<|BB f2<|BB f2<|BB f2<|BV f1 (vK false f2)<|VV (pcf true false f1)<|HH (ao 22 0 j.ah aM k!)<|HH JQ<|FF<|CN 2<|MM (ao 22 0 j.ah aM k!)<|CC<|VV vQ<|CC<|MM rC<|CN 2<|VV T'<|CC<|ZZ) k!) o! _ k! (fun x=>iX aS ay chain j bh aO bL jY gS bM pT c7 (i0+1) (IntKind.i64.wrap (AL+((j.ab.g (chain.g i0).toNat).aL))) o! x hh az aw o! aM)
def gr (j:cF) (chain:List Int) (ay:Int):Bool:=(match (cX j chain chain.length 0 0) with | Sum.inl rv3=>(decide (ay≤rv3)) | Sum.inr rr3=>rr3)
theorem AM {d:Nat} {h:ak} {aS:AV} (j:cF) (chain:List Int) (ay:Int) (bF:aB.ok h j) (mW:bW h .i64 3 aS chain) (bM:Tidy h):cA (d+3) (.fn 31) [(AV.agg [j.ah,j.ag]),aS,(Zi ay)] h= .ret (AV.bool (gr j chain ay)) h:=by
 have O6:=mW.small
 have eS:=bF.1.small
 have eT:=bF.2.small
 obtain ⟨h1,bD,cb,ib,aI,cf⟩:=ik bM (aK.cells [j.ah,j.ag] 25 false)
 have bx:Has h h1:=cf
 have pB:bJ (some (.slice 3)) (some aS)=some (Zn chain.length):=mW.len
 cases GX:cX j chain chain.length 0 0 with
 | inl rv3=>
   obtain ⟨zo5,VU,h4,gI,nh,Dk,sc,zh⟩:=bI.n GX (iX (d:=d) (h:=h) aS ay chain j h.nx mW bF.1 bF.2 bF bM o! chain.length 0 0 o! (fun k_=>(((AV.agg [j.ah,j.ag])::aS::(Zi ay)::(Pt h.nx)::AV.undef::AV.undef::(AV.bool false)::(Zi 0)::AV.undef::AV.undef::aS::(Zn chain.length)::(Zi 0)::gB 41):List AV).getD k_ AV.undef) h1 cb bx o! aI)
   have lI:Has h h4:=sc
   have e:gr j chain ay=(decide (ay≤rv3)):=by simp only[gr,GX,aj,af]
   rw[e]
   exact ax rfl (aR Tryz.func31 sf rfl (.inr rfl) (pk (d+2) _ _ h _ h4 (NN bD (fun i=>(Pt i))<|CN 3<|VV pB<|CC<|LL gI<|CN 2<|VV (kI 3 false false .i64 ay rv3)<|CC<|ZZ) k!) k!) lI rfl
 | inr rr3=>
   obtain ⟨zo5,VU,h4,gI,nh,Dk,sc⟩:=bI.r GX (iX (d:=d) (h:=h) aS ay chain j h.nx mW bF.1 bF.2 bF bM o! chain.length 0 0 o! (fun k_=>(((AV.agg [j.ah,j.ag])::aS::(Zi ay)::(Pt h.nx)::AV.undef::AV.undef::(AV.bool false)::(Zi 0)::AV.undef::AV.undef::aS::(Zn chain.length)::(Zi 0)::gB 41):List AV).getD k_ AV.undef) h1 cb bx o! aI)
   have lI:Has h h4:=sc
   have e:gr j chain ay=rr3:=by simp only[gr,GX,aj,af]
   rw[e]
   exact ax rfl (aR Tryz.func31 sf rfl (.inr rfl) (pk (d+2) _ _ h _ h4 (NN bD (fun i=>(Pt i))<|CN 3<|VV pB<|CC<|LL gI<|ZZ) k!) k!) lI rfl
def DF:Code:=(Tryz.f11.body).getD .skip
theorem rR:Tryz.f11.body=some DF:=by kernel_rfl
def aU (j:cF) (f:jg):Bool×Int:=(bif (!decide ((cy j)=0)) then (false,(cy j)) else (bif (decide (f.ay≤0)) then (true,0) else (bif (decide (0<((f.chain.length:Nat):Int))) then ((gr j f.chain f.ay),0) else ((cr j f.ai f.ay),0))))
theorem LZ {d:Nat} {h:ak} (j:cF) (f:jg) (bF:aB.ok h j) (NJ:aB.ok h f) (bM:Tidy h):cA (d+12) (.fn 11) [(AV.agg [j.ah,j.ag]),(AV.agg [(Zi f.ay),f.aS,(Zi f.ai)])] h= .ret (AV.tuple [(AV.bool (aU j f).1),(Zi (aU j f).2)]) h:=by
 have eS:=bF.1.small
 have eT:=bF.2.small
 obtain ⟨h1,bD,cb,ib,aI,cf⟩:=ik bM (aK.cells [j.ah,j.ag] 25 false)
 have bx:Has h h1:=cf
 obtain ⟨h2,fA,eW,xw,bS,cx⟩:=ik cb (aK.cells [(Zi f.ay),f.aS,(Zi f.ai)] 28 false)
 have cD:Has h h2:=bx.trans cx
 have k3:=uw (d:=d) j (aB.mono cD bF) eW
 rcases Bool.eq_false_or_eq_true (!decide ((cy j)=0)) with f0 | f0
 · have fw:=C2 f0
   have e:aU j f=(false,(cy j)):=by simp only[aU,f0,aj,af]
   rw[e]
   exact ax rfl (aR Tryz.func11 rR rfl (.inr rfl) (pk (d+11) _ _ h _ h2 (NN bD (fun i=>(Pt i))<|NN fA (fun i=>(Pt i))<|CN 2<|MM (ao 25 0 (AV.agg [j.ah,j.ag]) (cx _ _ aI) k!)<|EE k3<|CN 2<|VV (eC 31 false true .i64 (cy j) 0)<|BB f0<|CN 3<|ZZ) k!) k!) cD rfl
 · have fw:=C3 f0
   rcases Bool.eq_false_or_eq_true (decide (f.ay≤0)) with f1 | f1
   · have ea:=of_decide_eq_true f1
     have e:aU j f=(true,0):=by simp only[aU,f0,f1,aj,af]
     rw[e]
     exact ax rfl (aR Tryz.func11 rR rfl (.inr rfl) (pk (d+11) _ _ h _ h2 (NN bD (fun i=>(Pt i))<|NN fA (fun i=>(Pt i))<|CN 2<|MM (ao 25 0 (AV.agg [j.ah,j.ag]) (cx _ _ aI) k!)<|EE k3<|CN 2<|VV (eC 31 false true .i64 (cy j) 0)<|BC f0<|MM (ao 3 0 (Zi f.ay) bS k!)<|VV (kI 3 false true .i64 f.ay 0)<|CC<|BB f1<|CN 2<|ZZ) k!) k!) cD rfl
   · have ea:=of_decide_eq_false f1
     have AW:bJ (some (.slice 3)) (some f.aS)=some (Zn f.chain.length):=NJ.len
     rcases Bool.eq_false_or_eq_true (decide (0<((f.chain.length:Nat):Int))) with f2 | f2
     · have jX:=of_decide_eq_true f2
       have k8:=AM (d:=d+8) j f.chain f.ay (aB.mono cD bF) (NJ.has cD) eW
       have e:aU j f=((gr j f.chain f.ay),0):=by simp only[aU,f0,f1,f2,aj,af]
       rw[e]
       exact ax rfl (aR Tryz.func11 rR rfl (.inr rfl) (pk (d+11) _ _ h _ h2 (NN bD (fun i=>(Pt i))<|NN fA (fun i=>(Pt i))<|CN 2<|MM (ao 25 0 (AV.agg [j.ah,j.ag]) (cx _ _ aI) k!)<|EE k3<|CN 2<|VV (eC 31 false true .i64 (cy j) 0)<|BC f0<|MM (ao 3 0 (Zi f.ay) bS k!)<|VV (kI 3 false true .i64 f.ay 0)<|CC<|BC f1<|MM (ao 26 1 f.aS bS k!)<|VV AW<|VV (bK 3 false true .i64 ((f.chain.length:Nat):Int) 0)<|CC<|BM f2 (ao 25 0 (AV.agg [j.ah,j.ag]) (cx _ _ aI) k!)<|CC<|MM (ao 26 1 f.aS bS k!)<|CC<|MM (ao 3 0 (Zi f.ay) bS k!)<|EE k8<|CN 2<|ZZ) k!) k!) cD rfl
     · have jX:=of_decide_eq_false f2
       have k8:=o9 (d:=d+9) j f.ai f.ay (aB.mono cD bF) eW
       have e:aU j f=((cr j f.ai f.ay),0):=by simp only[aU,f0,f1,f2,aj,af]
       rw[e]
       exact ax rfl (aR Tryz.func11 rR rfl (.inr rfl) (pk (d+11) _ _ h _ h2 (NN bD (fun i=>(Pt i))<|NN fA (fun i=>(Pt i))<|CN 2<|MM (ao 25 0 (AV.agg [j.ah,j.ag]) (cx _ _ aI) k!)<|EE k3<|CN 2<|VV (eC 31 false true .i64 (cy j) 0)<|BC f0<|MM (ao 3 0 (Zi f.ay) bS k!)<|VV (kI 3 false true .i64 f.ay 0)<|CC<|BC f1<|MM (ao 26 1 f.aS bS k!)<|VV AW<|VV (bK 3 false true .i64 ((f.chain.length:Nat):Int) 0)<|CC<|BM f2 (ao 25 0 (AV.agg [j.ah,j.ag]) (cx _ _ aI) k!)<|CC<|MM (ao 3 2 (Zi f.ai) bS k!)<|CC<|MM (ao 3 0 (Zi f.ay) bS k!)<|EE k8<|CN 2<|ZZ) k!) k!) cD rfl
def iY:Code:=(Tryz.f3.body).getD .skip
theorem nP:Tryz.f3.body=some iY:=by kernel_rfl
def md:Code:=(jU iY).getD 1 .skip
def hZ:Code:=(jU iY).getD 5 .skip
def jI:Code:=(jU iY).getD 9 .skip
def fk (j:cF) (f:jg):Bool:=(bif (bif (eR j 8) then true else (decide (100<((f.chain.length:Nat):Int)))) then true else (bif (bif (!decide ((au j).e=((ar j).e))) then true else (bif (!decide ((au j).m=((ar j).m))) then true else (bif (!decide ((au j).r=((ar j).r))) then true else (!(gH (au j).c (ar j).c))))) then false else (bif ((aU j f).1==((aX j f).1)) then (bif (decide ((aU j f).2=((aX j f).2))) then true else false) else false)))
theorem AN {d:Nat} {h:ak} (j:cF) (f:jg) (bF:aB.ok h j) (NJ:aB.ok h f) (bM:Tidy h):cA (d+201) (.fn 3) [(AV.agg [j.ah,j.ag]),(AV.agg [(Zi f.ay),f.aS,(Zi f.ai)])] h= .ret (AV.bool (fk j f)) h:=by
 have eS:=bF.1.small
 have eT:=bF.2.small
 obtain ⟨h1,bD,cb,ib,aI,cf⟩:=ik bM (aK.cells [j.ah,j.ag] 25 false)
 have bx:Has h h1:=cf
 obtain ⟨h2,fA,eW,xw,bS,cx⟩:=ik cb (aK.cells [(Zi f.ay),f.aS,(Zi f.ai)] 28 false)
 have cD:Has h h2:=bx.trans cx
 obtain ⟨Ds,ze⟩:∃Ds:Nat→AV,Ev env (cA (d+200)) md ⟨((AV.agg [j.ah,j.ag])::(AV.agg [(Zi f.ay),f.aS,(Zi f.ai)])::(Pt h.nx)::(Pt h1.nx)::(AV.bool false)::gB 73),h2,[],.no⟩ .normal ⟨((AV.agg [j.ah,j.ag])::(AV.agg [(Zi f.ay),f.aS,(Zi f.ai)])::(Pt h.nx)::(Pt h1.nx)::(AV.bool false)::AV.undef::AV.undef::AV.undef::AV.undef::AV.undef::AV.undef::rx Ds 11 7 ((AV.bool (bif (eR j 8) then true else (decide (100<((f.chain.length:Nat):Int)))))::gB 59)),h2,[],.no⟩:=by
  have k3:=OH (d:=d+199) j 8 (aB.mono cD bF) eW
  rcases Bool.eq_false_or_eq_true (eR j 8) with f0 | f0
  · have ev:=pk (d+200) md ((AV.agg [j.ah,j.ag])::(AV.agg [(Zi f.ay),f.aS,(Zi f.ai)])::(Pt h.nx)::(Pt h1.nx)::(AV.bool false)::gB 73) h2 .normal h2 (MM (ao 25 0 (AV.agg [j.ah,j.ag]) (cx _ _ aI) k!)<|EE k3<|CC<|BB f0<|BB f0<|BB f0<|BV f0 (qI true f0)<|ZZ) k!
    rw[show (bif (eR j 8) then true else (decide (100<((f.chain.length:Nat):Int))))=true by simp only[f0,aj,af]]
    exact jJ ev k!
  · have Ai:bJ (some (.slice 3)) (some f.aS)=some (Zn f.chain.length):=NJ.len
    have ev:=pk (d+200) md ((AV.agg [j.ah,j.ag])::(AV.agg [(Zi f.ay),f.aS,(Zi f.ai)])::(Pt h.nx)::(Pt h1.nx)::(AV.bool false)::gB 73) h2 .normal h2 (MM (ao 25 0 (AV.agg [j.ah,j.ag]) (cx _ _ aI) k!)<|EE k3<|CC<|BC f0<|BM f0 (ao 26 1 f.aS bS k!)<|BV f0 Ai<|BV f0 (bK 3 false true .i64 ((f.chain.length:Nat):Int) 100)<|VV (bf (a:=some (AV.bool true)) (b:=some (AV.bool (decide (100<((f.chain.length:Nat):Int))))) f0)<|ZZ) k!
    rw[show (bif (eR j 8) then true else (decide (100<((f.chain.length:Nat):Int))))=(decide (100<((f.chain.length:Nat):Int))) by simp only[f0,aj,af]]
    exact jJ ev k!
 rcases Bool.eq_false_or_eq_true (bif (eR j 8) then true else (decide (100<((f.chain.length:Nat):Int)))) with f0 | f0
 · have k5:(cA (d+200)) (.fn 7) [] h2= .ret (.bool true) h2:=rfl
   have e:fk j f=true:=by simp only[fk,f0,aj,af]
   rw[e]
   exact ax rfl (aR Tryz.func3 nP rfl (.inr rfl) (pk (d+200) _ _ h _ h2 (NN bD (fun i=>(Pt i))<|NN fA (fun i=>(Pt i))<|CC<|LL ze<|BB f0<|EE k5<|CC<|ZZ) k!) k!) cD rfl
 · obtain ⟨z5,h7,acZ,pj,fz6⟩:=Pb (d:=d) j (aB.mono cD bF) eW
   have eP:=pj.y
   have VP:h2.nx≤h7.nx:=pj.n
   have er:Has h h7:=cD.trans pj.a
   have afJ:=fz6.small
   obtain ⟨h8,KW,kh,RR,cY,po⟩:=ik eP (aK.cells [(Zi 0),AV.aD,(Zi 0)] 28 false)
   have iR:Has h h8:=er.trans po
   have Gb:Has h7 h8:=po
   have ae5:AV.scalar z5=true:=fz6.scalar
   obtain ⟨h9,V2,rp,Sf,xO,Am⟩:=nJ (t:=28) (n:=3) (i:=h7.nx) (L:=[(Zi (au j).m),z5,(Zi (au j).r)]) kh cY k! rfl rfl (by simp only[AV.cells,List.all_cons,List.all_nil,Bool.and_true,Bool.and_self,fp,dV,fq,ft,db,iF,iG,iH,iI,iJ,fu,ae5])
   have mw:Has h h9:=Has.cI iR Am bM o!
   have WC:Has h7 h9:=Has.cI Gb Am eP o!
   obtain ⟨rY,oT,Cf,du,OS⟩:=Pj (d:=d+68) j (aB.mono mw bF) rp
   have nf:=du.y
   have MY:h9.nx≤oT.nx:=du.n
   have lD:Has h oT:=mw.trans du.a
   have Ty:Has h7 oT:=WC.trans du.a
   have ZH:=OS.small
   obtain ⟨Pd,X7,Ns,afK,ac0,qG⟩:=ik nf (aK.cells [(Zi 0),AV.aD,(Zi 0)] 28 false)
   have Ta:Has h Pd:=lD.trans qG
   have Tz:Has h7 Pd:=Ty.trans qG
   have Pm:Has oT Pd:=qG
   have ae6:AV.scalar rY=true:=OS.scalar
   obtain ⟨yi,X8,Jr,acu,Aj,mN⟩:=nJ (t:=28) (n:=3) (i:=oT.nx) (L:=[(Zi (ar j).m),rY,(Zi (ar j).r)]) Ns ac0 k! rfl rfl (by simp only[AV.cells,List.all_cons,List.all_nil,Bool.and_true,Bool.and_self,fp,dV,fq,ft,db,iF,iG,iH,iI,iJ,fu,ae6])
   have Al:Has h yi:=Has.cI Ta mN bM o!
   have TA:Has h7 yi:=Has.cI Tz mN eP o!
   have Pn:Has oT yi:=Has.cI Pm mN nf o!
   obtain ⟨L4,NK⟩:∃L4:Nat→AV,Ev env (cA (d+200)) hZ ⟨((AV.agg [j.ah,j.ag])::(AV.agg [(Zi f.ay),f.aS,(Zi f.ai)])::(Pt h.nx)::(Pt h1.nx)::(AV.bool false)::(Pt h7.nx)::(Zi (au j).e)::(Pt oT.nx)::(Zi (ar j).e)::AV.undef::AV.undef::rx Ds 11 7 ((AV.bool (bif (eR j 8) then true else (decide (100<((f.chain.length:Nat):Int)))))::AV.undef::(AV.tuple [(AV.agg [(Zi (au j).m),z5,(Zi (au j).r)]),(Zi (au j).e)])::(AV.agg [j.ah,j.ag])::(AV.tuple [(AV.agg [(Zi (au j).m),z5,(Zi (au j).r)]),(Zi (au j).e)])::(AV.agg [(Zi (au j).m),z5,(Zi (au j).r)])::(Zi (au j).e)::(AV.tuple [(AV.agg [(Zi (ar j).m),rY,(Zi (ar j).r)]),(Zi (ar j).e)])::(AV.agg [j.ah,j.ag])::(AV.tuple [(AV.agg [(Zi (ar j).m),rY,(Zi (ar j).r)]),(Zi (ar j).e)])::(AV.agg [(Zi (ar j).m),rY,(Zi (ar j).r)])::(Zi (ar j).e)::gB 48)),yi,[],.no⟩ .normal ⟨((AV.agg [j.ah,j.ag])::(AV.agg [(Zi f.ay),f.aS,(Zi f.ai)])::(Pt h.nx)::(Pt h1.nx)::(AV.bool false)::(Pt h7.nx)::(Zi (au j).e)::(Pt oT.nx)::(Zi (ar j).e)::AV.undef::AV.undef::rx Ds 11 7 ((AV.bool (bif (eR j 8) then true else (decide (100<((f.chain.length:Nat):Int)))))::AV.undef::(AV.tuple [(AV.agg [(Zi (au j).m),z5,(Zi (au j).r)]),(Zi (au j).e)])::(AV.agg [j.ah,j.ag])::(AV.tuple [(AV.agg [(Zi (au j).m),z5,(Zi (au j).r)]),(Zi (au j).e)])::(AV.agg [(Zi (au j).m),z5,(Zi (au j).r)])::(Zi (au j).e)::(AV.tuple [(AV.agg [(Zi (ar j).m),rY,(Zi (ar j).r)]),(Zi (ar j).e)])::(AV.agg [j.ah,j.ag])::(AV.tuple [(AV.agg [(Zi (ar j).m),rY,(Zi (ar j).r)]),(Zi (ar j).e)])::(AV.agg [(Zi (ar j).m),rY,(Zi (ar j).r)])::(Zi (ar j).e)::rx L4 30 24 ((AV.bool (bif (!decide ((au j).e=((ar j).e))) then true else (bif (!decide ((au j).m=((ar j).m))) then true else (bif (!decide ((au j).r=((ar j).r))) then true else (!(gH (au j).c (ar j).c))))))::gB 23))),yi,[],.no⟩:=by
    rcases Bool.eq_false_or_eq_true (!decide ((au j).e=((ar j).e))) with f0 | f0
    · have fw:=C2 f0
      have ev:=pk (d+200) hZ ((AV.agg [j.ah,j.ag])::(AV.agg [(Zi f.ay),f.aS,(Zi f.ai)])::(Pt h.nx)::(Pt h1.nx)::(AV.bool false)::(Pt h7.nx)::(Zi (au j).e)::(Pt oT.nx)::(Zi (ar j).e)::AV.undef::AV.undef::rx Ds 11 7 ((AV.bool (bif (eR j 8) then true else (decide (100<((f.chain.length:Nat):Int)))))::AV.undef::(AV.tuple [(AV.agg [(Zi (au j).m),z5,(Zi (au j).r)]),(Zi (au j).e)])::(AV.agg [j.ah,j.ag])::(AV.tuple [(AV.agg [(Zi (au j).m),z5,(Zi (au j).r)]),(Zi (au j).e)])::(AV.agg [(Zi (au j).m),z5,(Zi (au j).r)])::(Zi (au j).e)::(AV.tuple [(AV.agg [(Zi (ar j).m),rY,(Zi (ar j).r)]),(Zi (ar j).e)])::(AV.agg [j.ah,j.ag])::(AV.tuple [(AV.agg [(Zi (ar j).m),rY,(Zi (ar j).r)]),(Zi (ar j).e)])::(AV.agg [(Zi (ar j).m),rY,(Zi (ar j).r)])::(Zi (ar j).e)::gB 48)) yi .normal yi (CN 2<|VV (eC 31 false false .i64 (au j).e (ar j).e)<|CC<|BB f0<|BB f0<|BB f0<|BB f0<|BV f0 (qI true f0)<|CC<|TT<|TT<|TT<|TT<|TT<|CN 2<|TT<|TT<|TT<|TT<|TT<|TT<|CC<|ZZ) k!
      rw[show (bif (!decide ((au j).e=((ar j).e))) then true else (bif (!decide ((au j).m=((ar j).m))) then true else (bif (!decide ((au j).r=((ar j).r))) then true else (!(gH (au j).c (ar j).c)))))=true by simp only[f0,aj,af]]
      exact jJ ev k!
    · have fw:=C3 f0
      rcases Bool.eq_false_or_eq_true (!decide ((au j).m=((ar j).m))) with f1 | f1
      · have ea:=C2 f1
        have ev:=pk (d+200) hZ ((AV.agg [j.ah,j.ag])::(AV.agg [(Zi f.ay),f.aS,(Zi f.ai)])::(Pt h.nx)::(Pt h1.nx)::(AV.bool false)::(Pt h7.nx)::(Zi (au j).e)::(Pt oT.nx)::(Zi (ar j).e)::AV.undef::AV.undef::rx Ds 11 7 ((AV.bool (bif (eR j 8) then true else (decide (100<((f.chain.length:Nat):Int)))))::AV.undef::(AV.tuple [(AV.agg [(Zi (au j).m),z5,(Zi (au j).r)]),(Zi (au j).e)])::(AV.agg [j.ah,j.ag])::(AV.tuple [(AV.agg [(Zi (au j).m),z5,(Zi (au j).r)]),(Zi (au j).e)])::(AV.agg [(Zi (au j).m),z5,(Zi (au j).r)])::(Zi (au j).e)::(AV.tuple [(AV.agg [(Zi (ar j).m),rY,(Zi (ar j).r)]),(Zi (ar j).e)])::(AV.agg [j.ah,j.ag])::(AV.tuple [(AV.agg [(Zi (ar j).m),rY,(Zi (ar j).r)]),(Zi (ar j).e)])::(AV.agg [(Zi (ar j).m),rY,(Zi (ar j).r)])::(Zi (ar j).e)::gB 48)) yi .normal yi (CN 2<|VV (eC 31 false false .i64 (au j).e (ar j).e)<|CC<|BC f0<|BM f0 (ao 3 0 (Zi (au j).m) (mN _ _ o! (qG _ _ (du.a _ _ xO))) k!)<|BC f0<|BM f0 (ao 3 0 (Zi (ar j).m) Aj k!)<|BV f0 (eC 3 false false .i64 (au j).m (ar j).m)<|VV (bf (a:=some (AV.bool true)) (b:=some (AV.bool (!decide ((au j).m=((ar j).m))))) f0)<|CC<|BB f1<|BB f1<|BB f1<|BB f1<|BV f1 (qI true f1)<|CC<|TT<|TT<|TT<|TT<|TT<|TT<|CC<|ZZ) k!
        rw[show (bif (!decide ((au j).e=((ar j).e))) then true else (bif (!decide ((au j).m=((ar j).m))) then true else (bif (!decide ((au j).r=((ar j).r))) then true else (!(gH (au j).c (ar j).c)))))=true by simp only[f0,f1,aj,af]]
        exact jJ ev k!
      · have ea:=C3 f1
        rcases Bool.eq_false_or_eq_true (!decide ((au j).r=((ar j).r))) with f2 | f2
        · have jX:=C2 f2
          have ev:=pk (d+200) hZ ((AV.agg [j.ah,j.ag])::(AV.agg [(Zi f.ay),f.aS,(Zi f.ai)])::(Pt h.nx)::(Pt h1.nx)::(AV.bool false)::(Pt h7.nx)::(Zi (au j).e)::(Pt oT.nx)::(Zi (ar j).e)::AV.undef::AV.undef::rx Ds 11 7 ((AV.bool (bif (eR j 8) then true else (decide (100<((f.chain.length:Nat):Int)))))::AV.undef::(AV.tuple [(AV.agg [(Zi (au j).m),z5,(Zi (au j).r)]),(Zi (au j).e)])::(AV.agg [j.ah,j.ag])::(AV.tuple [(AV.agg [(Zi (au j).m),z5,(Zi (au j).r)]),(Zi (au j).e)])::(AV.agg [(Zi (au j).m),z5,(Zi (au j).r)])::(Zi (au j).e)::(AV.tuple [(AV.agg [(Zi (ar j).m),rY,(Zi (ar j).r)]),(Zi (ar j).e)])::(AV.agg [j.ah,j.ag])::(AV.tuple [(AV.agg [(Zi (ar j).m),rY,(Zi (ar j).r)]),(Zi (ar j).e)])::(AV.agg [(Zi (ar j).m),rY,(Zi (ar j).r)])::(Zi (ar j).e)::gB 48)) yi .normal yi (CN 2<|VV (eC 31 false false .i64 (au j).e (ar j).e)<|CC<|BC f0<|BM f0 (ao 3 0 (Zi (au j).m) (mN _ _ o! (qG _ _ (du.a _ _ xO))) k!)<|BC f0<|BM f0 (ao 3 0 (Zi (ar j).m) Aj k!)<|BV f0 (eC 3 false false .i64 (au j).m (ar j).m)<|VV (bf (a:=some (AV.bool true)) (b:=some (AV.bool (!decide ((au j).m=((ar j).m))))) f0)<|CC<|BC f1<|BM f1 (ao 3 2 (Zi (au j).r) (mN _ _ o! (qG _ _ (du.a _ _ xO))) k!)<|BC f1<|BM f1 (ao 3 2 (Zi (ar j).r) Aj k!)<|BV f1 (eC 3 false false .i64 (au j).r (ar j).r)<|VV (bf (a:=some (AV.bool true)) (b:=some (AV.bool (!decide ((au j).r=((ar j).r))))) f1)<|CC<|BB f2<|BB f2<|BB f2<|BB f2<|BB f2<|BV f2 (qI true f2)<|ZZ) k!
          rw[show (bif (!decide ((au j).e=((ar j).e))) then true else (bif (!decide ((au j).m=((ar j).m))) then true else (bif (!decide ((au j).r=((ar j).r))) then true else (!(gH (au j).c (ar j).c)))))=true by simp only[f0,f1,f2,aj,af]]
          exact jJ ev k!
        · have jX:=C3 f2
          have k20:=RO (d:=d+199) (au j).c (ar j).c (fz6.has TA) (OS.has Pn) Jr
          have ev:=pk (d+200) hZ ((AV.agg [j.ah,j.ag])::(AV.agg [(Zi f.ay),f.aS,(Zi f.ai)])::(Pt h.nx)::(Pt h1.nx)::(AV.bool false)::(Pt h7.nx)::(Zi (au j).e)::(Pt oT.nx)::(Zi (ar j).e)::AV.undef::AV.undef::rx Ds 11 7 ((AV.bool (bif (eR j 8) then true else (decide (100<((f.chain.length:Nat):Int)))))::AV.undef::(AV.tuple [(AV.agg [(Zi (au j).m),z5,(Zi (au j).r)]),(Zi (au j).e)])::(AV.agg [j.ah,j.ag])::(AV.tuple [(AV.agg [(Zi (au j).m),z5,(Zi (au j).r)]),(Zi (au j).e)])::(AV.agg [(Zi (au j).m),z5,(Zi (au j).r)])::(Zi (au j).e)::(AV.tuple [(AV.agg [(Zi (ar j).m),rY,(Zi (ar j).r)]),(Zi (ar j).e)])::(AV.agg [j.ah,j.ag])::(AV.tuple [(AV.agg [(Zi (ar j).m),rY,(Zi (ar j).r)]),(Zi (ar j).e)])::(AV.agg [(Zi (ar j).m),rY,(Zi (ar j).r)])::(Zi (ar j).e)::gB 48)) yi .normal yi (CN 2<|VV (eC 31 false false .i64 (au j).e (ar j).e)<|CC<|BC f0<|BM f0 (ao 3 0 (Zi (au j).m) (mN _ _ o! (qG _ _ (du.a _ _ xO))) k!)<|BC f0<|BM f0 (ao 3 0 (Zi (ar j).m) Aj k!)<|BV f0 (eC 3 false false .i64 (au j).m (ar j).m)<|VV (bf (a:=some (AV.bool true)) (b:=some (AV.bool (!decide ((au j).m=((ar j).m))))) f0)<|CC<|BC f1<|BM f1 (ao 3 2 (Zi (au j).r) (mN _ _ o! (qG _ _ (du.a _ _ xO))) k!)<|BC f1<|BM f1 (ao 3 2 (Zi (ar j).r) Aj k!)<|BV f1 (eC 3 false false .i64 (au j).r (ar j).r)<|VV (bf (a:=some (AV.bool true)) (b:=some (AV.bool (!decide ((au j).r=((ar j).r))))) f1)<|CC<|BC f2<|BM f2 (ao 26 1 z5 (mN _ _ o! (qG _ _ (du.a _ _ xO))) k!)<|BC f2<|BM f2 (ao 26 1 rY Aj k!)<|BB f2<|EE k20<|BC f2<|VV (bf (a:=some (AV.bool true)) (b:=some (AV.bool (!(gH (au j).c (ar j).c)))) f2)<|ZZ) k!
          rw[show (bif (!decide ((au j).e=((ar j).e))) then true else (bif (!decide ((au j).m=((ar j).m))) then true else (bif (!decide ((au j).r=((ar j).r))) then true else (!(gH (au j).c (ar j).c)))))=(!(gH (au j).c (ar j).c)) by simp only[f0,f1,f2,aj,af]]
          exact jJ ev k!
   rcases Bool.eq_false_or_eq_true (bif (!decide ((au j).e=((ar j).e))) then true else (bif (!decide ((au j).m=((ar j).m))) then true else (bif (!decide ((au j).r=((ar j).r))) then true else (!(gH (au j).c (ar j).c))))) with f1 | f1
   · have e:fk j f=false:=by simp only[fk,f0,f1,aj,af]
     rw[e]
     exact ax rfl (aR Tryz.func3 nP rfl (.inr rfl) (pk (d+200) _ _ h _ yi (NN bD (fun i=>(Pt i))<|NN fA (fun i=>(Pt i))<|CC<|LL ze<|BM f0 (ao 25 0 (AV.agg [j.ah,j.ag]) (cx _ _ aI) k!)<|EE acZ<|CN 3<|NN KW (fun i=>(Pt i))<|SS V2<|CC<|MM (ao 25 0 (AV.agg [j.ah,j.ag]) (Am _ _ o! (po _ _ (pj.a _ _ (cx _ _ aI)))) k!)<|EE Cf<|CN 3<|NN X7 (fun i=>(Pt i))<|SS X8<|CC<|LL NK<|BC f1<|ZZ) k!) k!) Al rfl
   · have k19:=LZ (d:=d+188) j f (aB.mono Al bF) (aB.mono Al NJ) Jr
     have k20:=LY (d:=d+196) j f (aB.mono Al bF) (aB.mono Al NJ) Jr
     obtain ⟨ac1,WD⟩:∃ac1:Nat→AV,Ev env (cA (d+200)) jI ⟨((AV.agg [j.ah,j.ag])::(AV.agg [(Zi f.ay),f.aS,(Zi f.ai)])::(Pt h.nx)::(Pt h1.nx)::(AV.bool false)::(Pt h7.nx)::(Zi (aU j f).2)::(Pt oT.nx)::(Zi (aX j f).2)::(AV.bool (aU j f).1)::(AV.bool (aX j f).1)::rx Ds 11 7 ((AV.bool (bif (eR j 8) then true else (decide (100<((f.chain.length:Nat):Int)))))::AV.undef::(AV.tuple [(AV.agg [(Zi (au j).m),z5,(Zi (au j).r)]),(Zi (au j).e)])::(AV.agg [j.ah,j.ag])::(AV.tuple [(AV.agg [(Zi (au j).m),z5,(Zi (au j).r)]),(Zi (au j).e)])::(AV.agg [(Zi (au j).m),z5,(Zi (au j).r)])::(Zi (au j).e)::(AV.tuple [(AV.agg [(Zi (ar j).m),rY,(Zi (ar j).r)]),(Zi (ar j).e)])::(AV.agg [j.ah,j.ag])::(AV.tuple [(AV.agg [(Zi (ar j).m),rY,(Zi (ar j).r)]),(Zi (ar j).e)])::(AV.agg [(Zi (ar j).m),rY,(Zi (ar j).r)])::(Zi (ar j).e)::rx L4 30 24 ((AV.bool (bif (!decide ((au j).e=((ar j).e))) then true else (bif (!decide ((au j).m=((ar j).m))) then true else (bif (!decide ((au j).r=((ar j).r))) then true else (!(gH (au j).c (ar j).c))))))::(AV.tuple [(AV.bool (aU j f).1),(Zi (aU j f).2)])::(AV.agg [j.ah,j.ag])::(AV.agg [(Zi f.ay),f.aS,(Zi f.ai)])::(AV.tuple [(AV.bool (aU j f).1),(Zi (aU j f).2)])::(AV.bool (aU j f).1)::(Zi (aU j f).2)::(AV.tuple [(AV.bool (aX j f).1),(Zi (aX j f).2)])::(AV.agg [j.ah,j.ag])::(AV.agg [(Zi f.ay),f.aS,(Zi f.ai)])::(AV.tuple [(AV.bool (aX j f).1),(Zi (aX j f).2)])::(AV.bool (aX j f).1)::(Zi (aX j f).2)::gB 11))),yi,[],.no⟩ .normal ⟨((AV.agg [j.ah,j.ag])::(AV.agg [(Zi f.ay),f.aS,(Zi f.ai)])::(Pt h.nx)::(Pt h1.nx)::(AV.bool (bif ((aU j f).1==((aX j f).1)) then (bif (decide ((aU j f).2=((aX j f).2))) then true else false) else false))::(Pt h7.nx)::(Zi (aU j f).2)::(Pt oT.nx)::(Zi (aX j f).2)::(AV.bool (aU j f).1)::(AV.bool (aX j f).1)::rx Ds 11 7 ((AV.bool (bif (eR j 8) then true else (decide (100<((f.chain.length:Nat):Int)))))::AV.undef::(AV.tuple [(AV.agg [(Zi (au j).m),z5,(Zi (au j).r)]),(Zi (au j).e)])::(AV.agg [j.ah,j.ag])::(AV.tuple [(AV.agg [(Zi (au j).m),z5,(Zi (au j).r)]),(Zi (au j).e)])::(AV.agg [(Zi (au j).m),z5,(Zi (au j).r)])::(Zi (au j).e)::(AV.tuple [(AV.agg [(Zi (ar j).m),rY,(Zi (ar j).r)]),(Zi (ar j).e)])::(AV.agg [j.ah,j.ag])::(AV.tuple [(AV.agg [(Zi (ar j).m),rY,(Zi (ar j).r)]),(Zi (ar j).e)])::(AV.agg [(Zi (ar j).m),rY,(Zi (ar j).r)])::(Zi (ar j).e)::rx L4 30 24 ((AV.bool (bif (!decide ((au j).e=((ar j).e))) then true else (bif (!decide ((au j).m=((ar j).m))) then true else (bif (!decide ((au j).r=((ar j).r))) then true else (!(gH (au j).c (ar j).c))))))::(AV.tuple [(AV.bool (aU j f).1),(Zi (aU j f).2)])::(AV.agg [j.ah,j.ag])::(AV.agg [(Zi f.ay),f.aS,(Zi f.ai)])::(AV.tuple [(AV.bool (aU j f).1),(Zi (aU j f).2)])::(AV.bool (aU j f).1)::(Zi (aU j f).2)::(AV.tuple [(AV.bool (aX j f).1),(Zi (aX j f).2)])::(AV.agg [j.ah,j.ag])::(AV.agg [(Zi f.ay),f.aS,(Zi f.ai)])::(AV.tuple [(AV.bool (aX j f).1),(Zi (aX j f).2)])::(AV.bool (aX j f).1)::(Zi (aX j f).2)::rx ac1 67 11 []))),yi,[],.no⟩:=by
      rcases Bool.eq_false_or_eq_true ((aU j f).1==((aX j f).1)) with f0 | f0
      · rcases Bool.eq_false_or_eq_true (decide ((aU j f).2=((aX j f).2))) with f1 | f1
        · have ea:=of_decide_eq_true f1
          have k23:(cA (d+200)) (.fn 7) [] yi= .ret (.bool true) yi:=rfl
          have ev:=pk (d+200) jI ((AV.agg [j.ah,j.ag])::(AV.agg [(Zi f.ay),f.aS,(Zi f.ai)])::(Pt h.nx)::(Pt h1.nx)::(AV.bool false)::(Pt h7.nx)::(Zi (aU j f).2)::(Pt oT.nx)::(Zi (aX j f).2)::(AV.bool (aU j f).1)::(AV.bool (aX j f).1)::rx Ds 11 7 ((AV.bool (bif (eR j 8) then true else (decide (100<((f.chain.length:Nat):Int)))))::AV.undef::(AV.tuple [(AV.agg [(Zi (au j).m),z5,(Zi (au j).r)]),(Zi (au j).e)])::(AV.agg [j.ah,j.ag])::(AV.tuple [(AV.agg [(Zi (au j).m),z5,(Zi (au j).r)]),(Zi (au j).e)])::(AV.agg [(Zi (au j).m),z5,(Zi (au j).r)])::(Zi (au j).e)::(AV.tuple [(AV.agg [(Zi (ar j).m),rY,(Zi (ar j).r)]),(Zi (ar j).e)])::(AV.agg [j.ah,j.ag])::(AV.tuple [(AV.agg [(Zi (ar j).m),rY,(Zi (ar j).r)]),(Zi (ar j).e)])::(AV.agg [(Zi (ar j).m),rY,(Zi (ar j).r)])::(Zi (ar j).e)::rx L4 30 24 ((AV.bool (bif (!decide ((au j).e=((ar j).e))) then true else (bif (!decide ((au j).m=((ar j).m))) then true else (bif (!decide ((au j).r=((ar j).r))) then true else (!(gH (au j).c (ar j).c))))))::(AV.tuple [(AV.bool (aU j f).1),(Zi (aU j f).2)])::(AV.agg [j.ah,j.ag])::(AV.agg [(Zi f.ay),f.aS,(Zi f.ai)])::(AV.tuple [(AV.bool (aU j f).1),(Zi (aU j f).2)])::(AV.bool (aU j f).1)::(Zi (aU j f).2)::(AV.tuple [(AV.bool (aX j f).1),(Zi (aX j f).2)])::(AV.agg [j.ah,j.ag])::(AV.agg [(Zi f.ay),f.aS,(Zi f.ai)])::(AV.tuple [(AV.bool (aX j f).1),(Zi (aX j f).2)])::(AV.bool (aX j f).1)::(Zi (aX j f).2)::gB 11))) yi .normal yi (CN 4<|BC f0<|BC f0<|BV f0 (f_ 31 false false .i64 (aU j f).2 (aX j f).2)<|VV (nK (decide ((aU j f).2=((aX j f).2))) false f0)<|CC<|BB f1<|EE k23<|VV (nK true false f1)<|CC<|ZZ) k!
          rw[show (bif ((aU j f).1==((aX j f).1)) then (bif (decide ((aU j f).2=((aX j f).2))) then true else false) else false)=true by simp only[f0,f1,aj,af]]
          exact jJ ev k!
        · have ea:=of_decide_eq_false f1
          have ev:=pk (d+200) jI ((AV.agg [j.ah,j.ag])::(AV.agg [(Zi f.ay),f.aS,(Zi f.ai)])::(Pt h.nx)::(Pt h1.nx)::(AV.bool false)::(Pt h7.nx)::(Zi (aU j f).2)::(Pt oT.nx)::(Zi (aX j f).2)::(AV.bool (aU j f).1)::(AV.bool (aX j f).1)::rx Ds 11 7 ((AV.bool (bif (eR j 8) then true else (decide (100<((f.chain.length:Nat):Int)))))::AV.undef::(AV.tuple [(AV.agg [(Zi (au j).m),z5,(Zi (au j).r)]),(Zi (au j).e)])::(AV.agg [j.ah,j.ag])::(AV.tuple [(AV.agg [(Zi (au j).m),z5,(Zi (au j).r)]),(Zi (au j).e)])::(AV.agg [(Zi (au j).m),z5,(Zi (au j).r)])::(Zi (au j).e)::(AV.tuple [(AV.agg [(Zi (ar j).m),rY,(Zi (ar j).r)]),(Zi (ar j).e)])::(AV.agg [j.ah,j.ag])::(AV.tuple [(AV.agg [(Zi (ar j).m),rY,(Zi (ar j).r)]),(Zi (ar j).e)])::(AV.agg [(Zi (ar j).m),rY,(Zi (ar j).r)])::(Zi (ar j).e)::rx L4 30 24 ((AV.bool (bif (!decide ((au j).e=((ar j).e))) then true else (bif (!decide ((au j).m=((ar j).m))) then true else (bif (!decide ((au j).r=((ar j).r))) then true else (!(gH (au j).c (ar j).c))))))::(AV.tuple [(AV.bool (aU j f).1),(Zi (aU j f).2)])::(AV.agg [j.ah,j.ag])::(AV.agg [(Zi f.ay),f.aS,(Zi f.ai)])::(AV.tuple [(AV.bool (aU j f).1),(Zi (aU j f).2)])::(AV.bool (aU j f).1)::(Zi (aU j f).2)::(AV.tuple [(AV.bool (aX j f).1),(Zi (aX j f).2)])::(AV.agg [j.ah,j.ag])::(AV.agg [(Zi f.ay),f.aS,(Zi f.ai)])::(AV.tuple [(AV.bool (aX j f).1),(Zi (aX j f).2)])::(AV.bool (aX j f).1)::(Zi (aX j f).2)::gB 11))) yi .normal yi (CN 4<|BC f0<|BC f0<|BV f0 (f_ 31 false false .i64 (aU j f).2 (aX j f).2)<|VV (nK (decide ((aU j f).2=((aX j f).2))) false f0)<|CC<|BV f1 (vK false f1)<|CC<|ZZ) k!
          rw[show (bif ((aU j f).1==((aX j f).1)) then (bif (decide ((aU j f).2=((aX j f).2))) then true else false) else false)=false by simp only[f0,f1,aj,af]]
          exact jJ ev k!
      · have ev:=pk (d+200) jI ((AV.agg [j.ah,j.ag])::(AV.agg [(Zi f.ay),f.aS,(Zi f.ai)])::(Pt h.nx)::(Pt h1.nx)::(AV.bool false)::(Pt h7.nx)::(Zi (aU j f).2)::(Pt oT.nx)::(Zi (aX j f).2)::(AV.bool (aU j f).1)::(AV.bool (aX j f).1)::rx Ds 11 7 ((AV.bool (bif (eR j 8) then true else (decide (100<((f.chain.length:Nat):Int)))))::AV.undef::(AV.tuple [(AV.agg [(Zi (au j).m),z5,(Zi (au j).r)]),(Zi (au j).e)])::(AV.agg [j.ah,j.ag])::(AV.tuple [(AV.agg [(Zi (au j).m),z5,(Zi (au j).r)]),(Zi (au j).e)])::(AV.agg [(Zi (au j).m),z5,(Zi (au j).r)])::(Zi (au j).e)::(AV.tuple [(AV.agg [(Zi (ar j).m),rY,(Zi (ar j).r)]),(Zi (ar j).e)])::(AV.agg [j.ah,j.ag])::(AV.tuple [(AV.agg [(Zi (ar j).m),rY,(Zi (ar j).r)]),(Zi (ar j).e)])::(AV.agg [(Zi (ar j).m),rY,(Zi (ar j).r)])::(Zi (ar j).e)::rx L4 30 24 ((AV.bool (bif (!decide ((au j).e=((ar j).e))) then true else (bif (!decide ((au j).m=((ar j).m))) then true else (bif (!decide ((au j).r=((ar j).r))) then true else (!(gH (au j).c (ar j).c))))))::(AV.tuple [(AV.bool (aU j f).1),(Zi (aU j f).2)])::(AV.agg [j.ah,j.ag])::(AV.agg [(Zi f.ay),f.aS,(Zi f.ai)])::(AV.tuple [(AV.bool (aU j f).1),(Zi (aU j f).2)])::(AV.bool (aU j f).1)::(Zi (aU j f).2)::(AV.tuple [(AV.bool (aX j f).1),(Zi (aX j f).2)])::(AV.agg [j.ah,j.ag])::(AV.agg [(Zi f.ay),f.aS,(Zi f.ai)])::(AV.tuple [(AV.bool (aX j f).1),(Zi (aX j f).2)])::(AV.bool (aX j f).1)::(Zi (aX j f).2)::gB 11))) yi .normal yi (CN 4<|BB f0<|BB f0<|BV f0 (vK false f0)<|CC<|FF<|CN 2<|ZZ) k!
        rw[show (bif ((aU j f).1==((aX j f).1)) then (bif (decide ((aU j f).2=((aX j f).2))) then true else false) else false)=false by simp only[f0,aj,af]]
        exact jJ ev k!
     have e:fk j f=(bif ((aU j f).1==((aX j f).1)) then (bif (decide ((aU j f).2=((aX j f).2))) then true else false) else false):=by simp only[fk,f0,f1,aj,af]
     rw[e]
     exact ax rfl (aR Tryz.func3 nP rfl (.inr rfl) (pk (d+200) _ _ h _ yi (NN bD (fun i=>(Pt i))<|NN fA (fun i=>(Pt i))<|CC<|LL ze<|BM f0 (ao 25 0 (AV.agg [j.ah,j.ag]) (cx _ _ aI) k!)<|EE acZ<|CN 3<|NN KW (fun i=>(Pt i))<|SS V2<|CC<|MM (ao 25 0 (AV.agg [j.ah,j.ag]) (Am _ _ o! (po _ _ (pj.a _ _ (cx _ _ aI)))) k!)<|EE Cf<|CN 3<|NN X7 (fun i=>(Pt i))<|SS X8<|CC<|LL NK<|BM f1 (ao 25 0 (AV.agg [j.ah,j.ag]) (mN _ _ o! (qG _ _ (du.a _ _ (Am _ _ o! (po _ _ (pj.a _ _ (cx _ _ aI))))))) k!)<|MM (ao 28 0 (AV.agg [(Zi f.ay),f.aS,(Zi f.ai)]) (mN _ _ o! (qG _ _ (du.a _ _ (Am _ _ o! (po _ _ (pj.a _ _ bS)))))) k!)<|EE k19<|CN 5<|MM (ao 25 0 (AV.agg [j.ah,j.ag]) (mN _ _ o! (qG _ _ (du.a _ _ (Am _ _ o! (po _ _ (pj.a _ _ (cx _ _ aI))))))) k!)<|MM (ao 28 0 (AV.agg [(Zi f.ay),f.aS,(Zi f.ai)]) (mN _ _ o! (qG _ _ (du.a _ _ (Am _ _ o! (po _ _ (pj.a _ _ bS)))))) k!)<|EE k20<|CN 5<|LL WD<|ZZ) k!) k!) Al rfl
theorem WE (a b:Int):imax a b=imax b a:=by unfold imax;split<;>split<;>omega
theorem WG (a b:Int):cd a b=cd b a:=by unfold cd;split<;>split<;>omega
def NL (y:Int) (s:Span):Int:=imax 0 (cd y (s.aP+1) - s.bt)
def yj (y:Int) (l:List Span):Nat→Nat→Int
 | 0,_=>0
 | k+1,i=>NL y (l.g i)+yj y l k (i+1)
structure ya (x:aZ):Prop where
 lo:∀q,q<x.off.length→0≤(x.off.g q).bt∧(x.off.g q).aP≤100000∧(x.off.g q).bt≤(x.off.g q).aP
 ord:∀q,0<q→q<x.off.length→(x.off.g (q - 1)).aP<(x.off.g q).bt
 len:x.off.length≤16
 aC:0≤x.aC∧x.aC≤1000
theorem eQ.off {j:cF} (F:eQ j) {r:Nat} (hr:r<j.ae.length):ya (j.ae.g r):=by
 obtain ⟨a,b⟩:=F.ro r hr
 obtain ⟨c,d,e⟩:=F.rs r hr
 exact ⟨fun q hq=>⟨(b q hq).1,(b q hq).2,c q hq⟩,d,a,e⟩
theorem TB {y:Int} {x:aZ} (o:ya x) {q:Nat} (hq:q<x.off.length):0≤NL y (x.off.g q)∧NL y (x.off.g q)≤100001:=by
 have:=o.lo q hq
 unfold NL imax cd
 split<;>split<;>omega
theorem NM {x:aZ} (o:ya x) {y:Int} (hy:0≤y) (T5:y≤1099511627776):∀(k i:Nat) (v:Int),i+k=x.off.length→-(100001*(i:Int))≤v→v≤1099511627776→iM y x k i v=v - yj y x.off k i∧nj x y k i v=v - yj y x.off k i
 | 0,i,v,_,_,_=>⟨by rw[iM,yj,Int.sub_zero],by rw[nj,yj,Int.sub_zero]⟩
 | k+1,i,v,e,h1,h2=>by
   have hb:=o.lo i o!
   have hc:=TB o (y:=y) (q:=i) o!
   have hl:=o.len
   have w1:IntKind.i64.wrap ((x.off.g i).aP+1)=(x.off.g i).aP+1:=wrap_i64 o! o!
   have hm:cd y ((x.off.g i).aP+1)≤100001∧0≤cd y ((x.off.g i).aP+1):=by unfold cd;split<;>omega
   have w2:IntKind.i64.wrap (cd y ((x.off.g i).aP+1) -(x.off.g i).bt)=cd y ((x.off.g i).aP+1) -(x.off.g i).bt:=wrap_i64 o! o!
   have c1:imax 0 (IntKind.i64.wrap (cd y (IntKind.i64.wrap ((x.off.g i).aP+1)) -(x.off.g i).bt))=NL y (x.off.g i):=by rw[w1,w2];rfl
   have c2:imax (IntKind.i64.wrap (cd (IntKind.i64.wrap ((x.off.g i).aP+1)) y -(x.off.g i).bt)) 0=NL y (x.off.g i):=by rw[WG,WE,c1]
   have w3:IntKind.i64.wrap (v - NL y (x.off.g i))=v - NL y (x.off.g i):=wrap_i64 o! o!
   have ih:=NM o hy T5 k (i+1) (v - NL y (x.off.g i)) o! o! o!
   rw[iM,nj,yj,c1,c2,w3,ih.1,ih.2]
   constructor<;>omega
def room (x:aZ) (y:Int):Int:=x.aC*(y - yj y x.off x.off.length 0)
theorem TC {x:aZ} (o:ya x) (y:Int):∀(k i:Nat),i+k=x.off.length→0≤yj y x.off k i∧yj y x.off k i≤100001*(k:Int)
 | 0,i,_=>by rw[yj];omega
 | k+1,i,e=>by
   have:=TC o y k (i+1) o!
   have:=TB o (y:=y) (q:=i) o!
   rw[yj];omega
theorem WH {x:aZ} (o:ya x) {y:Int} (hy:0≤y) (T5:y≤1099511627776):IntKind.i64.wrap (room x y)=room x y:=by
 have a:=TC o y x.off.length 0 (Nat.zero_add _)
 have l:=o.len
 have m:=o.aC
 obtain ⟨D,hD⟩:∃D,D=y - yj y x.off x.off.length 0:=⟨_,rfl⟩
 have d1: -1600016≤D:=by omega
 have d2:D≤1099511627776:=by omega
 have m1:x.aC*D≤1000*1099511627776:=by
  rcases Int.le_total 0 D with h | h
  · exact Int.le_trans (Int.mul_le_mul_of_nonneg_right m.2 h) o!
  · have:x.aC*D≤0:=Int.mul_nonpos_of_nonneg_of_nonpos m.1 h
    omega
 have m2: -(1000*1600016)≤x.aC*D:=by
  rcases Int.le_total 0 D with h | h
  · have:0≤x.aC*D:=Int.mul_nonneg m.1 h
    omega
  · have h2:x.aC*(-D)≤1000*(-D):=Int.mul_le_mul_of_nonneg_right m.2 o!
    rw[Int.mul_neg] at h2
    omega
 rw[room,←hD]
 exact wrap_i64 o! o!
theorem EG {x:aZ} (o:ya x) {y:Int} (hy:0≤y) (T5:y≤1099511627776):mb x y=room x y∧nk x y=room x y:=by
 have a:=NM o hy T5 x.off.length 0 y (Nat.zero_add _) o! T5
 have e:imax y 0=y:=by unfold imax;split<;>omega
 have b:=WH o hy T5
 constructor
 · rw[mb,a.1];exact b
 · rw[nk,e,a.2,Int.mul_comm];exact b
theorem TD (y:Int) (s:Span) (h:s.bt≤s.aP):NL (y+1) s=NL y s+(if s.bt≤y∧y≤s.aP then 1 else 0):=by
 unfold NL imax cd
 split<;>split<;>split<;>(try split)<;>(try split)<;>omega
theorem JA {x:aZ} (o:ya x) (y:Int):∀(k i:Nat),i+k=x.off.length→(yj (y+1) x.off k i=yj y x.off k i∨yj (y+1) x.off k i=yj y x.off k i+1)∧(0<k→y<(x.off.g i).bt→yj (y+1) x.off k i=yj y x.off k i)
 | 0,i,_=>⟨.inl rfl,fun h=>by omega⟩
 | k+1,i,e=>by
   have ih:=JA o y k (i+1) o!
   have b:=o.lo i o!
   have st:=TD y (x.off.g i) b.2.2
   have nx:0<k→(x.off.g i).aP<(x.off.g (i+1)).bt:=fun hk=>by have:=o.ord (i+1) o! o!;rwa [Nat.add_sub_cancel] at this
   have z:k=0→yj (y+1) x.off k (i+1)=yj y x.off k (i+1):=fun hk=>by subst hk;rfl
   rw[yj,yj,st]
   by_cases c:(x.off.g i).bt≤y∧y≤(x.off.g i).aP
   · rw[if_pos c]
     have:yj (y+1) x.off k (i+1)=yj y x.off k (i+1):=by
      rcases Nat.eq_zero_or_pos k with hk | hk
      · exact z hk
      · exact ih.2 hk (by have:=nx hk;omega)
     exact ⟨.inr o!,fun _ h=>by omega⟩
   · rw[if_neg c]
     refine ⟨by rcases ih.1 with h | h<;>omega,fun _ h=>?_⟩
     have:yj (y+1) x.off k (i+1)=yj y x.off k (i+1):=by
      rcases Nat.eq_zero_or_pos k with hk | hk
      · exact z hk
      · exact ih.2 hk (by have:=nx hk;omega)
     omega
theorem Pp {x:aZ} (o:ya x) (y:Int):room x y≤room x (y+1):=by
 have s:=(JA o y x.off.length 0 (Nat.zero_add _)).1
 exact Int.mul_le_mul_of_nonneg_left o! o.aC.1
theorem EH {x:aZ} (o:ya x) (y:Int):∀n:Nat,room x y≤room x (y+(n:Int))
 | 0=>by rw[show y+((0:Nat):Int)=y by omega];exact Int.le_refl _
 | n+1=>by
   have:=EH o y n
   have:=Pp o (y+(n:Int))
   rw[show y+((n+1:Nat):Int)=y+(n:Int)+1 by omega];omega
theorem NO {j:cF} (F:eQ j) {i0:Nat} (hi:i0<j.ab.length) {r:Int}:∀(k i:Nat) (v:Int),i+k=(j.ab.g i0).aF.length→0≤v→v≤10000000000→eM j i0 r k i v=IntKind.i64.wrap (v+IntKind.i64.wrap ((j.ab.g i0).aL*(match gz (j.ab.g i0) r k i with | none=>0 | some m=>m)))
 | 0,i,v,_,h0,h1=>by
   rw[eM,gz]
   show v=_
   rw[Int.mul_zero,show IntKind.i64.wrap 0=0 from wrap_i64 o! o!,Int.add_zero,wrap_i64 o! o!]
 | k+1,i,v,e,h0,h1=>by
   rw[eM,gz]
   by_cases c:((j.ab.g i0).aF.g i).ai=r
   · rw[decide_eq_true c,aj,aj]
     have tk:=F.tk i0 hi
     have um:=F.um i0 hi i o!
     have ur:=F.ur i0 hi i o!
     have mm:=(F.rs ((j.ab.g i0).aF.g i).ai.toNat o!).2.2
     have p1:0≤(j.ab.g i0).aL*((j.ab.g i0).aF.g i).aC:=Int.mul_nonneg tk.1 o!
     have p2:(j.ab.g i0).aL*((j.ab.g i0).aF.g i).aC≤100000*1000:=Int.le_trans (Int.mul_le_mul_of_nonneg_right tk.2 o!) (Int.mul_le_mul_of_nonneg_left o! o!)
     have w:IntKind.i64.wrap ((j.ab.g i0).aL*((j.ab.g i0).aF.g i).aC)=(j.ab.g i0).aL*((j.ab.g i0).aF.g i).aC:=wrap_i64 o! o!
     have no:∀(k' i':Nat) (v':Int),i<i'→i'+k'=(j.ab.g i0).aF.length→eM j i0 r k' i' v'=v':=fun k'=>by
      induction k' with
      | zero=>intro i' v' _ _;rfl
      | succ k' ih=>
        intro i' v' g1 g2
        have:=F.ud i0 hi i o! i' g1 o!
        rw[eM,decide_eq_false (fun e=>this (c.trans e.symm)),af]
        exact ih (i'+1) v' o! o!
     rw[no k (i+1) _ o! o!]
   · rw[decide_eq_false c,af,af]
     exact NO F hi k (i+1) v o! h0 h1
theorem NP {j:cF} (F:eQ j) {i0:Nat} (hi:i0<j.ab.length) {r:Int}:∀(k i:Nat),i+k=(j.ab.g i0).aF.length→0≤(match gz (j.ab.g i0) r k i with | none=>0 | some m=>m)∧(match gz (j.ab.g i0) r k i with | none=>0 | some m=>m)≤1000
 | 0,i,_=>⟨Int.le_refl _,show (0:Int)≤1000 by omega⟩
 | k+1,i,e=>by
   rw[gz]
   by_cases c:((j.ab.g i0).aF.g i).ai=r
   · rw[decide_eq_true c,aj]
     have um:=F.um i0 hi i o!
     have ur:=F.ur i0 hi i o!
     have mm:=(F.rs ((j.ab.g i0).aF.g i).ai.toNat o!).2.2
     exact ⟨show 0≤((j.ab.g i0).aF.g i).aC by omega,show ((j.ab.g i0).aF.g i).aC≤1000 by omega⟩
   · rw[decide_eq_false c,af]
     exact NP F hi k (i+1) o!
theorem NQ {j:cF} (F:eQ j) {r:Int}:∀(k i:Nat) (v:Int),i+k=j.ab.length→0≤v→v≤100000000*(i:Int)→j5 j r k i v=mG j r k i v
 | 0,i,v,_,_,_=>rfl
 | k+1,i,v,e,h0,h1=>by
   have nt:=F.nt
   have tk:=F.tk i o!
   have ub:=NP F (r:=r) (i0:=i) o! (j.ab.g i).aF.length 0 (Nat.zero_add _)
   have ue:l5 (j.ab.g i) r=(match gz (j.ab.g i) r (j.ab.g i).aF.length 0 with | none=>0 | some m=>m):=rfl
   rw[←ue] at ub
   have p1:0≤(j.ab.g i).aL*l5 (j.ab.g i) r:=Int.mul_nonneg tk.1 ub.1
   have p2:(j.ab.g i).aL*l5 (j.ab.g i) r≤100000*1000:=Int.le_trans (Int.mul_le_mul_of_nonneg_right tk.2 ub.1) (Int.mul_le_mul_of_nonneg_left ub.2 o!)
   have w1:IntKind.i64.wrap ((j.ab.g i).aL*l5 (j.ab.g i) r)=(j.ab.g i).aL*l5 (j.ab.g i) r:=wrap_i64 o! o!
   have w2:IntKind.i64.wrap (v+(j.ab.g i).aL*l5 (j.ab.g i) r)=v+(j.ab.g i).aL*l5 (j.ab.g i) r:=wrap_i64 o! o!
   rw[j5,mG,NO F o! _ _ _ (Nat.zero_add _) h0 o!,←ue,w1,w2]
   exact NQ F k (i+1) _ o! o! o!
theorem WI {j:cF} (F:eQ j) (r:Int):nz j r=cO j r:=NQ F _ 0 0 (Nat.zero_add _) (Int.le_refl _) (Int.le_refl _)
theorem TE {j:cF} {f:jg} {i0:Nat}:∀(k i:Nat) (v:Bool),hX j f i0 k i v=(v||anyI (fun n=>decide (f.chain.g (i0 - 1)=(j.ab.g (f.chain.g i0).toNat).aq.g n)) k i)
 | 0,i,v=>by rw[hX,anyI,Bool.or_false]
 | k+1,i,v=>by
   rw[hX,anyI]
   cases v with
   | true=>rw[Bool.not_true,af,Bool.true_or]
   | false=>
     rw[Bool.not_false,aj,TE k (i+1),Bool.false_or]
     congr 1
     by_cases c:(j.ab.g (f.chain.g i0).toNat).aq.g i=f.chain.g (i0 - 1)
     · rw[decide_eq_true c,decide_eq_true c.symm]
     · rw[decide_eq_false c,decide_eq_false (fun e=>c e.symm)]
theorem TF {j:cF} {f:jg}:∀(k i:Nat) (v:Int),cX j f.chain k i v=fG j f k i v
 | 0,i,v=>rfl
 | k+1,i,v=>by
   rw[cX,fG,TE,←CG,fQ,TF k (i+1)]
   by_cases a:0≤f.chain.g i
   · rw[decide_eq_true a,aj,decide_eq_false (by omega:¬f.chain.g i<0),af]
     by_cases b:f.chain.g i<(j.ab.length:Int)
     · rw[decide_eq_true b,Bool.not_true,af,decide_eq_false (by omega:¬((j.ab.length:Nat):Int)≤f.chain.g i),af]
       by_cases c:0<i
       · rw[decide_eq_true (by omega:0<((i:Nat):Int)),aj,decide_eq_false (by omega:¬((i:Nat):Int)=0),Bool.false_or]
       · rw[decide_eq_false (by omega:¬0<((i:Nat):Int)),af,decide_eq_true (by omega:((i:Nat):Int)=0),Bool.true_or,Bool.not_true,af]
     · rw[decide_eq_false b,Bool.not_false,aj,decide_eq_true (by omega:((j.ab.length:Nat):Int)≤f.chain.g i),aj]
   · rw[decide_eq_false a,af,Bool.not_false,aj,decide_eq_true (by omega:f.chain.g i<0),aj]
theorem TG {j:cF} (F:eQ j) {r m:Int} (hm:0<m) (hm2:m<9223372036854775808) (h0:0≤r) (h1:r<(j.ae.length:Int)):cr j r m=decide (room (j.ae.g r.toNat) (cd (m - 1) 1099511627776)<cO j r)∧nk (j.ae.g r.toNat) (cd (IntKind.i64.wrap (m - 1)) 1099511627776)=room (j.ae.g r.toNat) (cd (m - 1) 1099511627776):=by
 have w:IntKind.i64.wrap (m - 1)=m - 1:=wrap_i64 o! o!
 have b:0≤cd (m - 1) 1099511627776∧cd (m - 1) 1099511627776≤1099511627776:=by unfold cd;split<;>omega
 have e:=EG (F.off (r:=r.toNat) o!) b.1 b.2
 rw[cr,fQ,decide_eq_true h0,aj,decide_eq_true h1,aj,w,e.1,WI F]
 exact ⟨rfl,e.2⟩
theorem Pq (j:cF) (f:jg) (hf:f.ay<9223372036854775808):aU j f=aX j f:=by
 rw[aU,aX,←CW]
 by_cases c0:cy j=0
 · have F:=og c0
   rw[decide_eq_true c0,Bool.not_true,af,af]
   by_cases c1:f.ay≤0
   · rw[decide_eq_true c1,aj,aj]
   · rw[decide_eq_false c1,af,af,fH]
     by_cases c2:0<f.chain.length
     · rw[decide_eq_true (by omega:0<((f.chain.length:Nat):Int)),aj,decide_eq_false (by omega:¬((f.chain.length:Nat):Int)=0),af,gr,TF];cases fG j f f.chain.length 0 0<;>rfl
     · rw[decide_eq_false (by omega:¬0<((f.chain.length:Nat):Int)),af,decide_eq_true (by omega:((f.chain.length:Nat):Int)=0),aj,decide_eq_false c1,af]
       by_cases a:0≤f.ai
       · by_cases b:f.ai<(j.ae.length:Int)
         · have e:=TG F (r:=f.ai) (m:=f.ay) o! hf a b
           rw[e.1,decide_eq_true a,aj,decide_eq_true b,aj,e.2]
         · rw[cr,fQ,decide_eq_true a,aj,decide_eq_false b,af,aj,af]
       · rw[cr,fQ,decide_eq_false a,af,af,af]
 · rw[decide_eq_false c0,Bool.not_false,aj,aj]
structure L5 (P:Int→Bool) (N r:Int):Prop where
 r0:0≤r
 rN:r≤N
 lo:∀y,0≤y→y<r→P y=false
 hi:∀y,r≤y→y<N→P y=true
theorem zo {P:Int→Bool} {N:Int} (hN:N≤1000000) (mono:∀y z,0≤y→y≤z→z<N→P y=true→P z=true):∀(k:Nat) (i j:Int),j - i≤(k:Int)→0≤i→i≤j→j≤N→(∀y,0≤y→y<i→P y=false)→(∀y,j≤y→y<N→P y=true)→L5 P N (ez P k i j)
 | 0,i,j,h,h0,h1,h2,a,b=>by
   rw[ez]
   exact ⟨h0,by omega,a,fun y hy=>b y o!⟩
 | k+1,i,j,h,h0,h1,h2,a,b=>by
   rw[ez]
   by_cases q:i<j
   · obtain ⟨e,m1,m2⟩:=Xw h0 q o!
     rw[e,decide_eq_true q]
     simp only[aj]
     cases hp:P ((i+j) /2) with
     | false=>
       simp only[Bool.not_false,aj]
       refine zo hN mono k _ _ o! o! o! h2 (fun y y0 y1=>?_) b
       cases hy:P y with
       | false=>rfl
       | true=>have:=mono y ((i+j) /2) y0 o! o! hy;rw[hp] at this;cases this
     | true=>
       simp only[Bool.not_true,af]
       exact zo hN mono k _ _ o! h0 m1 o! a fun y y1 y2=>mono _ y o! y1 y2 hp
   · rw[decide_eq_false q]
     simp only[af]
     exact ⟨h0,by omega,a,fun y hy=>b y o!⟩
theorem EI {j:cF} (F:eQ j) {i:Nat} (hi:i<j.ae.length):L5 (fun y=> !decide (room (j.ae.g i) y<cO j (i:Int))) 100001 (eg j (i:Int)):=by
 have key:∀y,0≤y→y<100001→gA y j (i:Int)= !decide (room (j.ae.g i) y<cO j (i:Int)):=fun y h0 h1=>by
  have w:IntKind.i64.wrap (y+1)=y+1:=wrap_i64 o! o!
  have e:=TG F (r:=(i:Int)) (m:=y+1) o! o! o! o!
  have im:cd (y+1 - 1) 1099511627776=y:=by unfold cd;split<;>omega
  rw[gA,w,e.1,im,Int.toNat_natCast]
 have mono:∀y z,0≤y→y≤z→z<100001→(fun y=>gA y j (i:Int)) y=true→(fun y=>gA y j (i:Int)) z=true:=fun y z h0 h1 h2 h=>by
  have h':gA y j (i:Int)=true:=h
  show gA z j (i:Int)=true
  rw[key y h0 o!] at h'
  rw[key z o! h2]
  have m:=EH (F.off hi) y (z - y).toNat
  rw[show y+((z - y).toNat:Int)=z by omega] at m
  have:¬room (j.ae.g i) y<cO j (i:Int):=by simpa using h'
  rw[decide_eq_false o!];rfl
 have s:=zo (P:=fun y=>gA y j (i:Int)) (N:=100001) o! mono ((100001:Int) - 0).toNat 0 100001 o! (Int.le_refl _) o! (Int.le_refl _) (fun y _ _=>by omega) fun y _ _=>by omega
 exact ⟨s.r0,s.rN,fun y h0 h1=>by rw[←key y h0 (by have:=s.rN;unfold eg o7 at h1;omega)];exact s.lo y h0 h1,fun y h1 h2=>by
  have:=s.r0
  have h3:0≤y:=by unfold eg o7 at h1;omega
  rw[←key y h3 h2];exact s.hi y h1 h2⟩
theorem X9 {j:cF} (F:eQ j) {i:Nat} (hi:i<j.ae.length) {r:Int} (L:L5 (fun y=> !decide (room (j.ae.g i) y<cO j (i:Int))) 100001 r):∀(k:Nat) (v:Int),100001 - v≤(k:Int)→0≤v→v≤r→cH j i k v=r
 | 0,v,h,h0,h1=>by
   have:=L.rN
   rw[cH];omega
 | k+1,v,h,h0,h1=>by
   have rN:=L.rN
   rw[cH]
   by_cases a:v≤100000
   · have e:=EG (F.off hi) h0 (y:=v) o!
     rw[decide_eq_true a,aj,e.2]
     by_cases b:v<r
     · have:=L.lo v h0 b
       have c:room (j.ae.g i) v<cO j (i:Int):=by simpa using this
       rw[decide_eq_true c,aj]
       exact X9 F hi L k (v+1) o! o! o!
     · have:=L.hi v o! o!
       have c:¬room (j.ae.g i) v<cO j (i:Int):=by simpa using this
       rw[decide_eq_false c,af];omega
   · rw[decide_eq_false a,af];omega
theorem WJ {j:cF} (F:eQ j) {i:Nat} (hi:i<j.ae.length):Jx j i=eg j (i:Int):=by
 have L:=EI F hi
 exact X9 F hi L _ 0 o! (Int.le_refl _) L.r0
theorem JB {j:cF} (F:eQ j) {i:Nat} (hi:i<j.ae.length) (h:cO j (i:Int)≤0):eg j (i:Int)=0:=by
 have L:=EI F hi
 by_cases z:0<eg j (i:Int)
 · have:=L.lo 0 (Int.le_refl _) z
   have c:room (j.ae.g i) 0<cO j (i:Int):=by simpa using this
   have o:=F.off hi
   have r0:0≤room (j.ae.g i) 0:=by
    have s:∀k i',i'+k=(j.ae.g i).off.length→yj 0 (j.ae.g i).off k i'=0:=fun k=>by
     induction k with
     | zero=>intro _ _;rfl
     | succ k ih=>
       intro i' e
       have:=o.lo i' o!
       have:NL 0 ((j.ae.g i).off.g i')=0:=by unfold NL imax cd;split<;>split<;>omega
       rw[yj,this,ih (i'+1) o!];rfl
    rw[room,s _ 0 (Nat.zero_add _),Int.sub_zero,Int.mul_zero];exact Int.le_refl _
   omega
 · have:=L.r0;omega
theorem TH {j:cF} (F:eQ j):∀(k i:Nat) (m:Int) (b:Bool) (r:Int),i+k=j.ae.length→0≤m→(kz j k i m b r).1=(ig j k i m r).1∧(kz j k i m b r).2.2=(ig j k i m r).2∧((kz j k i m b r).2.1=b∧(ig j k i m r).1=m∧(ig j k i m r).2=r∨(kz j k i m b r).2.1=false∧m<(ig j k i m r).1)
 | 0,i,m,b,r,_,_=>⟨rfl,rfl,.inl ⟨rfl,rfl,rfl⟩⟩
 | k+1,i,m,b,r,e,h0=>by
   rw[kz,ig,WJ F o!]
   by_cases c:m<eg j (i:Int)
   · have w:0<cO j (i:Int):=by
      rcases Int.lt_or_le 0 (cO j (i:Int)) with h | h
      · exact h
      · have:=JB F (i:=i) o! h;omega
     rw[decide_eq_true c,aj,decide_eq_true w,Bool.and_self,aj]
     have ih:=TH F k (i+1) (eg j (i:Int)) false (i:Int) o! o!
     refine ⟨ih.1,ih.2.1,.inr ?_⟩
     rcases ih.2.2 with ⟨h1,h2,h3⟩ | ⟨h1,h2⟩
     · exact ⟨h1,by omega⟩
     · exact ⟨h1,by omega⟩
   · rw[decide_eq_false c,af,Bool.and_false,af]
     exact TH F k (i+1) m b r o! h0
end
end Go.Proofs.aE
