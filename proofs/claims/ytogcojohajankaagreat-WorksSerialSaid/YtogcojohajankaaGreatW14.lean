import Derived.Test.YtogcojohajankaaGreatW0
import Derived.Test.YtogcojohajankaaGreatW1
import Derived.Test.YtogcojohajankaaGreatW9
import Derived.Test.YtogcojohajankaaGreatW5
import Derived.Test.YtogcojohajankaaGreatW3
import Derived.Test.YtogcojohajankaaGreatW12
import Derived.Test.YtogcojohajankaaGreatW13
import Derived.Test.YtogcojohajankaaGreatW4
import Derived.Test.YtogcojohajankaaGreatW10
namespace Go.Proofs.aJ
open Go.Proofs Ab
set_option maxRecDepth 100000
set_option maxHeartbeats 4000000
set_option linter.unusedVariables false
set_option linter.unusedSimpArgs false
theorem lh {p:Prop} (h:p:=by first | omega | assumption | (simp only[List.length_set]<;>omega) | exact NB _ o! | exact UB _ o! | (intro q hq;have q_:=NB _ o! q hq;omega)):p:=h
theorem mM {p:Prop} (h:p:=by first | omega | exact fV.1 | (refine ⟨⟨by omega,by omega,fun _=>?_⟩,by omega⟩;first | exact fV.1.2.2 o! | simp_all)):p:=h
theorem rb {p:Prop} (h:p:=by first | assumption | exact hG ct o!):p:=h
noncomputable def rK:Code:=(Tryz.f21.body).getD .skip
theorem QZ:Tryz.f21.body=some rK:=by kernel_rfl
noncomputable def LO:Code:=(bw rK).getD 0 .skip
noncomputable def LP:Code:=(bw rK).getD 1 .skip
def bn (order:List Int) (bq:List Bool) (j:cG):Nat→Int→Int→Int
 | 0,eF,bN=>eF
 | nH+1,eF,bN=>(bif (decide (0≤bN)) then (bif (!(bq.g (order.g bN.toNat).toNat)) then (bif (hQ (j.ab.g (order.g bN.toNat).toNat) bq) then bn order bq j nH (order.g bN.toNat) (bN - 1) else bn order bq j nH eF (bN - 1)) else bn order bq j nH eF (bN - 1)) else eF)
theorem om {d:Nat} {h:aw} (bf:AV) (startsN:Nat) (placedN:Nat) (from_:Int) (aW:List Int) (bq:List Bool) (j:cG) (order:List Int) (ar:List Int) (aj:List Bool) (d_:Nat) (gV:Nat) (sg:Nat) (db:bS h .i64 3 bf order) (ft:aM h j.ao j.ab) (nI:aM h j.ai j.af) (oJ:aG.ok h j) (mP:∀i,i<j.ab.length→∀q,q<(j.ab.g i).ax.length→0≤(j.ab.g i).ax.g q∧(j.ab.g i).ax.g q<(j.ab.length:Int)) (qJ:∀i,i<j.ab.length→∀q,q<(j.ab.g i).au.length→0≤((j.ab.g i).au.g q).ah∧((j.ab.g i).au.g q).ah<(j.af.length:Int)) (ry:∀q,q<order.length→0≤order.g q∧order.g q<(j.ab.length:Int)) (xz:ar.length=j.ab.length) (Ct:aj.length=j.ab.length) (Cu:startsN=j.ab.length) (UF:placedN=j.ab.length) (UG:bq.length=placedN):∀(k_:Nat) (eF:Int) (bN:Int) (_:(bN+1≤(k_:Int))) (_:((-1≤eF∧eF<(j.ab.length:Int)∧(0≤eF→bq.g eF.toNat=false))∧bN<(order.length:Int))) (x:Nat→AV) (hh:aw) (aA:Tidy hh) (ay:Has h hh) (cN:hh.get d_=some (aH.cells (zs .i64 aW) 3 false)) (eh:hh.get gV=some (aH.cells (bs bq) 4 false)) (zx:hh.get sg=some (aH.cells [j.ao,j.ai] 25 false)),bt (cU (d+4)) LP ⟨((x 0)::bf::(AV.slice d_ 0 startsN startsN false)::(AV.slice gV 0 placedN placedN false)::(Zi from_)::(Pt sg)::rx x 6 5 ((Zi eF)::(Zi bN)::rx x 13 49 [])),hh,[],.no⟩ (.exit 2) hh (fun r y=>((y 0)::bf::(AV.slice d_ 0 startsN startsN false)::(AV.slice gV 0 placedN placedN false)::(Zi from_)::(Pt sg)::rx y 6 5 ((Zi r)::rx y 12 50 []))) (fun r=>(-1≤r∧r<(j.ab.length:Int)∧(0≤r→bq.g r.toNat=false))) (bn order bq j k_ eF bN)
 | 0,eF,bN,gq,fV,x,hh,aA,ay,cN,eh,zx=>by
   have ik:=db.small
   have jY:=ft.small
   have zu:=nI.small
   have tG:=aA _ _ cN
   have FV:=aA _ _ eh
   have afM:=aA _ _ zx
   have q1:(decide (0≤bN))=false:=d!
   exact bt.out eF rfl (pk (d+4) _ _ hh _ hh (CC<|VV (pc 3 false true .i64 bN 0)<|BB q1<|ZZ) k!) (bp.refl aA) (show (-1≤eF∧eF<(j.ab.length:Int)∧(0≤eF→bq.g eF.toNat=false)) from mM) k!
 | nH+1,eF,bN,gq,fV,x,hh,aA,ay,cN,eh,zx=>by
   have ik:=db.small
   have jY:=ft.small
   have zu:=nI.small
   have tG:=aA _ _ cN
   have FV:=aA _ _ eh
   have afM:=aA _ _ zx
   have NB:=mP
   have OB:=ry
   have ob_:0≤bN→0≤order.g bN.toNat∧order.g bN.toNat<(j.ab.length:Int):=fun h0=>OB _ o!
   have dR:=fun {al ps} (k:Pk al _ ps)=>(CC<|VV (pc 3 false true .i64 bN 0)<|k:Pk _ [] ps)
   rcases Bool.eq_false_or_eq_true (decide (0≤bN)) with f0 | f0
   · have dx:=of_decide_eq_true f0
     obtain ⟨p3,q4,cF,_⟩:=(db.has ay).elem (i:=bN.toNat) o!
     have jL:bR env (some (.slice 3)) (some bf) (some (Zi bN))=some (AV.ptr p3 q4):=by rw[show (bN:Int)=((bN.toNat:Nat):Int) by omega];exact cF
     have j9:aY env hh 3 (AV.ptr p3 q4)=some (Zi (order.g bN.toNat)):=(db.has ay).load o! cF
     have KN:bR env (some (.slice 4)) (some (AV.slice gV 0 placedN placedN false)) (some (Zi (order.g bN.toNat)))=some (AV.ptr gV (order.g bN.toNat).toNat):=jw k! (show (order.g bN.toNat).toNat<placedN by omega) o!
     have KO:aY env hh 4 (AV.ptr gV (order.g bN.toNat).toNat)=some (AV.bool (bq.g (order.g bN.toNat).toNat)):=KD k! eh l!
     have hI:=fun {al ps} (k:Pk al _ ps)=>(dR<|BB f0<|CN 3<|VV jL<|MM j9<|VV KN<|MM KO<|CN 2<|k:Pk _ [] ps)
     rcases Bool.eq_false_or_eq_true (!(bq.g (order.g bN.toNat).toNat)) with f1 | f1
     · obtain ⟨p10,q11,Zb,_⟩:=(db.has ay).elem (i:=bN.toNat) o!
       have ix9:bR env (some (.slice 3)) (some bf) (some (Zi bN))=some (AV.ptr p10 q11):=by rw[show (bN:Int)=((bN.toNat:Nat):Int) by omega];exact Zb
       have As:aY env hh 3 (AV.ptr p10 q11)=some (Zi (order.g bN.toNat)):=(db.has ay).load o! Zb
       obtain ⟨p14,Z6,Dp⟩:=(ft.has ay).elem (i:=(order.g bN.toNat).toNat) o!
       have Yq:bR env (some (.slice 39)) (some j.ao) (some (Zi (order.g bN.toNat)))=some (AV.ptr p14 Z6):=by rw[show ((order.g bN.toNat):Int)=(((order.g bN.toNat).toNat:Nat):Int) by omega];exact Dp
       have H':aY env hh 39 (AV.ptr p14 Z6)=some (AV.agg [(AV.str ((j.ab.g (order.g bN.toNat).toNat).name)),(Zi ((j.ab.g (order.g bN.toNat).toNat).takes)),((j.ab.g (order.g bN.toNat).toNat).aO),((j.ab.g (order.g bN.toNat).toNat).aS)]):=(ft.has ay).load o! Dp
       have k17:=Jh (d:=d+3) (j.ab.g (order.g bN.toNat).toNat) bq ((ft.has ay).ok (i:=(order.g bN.toNat).toNat) o!) (l7.own (op:=false) (n:=placedN) k! k! eh l! o!) lh aA
       have c18:AV.same 20 j.ao j.ao=true:=(ft.has ay).same 19
       have c19:AV.same 20 (AV.agg [(AV.str ((j.ab.g (order.g bN.toNat).toNat).name)),(Zi ((j.ab.g (order.g bN.toNat).toNat).takes)),((j.ab.g (order.g bN.toNat).toNat).aO),((j.ab.g (order.g bN.toNat).toNat).aS)]) (AV.agg [(AV.str ((j.ab.g (order.g bN.toNat).toNat).name)),(Zi ((j.ab.g (order.g bN.toNat).toNat).takes)),((j.ab.g (order.g bN.toNat).toNat).aO),((j.ab.g (order.g bN.toNat).toNat).aS)])=true:=jy 18 (xh (fun n=>kS n _) (xh (fun n=>aK n _ _) (xh (((ft.has ay).ok (i:=(order.g bN.toNat).toNat) o!).2.1).same (xh (((ft.has ay).ok (i:=(order.g bN.toNat).toNat) o!).2.2).same TY))))
       have mH:=fun {al ps} (k:Pk al _ ps)=>(hI<|BC f1<|BM f1 (aI 22 0 j.ao zx k!)<|BC f1<|BC f1<|BV f1 ix9<|BM f1 As<|BV f1 Yq<|BM f1 H'<|BC f1<|BB f1<|EE k17<|VV (pe (hQ (j.ab.g (order.g bN.toNat).toNat) bq) false f1)<|HH j9<|k:Pk _ [] ps)
       rcases Bool.eq_false_or_eq_true (hQ (j.ab.g (order.g bN.toNat).toNat) bq) with f2 | f2
       · obtain ⟨p22,q23,adM,_⟩:=(db.has ay).elem (i:=bN.toNat) o!
         have alk:bR env (some (.slice 3)) (some bf) (some (Zi bN))=some (AV.ptr p22 q23):=by rw[show (bN:Int)=((bN.toNat:Nat):Int) by omega];exact adM
         have alm:aY env hh 3 (AV.ptr p22 q23)=some (Zi (order.g bN.toNat)):=(db.has ay).load o! adM
         have w25:IntKind.i64.wrap (bN - 1)=bN - 1:=wrap_i64 o! o!
         exact bt.round (by simp only[bn,f0,f1,f2,cond_true,cond_false]) (pk (d+4) _ _ hh _ hh (mH<|HH (show AV.same 20 (Zi (order.g bN.toNat)) (Zi (order.g bN.toNat))=true from aK 19 _ _)<|HH KO<|HH (show AV.same 20 (AV.bool (bq.g (order.g bN.toNat).toNat)) (AV.bool (bq.g (order.g bN.toNat).toNat))=true from iK 19 _)<|HH (aI 22 0 j.ao zx k!)<|HH c18<|HH As<|HH (show AV.same 20 (Zi (order.g bN.toNat)) (Zi (order.g bN.toNat))=true from aK 19 _ _)<|HH H'<|HH c19<|BB f2<|CN 2<|VV alk<|MM alm<|CN 2<|VV (vz 3 false true w25)<|CC<|ZZ) k!) (bp.refl aA) _ k! (fun x=>om bf startsN placedN from_ aW bq j order ar aj d_ gV sg db ft nI oJ mP qJ ry xz Ct Cu UF UG nH (order.g bN.toNat) (bN - 1) o! (show ((-1≤(order.g bN.toNat)∧(order.g bN.toNat)<(j.ab.length:Int)∧(0≤(order.g bN.toNat)→bq.g (order.g bN.toNat).toNat=false))∧(bN - 1)<(order.length:Int)) from mM) x hh aA ay cN eh zx)
       · have w21:IntKind.i64.wrap (bN - 1)=bN - 1:=wrap_i64 o! o!
         exact bt.round (by simp only[bn,f0,f1,f2,cond_true,cond_false]) (pk (d+4) _ _ hh _ hh (mH<|HH (show AV.same 20 (Zi (order.g bN.toNat)) (Zi (order.g bN.toNat))=true from aK 19 _ _)<|HH KO<|HH (show AV.same 20 (AV.bool (bq.g (order.g bN.toNat).toNat)) (AV.bool (bq.g (order.g bN.toNat).toNat))=true from iK 19 _)<|HH (aI 22 0 j.ao zx k!)<|HH c18<|HH As<|HH (show AV.same 20 (Zi (order.g bN.toNat)) (Zi (order.g bN.toNat))=true from aK 19 _ _)<|HH H'<|HH c19<|BC f2<|VV (vz 3 false true w21)<|CC<|ZZ) k!) (bp.refl aA) _ k! (fun x=>om bf startsN placedN from_ aW bq j order ar aj d_ gV sg db ft nI oJ mP qJ ry xz Ct Cu UF UG nH eF (bN - 1) o! (show ((-1≤eF∧eF<(j.ab.length:Int)∧(0≤eF→bq.g eF.toNat=false))∧(bN - 1)<(order.length:Int)) from mM) x hh aA ay cN eh zx)
     · have w9:IntKind.i64.wrap (bN - 1)=bN - 1:=wrap_i64 o! o!
       exact bt.round (by simp only[bn,f0,f1,cond_true,cond_false]) (pk (d+4) _ _ hh _ hh (hI<|BB f1<|BB f1<|BB f1<|BB f1<|BB f1<|BB f1<|BB f1<|BB f1<|BB f1<|BV f1 (sS false f1)<|HH j9<|HH (show AV.same 20 (Zi (order.g bN.toNat)) (Zi (order.g bN.toNat))=true from aK 19 _ _)<|HH KO<|HH (show AV.same 20 (AV.bool (bq.g (order.g bN.toNat).toNat)) (AV.bool (bq.g (order.g bN.toNat).toNat))=true from iK 19 _)<|FF<|CC<|VV (vz 3 false true w9)<|CC<|ZZ) k!) (bp.refl aA) _ k! (fun x=>om bf startsN placedN from_ aW bq j order ar aj d_ gV sg db ft nI oJ mP qJ ry xz Ct Cu UF UG nH eF (bN - 1) o! (show ((-1≤eF∧eF<(j.ab.length:Int)∧(0≤eF→bq.g eF.toNat=false))∧(bN - 1)<(order.length:Int)) from mM) x hh aA ay cN eh zx)
   · have dx:=of_decide_eq_false f0
     exact bt.out eF (by simp only[bn,f0,cond_true,cond_false]) (pk (d+4) _ _ hh _ hh (dR<|BB f0<|ZZ) k!) (bp.refl aA) (show (-1≤eF∧eF<(j.ab.length:Int)∧(0≤eF→bq.g eF.toNat=false)) from mM) k!
def fC (order:List Int) (j:cG) (from_:Int):Nat→List Int→List Bool→Bool×List Int×List Bool
 | 0,aW,bq=>default
 | cS+1,aW,bq=>(bif (decide ((bn order bq j ((((order.length:Nat):Int) - 1)+1).toNat (-1) (((order.length:Nat):Int) - 1))<0)) then (true,aW,bq) else (bif (decide ((eG j aW bq (bn order bq j ((((order.length:Nat):Int) - 1)+1).toNat (-1) (((order.length:Nat):Int) - 1)) from_)<0)) then (false,aW,bq) else fC order j from_ cS (aW.set (bn order bq j ((((order.length:Nat):Int) - 1)+1).toNat (-1) (((order.length:Nat):Int) - 1)).toNat (eG j aW bq (bn order bq j ((((order.length:Nat):Int) - 1)+1).toNat (-1) (((order.length:Nat):Int) - 1)) from_)) (bq.set (bn order bq j ((((order.length:Nat):Int) - 1)+1).toNat (-1) (((order.length:Nat):Int) - 1)).toNat true)))
theorem yj {d:Nat} {h:aw} (bf:AV) (startsN:Nat) (placedN:Nat) (from_:Int) (j:cG) (order:List Int) (ar:List Int) (aj:List Bool) (a_:Nat) (cx:Nat) (fj:Nat) (bb:bS h .i64 3 bf order) (cf:aM h j.ao j.ab) (dc:aM h j.ai j.af) (fW:aG.ok h j) (fq:∀i,i<j.ab.length→∀q,q<(j.ab.g i).ax.length→0≤(j.ab.g i).ax.g q∧(j.ab.g i).ax.g q<(j.ab.length:Int)) (hH:∀i,i<j.ab.length→∀q,q<(j.ab.g i).au.length→0≤((j.ab.g i).au.g q).ah∧((j.ab.g i).au.g q).ah<(j.af.length:Int)) (ly:∀q,q<order.length→0≤order.g q∧order.g q<(j.ab.length:Int)) (mw:ar.length=j.ab.length) (l8:aj.length=j.ab.length) (mO:startsN=j.ab.length) (Cg:placedN=j.ab.length) (ct:Tidy h) (tA:h.get a_=none) (FX:h.get cx=none) (KT:h.nx≤fj) (qk:cx≠a_) (tH:fj≠a_) (tI:fj≠cx):∀(k_:Nat) (aW:List Int) (bq:List Bool) (_:((nF bq:Nat):Int)+1≤(k_:Int)) (x:Nat→AV) (hh:aw) (aA:Tidy hh) (ay:Has h hh) (ij:h.nx≤hh.nx) (iS:aW.length=startsN) (qS:bq.length=placedN) (bh:hh.get a_=some (aH.cells (zs .i64 aW) 3 false)) (cV:hh.get cx=some (aH.cells (bs bq) 4 false)) (gW:hh.get fj=some (aH.cells [j.ao,j.ai] 25 false)),cA (σ:=List Int×List Bool) (ρ:=Bool×List Int×List Bool) (cU (d+4)) LO ⟨((x 0)::bf::(AV.slice a_ 0 startsN startsN false)::(AV.slice cx 0 placedN placedN false)::(Zi from_)::(Pt fj)::rx x 6 56 []),hh,[],.no⟩ (.exit 0) hh (fun r z y=>((y 0)::bf::(AV.slice a_ 0 startsN startsN false)::(AV.slice cx 0 placedN placedN false)::(Zi from_)::(Pt fj)::rx y 6 56 [])) (fun r z y=>((y 0)::bf::(AV.slice a_ 0 startsN startsN false)::(AV.slice cx 0 placedN placedN false)::(Zi from_)::(Pt fj)::rx y 6 4 ((AV.bool r.1)::rx y 11 51 []))) (fun r z hk=>True) (fun r z hk=>Has h hk∧hk.get a_=some (aH.cells (zs .i64 r.2.1) 3 false)∧r.2.1.length=startsN∧hk.get cx=some (aH.cells (bs r.2.2) 4 false)∧r.2.2.length=placedN) (Sum.inr (fC order j from_ k_ aW bq))
 | 0,aW,bq,gq,x,hh,aA,ay,ij,iS,qS,bh,cV,gW=>by
   exfalso;omega
 | cS+1,aW,bq,gq,x,hh,aA,ay,ij,iS,qS,bh,cV,gW=>by
   have cr:=bb.small
   have eQ:=cf.small
   have jD:=dc.small
   have ji:=aA _ _ bh
   have vR:=aA _ _ cV
   have DL:=aA _ _ gW
   have NB:=fq
   have UB:=hH
   have OB:=ly
   have gL:cc (some (.slice 3)) (some bf)=some (Zn order.length):=bb.len
   have w2:IntKind.i64.wrap (((order.length:Nat):Int) - 1)=((order.length:Nat):Int) - 1:=wrap_i64 o! o!
   obtain ⟨yl3,h4,nX,fA,tM⟩:=om (d:=d) (h:=h) bf startsN placedN from_ aW bq j order ar aj a_ cx fj bb cf dc fW (by assumption) (by assumption) (by assumption) o! o! o! o! o! ((((order.length:Nat):Int) - 1)+1).toNat (-1) (((order.length:Nat):Int) - 1) o! (show ((-1≤(-1)∧(-1)<(j.ab.length:Int)∧(0≤(-1)→bq.g (-1).toNat=false))∧(((order.length:Nat):Int) - 1)<(order.length:Int)) from mM) (fun k_=>(((x 0)::bf::(AV.slice a_ 0 startsN startsN false)::(AV.slice cx 0 placedN placedN false)::(Zi from_)::(Pt fj)::rx x 6 5 ((Zi (-1))::(Zi (((order.length:Nat):Int) - 1))::(x 13)::bf::(Zn order.length)::(Zi (((order.length:Nat):Int) - 1))::rx x 17 45 [])):List AV).getD k_ AV.undef) hh aA ay bh cV gW
   have nW:=fA.y
   have NI:hh.nx≤h4.nx:=fA.n
   have nJ:Has h h4:=ay.trans fA.a
   have vc:=fun {al ps} (k:Pk al _ ps)=>(CN 2<|VV gL<|VV (vz 3 false true w2)<|CC<|LL nX<|CC<|VV (bO 3 false true .i64 (bn order bq j ((((order.length:Nat):Int) - 1)+1).toNat (-1) (((order.length:Nat):Int) - 1)) 0)<|k:Pk _ [] ps)
   rcases Bool.eq_false_or_eq_true (decide ((bn order bq j ((((order.length:Nat):Int) - 1)+1).toNat (-1) (((order.length:Nat):Int) - 1))<0)) with f0 | f0
   · have dx:=of_decide_eq_true f0
     exact cA.ret (true,aW,bq) AV.undef (congrArg Sum.inr (by simp only[fC,f0,cond_true,cond_false])) (pk (d+4) _ _ hh _ h4 (vc<|BC f0<|ZZ) k!) nW o! ⟨nJ,(fA.a _ _ bh),l!,(fA.a _ _ cV),l!⟩ k!
   · have dx:=of_decide_eq_false f0
     have k6:=LB (d:=d) j aW bq (bn order bq j ((((order.length:Nat):Int) - 1)+1).toNat (-1) (((order.length:Nat):Int) - 1)) from_ (aG.mono nJ fW) (bS.own (op:=false) (n:=startsN) k! k! (fA.a _ _ bh) l! o!) (l7.own (op:=false) (n:=placedN) k! k! (fA.a _ _ cV) l! o!) lh lh lh lh lh lh nW
     have zI:=fun {al ps} (k:Pk al _ ps)=>(vc<|BM f0 (aI 25 0 (AV.agg [j.ao,j.ai]) (fA.a _ _ gW) k!)<|CN 4<|EE k6<|CN 2<|VV (bO 3 false true .i64 (eG j aW bq (bn order bq j ((((order.length:Nat):Int) - 1)+1).toNat (-1) (((order.length:Nat):Int) - 1)) from_) 0)<|k:Pk _ [] ps)
     rcases Bool.eq_false_or_eq_true (decide ((eG j aW bq (bn order bq j ((((order.length:Nat):Int) - 1)+1).toNat (-1) (((order.length:Nat):Int) - 1)) from_)<0)) with f1 | f1
     · have dQ:=of_decide_eq_true f1
       exact cA.ret (false,aW,bq) AV.undef (congrArg Sum.inr (by simp only[fC,f0,f1,cond_true,cond_false])) (pk (d+4) _ _ hh _ h4 (zI<|BC f1<|ZZ) k!) nW o! ⟨nJ,(fA.a _ _ bh),l!,(fA.a _ _ cV),l!⟩ k!
     · have dQ:=of_decide_eq_false f1
       have HR:bR env (some (.slice 3)) (some (AV.slice a_ 0 startsN startsN false)) (some (Zi (bn order bq j ((((order.length:Nat):Int) - 1)+1).toNat (-1) (((order.length:Nat):Int) - 1))))=some (AV.ptr a_ (bn order bq j ((((order.length:Nat):Int) - 1)+1).toNat (-1) (((order.length:Nat):Int) - 1)).toNat):=jw k! (show (bn order bq j ((((order.length:Nat):Int) - 1)+1).toNat (-1) (((order.length:Nat):Int) - 1)).toNat<startsN by omega) o!
       obtain ⟨h9,Ql⟩:∃KY:aw,KY=h4.put a_ (some (aH.cells (zs .i64 (aW.set (bn order bq j ((((order.length:Nat):Int) - 1)+1).toNat (-1) (((order.length:Nat):Int) - 1)).toNat (eG j aW bq (bn order bq j ((((order.length:Nat):Int) - 1)+1).toNat (-1) (((order.length:Nat):Int) - 1)) from_))) 3 false)):=⟨_,rfl⟩
       have ae9:dW env h4 3 (AV.ptr a_ (bn order bq j ((((order.length:Nat):Int) - 1)+1).toNat (-1) (((order.length:Nat):Int) - 1)).toNat) (Zi (eG j aW bq (bn order bq j ((((order.length:Nat):Int) - 1)+1).toNat (-1) (((order.length:Nat):Int) - 1)) from_))=some h9:=by rw[Ql];exact Ap k! (fA.a _ _ bh) l!
       have GC:KA h4 h9 a_ (aH.cells (zs .i64 (aW.set (bn order bq j ((((order.length:Nat):Int) - 1)+1).toNat (-1) (((order.length:Nat):Int) - 1)).toNat (eG j aW bq (bn order bq j ((((order.length:Nat):Int) - 1)+1).toNat (-1) (((order.length:Nat):Int) - 1)) from_))) 3 false):=by rw[Ql];exact kE nW (fA.a _ _ bh)
       have pF:=GC.1
       have aeV:h9.nx=h4.nx:=by rw[Ql];rfl
       have my:Has h h9:=jz GC nJ rb
       have P4:bR env (some (.slice 4)) (some (AV.slice cx 0 placedN placedN false)) (some (Zi (bn order bq j ((((order.length:Nat):Int) - 1)+1).toNat (-1) (((order.length:Nat):Int) - 1))))=some (AV.ptr cx (bn order bq j ((((order.length:Nat):Int) - 1)+1).toNat (-1) (((order.length:Nat):Int) - 1)).toNat):=jw k! (show (bn order bq j ((((order.length:Nat):Int) - 1)+1).toNat (-1) (((order.length:Nat):Int) - 1)).toNat<placedN by omega) o!
       obtain ⟨uX,vU⟩:∃KY:aw,KY=h9.put cx (some (aH.cells (bs (bq.set (bn order bq j ((((order.length:Nat):Int) - 1)+1).toNat (-1) (((order.length:Nat):Int) - 1)).toNat true)) 4 false)):=⟨_,rfl⟩
       have F2:dW env h9 4 (AV.ptr cx (bn order bq j ((((order.length:Nat):Int) - 1)+1).toNat (-1) (((order.length:Nat):Int) - 1)).toNat) (AV.bool true)=some uX:=by rw[vU];exact r7 k! (GC.2.2 _ _ o! (fA.a _ _ cV)) l!
       have fP:KA h9 uX cx (aH.cells (bs (bq.set (bn order bq j ((((order.length:Nat):Int) - 1)+1).toNat (-1) (((order.length:Nat):Int) - 1)).toNat true)) 4 false):=by rw[vU];exact kE pF (GC.2.2 _ _ o! (fA.a _ _ cV))
       have uD:=fP.1
       have XB:uX.nx=h9.nx:=by rw[vU];rfl
       have AF:Has h uX:=jz fP my rb
       exact cA.round (congrArg Sum.inr (by simp only[fC,f0,f1,cond_true,cond_false])) (pk (d+4) _ _ hh _ uX (zI<|BB f1<|CN 3<|VV HR<|SS ae9<|CN 2<|VV P4<|SS F2<|ZZ) k!) o! _ k! (fun x=>yj bf startsN placedN from_ j order ar aj a_ cx fj bb cf dc fW fq hH ly mw l8 mO Cg ct tA FX KT qk tH tI cS (aW.set (bn order bq j ((((order.length:Nat):Int) - 1)+1).toNat (-1) (((order.length:Nat):Int) - 1)).toNat (eG j aW bq (bn order bq j ((((order.length:Nat):Int) - 1)+1).toNat (-1) (((order.length:Nat):Int) - 1)) from_)) (bq.set (bn order bq j ((((order.length:Nat):Int) - 1)+1).toNat (-1) (((order.length:Nat):Int) - 1)).toNat true) (by have e_:=P_ o! o! (tM.2.2 o!);omega) x uX uD AF o! l! l! (fP.2.2 _ _ o! GC.2.1) fP.2.1 (fP.2.2 _ _ o! (GC.2.2 _ _ o! (fA.a _ _ gW))))
def jG (j:cG) (order:List Int) (ar:List Int) (aj:List Bool) (from_:Int):Bool×List Int×List Bool:=(((fC order j from_ (((nF aj:Nat):Int)+1).toNat ar aj).1),(fC order j from_ (((nF aj:Nat):Int)+1).toNat ar aj).2.1,(fC order j from_ (((nF aj:Nat):Int)+1).toNat ar aj).2.2)
theorem Q0 {d:Nat} {h hh:aw} {bf:AV} {aR startsN aP placedN:Nat} (j:cG) (order:List Int) (ar:List Int) (aj:List Bool) (from_:Int) (bZ:aG.ok h j) (cQ:bS h .i64 3 bf order) (b5:hh.get aR=some (aH.cells (zs .i64 ar) 3 false)) (sm:ar.length=startsN) (sq:h.get aR=none) (bQ:hh.get aP=some (aH.cells (bs aj) 4 false)) (qn:aj.length=placedN) (sj:h.get aP=none) (nE:∀i,i<j.ab.length→∀q,q<(j.ab.g i).ax.length→0≤(j.ab.g i).ax.g q∧(j.ab.g i).ax.g q<(j.ab.length:Int)) (qI:∀i,i<j.ab.length→∀q,q<(j.ab.g i).au.length→0≤((j.ab.g i).au.g q).ah∧((j.ab.g i).au.g q).ah<(j.af.length:Int)) (yS:∀q,q<order.length→0≤order.g q∧order.g q<(j.ab.length:Int)) (Ar:ar.length=j.ab.length) (DJ:aj.length=j.ab.length) (Uj:aP≠aR) (ct:Tidy h) (aA:Tidy hh) (ay:Has h hh) (ij:h.nx≤hh.nx):∃hk,cU (d+5) (.fn 21) [(AV.agg [j.ao,j.ai]),bf,(AV.slice aR 0 startsN startsN false),(AV.slice aP 0 placedN placedN false),(Zi from_)] hh= .ret (AV.bool ((jG j order ar aj from_).1)) hk∧Tidy hk∧hh.nx≤hk.nx∧Has h hk∧hk.get aR=some (aH.cells (zs .i64 ((jG j order ar aj from_).2.1)) 3 false)∧((jG j order ar aj from_).2.1).length=startsN∧hk.get aP=some (aH.cells (bs ((jG j order ar aj from_).2.2)) 4 false)∧((jG j order ar aj from_).2.2).length=placedN:=by
 have mI:=cQ.small
 have eT:=bZ.1.small
 have eU:=bZ.2.small
 have ss:=aA _ _ b5
 have sr:=aA _ _ bQ
 obtain ⟨h1,dH,cP,kr,bk,bW⟩:=kh aA (aH.cells [j.ao,j.ai] 25 false)
 have bB:Has h h1:=ay.trans bW
 obtain ⟨zo4,Cb,h3,dy,l9,tz,aiQ,Zd,aln,Ze,alo⟩:=cA.r rfl (yj (d:=d) (h:=h) bf startsN placedN from_ j order ar aj aR aP hh.nx cQ bZ.1 bZ.2 bZ (by assumption) (by assumption) (by assumption) o! o! o! o! ct rb rb o! o! o! o! (((nF aj:Nat):Int)+1).toNat ar aj o! (fun k_=>(((AV.agg [j.ao,j.ai])::bf::(AV.slice aR 0 startsN startsN false)::(AV.slice aP 0 placedN placedN false)::(Zi from_)::(Pt hh.nx)::AV.undef::AV.undef::AV.undef::AV.undef::(AV.bool false)::lk 51):List AV).getD k_ AV.undef) h1 cP bB o! l! l! (bW _ _ b5) (bW _ _ bQ) bk)
 have iy:Has h h3:=aiQ
 have e:jG j order ar aj from_=(((fC order j from_ (((nF aj:Nat):Int)+1).toNat ar aj).1),(fC order j from_ (((nF aj:Nat):Int)+1).toNat ar aj).2.1,(fC order j from_ (((nF aj:Nat):Int)+1).toNat ar aj).2.2):=by simp only[jG,cond_true,cond_false]
 rw[e]
 exact fU rfl (aZ Tryz.func21 QZ rfl (.inr rfl) (pk (d+4) _ _ hh _ h3 (NN dH (fun i=>(Pt i))<|CC<|LL dy<|ZZ) k!) k!) aA l9 o! ⟨iy,Zd,l!,Ze,l!⟩ (fun q=>⟨ay,cK q b5 Zd,l!,cK q bQ Ze,l!⟩)
structure af4 (j:cG):Prop where
 nt:j.ab.length≤64
 nr:j.af.length≤16
 tk:∀i,i<j.ab.length→0≤(j.ab.g i).takes∧(j.ab.g i).takes≤100000
 nb:∀i,i<j.ab.length→∀q,q<(j.ab.g i).ax.length→0≤(j.ab.g i).ax.g q∧(j.ab.g i).ax.g q<(j.ab.length:Int)
 ub:∀i,i<j.ab.length→∀q,q<(j.ab.g i).au.length→0≤((j.ab.g i).au.g q).ah∧((j.ab.g i).au.g q).ah<(j.af.length:Int)
theorem yk {i0:Nat} {j:cG}:∀{k i:Nat} {r:Int},ir i0 j k i=some r→r≠0
 | 0,i,r,h=>by cases h
 | k+1,i,r,h=>by
   rw[ir] at h
   cases q:decide ((j.af.g i).name=(j.af.g i0).name) with
   | true=>rw[q] at h;cases h;decide
   | false=>rw[q] at h;exact yk (k:=k) h
theorem yl {j:cG}:∀{k i:Nat} {r:Int},gA j k i=some r→r≠0
 | 0,i,r,h=>by cases h
 | k+1,i,r,h=>by
   rw[gA] at h
   cases a:fG (j.af.g i).name with
   | false=>rw[a] at h;cases h;decide
   | true=>
     cases b:ir i j i 0 with
     | some r0=>rw[a,b] at h;cases h;exact yk b
     | none=>
       by_cases c:bY (j.af.g i)=0
       · rw[a,b,decide_eq_true c] at h;exact yl (k:=k) h
       · rw[a,b,decide_eq_false c] at h;cases h;exact c
theorem ui {j:cG} (h:ek j=0):af4 j:=by
 unfold ek at h
 by_cases a:16<((j.af.length:Nat):Int)
 · rw[decide_eq_true a] at h;cases h
 · rw[decide_eq_false a] at h
   cases b:gA j j.af.length 0 with
   | some r=>rw[b] at h;exact absurd h (yl b)
   | none=>
     rw[b] at h
     by_cases c:64<((j.ab.length:Nat):Int)
     · rw[decide_eq_true c] at h;cases h
     · rw[decide_eq_false c] at h
       cases e:fu j j.ab.length 0 with
       | some r=>rw[e] at h;exact absurd h (oi.2 r e)
       | none=>
         have t:=fun i (hi:i<j.ab.length)=>wD (oi.1 e i o! o!)
         exact ⟨by omega,by omega,fun i hi=>(t i hi).1,fun i hi=>(t i hi).2.1,fun i hi=>(t i hi).2.2⟩
theorem alp {b:Bool} (h:(!b)=false):b=true:=by cases b;cases h;rfl
theorem py {l:List Int} {n:Int}:∀{k i:Nat},cz n l k i=none→∀q,i≤q→q<i+k→0≤l.g q∧l.g q<n
 | 0,i,_,q,h1,h2=>by omega
 | k+1,i,h,q,h1,h2=>by
   rw[cz] at h
   by_cases a:l.g i<0
   · rw[decide_eq_true a] at h;cases h
   · rw[decide_eq_false a] at h
     by_cases b:n≤l.g i
     · rw[decide_eq_true b] at h;cases h
     · rw[decide_eq_false b] at h
       by_cases e:q=i
       · rw[e];omega
       · refine py (k:=k) (i:=i+1) ?_ q o! o!
         revert h
         simp only[cond_false]
         intro h
         split at h
         · exact h
         · cases h
theorem qA {l:List Int} {i0:Nat}:∀{k i:Nat} {r:Bool},dr i0 l k i=some r→r=false
 | 0,i,r,h=>by cases h
 | k+1,i,r,h=>by
   rw[dr] at h
   cases q:decide (l.g i=l.g i0) with
   | true=>rw[q] at h;cases h;rfl
   | false=>rw[q] at h;exact qA (k:=k) h
theorem qB {l:List Int} {n:Int}:∀{k i:Nat} {r:Bool},cz n l k i=some r→r=false
 | 0,i,r,h=>by cases h
 | k+1,i,r,h=>by
   rw[cz] at h
   cases a:decide (l.g i<0) with
   | true=>rw[a] at h;cases h;rfl
   | false=>
     cases b:decide (n≤l.g i) with
     | true=>rw[a,b] at h;cases h;rfl
     | false=>
       cases c:dr i l i 0 with
       | some r0=>rw[a,b,c] at h;cases h;exact qA c
       | none=>rw[a,b,c] at h;exact qB (k:=k) h
theorem CD {l:List Int} {n:Int} (h:da l n=true):(l.length:Int)=n∧∀q,q<l.length→0≤l.g q∧l.g q<n:=by
 unfold da at h
 by_cases a:((l.length:Nat):Int)=n
 · rw[decide_eq_true a] at h
   refine ⟨a,fun q hq=>?_⟩
   cases b:cz n l (Int.toNat n) 0 with
   | none=>exact py b q o! o!
   | some r=>
     rw[b] at h
     have e:=qB b
     subst e
     cases h
 · rw[decide_eq_false a] at h;cases h
theorem oX {p:Prop} (h:p:=by first | omega | assumption | exact (ui (by assumption)).nb | exact (ui (by assumption)).ub | exact Nat.le_trans (ui (by assumption)).nt (by decide) | exact (CD (alp (by assumption))).2 | (simp only[List.length_replicate])):p:=h
noncomputable def Ij:Code:=(Tryz.f7.body).getD .skip
theorem uj:Tryz.f7.body=some Ij:=by kernel_rfl
def bG (j:cG) (order:List Int):List Int×Int:=(bif (decide ((ek j)=0)) then (bif (!(da order ((j.ab.length:Nat):Int))) then ([],1) else (bif (!((jG j order (List.replicate j.ab.length 0) (List.replicate j.ab.length false) 0).1)) then ([],9) else ((jG j order (List.replicate j.ab.length 0) (List.replicate j.ab.length false) 0).2.1,0))) else ([],(ek j)))
theorem Q1 {d:Nat} {h:aw} {bf:AV} (j:cG) (order:List Int) (bZ:aG.ok h j) (cQ:bS h .i64 3 bf order) (ct:Tidy h):∃z hk,cU (d+6) (.fn 7) [(AV.agg [j.ao,j.ai]),bf] h= .ret (AV.tuple [z,(Zi ((bG j order).2))]) hk∧bp h hk∧bS hk .i64 3 z (bG j order).1:=by
 have mI:=cQ.small
 have eT:=bZ.1.small
 have eU:=bZ.2.small
 obtain ⟨h1,dH,cP,kr,bk,bW⟩:=kh ct (aH.cells [j.ao,j.ai] 25 false)
 have bB:Has h h1:=bW
 have k2:=UO (d:=d+2) j (aG.mono bB bZ) cP
 have dR:=fun {al ps} (k:Pk al _ ps)=>(NN dH (fun i=>(Pt i))<|CN 2<|MM (aI 25 0 (AV.agg [j.ao,j.ai]) bk k!)<|EE k2<|CN 2<|VV (xy 29 false true .i64 (ek j) 0)<|CC<|k:Pk _ [] ps)
 rcases Bool.eq_false_or_eq_true (decide ((ek j)=0)) with f0 | f0
 · have dx:=of_decide_eq_true f0
   have nt:=(ui dx).nt
   have Eg:cc (some (.slice 39)) (some j.ao)=some (Zn j.ab.length):=bZ.1.len
   have k5:=D4 (d:=d+4) order ((j.ab.length:Nat):Int) (cQ.has bB) cP
   have hI:=fun {al ps} (k:Pk al _ ps)=>(dR<|BC f0<|BC f0<|BM f0 (aI 22 0 j.ao bk k!)<|BV f0 Eg<|BB f0<|EE k5<|BC f0<|VV (pe (!(da order ((j.ab.length:Nat):Int))) false f0)<|k:Pk _ [] ps)
   rcases Bool.eq_false_or_eq_true (!(da order ((j.ab.length:Nat):Int))) with f1 | f1
   · have e:bG j order=([],1):=by simp only[bG,f0,f1,cond_true,cond_false]
     rw[e]
     exact ⟨.aD,eu rfl (aZ Tryz.func7 uj rfl (.inr rfl) (pk (d+5) _ _ h _ h1 (hI<|BB f1<|CN 3<|TT<|CN 3<|ZZ) k!) k!) ct ⟨cP,bB,by omega⟩ (P:=fun hh=>bS hh .i64 3 AV.aD ([])) (bS.nil k! k!) fun _=>bS.nil k! k!⟩
   · have q7:(!decide ((ek j)=0))=false:=d!
     have Vh:cc (some (.slice 39)) (some j.ao)=some (Zn j.ab.length):=bZ.1.len
     have mk9:vI env (some (.slice 3)) (some (Zn j.ab.length)) (some (Zn j.ab.length))=some (aH.cells (bP [(Zi 0)] j.ab.length) 3 false,fun i=>AV.slice i 0 j.ab.length j.ab.length false):=mF (bytes:=8) (z:=(Zi 0)) k! k! k! rfl (by decide) o!
     obtain ⟨qE,F1,kU,Sf,xY,j_⟩:=kh cP (aH.cells (bP [(Zi 0)] j.ab.length) 3 false)
     have jm:Has h qE:=bB.trans j_
     have Zf:qE.get h1.nx=some (aH.cells (zs .i64 (List.replicate j.ab.length 0)) 3 false):=by have q:=xY;rw[FE] at q;exact q
     have alq:cc (some (.slice 39)) (some j.ao)=some (Zn j.ab.length):=bZ.1.len
     have alr:vI env (some (.slice 4)) (some (Zn j.ab.length)) (some (Zn j.ab.length))=some (aH.cells (bP [(AV.bool false)] j.ab.length) 4 false,fun i=>AV.slice i 0 j.ab.length j.ab.length false):=mF (bytes:=1) (z:=(AV.bool false)) k! k! k! rfl (by decide) o!
     obtain ⟨lU,aiR,g7,XJ,qX,OL⟩:=kh kU (aH.cells (bP [(AV.bool false)] j.ab.length) 4 false)
     have iB:Has h lU:=jm.trans OL
     have Zg:lU.get qE.nx=some (aH.cells (bs (List.replicate j.ab.length false)) 4 false):=by have q:=qX;rw[yP] at q;exact q
     obtain ⟨als,af5,ajt,acA,acB,S6⟩:=dO g7 (OL _ _ Zf)
     have af6:Has h als:=bM iB (by first | assumption | exact hG ct o!) S6
     obtain ⟨af7,af8,aju,acC,acD,S7⟩:=dO af5 ((S6 _ o!).trans Zg)
     have UQ:af7.get h1.nx=none:=(S7 _ o!).trans acA
     have Q2:Has h af7:=bM af6 (by first | assumption | exact hG ct o!) S7
     obtain ⟨O0,aiS,I',XL,P6,acE,abK,ajv,abL⟩:=Q0 (d:=d) (h:=af7) (startsN:=j.ab.length) (placedN:=j.ab.length) j order (List.replicate j.ab.length 0) (List.replicate j.ab.length false) 0 (aG.mono Q2 bZ) (cQ.has Q2) (OL _ _ Zf) l! UQ Zg l! acC oX oX oX oX oX o! af8 g7 (acD.trans acB) o!
     have Dh:Has h O0:=(Q2.trans P6)
     have c17:AV.same 20 (AV.agg [j.ao,j.ai]) (AV.agg [j.ao,j.ai])=true:=jy 18 (xh bZ.1.same (xh bZ.2.same TY))
     have c18:AV.same 20 j.ao j.ao=true:=bZ.1.same 19
     have mH:=fun {al ps} (k:Pk al _ ps)=>(hI<|BC f1<|VV (pa 29 false true .i64 (ek j) 0)<|BC q7<|MM (aI 22 0 j.ao bk k!)<|VV Vh<|KK mk9 F1<|CC<|MM (aI 25 0 (AV.agg [j.ao,j.ai]) (j_ _ _ bk) k!)<|CN 3<|MM (aI 22 0 j.ao (j_ _ _ bk) k!)<|VV alq<|KK alr aiR<|EE aiS<|CC<|HH (aI 25 0 (AV.agg [j.ao,j.ai]) (OL _ _ (j_ _ _ bk)) k!)<|HH c17<|HH (aI 22 0 j.ao (OL _ _ (j_ _ _ bk)) k!)<|HH c18<|HH (show ∃o,lU.get qE.nx=some o∧aH.same o (aH.cells (bP [(AV.bool false)] j.ab.length) 4 false)=true from ⟨_,qX,B_ _ rfl _ _ _⟩)<|k:Pk _ [] ps)
     rcases Bool.eq_false_or_eq_true (!((jG j order (List.replicate j.ab.length 0) (List.replicate j.ab.length false) 0).1)) with f2 | f2
     · have e:bG j order=([],9):=by simp only[bG,f0,f1,f2,cond_true,cond_false]
       rw[e]
       exact ⟨.aD,eu rfl (aZ Tryz.func7 uj rfl (.inr rfl) (pk (d+5) _ _ h _ O0 (mH<|BB f2<|CN 2<|ZZ) k!) k!) ct ⟨I',Dh,by omega⟩ (P:=fun hh=>bS hh .i64 3 AV.aD ([])) (bS.nil k! k!) fun _=>bS.nil k! k!⟩
     · have e:bG j order=((jG j order (List.replicate j.ab.length 0) (List.replicate j.ab.length false) 0).2.1,0):=by simp only[bG,f0,f1,f2,cond_true,cond_false]
       rw[e]
       exact ⟨(AV.slice h1.nx 0 j.ab.length j.ab.length false),eu rfl (aZ Tryz.func7 uj rfl (.inr rfl) (pk (d+5) _ _ h _ O0 (mH<|BB f2<|CN 3<|ZZ) k!) k!) ct ⟨I',Dh,by omega⟩ (P:=fun hh=>bS hh .i64 3 (AV.slice h1.nx 0 j.ab.length j.ab.length false) ((jG j order (List.replicate j.ab.length 0) (List.replicate j.ab.length false) 0).2.1)) (bS.own (op:=false) k! k! acE l! o!) fun v=>(r_ (KC v) o!).elim⟩
 · have dx:=of_decide_eq_false f0
   have q4:(!decide ((ek j)=0))=true:=d!
   have e:bG j order=([],(ek j)):=by simp only[bG,f0,cond_true,cond_false]
   rw[e]
   exact ⟨.aD,eu rfl (aZ Tryz.func7 uj rfl (.inr rfl) (pk (d+5) _ _ h _ h1 (dR<|BB f0<|BB f0<|BB f0<|BB f0<|BB f0<|BV f0 (sS false f0)<|FF<|CC<|VV (pa 29 false true .i64 (ek j) 0)<|BB q4<|CN 3<|ZZ) k!) k!) ct ⟨cP,bB,by omega⟩ (P:=fun hh=>bS hh .i64 3 AV.aD ([])) (bS.nil k! k!) fun _=>bS.nil k! k!⟩
noncomputable def wE:Code:=(Tryz.f16.body).getD .skip
theorem wF:Tryz.f16.body=some wE:=by kernel_rfl
noncomputable def Ik:Code:=(bw wE).getD 0 .skip
def ef (order:List Int) (n:Int):Nat→Nat→List Bool→(List Bool)⊕(Bool)
 | 0,_,aW=>Sum.inl aW
 | cS+1,i0,aW=>(bif (!(iI (order.g i0) n)) then Sum.inr false else (bif (aW.g (order.g i0).toNat) then Sum.inr false else ef order n cS (i0+1) (aW.set (order.g i0).toNat true)))
theorem wG {d:Nat} {h:aw} (n:Int) (bf:AV) (order:List Int) (a_:Nat) (bb:bS h .i64 3 bf order) (fq:0≤n) (hH:n≤100000) (ct:Tidy h) (tA:h.nx≤a_):∀(k_ i_:Nat) (aW:List Bool) (_:i_+k_=order.length) (x:Nat→AV) (hh:aw) (aA:Tidy hh) (ay:Has h hh) (ij:h.nx≤hh.nx) (iS:aW.length=n.toNat) (bh:hh.get a_=some (aH.cells (bs aW) 4 false)),cA (σ:=List Bool) (ρ:=Bool) (cU (d+1)) Ik ⟨((x 0)::(Zi n)::rx x 2 3 ((AV.slice a_ 0 n.toNat n.toNat false)::rx x 6 8 (bf::(Zn order.length)::(Zn i_)::rx x 17 17 []))),hh,[],.no⟩ (.exit 0) hh (fun r z y=>((y 0)::(Zi n)::rx y 2 3 ((AV.slice a_ 0 n.toNat n.toNat false)::rx y 6 8 (bf::(Zn order.length)::rx y 16 18 [])))) (fun r z y=>((y 0)::(Zi n)::(y 2)::(y 3)::(AV.bool r)::(AV.slice a_ 0 n.toNat n.toNat false)::rx y 6 8 (bf::(Zn order.length)::rx y 16 18 []))) (fun r z hk=>Has h hk∧hk.get a_=some (aH.cells (bs r) 4 false)∧r.length=n.toNat) (fun r z hk=>Has h hk) (ef order n k_ i_ aW)
 | 0,i0,aW,gq,x,hh,aA,ay,ij,iS,bh=>by
   have cr:=bb.small
   have ji:=aA _ _ bh
   have q1:(decide (((i0:Nat):Int)<((order.length:Nat):Int)))=false:=d!
   exact cA.out aW AV.undef rfl (pk (d+1) _ _ hh _ hh (VV (bO 3 false false .i64 ((i0:Nat):Int) ((order.length:Nat):Int))<|BB q1<|ZZ) k!) aA o! ⟨ay,bh,l!⟩ k!
 | cS+1,i0,aW,gq,x,hh,aA,ay,ij,iS,bh=>by
   have cr:=bb.small
   have ji:=aA _ _ bh
   have q1:(decide (((i0:Nat):Int)<((order.length:Nat):Int)))=true:=d!
   obtain ⟨p3,q4,cF,_⟩:=bb.elem (i:=i0) o!
   have jL:bR env (some (.slice 3)) (some bf) (some (Zn i0))=some (AV.ptr p3 q4):=cF
   have j9:aY env hh 3 (AV.ptr p3 q4)=some (Zi (order.g i0)):=(bb.has ay).load o! cF
   have k6:=Gi (d:=d) (order.g i0) n aA
   have dR:=fun {al ps} (k:Pk al _ ps)=>(VV (bO 3 false false .i64 ((i0:Nat):Int) ((order.length:Nat):Int))<|BV q1 jL<|MM j9<|CN 3<|EE k6<|CN 2<|k:Pk _ [] ps)
   rcases Bool.eq_false_or_eq_true (!(iI (order.g i0) n)) with f1 | f1
   · exact cA.ret false AV.undef (by simp only[ef,f1,cond_true,cond_false]) (pk (d+1) _ _ hh _ hh (dR<|BB f1<|BB f1<|BB f1<|BV f1 (xV true f1)<|TT<|CC<|ZZ) k!) aA o! ay k!
   · have alu:(iI (order.g i0) n)=true:=d!
     have ajw:=su alu
     have HR:bR env (some (.slice 4)) (some (AV.slice a_ 0 n.toNat n.toNat false)) (some (Zi (order.g i0)))=some (AV.ptr a_ (order.g i0).toNat):=jw k! (show (order.g i0).toNat<n.toNat by omega) o!
     have O2:aY env hh 4 (AV.ptr a_ (order.g i0).toNat)=some (AV.bool (aW.g (order.g i0).toNat)):=KD k! bh l!
     have hI:=fun {al ps} (k:Pk al _ ps)=>(dR<|BC f1<|BC f1<|BV f1 HR<|BM f1 O2<|VV (b8 (a:=some (AV.bool true)) (b:=some (AV.bool (aW.g (order.g i0).toNat))) f1)<|k:Pk _ [] ps)
     rcases Bool.eq_false_or_eq_true (aW.g (order.g i0).toNat) with f2 | f2
     · exact cA.ret false AV.undef (by simp only[ef,f1,f2,cond_true,cond_false]) (pk (d+1) _ _ hh _ hh (hI<|BC f2<|ZZ) k!) aA o! ay k!
     · have Lb:bR env (some (.slice 4)) (some (AV.slice a_ 0 n.toNat n.toNat false)) (some (Zi (order.g i0)))=some (AV.ptr a_ (order.g i0).toNat):=jw k! (show (order.g i0).toNat<n.toNat by omega) o!
       obtain ⟨pL,Zh⟩:∃KY:aw,KY=hh.put a_ (some (aH.cells (bs (aW.set (order.g i0).toNat true)) 4 false)):=⟨_,rfl⟩
       have aiT:dW env hh 4 (AV.ptr a_ (order.g i0).toNat) (AV.bool true)=some pL:=by rw[Zh];exact r7 k! bh l!
       have Zj:KA hh pL a_ (aH.cells (bs (aW.set (order.g i0).toNat true)) 4 false):=by rw[Zh];exact kE aA bh
       have qm:=Zj.1
       have aiv:pL.nx=hh.nx:=by rw[Zh];rfl
       have jM:Has h pL:=Zj.has ay ct o!
       have u13:=dZ 3 false true i0 1 o!
       exact cA.round (by simp only[ef,f1,f2,cond_true,cond_false]) (pk (d+1) _ _ hh _ pL (hI<|BB f2<|CN 2<|VV Lb<|SS aiT<|VV u13<|CC<|ZZ) k!) o! _ k! (fun x=>wG n bf order a_ bb fq hH ct tA cS (i0+1) (aW.set (order.g i0).toNat true) o! x pL qm jM o! l! Zj.2.1)
def gB (order:List Int) (n:Int):Bool:=(bif (!decide (((order.length:Nat):Int)=n)) then false else (match (ef order n order.length 0 (List.replicate n.toNat false)) with | Sum.inl Q3=>true | Sum.inr DZ=>DZ))
theorem Dy {d:Nat} {h:aw} {bf:AV} (order:List Int) (n:Int) (cQ:bS h .i64 3 bf order) (nE:0≤n) (qI:n≤100000) (ct:Tidy h):cU (d+2) (.fn 16) [bf,(Zi n)] h= .ret (AV.bool (gB order n)) h:=by
 have mI:=cQ.small
 have gL:cc (some (.slice 3)) (some bf)=some (Zn order.length):=cQ.len
 have mH:=fun {al ps} (k:Pk al _ ps)=>(CN 2<|VV gL<|CC<|VV (pa 3 false false .i64 ((order.length:Nat):Int) n)<|k:Pk _ [] ps)
 rcases Bool.eq_false_or_eq_true (!decide (((order.length:Nat):Int)=n)) with f0 | f0
 · have dx:=HJ f0
   have e:gB order n=false:=by simp only[gB,f0,cond_true,cond_false]
   rw[e]
   exact aE rfl (aZ Tryz.func16 wF rfl (.inr rfl) (pk (d+1) _ _ h _ h (mH<|BC f0<|ZZ) k!) k!) (Has.refl _) rfl
 · have dx:=HK f0
   have mk3:vI env (some (.slice 4)) (some (Zi n)) (some (Zi n))=some (aH.cells (bP [(AV.bool false)] n.toNat) 4 false,fun i=>AV.slice i 0 n.toNat n.toNat false):=by rw[show (n:Int)=((n.toNat:Nat):Int) by omega];exact mF (bytes:=1) (z:=(AV.bool false)) k! k! k! rfl (by decide) o!
   obtain ⟨h4,Ul,nW,ah7,XN,HS⟩:=kh ct (aH.cells (bP [(AV.bool false)] n.toNat) 4 false)
   have nJ:Has h h4:=HS
   have Yj:h4.get h.nx=some (aH.cells (bs (List.replicate n.toNat false)) 4 false):=by have q:=XN;rw[yP] at q;exact q
   have Z_:cc (some (.slice 3)) (some bf)=some (Zn order.length):=cQ.len
   have lp4:=wG (d:=d) (h:=h) n bf order h.nx cQ o! o! ct o! order.length 0 (List.replicate n.toNat false) o! (fun k_=>((bf::(Zi n)::AV.undef::AV.undef::(AV.bool false)::(AV.slice h.nx 0 n.toNat n.toNat false)::AV.undef::AV.undef::bf::(Zn order.length)::(Zi n)::(AV.bool (!decide (((order.length:Nat):Int)=n)))::(Zi n)::(AV.slice h.nx 0 n.toNat n.toNat false)::bf::(Zn order.length)::(Zi 0)::lk 17):List AV).getD k_ AV.undef) h4 nW nJ o! l! Yj
   cases j3:ef order n order.length 0 (List.replicate n.toNat false) with
   | inl Q3=>
     obtain ⟨zo8,yl6,h7,j2,eO,HL,se,CE,PT⟩:=cA.n j3 lp4
     have du:Has h h7:=se
     have e:gB order n=true:=by simp only[gB,f0,j3,cond_true,cond_false]
     rw[e]
     exact aE rfl (aZ Tryz.func16 wF rfl (.inr rfl) (pk (d+1) _ _ h _ h7 (mH<|BC f0<|KK mk3 Ul<|CN 2<|VV Z_<|CC<|LL j2<|CC<|ZZ) k!) k!) du rfl
   | inr DZ=>
     obtain ⟨zo8,yl6,h7,j2,eO,HL,se⟩:=cA.r j3 lp4
     have du:Has h h7:=se
     have e:gB order n=DZ:=by simp only[gB,f0,j3,cond_true,cond_false]
     rw[e]
     exact aE rfl (aZ Tryz.func16 wF rfl (.inr rfl) (pk (d+1) _ _ h _ h7 (mH<|BC f0<|KK mk3 Ul<|CN 2<|VV Z_<|CC<|LL j2<|ZZ) k!) k!) du rfl
theorem bH {p:Prop} (h:p:=by first | omega | assumption | exact (show cu j from by assumption).nb | exact (show cu j from by assumption).tk | exact Nat.le_trans (show cu j from by assumption).nt (by decide) | exact (show cu j from by assumption).uf o! | exact (show cu j from by assumption).ud _ o! | exact fV.2.2.2.1 | exact fun q hq=>by have u_:=(show cu j from by assumption).ur _ o! q hq;omega | exact fun q hq=>by have u_:=(show cu j from by assumption).ur _ o! q hq;exact fV.2.2.2.2.ok o! o!):p:=h
theorem ot {p:Prop} (h:p:=by first | omega | exact ⟨by omega,by omega,by omega,(SY (by assumption) o! fV.2.2.2.2 o! o!).1,(SY (by assumption) o! fV.2.2.2.2 o! o!).2⟩):p:=h
theorem jk {p:Prop} (h:p:=by first | assumption | exact hG ct o!):p:=h
noncomputable def uN:Code:=(Tryz.f18.body).getD .skip
theorem Bw:Tryz.f18.body=some uN:=by kernel_rfl
noncomputable def He:Code:=(bw uN).getD 0 .skip
def fL (j:cG) (order:List Int) (aj:List Bool) (from_:Int):Nat→Int→List Bool→List Int→List Tl→(List Bool×List Int×List Tl)⊕(Bool×List Bool×List Int×List Tl)
 | 0,bU,aW,bq,gv=>Sum.inl (aW,bq,gv)
 | cS+1,bU,aW,bq,gv=>(bif (decide (bU<(((aF j.ab order aj).length:Nat):Int))) then (bif (!((b_ j aW bq gv ((aF j.ab order aj).g bU.toNat) from_).1)) then Sum.inr (false,(b_ j aW bq gv ((aF j.ab order aj).g bU.toNat) from_).2.1,(b_ j aW bq gv ((aF j.ab order aj).g bU.toNat) from_).2.2.1,(b_ j aW bq gv ((aF j.ab order aj).g bU.toNat) from_).2.2.2) else fL j order aj from_ cS (bU+1) ((b_ j aW bq gv ((aF j.ab order aj).g bU.toNat) from_).2.1) ((b_ j aW bq gv ((aF j.ab order aj).g bU.toNat) from_).2.2.1) ((b_ j aW bq gv ((aF j.ab order aj).g bU.toNat) from_).2.2.2)) else Sum.inl (aW,bq,gv))
theorem uO {d:Nat} {h:aw} (from_:Int) (z2:AV) (j:cG) (order:List Int) (aj:List Bool) (placedN:Nat) (startsN:Nat) (talliesN:Nat) (talliesF:Bool) (ar:List Int) (aL:List Tl) (a_:Nat) (cx:Nat) (fj:Nat) (iT:Nat) (bb:bS h .i64 3 z2 (aF j.ab order aj)) (cf:aM h j.ao j.ab) (dc:aM h j.ai j.af) (fW:aG.ok h j) (fq:cu j) (hH:aj.length=j.ab.length) (ly:ar.length=j.ab.length) (mw:aL.length=j.af.length) (l8:∀q,q<order.length→0≤order.g q∧order.g q<(j.ab.length:Int)) (mO:∀i,i<ar.length→0≤ar.g i∧ar.g i+(j.ab.g i).takes≤100000) (Cg:QI j 0 aL) (F9:0≤from_) (HQ:from_≤100000) (F_:order.length≤64) (vT:∀q,q<(aF j.ab order aj).length→0≤(aF j.ab order aj).g q∧(aF j.ab order aj).g q<(j.ab.length:Int)) (Om:(aF j.ab order aj).length≤64) (On:placedN=j.ab.length) (YP:startsN=j.ab.length) (YQ:talliesN=j.af.length) (ct:Tidy h) (tA:h.get a_=none) (FX:h.get cx=none) (KT:h.get fj=none) (Xy:h.get iT=none) (qk:cx≠a_) (tH:fj≠a_) (tI:fj≠cx) (FY:iT≠a_) (FZ:iT≠cx) (F0:iT≠fj):∀(k_:Nat) (bU:Int) (aW:List Bool) (bq:List Int) (gv:List Tl) (_:(((aF j.ab order aj).length:Nat):Int) - bU≤(k_:Int)) (_:(((0:Int)≤1)∧(0≤bU∧bU≤((aF j.ab order aj).length:Int)∧(∀ii,ii<(bq).length→0≤(bq).g ii∧(bq).g ii+(j.ab.g ii).takes≤100000)∧QI j bU (gv)))) (x:Nat→AV) (hh:aw) (aA:Tidy hh) (ay:Has h hh) (ij:h.nx≤hh.nx) (iS:aW.length=placedN) (qS:bq.length=startsN) (NA:gv.length=talliesN) (bh:hh.get a_=some (aH.cells (bs aW) 4 false)) (cV:hh.get cx=some (aH.cells (zs .i64 bq) 3 false)) (gW:hh.get fj=some (aH.cells (kL gv) 127 false)) (kt:hh.get iT=some (aH.cells [j.ao,j.ai,(AV.slice a_ 0 placedN placedN false),(AV.slice cx 0 startsN startsN false),(AV.slice fj 0 talliesN talliesN talliesF)] 76 false)),cA (σ:=List Bool×List Int×List Tl) (ρ:=Bool×List Bool×List Int×List Tl) (cU (d+5)) He ⟨((x 0)::(x 1)::(Zi from_)::(Pt iT)::rx x 4 11 (z2::(Zn ((aF j.ab order aj).length))::(Zi bU)::rx x 18 9 [])),hh,[],.no⟩ (.exit 0) hh (fun r z y=>((y 0)::(y 1)::(Zi from_)::(Pt iT)::rx y 4 11 (z2::(Zn ((aF j.ab order aj).length))::rx y 17 10 []))) (fun r z y=>((y 0)::(y 1)::(Zi from_)::(Pt iT)::(y 4)::(y 5)::(AV.bool r.1)::rx y 7 8 (z2::(Zn ((aF j.ab order aj).length))::rx y 17 10 []))) (fun r z hk=>Has h hk∧hk.get a_=some (aH.cells (bs r.1) 4 false)∧hk.get cx=some (aH.cells (zs .i64 r.2.1) 3 false)∧hk.get fj=some (aH.cells (kL r.2.2) 127 false)∧hk.get iT=some (aH.cells [j.ao,j.ai,(AV.slice a_ 0 placedN placedN false),(AV.slice cx 0 startsN startsN false),(AV.slice fj 0 talliesN talliesN talliesF)] 76 false)∧r.1.length=placedN∧r.2.1.length=startsN∧r.2.2.length=talliesN∧((0:Int)≤1)) (fun r z hk=>Has h hk∧hk.get a_=some (aH.cells (bs r.2.1) 4 false)∧r.2.1.length=placedN∧hk.get cx=some (aH.cells (zs .i64 r.2.2.1) 3 false)∧r.2.2.1.length=startsN∧hk.get fj=some (aH.cells (kL r.2.2.2) 127 false)∧r.2.2.2.length=talliesN) (fL j order aj from_ k_ bU aW bq gv)
 | 0,bU,aW,bq,gv,gq,fV,x,hh,aA,ay,ij,iS,qS,NA,bh,cV,gW,kt=>by
   have cr:=bb.small
   have eQ:=cf.small
   have jD:=dc.small
   have ji:=aA _ _ bh
   have vR:=aA _ _ cV
   have DL:=aA _ _ gW
   have KU:=aA _ _ kt
   have nt_:=fq.nt
   have tb_:=vT bU.toNat
   have q1:(decide (bU<(((aF j.ab order aj).length:Nat):Int)))=false:=d!
   exact cA.out (aW,bq,gv) AV.undef rfl (pk (d+5) _ _ hh _ hh (VV (bO 3 false false .i64 bU (((aF j.ab order aj).length:Nat):Int))<|BB q1<|ZZ) k!) aA o! ⟨ay,bh,cV,gW,kt,l!,l!,l!,(show ((0:Int)≤1) from ot)⟩ k!
 | cS+1,bU,aW,bq,gv,gq,fV,x,hh,aA,ay,ij,iS,qS,NA,bh,cV,gW,kt=>by
   have cr:=bb.small
   have eQ:=cf.small
   have jD:=dc.small
   have ji:=aA _ _ bh
   have vR:=aA _ _ cV
   have DL:=aA _ _ gW
   have KU:=aA _ _ kt
   have nt_:=fq.nt
   have tb_:=vT bU.toNat
   have dR:=fun {al ps} (k:Pk al _ ps)=>(VV (bO 3 false false .i64 bU (((aF j.ab order aj).length:Nat):Int))<|k:Pk _ [] ps)
   rcases Bool.eq_false_or_eq_true (decide (bU<(((aF j.ab order aj).length:Nat):Int))) with f0 | f0
   · have dx:=of_decide_eq_true f0
     obtain ⟨p3,q4,cF,_⟩:=bb.elem (i:=bU.toNat) o!
     have jL:bR env (some (.slice 3)) (some z2) (some (Zi bU))=some (AV.ptr p3 q4):=by rw[show (bU:Int)=((bU.toNat:Nat):Int) by omega];exact cF
     have j9:aY env hh 3 (AV.ptr p3 q4)=some (Zi ((aF j.ab order aj).g bU.toNat)):=(bb.has ay).load o! cF
     obtain ⟨hw6,Nu,Xp,FN,FP,ru⟩:=dO aA bh
     have Nv:Has h hw6:=bM ay jk ru
     obtain ⟨hw7,Zk,af9,Q4,Q5,wH⟩:=dO Nu ((ru _ o!).trans cV)
     have Hf:hw7.get a_=none:=(wH _ o!).trans FN
     have S8:Has h hw7:=bM Nv jk wH
     obtain ⟨Xx,FW,PV,yT,yU,ks⟩:=dO Zk ((wH _ o!).trans ((ru _ o!).trans gW))
     have Zl:Xx.get a_=none:=(ks _ o!).trans Hf
     have Zm:Xx.get cx=none:=(ks _ o!).trans Q4
     have Sd:Has h Xx:=bM S8 jk ks
     obtain ⟨h9,PW,pF,KQ,FQ,KS,Xr,Zo,alv,Zp,alw⟩:=UH (d:=d+1) (h:=Xx) (placedN:=placedN) (startsN:=startsN) (talliesN:=talliesN) (talliesF:=talliesF) j aW bq gv ((aF j.ab order aj).g bU.toNat) from_ (aG.mono Sd fW) bh l! Zl cV l! Zm gW l! yT bH bH bH bH bH bH bH bH bH bH bH bH bH o! o! o! FW aA (yU.trans (Q5.trans FP)) o!
     have amc:=G4 j aW bq gv ((aF j.ab order aj).g bU.toNat) from_ bH bH bH bH bH bH bH bH
     have my:Has h h9:=(Sd.trans FQ)
     have hI:=fun {al ps} (k:Pk al _ ps)=>(dR<|BV f0 jL<|MM j9<|CC<|MM (aI 76 0 (AV.agg [j.ao,j.ai,(AV.slice a_ 0 placedN placedN false),(AV.slice cx 0 startsN startsN false),(AV.slice fj 0 talliesN talliesN talliesF)]) kt k!)<|CN 2<|EE PW<|CC<|k:Pk _ [] ps)
     rcases Bool.eq_false_or_eq_true (!((b_ j aW bq gv ((aF j.ab order aj).g bU.toNat) from_).1)) with f1 | f1
     · exact cA.ret (false,(b_ j aW bq gv ((aF j.ab order aj).g bU.toNat) from_).2.1,(b_ j aW bq gv ((aF j.ab order aj).g bU.toNat) from_).2.2.1,(b_ j aW bq gv ((aF j.ab order aj).g bU.toNat) from_).2.2.2) AV.undef (by simp only[fL,f0,f1,cond_true,cond_false]) (pk (d+5) _ _ hh _ h9 (hI<|BC f1<|ZZ) k!) pF o! ⟨my,KS,l!,Zo,l!,Zp,l!⟩ k!
     · have w11:IntKind.i64.wrap (bU+1)=bU+1:=wrap_i64 o! o!
       exact cA.round (by simp only[fL,f0,f1,cond_true,cond_false]) (pk (d+5) _ _ hh _ h9 (hI<|BV f1 (rn 3 false true w11)<|CC<|ZZ) k!) o! _ k! (fun x=>uO from_ z2 j order aj placedN startsN talliesN talliesF ar aL a_ cx fj iT bb cf dc fW fq hH ly mw l8 mO Cg F9 HQ F_ vT Om On YP YQ ct tA FX KT Xy qk tH tI FY FZ F0 cS (bU+1) ((b_ j aW bq gv ((aF j.ab order aj).g bU.toNat) from_).2.1) ((b_ j aW bq gv ((aF j.ab order aj).g bU.toNat) from_).2.2.1) ((b_ j aW bq gv ((aF j.ab order aj).g bU.toNat) from_).2.2.2) ot (show (((0:Int)≤1)∧(0≤(bU+1)∧(bU+1)≤((aF j.ab order aj).length:Int)∧(∀ii,ii<(((b_ j aW bq gv ((aF j.ab order aj).g bU.toNat) from_).2.2.1)).length→0≤(((b_ j aW bq gv ((aF j.ab order aj).g bU.toNat) from_).2.2.1)).g ii∧(((b_ j aW bq gv ((aF j.ab order aj).g bU.toNat) from_).2.2.1)).g ii+(j.ab.g ii).takes≤100000)∧QI j (bU+1) (((b_ j aW bq gv ((aF j.ab order aj).g bU.toNat) from_).2.2.2)))) from ot) x h9 pF my o! l! l! l! KS Zo Zp (FQ _ _ ((ks _ o!).trans ((wH _ o!).trans ((ru _ o!).trans kt)))))
   · have dx:=of_decide_eq_false f0
     exact cA.out (aW,bq,gv) AV.undef (by simp only[fL,f0,cond_true,cond_false]) (pk (d+5) _ _ hh _ hh (dR<|BB f0<|ZZ) k!) aA o! ⟨ay,bh,cV,gW,kt,l!,l!,l!,(show ((0:Int)≤1) from ot)⟩ k!
def eJ (j:cG) (aj:List Bool) (ar:List Int) (aL:List Tl) (order:List Int) (from_:Int):Bool×List Bool×List Int×List Tl:=(match (fL j order aj from_ ((((aF j.ab order aj).length:Nat):Int) - 0).toNat 0 aj ar aL) with | Sum.inl Q3=>(true,Q3.1,Q3.2.1,Q3.2.2) | Sum.inr DZ=>(DZ.1,DZ.2.1,DZ.2.2.1,DZ.2.2.2))
theorem LQ {d:Nat} {h hh:aw} {bf:AV} {aP placedN aR startsN talliesB talliesN:Nat} {talliesF:Bool} (j:cG) (aj:List Bool) (ar:List Int) (aL:List Tl) (order:List Int) (from_:Int) (bZ:aG.ok h j) (cQ:bS h .i64 3 bf order) (bQ:hh.get aP=some (aH.cells (bs aj) 4 false)) (qn:aj.length=placedN) (sj:h.get aP=none) (b5:hh.get aR=some (aH.cells (zs .i64 ar) 3 false)) (sm:ar.length=startsN) (sq:h.get aR=none) (eg:hh.get talliesB=some (aH.cells (kL aL) 127 false)) (I8:aL.length=talliesN) (I9:h.get talliesB=none) (nE:cu j) (qI:aj.length=j.ab.length) (yS:ar.length=j.ab.length) (Ar:aL.length=j.af.length) (DJ:∀q,q<order.length→0≤order.g q∧order.g q<(j.ab.length:Int)) (Uh:∀i,i<ar.length→0≤ar.g i∧ar.g i+(j.ab.g i).takes≤100000) (pre6:QI j 0 aL) (Ui:0≤from_) (abJ:from_≤100000) (ND:order.length≤64) (Uj:aR≠aP) (ah3:talliesB≠aP) (ah4:talliesB≠aR) (ct:Tidy h) (aA:Tidy hh) (ay:Has h hh) (ij:h.nx≤hh.nx):∃hk,cU (d+6) (.fn 18) [(AV.agg [j.ao,j.ai,(AV.slice aP 0 placedN placedN false),(AV.slice aR 0 startsN startsN false),(AV.slice talliesB 0 talliesN talliesN talliesF)]),bf,(Zi from_)] hh= .ret (AV.bool ((eJ j aj ar aL order from_).1)) hk∧Tidy hk∧hh.nx≤hk.nx∧Has h hk∧hk.get aP=some (aH.cells (bs ((eJ j aj ar aL order from_).2.1)) 4 false)∧((eJ j aj ar aL order from_).2.1).length=placedN∧hk.get aR=some (aH.cells (zs .i64 ((eJ j aj ar aL order from_).2.2.1)) 3 false)∧((eJ j aj ar aL order from_).2.2.1).length=startsN∧hk.get talliesB=some (aH.cells (kL ((eJ j aj ar aL order from_).2.2.2)) 127 false)∧((eJ j aj ar aL order from_).2.2.2).length=talliesN:=by
 have mI:=cQ.small
 have eT:=bZ.1.small
 have eU:=bZ.2.small
 have sr:=aA _ _ bQ
 have ss:=aA _ _ b5
 have I_:=aA _ _ eg
 obtain ⟨h1,dH,cP,kr,bk,bW⟩:=kh aA (aH.cells [j.ao,j.ai,(AV.slice aP 0 placedN placedN false),(AV.slice aR 0 startsN startsN false),(AV.slice talliesB 0 talliesN talliesN talliesF)] 76 false)
 have bB:Has h h1:=ay.trans bW
 obtain ⟨z2,h4,aga,fA,fz3,agb⟩:=tU (d:=d) j.ab order aj aP placedN false (bZ.1.has bB) (cQ.has bB) (bW _ _ bQ) l! o! bH bH bH bH bH cP
 have nW:=fA.y
 have NI:h1.nx≤h4.nx:=fA.n
 have nJ:Has h h4:=bB.trans fA.a
 have aiU:=fz3.small
 have aiV:=qw j.ab order aj bH
 have Z_:cc (some (.slice 3)) (some z2)=some (Zn ((aF j.ab order aj).length)):=fz3.len
 obtain ⟨Xx,FW,PV,yT,yU,ks⟩:=dO nW (fA.a _ _ (bW _ _ bQ))
 have Hg:Has h Xx:=bM nJ jk ks
 obtain ⟨hw9,Zq,agc,Q6,Q7,rL⟩:=dO FW ((ks _ o!).trans (fA.a _ _ (bW _ _ b5)))
 have Hh:hw9.get aP=none:=(rL _ o!).trans yT
 have Hj:Has h hw9:=bM Hg jk rL
 obtain ⟨OM,Q8,acF,S9,LS,ou⟩:=dO Zq ((rL _ o!).trans ((ks _ o!).trans (fA.a _ _ (bW _ _ eg))))
 have JB:OM.get aP=none:=(ou _ o!).trans Hh
 have JC:OM.get aR=none:=(ou _ o!).trans Q6
 have n7:Has h OM:=bM Hj jk ou
 obtain ⟨NC,P3,abF,Sk,KX,m9⟩:=dO Q8 ((ou _ o!).trans ((rL _ o!).trans ((ks _ o!).trans (fA.a _ _ bk))))
 have agH:NC.get aP=none:=(m9 _ o!).trans JB
 have agI:NC.get aR=none:=(m9 _ o!).trans JC
 have agJ:NC.get talliesB=none:=(m9 _ o!).trans S9
 have sO:Has h NC:=bM n7 jk m9
 have mH:=fun {al ps} (k:Pk al _ ps)=>(NN dH (fun i=>(Pt i))<|CN 3<|MM (aI 22 0 j.ao bk k!)<|CN 2<|MM (aI 73 2 (AV.slice aP 0 placedN placedN false) bk k!)<|EE aga<|VV Z_<|CC<|k:Pk _ [] ps)
 have lp4:=uO (d:=d) (h:=NC) from_ z2 j order aj placedN startsN talliesN talliesF ar aL aP aR talliesB hh.nx (gK.zs (gK.wo (gK.wo (gK.wo (gK.wo agb ks o!) rL o!) ou o!) m9 o!) o! k! k!) (bZ.1.has sO) (bZ.2.has sO) (aG.mono sO bZ) (by assumption) (by assumption) (by assumption) (by assumption) (by assumption) (by assumption) (by assumption) (by assumption) (by assumption) (by assumption) (qw j.ab order aj (by assumption)).2 (Nat.le_trans (qw j.ab order aj (by assumption)).1 o!) o! o! o! P3 (by assumption) (by assumption) (by assumption) (by assumption) o! o! o! o! o! o! ((((aF j.ab order aj).length:Nat):Int) - 0).toNat 0 aj ar aL o! (show (((0:Int)≤1)∧(0≤0∧0≤((aF j.ab order aj).length:Int)∧(∀ii,ii<(ar).length→0≤(ar).g ii∧(ar).g ii+(j.ab.g ii).takes≤100000)∧QI j 0 (aL))) from ⟨by omega,by omega,by omega,(by assumption),(by assumption)⟩) (fun k_=>(((AV.agg [j.ao,j.ai,(AV.slice aP 0 placedN placedN false),(AV.slice aR 0 startsN startsN false),(AV.slice talliesB 0 talliesN talliesN talliesF)])::bf::(Zi from_)::(Pt hh.nx)::AV.undef::AV.undef::(AV.bool false)::AV.undef::AV.undef::(Pt hh.nx)::(Pt hh.nx)::j.ao::bf::(AV.ptr hh.nx 2)::(AV.slice aP 0 placedN placedN false)::z2::(Zn ((aF j.ab order aj).length))::(Zi 0)::lk 9):List AV).getD k_ AV.undef) h4 nW (KX.trans (LS.trans (Q7.trans yU))) o! l! l! l! (fA.a _ _ (bW _ _ bQ)) (fA.a _ _ (bW _ _ b5)) (fA.a _ _ (bW _ _ eg)) (fA.a _ _ bk)
 cases j3:fL j order aj from_ ((((aF j.ab order aj).length:Nat):Int) - 0).toNat 0 aj ar aL with
 | inl Q3=>
   obtain ⟨alx,yl6,h7,j2,eO,HL,se,CE,Hk,Q9,aly,PT,agd,alz,LC⟩:=cA.n j3 lp4
   have du:Has h h7:=(sO.trans se)
   have e:eJ j aj ar aL order from_=(true,Q3.1,Q3.2.1,Q3.2.2):=by simp only[eJ,j3,cond_true,cond_false]
   rw[e]
   exact fU rfl (aZ Tryz.func18 Bw rfl (.inr rfl) (pk (d+5) _ _ hh _ h7 (mH<|LL j2<|CC<|ZZ) k!) k!) aA eO o! ⟨du,CE,l!,Hk,l!,Q9,l!⟩ (fun q=>⟨ay,cK q bQ CE,l!,cK q b5 Hk,l!,cK q eg Q9,l!⟩)
 | inr DZ=>
   obtain ⟨alx,yl6,h7,j2,eO,HL,se,Hl,age,Hm,agf,Zr,alA⟩:=cA.r j3 lp4
   have du:Has h h7:=(sO.trans se)
   have e:eJ j aj ar aL order from_=(DZ.1,DZ.2.1,DZ.2.2.1,DZ.2.2.2):=by simp only[eJ,j3,cond_true,cond_false]
   rw[e]
   exact fU rfl (aZ Tryz.func18 Bw rfl (.inr rfl) (pk (d+5) _ _ hh _ h7 (mH<|LL j2<|ZZ) k!) k!) aA eO o! ⟨du,Hl,l!,Hm,l!,Zr,l!⟩ (fun q=>⟨ay,cK q bQ Hl,l!,cK q b5 Hm,l!,cK q eg Zr,l!⟩)
theorem cZ {j:cG} (h:fD j=0):cu j:=Qs (by rw[fD] at h;exact h)
theorem adO {j:cG} (F:cu j):∀i,i<(ba j).2.2.length→0≤(ba j).2.2.g i∧(ba j).2.2.g i+(j.ab.g i).takes≤100000:=by
 rw[Jc]
 intro i hi
 have hi:i<j.ab.length:=by rw[←List.length_replicate (n:=j.ab.length) (a:=(0:Int))];exact hi
 have e:(List.replicate j.ab.length (0:Int)).g i=0:=by rw[List.g,List.getD_eq_getElem?_getD,List.getElem?_replicate,if_pos hi];rfl
 have tk:=F.tk i hi
 show 0≤(List.replicate j.ab.length (0:Int)).g i∧(List.replicate j.ab.length (0:Int)).g i+(j.ab.g i).takes≤100000
 rw[e];omega
theorem ym {order:List Int} {n:Int}:∀{k i:Nat} {a b:List Bool},ef order n k i a=Sum.inl b→∀q,i≤q→q<i+k→0≤order.g q∧order.g q<n
 | 0,i,a,b,_,q,h1,h2=>by omega
 | k+1,i,a,b,h,q,h1,h2=>by
   rw[ef] at h
   cases c:iI (order.g i) n with
   | false=>rw[c] at h;cases h
   | true=>
     cases d:a.g (Int.toNat (order.g i)) with
     | true=>rw[c,d] at h;cases h
     | false=>
       rw[c,d] at h
       by_cases e:q=i
       · rw[e];exact su c
       · exact ym (k:=k) h q o! o!
theorem By {order:List Int} {n:Int}:∀{k i:Nat} {a:List Bool} {b:Bool},ef order n k i a=Sum.inr b→b=false
 | 0,i,a,b,h=>by cases h
 | k+1,i,a,b,h=>by
   rw[ef] at h
   cases c:iI (order.g i) n with
   | false=>rw[c] at h;cases h;rfl
   | true=>
     cases d:a.g (Int.toNat (order.g i)) with
     | true=>rw[c,d] at h;cases h;rfl
     | false=>rw[c,d] at h;exact By (k:=k) h
theorem qC {order:List Int} {n:Int} (h:(!gB order n)=false):(order.length:Int)=n∧∀q,q<order.length→0≤order.g q∧order.g q<n:=by
 rw[gB] at h
 by_cases a:((order.length:Nat):Int)=n
 · rw[decide_eq_true a,Bool.not_true,cond_false] at h
   refine ⟨a,fun q hq=>?_⟩
   cases e:ef order n order.length 0 (List.replicate (Int.toNat n) false) with
   | inl b=>exact ym e q (Nat.zero_le _) o!
   | inr b=>rw[e] at h;have:=By e;subst this;cases h
 · rw[decide_eq_false a] at h;cases h
end Go.Proofs.aJ
