import Derived.Test.YtogcojohajankaaGreatW0
import Derived.Test.YtogcojohajankaaGreatW1
import Derived.Test.YtogcojohajankaaGreatW6
namespace Go.Proofs.aJ
open Go.Proofs Ab
set_option maxRecDepth 100000
set_option maxHeartbeats 4000000
set_option linter.unusedVariables false
set_option linter.unusedSimpArgs false
theorem xq {p:Prop} (h:p:=by first | omega | assumption | (simp only[List.length_set,List.length_replicate,List.length_append,List.length_cons,List.length_nil,List.nil_append]<;>omega) | (rw[List.length_take];omega)):p:=h
noncomputable def oT:Code:=(Tryz.f114.body).getD .skip
theorem wh:Tryz.f114.body=some oT:=by kernel_rfl
noncomputable def Qy:Code:=(bw oT).getD 0 .skip
noncomputable def Qz:Code:=(bw oT).getD 1 .skip
noncomputable def QA:Code:=(bw oT).getD 2 .skip
noncomputable def QB:Code:=(bw oT).getD 3 .skip
def ia (j:cG) (task:Int) (aj:List Bool) (s:Int) (ar:List Int):Nat→Nat→Option (Bool)
 | 0,_=>none
 | cS+1,i0=>(bif (aj.g (((j.ab.g task.toNat).ax).g i0).toNat) then (bif (decide (s<(IntKind.i64.wrap ((ar.g (((j.ab.g task.toNat).ax).g i0).toNat)+((j.ab.g (((j.ab.g task.toNat).ax).g i0).toNat).takes))))) then some false else ia j task aj s ar cS (i0+1)) else ia j task aj s ar cS (i0+1))
theorem wi {d:Nat} {h:aw} (aX:AV) (aU:AV) (s:Int) (j:cG) (task:Int) (ar:List Int) (aj:List Bool) (a_:Nat) (cx:Nat) (bb:bS h .i64 3 aX ar) (cf:l7 h 4 aU aj) (dc:aM h j.ao j.ab) (iU:aM h j.ai j.af) (tJ:((j.ab.g task.toNat).name).length<2^60) (N9:bS h .i64 3 ((j.ab.g task.toNat).aO) ((j.ab.g task.toNat).ax)) (abY:aM h ((j.ab.g task.toNat).aS) ((j.ab.g task.toNat).au)) (fW:aG.ok h j) (F8:aG.ok h (j.ab.g task.toNat)) (fq:aj.length=j.ab.length) (hH:ar.length=j.ab.length) (ly:0≤task) (mw:task<(j.ab.length:Int)) (l8:∀q,q<(j.ab.g task.toNat).ax.length→0≤(j.ab.g task.toNat).ax.g q∧(j.ab.g task.toNat).ax.g q<(j.ab.length:Int)) (mO:∀q,q<(j.ab.g task.toNat).au.length→0≤((j.ab.g task.toNat).au.g q).ah∧((j.ab.g task.toNat).au.g q).ah<(j.af.length:Int)):∀(k_ i_:Nat) (_:i_+k_=(((j.ab.g task.toNat).ax).length)) (x:Nat→AV) (hh:aw) (aA:Tidy hh) (ay:Has h hh) (bh:hh.get a_=some (aH.cells [j.ao,j.ai] 25 false)) (cV:hh.get cx=some (aH.cells [(AV.str ((j.ab.g task.toNat).name)),(Zi ((j.ab.g task.toNat).takes)),((j.ab.g task.toNat).aO),((j.ab.g task.toNat).aS)] 39 false)),aC (cU (d+2)) Qy ⟨((x 0)::aX::aU::(x 3)::(Zi s)::(Pt a_)::rx x 6 5 ((Pt cx)::(Zi (IntKind.i64.wrap (s+((j.ab.g task.toNat).takes))))::(Zn i_)::rx x 14 173 [])),hh,[],.no⟩ (.exit 0) hh (fun y=>((y 0)::aX::aU::(y 3)::(Zi s)::(Pt a_)::rx y 6 5 ((Pt cx)::(Zi (IntKind.i64.wrap (s+((j.ab.g task.toNat).takes))))::rx y 13 174 []))) (fun r y=>((y 0)::aX::aU::(y 3)::(Zi s)::(Pt a_)::rx y 6 4 ((AV.bool r)::(Pt cx)::(Zi (IntKind.i64.wrap (s+((j.ab.g task.toNat).takes))))::rx y 13 174 []))) (ia j task aj s ar k_ i_)
 | 0,i0,gq,x,hh,aA,ay,bh,cV=>by
   have cr:=bb.small
   have eQ:=cf.small
   have jD:=dc.small
   have tW:=iU.small
   have afl:=N9.small
   have afm:=abY.small
   have ji:=aA _ _ bh
   have vR:=aA _ _ cV
   have gL:cc (some (.slice 3)) (some ((j.ab.g task.toNat).aO))=some (Zn (((j.ab.g task.toNat).ax).length)):=(N9.has ay).len
   have q2:(decide (((i0:Nat):Int)<((((j.ab.g task.toNat).ax).length:Nat):Int)))=false:=d!
   exact aC.out rfl (pk (d+2) _ _ hh _ hh (CN 2<|MM (aI 26 2 ((j.ab.g task.toNat).aO) cV k!)<|VV gL<|VV (bO 3 false false .i64 ((i0:Nat):Int) ((((j.ab.g task.toNat).ax).length:Nat):Int))<|BB q2<|ZZ) k!) (bp.refl aA) k!
 | cS+1,i0,gq,x,hh,aA,ay,bh,cV=>by
   have cr:=bb.small
   have eQ:=cf.small
   have jD:=dc.small
   have tW:=iU.small
   have afl:=N9.small
   have afm:=abY.small
   have ji:=aA _ _ bh
   have vR:=aA _ _ cV
   obtain ⟨nd1,nd2⟩:=l8 i0 o!
   have gL:cc (some (.slice 3)) (some ((j.ab.g task.toNat).aO))=some (Zn (((j.ab.g task.toNat).ax).length)):=(N9.has ay).len
   have q2:(decide (((i0:Nat):Int)<((((j.ab.g task.toNat).ax).length:Nat):Int)))=true:=d!
   obtain ⟨p4,q5,jE,_⟩:=(N9.has ay).elem (i:=i0) o!
   have vP:bR env (some (.slice 3)) (some ((j.ab.g task.toNat).aO)) (some (Zn i0))=some (AV.ptr p4 q5):=jE
   have rC:aY env hh 3 (AV.ptr p4 q5)=some (Zi (((j.ab.g task.toNat).ax).g i0)):=(N9.has ay).load o! jE
   obtain ⟨p8,q9,sx,_⟩:=(cf.has ay).elem (i:=(((j.ab.g task.toNat).ax).g i0).toNat) o!
   have Qb:bR env (some (.slice 4)) (some aU) (some (Zi (((j.ab.g task.toNat).ax).g i0)))=some (AV.ptr p8 q9):=by rw[show ((((j.ab.g task.toNat).ax).g i0):Int)=(((((j.ab.g task.toNat).ax).g i0).toNat:Nat):Int) by omega];exact sx
   have vY:aY env hh 4 (AV.ptr p8 q9)=some (AV.bool (aj.g (((j.ab.g task.toNat).ax).g i0).toNat)):=(cf.has ay).load o! sx
   have dR:=fun {al ps} (k:Pk al _ ps)=>(CN 2<|MM (aI 26 2 ((j.ab.g task.toNat).aO) cV k!)<|VV gL<|VV (bO 3 false false .i64 ((i0:Nat):Int) ((((j.ab.g task.toNat).ax).length:Nat):Int))<|BC q2<|MM (aI 26 2 ((j.ab.g task.toNat).aO) cV k!)<|CC<|VV vP<|MM rC<|CN 3<|VV Qb<|MM vY<|CC<|k:Pk _ [] ps)
   rcases Bool.eq_false_or_eq_true (aj.g (((j.ab.g task.toNat).ax).g i0).toNat) with f1 | f1
   · obtain ⟨p13,q14,N_,_⟩:=(bb.has ay).elem (i:=(((j.ab.g task.toNat).ax).g i0).toNat) o!
     have P5:bR env (some (.slice 3)) (some aX) (some (Zi (((j.ab.g task.toNat).ax).g i0)))=some (AV.ptr p13 q14):=by rw[show ((((j.ab.g task.toNat).ax).g i0):Int)=(((((j.ab.g task.toNat).ax).g i0).toNat:Nat):Int) by omega];exact N_
     have abZ:aY env hh 3 (AV.ptr p13 q14)=some (Zi (ar.g (((j.ab.g task.toNat).ax).g i0).toNat)):=(bb.has ay).load o! N_
     obtain ⟨p17,q18,Dq⟩:=(dc.has ay).elem (i:=(((j.ab.g task.toNat).ax).g i0).toNat) o!
     have KP:bR env (some (.slice 39)) (some j.ao) (some (Zi (((j.ab.g task.toNat).ax).g i0)))=some (AV.ptr p17 q18):=by rw[show ((((j.ab.g task.toNat).ax).g i0):Int)=(((((j.ab.g task.toNat).ax).g i0).toNat:Nat):Int) by omega];exact Dq
     have HO:aY env hh 3 (AV.ptr p17 (q18+1))=some (Zi ((j.ab.g (((j.ab.g task.toNat).ax).g i0).toNat).takes)):=(dc.has ay).part (t:=3) (j:=1) o! Dq k! rfl
     have c20:AV.same 20 j.ao j.ao=true:=(dc.has ay).same 19
     have hI:=fun {al ps} (k:Pk al _ ps)=>(dR<|BC f1<|BC f1<|BV f1 P5<|BM f1 abZ<|BC f1<|BM f1 (aI 22 0 j.ao bh k!)<|BC f1<|BV f1 KP<|BC f1<|BM f1 HO<|BC f1<|BC f1<|BV f1 (dw 3 false false .i64 (IntKind.i64.wrap ((ar.g (((j.ab.g task.toNat).ax).g i0).toNat)+((j.ab.g (((j.ab.g task.toNat).ax).g i0).toNat).takes))) s)<|VV (pe (decide (s<(IntKind.i64.wrap ((ar.g (((j.ab.g task.toNat).ax).g i0).toNat)+((j.ab.g (((j.ab.g task.toNat).ax).g i0).toNat).takes))))) false f1)<|HH vY<|HH (show AV.same 20 (AV.bool (aj.g (((j.ab.g task.toNat).ax).g i0).toNat)) (AV.bool (aj.g (((j.ab.g task.toNat).ax).g i0).toNat))=true from iK 19 _)<|HH abZ<|HH (show AV.same 20 (Zi (ar.g (((j.ab.g task.toNat).ax).g i0).toNat)) (Zi (ar.g (((j.ab.g task.toNat).ax).g i0).toNat))=true from aK 19 _ _)<|HH (aI 22 0 j.ao bh k!)<|HH c20<|HH HO<|HH (show AV.same 20 (Zi ((j.ab.g (((j.ab.g task.toNat).ax).g i0).toNat).takes)) (Zi ((j.ab.g (((j.ab.g task.toNat).ax).g i0).toNat).takes))=true from aK 19 _ _)<|k:Pk _ [] ps)
     rcases Bool.eq_false_or_eq_true (decide (s<(IntKind.i64.wrap ((ar.g (((j.ab.g task.toNat).ax).g i0).toNat)+((j.ab.g (((j.ab.g task.toNat).ax).g i0).toNat).takes))))) with f2 | f2
     · have jZ:=of_decide_eq_true f2
       exact aC.ret false (by simp only[ia,f1,f2,cond_true,cond_false]) (pk (d+2) _ _ hh _ hh (hI<|BC f2<|ZZ) k!) (bp.refl aA) k!
     · have jZ:=of_decide_eq_false f2
       have Yr:=dZ 3 false true i0 1 o!
       exact aC.round (by simp only[ia,f1,f2,cond_true,cond_false]) (pk (d+2) _ _ hh _ hh (hI<|BC f2<|VV Yr<|CC<|ZZ) k!) (bp.refl aA) _ k! (fun x=>wi aX aU s j task ar aj a_ cx bb cf dc iU tJ N9 abY fW F8 fq hH ly mw l8 mO cS (i0+1) o! x hh aA ay bh cV)
   · have Yh:=dZ 3 false true i0 1 o!
     exact aC.round (by simp only[ia,f1,cond_true,cond_false]) (pk (d+2) _ _ hh _ hh (dR<|BB f1<|BB f1<|BB f1<|BB f1<|BB f1<|BB f1<|BB f1<|BB f1<|BB f1<|BB f1<|BB f1<|BB f1<|BV f1 (sS false f1)<|HH vY<|HH (show AV.same 20 (AV.bool (aj.g (((j.ab.g task.toNat).ax).g i0).toNat)) (AV.bool (aj.g (((j.ab.g task.toNat).ax).g i0).toNat))=true from iK 19 _)<|FF<|CC<|VV Yh<|CC<|ZZ) k!) (bp.refl aA) _ k! (fun x=>wi aX aU s j task ar aj a_ cx bb cf dc iU tJ N9 abY fW F8 fq hH ly mw l8 mO cS (i0+1) o! x hh aA ay bh cV)
def ib (j:cG) (task:Int) (i1:Nat) (s:Int):Nat→Nat→Option (Bool)
 | 0,_=>none
 | Cw+1,i2=>(bif (decide (((((j.af.g ((((j.ab.g task.toNat).au).g i1).ah).toNat).off).g i2).bl)<(IntKind.i64.wrap (s+((j.ab.g task.toNat).takes))))) then (bif (decide (s≤((((j.af.g ((((j.ab.g task.toNat).au).g i1).ah).toNat).off).g i2).aN))) then some false else ib j task i1 s Cw (i2+1)) else ib j task i1 s Cw (i2+1))
theorem wj {d:Nat} {h:aw} (aX:AV) (aU:AV) (s:Int) (j:cG) (task:Int) (i1:Nat) (ar:List Int) (aj:List Bool) (kZ:Nat) (xH:Nat) (Uu:Nat) (ky:bS h .i64 3 aX ar) (mQ:l7 h 4 aU aj) (xI:aM h j.ao j.ab) (np:aM h j.ai j.af) (DW:((j.ab.g task.toNat).name).length<2^60) (ab0:bS h .i64 3 ((j.ab.g task.toNat).aO) ((j.ab.g task.toNat).ax)) (ab1:aM h ((j.ab.g task.toNat).aS) ((j.ab.g task.toNat).au)) (aip:((j.af.g ((((j.ab.g task.toNat).au).g i1).ah).toNat).name).length<2^60) (Ia:aM h ((j.af.g ((((j.ab.g task.toNat).au).g i1).ah).toNat).dp) ((j.af.g ((((j.ab.g task.toNat).au).g i1).ah).toNat).off)) (va:aG.ok h j) (Ys:aG.ok h (j.ab.g task.toNat)) (aiq:aG.ok h (((j.ab.g task.toNat).au).g i1)) (air:aG.ok h (j.af.g ((((j.ab.g task.toNat).au).g i1).ah).toNat)) (A5:i1<(((j.ab.g task.toNat).au).length)) (Lh:aj.length=j.ab.length) (Li:ar.length=j.ab.length) (Lj:0≤task) (Lk:task<(j.ab.length:Int)) (Ll:∀q,q<(j.ab.g task.toNat).ax.length→0≤(j.ab.g task.toNat).ax.g q∧(j.ab.g task.toNat).ax.g q<(j.ab.length:Int)) (Lm:∀q,q<(j.ab.g task.toNat).au.length→0≤((j.ab.g task.toNat).au.g q).ah∧((j.ab.g task.toNat).au.g q).ah<(j.af.length:Int)):∀(k_ i_:Nat) (_:i_+k_=(((j.af.g ((((j.ab.g task.toNat).au).g i1).ah).toNat).off).length)) (x:Nat→AV) (hh:aw) (aA:Tidy hh) (ay:Has h hh) (iz:hh.get kZ=some (aH.cells [j.ao,j.ai] 25 false)) (xJ:hh.get xH=some (aH.cells [(AV.str ((j.ab.g task.toNat).name)),(Zi ((j.ab.g task.toNat).takes)),((j.ab.g task.toNat).aO),((j.ab.g task.toNat).aS)] 39 false)) (Ib:hh.get Uu=some (aH.cells [(AV.str ((j.af.g ((((j.ab.g task.toNat).au).g i1).ah).toNat).name)),(Zi ((j.af.g ((((j.ab.g task.toNat).au).g i1).ah).toNat).aB)),((j.af.g ((((j.ab.g task.toNat).au).g i1).ah).toNat).dp)] 36 false)),aC (cU (d+2)) QA ⟨((x 0)::aX::aU::(x 3)::(Zi s)::(Pt kZ)::rx x 6 5 ((Pt xH)::(Zi (IntKind.i64.wrap (s+((j.ab.g task.toNat).takes))))::(x 13)::(x 14)::(Zn i1)::(Pt Uu)::(Zn i_)::rx x 18 169 [])),hh,[],.no⟩ (.exit 4) hh (fun y=>((y 0)::aX::aU::(y 3)::(Zi s)::(Pt kZ)::rx y 6 5 ((Pt xH)::(Zi (IntKind.i64.wrap (s+((j.ab.g task.toNat).takes))))::(y 13)::(y 14)::(Zn i1)::(Pt Uu)::rx y 17 170 []))) (fun r y=>((y 0)::aX::aU::(y 3)::(Zi s)::(Pt kZ)::rx y 6 4 ((AV.bool r)::(Pt xH)::(Zi (IntKind.i64.wrap (s+((j.ab.g task.toNat).takes))))::(y 13)::(y 14)::(Zn i1)::(Pt Uu)::rx y 17 170 []))) (ib j task i1 s k_ i_)
 | 0,i2,gq,x,hh,aA,ay,iz,xJ,Ib=>by
   have zr:=ky.small
   have zt:=mQ.small
   have QC:=xI.small
   have GJ:=np.small
   have afn:=ab0.small
   have afo:=ab1.small
   have afp:=Ia.small
   have QD:=aA _ _ iz
   have afq:=aA _ _ xJ
   have akY:=aA _ _ Ib
   have gL:cc (some (.slice 70)) (some ((j.af.g ((((j.ab.g task.toNat).au).g i1).ah).toNat).dp))=some (Zn (((j.af.g ((((j.ab.g task.toNat).au).g i1).ah).toNat).off).length)):=(Ia.has ay).len
   have q2:(decide (((i2:Nat):Int)<((((j.af.g ((((j.ab.g task.toNat).au).g i1).ah).toNat).off).length:Nat):Int)))=false:=d!
   exact aC.out rfl (pk (d+2) _ _ hh _ hh (CN 2<|MM (aI 34 2 ((j.af.g ((((j.ab.g task.toNat).au).g i1).ah).toNat).dp) Ib k!)<|VV gL<|VV (bO 3 false false .i64 ((i2:Nat):Int) ((((j.af.g ((((j.ab.g task.toNat).au).g i1).ah).toNat).off).length:Nat):Int))<|BB q2<|ZZ) k!) (bp.refl aA) k!
 | Cw+1,i2,gq,x,hh,aA,ay,iz,xJ,Ib=>by
   have zr:=ky.small
   have zt:=mQ.small
   have QC:=xI.small
   have GJ:=np.small
   have afn:=ab0.small
   have afo:=ab1.small
   have afp:=Ia.small
   have QD:=aA _ _ iz
   have afq:=aA _ _ xJ
   have akY:=aA _ _ Ib
   have gL:cc (some (.slice 70)) (some ((j.af.g ((((j.ab.g task.toNat).au).g i1).ah).toNat).dp))=some (Zn (((j.af.g ((((j.ab.g task.toNat).au).g i1).ah).toNat).off).length)):=(Ia.has ay).len
   have q2:(decide (((i2:Nat):Int)<((((j.af.g ((((j.ab.g task.toNat).au).g i1).ah).toNat).off).length:Nat):Int)))=true:=d!
   obtain ⟨p4,q5,jE⟩:=(Ia.has ay).elem (i:=i2) o!
   have vP:bR env (some (.slice 70)) (some ((j.af.g ((((j.ab.g task.toNat).au).g i1).ah).toNat).dp)) (some (Zn i2))=some (AV.ptr p4 q5):=jE
   have rC:aY env hh 3 (AV.ptr p4 (q5+0))=some (Zi ((((j.af.g ((((j.ab.g task.toNat).au).g i1).ah).toNat).off).g i2).bl)):=(Ia.has ay).part (t:=3) (j:=0) o! jE k! rfl
   have mH:=fun {al ps} (k:Pk al _ ps)=>(CN 2<|MM (aI 34 2 ((j.af.g ((((j.ab.g task.toNat).au).g i1).ah).toNat).dp) Ib k!)<|VV gL<|VV (bO 3 false false .i64 ((i2:Nat):Int) ((((j.af.g ((((j.ab.g task.toNat).au).g i1).ah).toNat).off).length:Nat):Int))<|BC q2<|MM (aI 34 2 ((j.af.g ((((j.ab.g task.toNat).au).g i1).ah).toNat).dp) Ib k!)<|CC<|VV vP<|CC<|MM rC<|CC<|VV (bO 3 false false .i64 ((((j.af.g ((((j.ab.g task.toNat).au).g i1).ah).toNat).off).g i2).bl) (IntKind.i64.wrap (s+((j.ab.g task.toNat).takes))))<|CC<|k:Pk _ [] ps)
   rcases Bool.eq_false_or_eq_true (decide (((((j.af.g ((((j.ab.g task.toNat).au).g i1).ah).toNat).off).g i2).bl)<(IntKind.i64.wrap (s+((j.ab.g task.toNat).takes))))) with f1 | f1
   · have dQ:=of_decide_eq_true f1
     obtain ⟨p9,Dm,pI⟩:=(Ia.has ay).elem (i:=i2) o!
     have HR:bR env (some (.slice 70)) (some ((j.af.g ((((j.ab.g task.toNat).au).g i1).ah).toNat).dp)) (some (Zn i2))=some (AV.ptr p9 Dm):=pI
     have qK:aY env hh 3 (AV.ptr p9 (Dm+1))=some (Zi ((((j.af.g ((((j.ab.g task.toNat).au).g i1).ah).toNat).off).g i2).aN)):=(Ia.has ay).part (t:=3) (j:=1) o! pI k! rfl
     have vc:=fun {al ps} (k:Pk al _ ps)=>(mH<|BC f1<|BC f1<|BM f1 (aI 34 2 ((j.af.g ((((j.ab.g task.toNat).au).g i1).ah).toNat).dp) Ib k!)<|BC f1<|BV f1 HR<|BC f1<|BM f1 qK<|BV f1 (uW 3 false false .i64 s ((((j.af.g ((((j.ab.g task.toNat).au).g i1).ah).toNat).off).g i2).aN))<|VV (pe (decide (s≤((((j.af.g ((((j.ab.g task.toNat).au).g i1).ah).toNat).off).g i2).aN))) false f1)<|k:Pk _ [] ps)
     rcases Bool.eq_false_or_eq_true (decide (s≤((((j.af.g ((((j.ab.g task.toNat).au).g i1).ah).toNat).off).g i2).aN))) with f2 | f2
     · have jZ:=of_decide_eq_true f2
       exact aC.ret false (by simp only[ib,f1,f2,cond_true,cond_false]) (pk (d+2) _ _ hh _ hh (vc<|BC f2<|ZZ) k!) (bp.refl aA) k!
     · have jZ:=of_decide_eq_false f2
       have u13:=dZ 3 false true i2 1 o!
       exact aC.round (by simp only[ib,f1,f2,cond_true,cond_false]) (pk (d+2) _ _ hh _ hh (vc<|BC f2<|VV u13<|CC<|ZZ) k!) (bp.refl aA) _ k! (fun x=>wj aX aU s j task i1 ar aj kZ xH Uu ky mQ xI np DW ab0 ab1 aip Ia va Ys aiq air A5 Lh Li Lj Lk Ll Lm Cw (i2+1) o! x hh aA ay iz xJ Ib)
   · have dQ:=of_decide_eq_false f1
     have u8:=dZ 3 false true i2 1 o!
     exact aC.round (by simp only[ib,f1,cond_true,cond_false]) (pk (d+2) _ _ hh _ hh (mH<|BB f1<|BB f1<|BB f1<|BB f1<|BB f1<|BB f1<|BB f1<|BV f1 (sS false f1)<|FF<|CC<|VV u8<|CC<|ZZ) k!) (bp.refl aA) _ k! (fun x=>wj aX aU s j task i1 ar aj kZ xH Uu ky mQ xI np DW ab0 ab1 aip Ia va Ys aiq air A5 Lh Li Lj Lk Ll Lm Cw (i2+1) o! x hh aA ay iz xJ Ib)
def fB (j:cG) (aj:List Bool) (s:Int) (ar:List Int) (task:Int) (i1:Nat):Nat→Nat→Option (Bool)
 | 0,_=>none
 | N'+1,i3=>(bif (aj.g i3) then (bif (decide (s<(ar.g i3))) then (bif (decide ((ar.g i3)<(IntKind.i64.wrap (s+((j.ab.g task.toNat).takes))))) then (bif (decide (((j.af.g ((((j.ab.g task.toNat).au).g i1).ah).toNat).aB)<(IntKind.i64.wrap ((jv j ar aj ((((j.ab.g task.toNat).au).g i1).ah) (ar.g i3))+((((j.ab.g task.toNat).au).g i1).aB))))) then some false else fB j aj s ar task i1 N' (i3+1)) else fB j aj s ar task i1 N' (i3+1)) else fB j aj s ar task i1 N' (i3+1)) else fB j aj s ar task i1 N' (i3+1))
theorem oU {d:Nat} {h:aw} (aX:AV) (aU:AV) (s:Int) (j:cG) (task:Int) (i1:Nat) (ar:List Int) (aj:List Bool) (sD:Nat) (A6:Nat) (A7:Nat) (oV:bS h .i64 3 aX ar) (wk:l7 h 4 aU aj) (GK:aM h j.ao j.ab) (GM:aM h j.ai j.af) (GN:((j.ab.g task.toNat).name).length<2^60) (Uv:bS h .i64 3 ((j.ab.g task.toNat).aO) ((j.ab.g task.toNat).ax)) (GO:aM h ((j.ab.g task.toNat).aS) ((j.ab.g task.toNat).au)) (ab2:((j.af.g ((((j.ab.g task.toNat).au).g i1).ah).toNat).name).length<2^60) (Uw:aM h ((j.af.g ((((j.ab.g task.toNat).au).g i1).ah).toNat).dp) ((j.af.g ((((j.ab.g task.toNat).au).g i1).ah).toNat).off)) (Ln:aG.ok h j) (Ux:aG.ok h (j.ab.g task.toNat)) (Uy:aG.ok h (((j.ab.g task.toNat).au).g i1)) (ab3:aG.ok h (j.af.g ((((j.ab.g task.toNat).au).g i1).ah).toNat)) (SE:i1<(((j.ab.g task.toNat).au).length)) (ab4:aj.length=j.ab.length) (ab5:ar.length=j.ab.length) (ab6:0≤task) (ab7:task<(j.ab.length:Int)) (ab8:∀q,q<(j.ab.g task.toNat).ax.length→0≤(j.ab.g task.toNat).ax.g q∧(j.ab.g task.toNat).ax.g q<(j.ab.length:Int)) (ab9:∀q,q<(j.ab.g task.toNat).au.length→0≤((j.ab.g task.toNat).au.g q).ah∧((j.ab.g task.toNat).au.g q).ah<(j.af.length:Int)):∀(k_ i_:Nat) (_:i_+k_=j.ab.length) (x:Nat→AV) (hh:aw) (aA:Tidy hh) (ay:Has h hh) (nK:hh.get sD=some (aH.cells [j.ao,j.ai] 25 false)) (rG:hh.get A6=some (aH.cells [(AV.str ((j.ab.g task.toNat).name)),(Zi ((j.ab.g task.toNat).takes)),((j.ab.g task.toNat).aO),((j.ab.g task.toNat).aS)] 39 false)) (tX:hh.get A7=some (aH.cells [(AV.str ((j.af.g ((((j.ab.g task.toNat).au).g i1).ah).toNat).name)),(Zi ((j.af.g ((((j.ab.g task.toNat).au).g i1).ah).toNat).aB)),((j.af.g ((((j.ab.g task.toNat).au).g i1).ah).toNat).dp)] 36 false)),aC (cU (d+2)) QB ⟨((x 0)::aX::aU::(x 3)::(Zi s)::(Pt sD)::rx x 6 5 ((Pt A6)::(Zi (IntKind.i64.wrap (s+((j.ab.g task.toNat).takes))))::(x 13)::(x 14)::(Zn i1)::(Pt A7)::(x 17)::(Zn i_)::rx x 19 168 [])),hh,[],.no⟩ (.exit 6) hh (fun y=>((y 0)::aX::aU::(y 3)::(Zi s)::(Pt sD)::rx y 6 5 ((Pt A6)::(Zi (IntKind.i64.wrap (s+((j.ab.g task.toNat).takes))))::(y 13)::(y 14)::(Zn i1)::(Pt A7)::rx y 17 170 []))) (fun r y=>((y 0)::aX::aU::(y 3)::(Zi s)::(Pt sD)::rx y 6 4 ((AV.bool r)::(Pt A6)::(Zi (IntKind.i64.wrap (s+((j.ab.g task.toNat).takes))))::(y 13)::(y 14)::(Zn i1)::(Pt A7)::rx y 17 170 []))) (fB j aj s ar task i1 k_ i_)
 | 0,i3,gq,x,hh,aA,ay,nK,rG,tX=>by
   have GP:=oV.small
   have GQ:=wk.small
   have afr:=GK.small
   have QE:=GM.small
   have afs:=Uv.small
   have afu:=GO.small
   have afv:=Uw.small
   have Yt:=aA _ _ nK
   have afw:=aA _ _ rG
   have afx:=aA _ _ tX
   have gL:cc (some (.slice 39)) (some j.ao)=some (Zn j.ab.length):=(GK.has ay).len
   have q2:(decide (((i3:Nat):Int)<((j.ab.length:Nat):Int)))=false:=d!
   exact aC.out rfl (pk (d+2) _ _ hh _ hh (CN 2<|MM (aI 22 0 j.ao nK k!)<|VV gL<|VV (bO 3 false false .i64 ((i3:Nat):Int) ((j.ab.length:Nat):Int))<|BB q2<|ZZ) k!) (bp.refl aA) k!
 | N'+1,i3,gq,x,hh,aA,ay,nK,rG,tX=>by
   have GP:=oV.small
   have GQ:=wk.small
   have afr:=GK.small
   have QE:=GM.small
   have afs:=Uv.small
   have afu:=GO.small
   have afv:=Uw.small
   have Yt:=aA _ _ nK
   have afw:=aA _ _ rG
   have afx:=aA _ _ tX
   have gL:cc (some (.slice 39)) (some j.ao)=some (Zn j.ab.length):=(GK.has ay).len
   have q2:(decide (((i3:Nat):Int)<((j.ab.length:Nat):Int)))=true:=d!
   obtain ⟨p4,q5,jE,_⟩:=(wk.has ay).elem (i:=i3) o!
   have vP:bR env (some (.slice 4)) (some aU) (some (Zn i3))=some (AV.ptr p4 q5):=jE
   have rC:aY env hh 4 (AV.ptr p4 q5)=some (AV.bool (aj.g i3)):=(wk.has ay).load o! jE
   have zI:=fun {al ps} (k:Pk al _ ps)=>(CN 2<|MM (aI 22 0 j.ao nK k!)<|VV gL<|VV (bO 3 false false .i64 ((i3:Nat):Int) ((j.ab.length:Nat):Int))<|BB q2<|CN 2<|VV vP<|MM rC<|CC<|k:Pk _ [] ps)
   rcases Bool.eq_false_or_eq_true (aj.g i3) with f1 | f1
   · obtain ⟨p9,Dm,pI,_⟩:=(oV.has ay).elem (i:=i3) o!
     have HR:bR env (some (.slice 3)) (some aX) (some (Zn i3))=some (AV.ptr p9 Dm):=pI
     have qK:aY env hh 3 (AV.ptr p9 Dm)=some (Zi (ar.g i3)):=(oV.has ay).load o! pI
     have QF:=fun {al ps} (k:Pk al _ ps)=>(zI<|BC f1<|BC f1<|BV f1 HR<|BM f1 qK<|BC f1<|BV f1 (dw 3 false false .i64 (ar.g i3) s)<|VV (pe (decide (s<(ar.g i3))) false f1)<|CC<|k:Pk _ [] ps)
     rcases Bool.eq_false_or_eq_true (decide (s<(ar.g i3))) with f2 | f2
     · have jZ:=of_decide_eq_true f2
       obtain ⟨p14,Z6,Dp,_⟩:=(oV.has ay).elem (i:=i3) o!
       have Yq:bR env (some (.slice 3)) (some aX) (some (Zn i3))=some (AV.ptr p14 Z6):=Dp
       have H':aY env hh 3 (AV.ptr p14 Z6)=some (Zi (ar.g i3)):=(oV.has ay).load o! Dp
       have Oa:=fun {al ps} (k:Pk al _ ps)=>(QF<|BC f2<|BC f2<|BV f2 Yq<|BM f2 H'<|BC f2<|BV f2 (bO 3 false false .i64 (ar.g i3) (IntKind.i64.wrap (s+((j.ab.g task.toNat).takes))))<|VV (pe (decide ((ar.g i3)<(IntKind.i64.wrap (s+((j.ab.g task.toNat).takes))))) false f2)<|CC<|k:Pk _ [] ps)
       rcases Bool.eq_false_or_eq_true (decide ((ar.g i3)<(IntKind.i64.wrap (s+((j.ab.g task.toNat).takes))))) with f3 | f3
       · have lV:=of_decide_eq_true f3
         obtain ⟨p19,q20,adv⟩:=(GO.has ay).elem (i:=i1) o!
         have Xi:bR env (some (.slice 80)) (some ((j.ab.g task.toNat).aS)) (some (Zn i1))=some (AV.ptr p19 q20):=adv
         have ais:aY env hh 3 (AV.ptr p19 (q20+0))=some (Zi ((((j.ab.g task.toNat).au).g i1).ah)):=(GO.has ay).part (t:=3) (j:=0) o! adv k! rfl
         obtain ⟨p23,q24,adw,_⟩:=(oV.has ay).elem (i:=i3) o!
         have akZ:bR env (some (.slice 3)) (some aX) (some (Zn i3))=some (AV.ptr p23 q24):=adw
         have ait:aY env hh 3 (AV.ptr p23 q24)=some (Zi (ar.g i3)):=(oV.has ay).load o! adw
         obtain ⟨p27,q28,adx⟩:=(GO.has ay).elem (i:=i1) o!
         have ak0:bR env (some (.slice 80)) (some ((j.ab.g task.toNat).aS)) (some (Zn i1))=some (AV.ptr p27 q28):=adx
         have afy:aY env hh 3 (AV.ptr p27 (q28+1))=some (Zi ((((j.ab.g task.toNat).au).g i1).aB)):=(GO.has ay).part (t:=3) (j:=1) o! adx k! rfl
         have k30:=N8 (d:=d) j ar aj ((((j.ab.g task.toNat).au).g i1).ah) (ar.g i3) (aG.mono ay Ln) (oV.has ay) (wk.has ay) xq xq aA
         have c31:AV.same 20 (AV.agg [j.ao,j.ai]) (AV.agg [j.ao,j.ai])=true:=jy 18 (xh (GK.has ay).same (xh (GM.has ay).same TY))
         have c32:AV.same 20 ((j.ab.g task.toNat).aS) ((j.ab.g task.toNat).aS)=true:=(GO.has ay).same 19
         have Vf:=fun {al ps} (k:Pk al _ ps)=>(Oa<|BM f3 (aI 25 0 (AV.agg [j.ao,j.ai]) nK k!)<|BC f3<|BC f3<|BC f3<|BM f3 (aI 37 3 ((j.ab.g task.toNat).aS) rG k!)<|BC f3<|BV f3 Xi<|BC f3<|BM f3 ais<|BC f3<|BC f3<|BV f3 akZ<|BM f3 ait<|BC f3<|BM f3 (aI 37 3 ((j.ab.g task.toNat).aS) rG k!)<|BC f3<|BV f3 ak0<|BC f3<|BM f3 afy<|BC f3<|BM f3 (aI 3 1 (Zi ((j.af.g ((((j.ab.g task.toNat).au).g i1).ah).toNat).aB)) tX k!)<|BB f3<|EE k30<|BC f3<|BV f3 (dw 3 false false .i64 (IntKind.i64.wrap ((jv j ar aj ((((j.ab.g task.toNat).au).g i1).ah) (ar.g i3))+((((j.ab.g task.toNat).au).g i1).aB))) ((j.af.g ((((j.ab.g task.toNat).au).g i1).ah).toNat).aB))<|VV (pe (decide (((j.af.g ((((j.ab.g task.toNat).au).g i1).ah).toNat).aB)<(IntKind.i64.wrap ((jv j ar aj ((((j.ab.g task.toNat).au).g i1).ah) (ar.g i3))+((((j.ab.g task.toNat).au).g i1).aB))))) false f3)<|HH rC<|HH (show AV.same 20 (AV.bool (aj.g i3)) (AV.bool (aj.g i3))=true from iK 19 _)<|HH qK<|HH (show AV.same 20 (Zi (ar.g i3)) (Zi (ar.g i3))=true from aK 19 _ _)<|HH H'<|HH (show AV.same 20 (Zi (ar.g i3)) (Zi (ar.g i3))=true from aK 19 _ _)<|HH (aI 25 0 (AV.agg [j.ao,j.ai]) nK k!)<|HH c31<|HH (aI 37 3 ((j.ab.g task.toNat).aS) rG k!)<|HH c32<|HH ais<|HH (show AV.same 20 (Zi ((((j.ab.g task.toNat).au).g i1).ah)) (Zi ((((j.ab.g task.toNat).au).g i1).ah))=true from aK 19 _ _)<|HH ait<|HH (show AV.same 20 (Zi (ar.g i3)) (Zi (ar.g i3))=true from aK 19 _ _)<|HH (aI 37 3 ((j.ab.g task.toNat).aS) rG k!)<|HH c32<|HH (aI 37 3 ((j.ab.g task.toNat).aS) rG k!)<|HH c32<|HH afy<|HH (show AV.same 20 (Zi ((((j.ab.g task.toNat).au).g i1).aB)) (Zi ((((j.ab.g task.toNat).au).g i1).aB))=true from aK 19 _ _)<|HH afy<|HH (show AV.same 20 (Zi ((((j.ab.g task.toNat).au).g i1).aB)) (Zi ((((j.ab.g task.toNat).au).g i1).aB))=true from aK 19 _ _)<|HH (aI 3 1 (Zi ((j.af.g ((((j.ab.g task.toNat).au).g i1).ah).toNat).aB)) tX k!)<|HH (show AV.same 20 (Zi ((j.af.g ((((j.ab.g task.toNat).au).g i1).ah).toNat).aB)) (Zi ((j.af.g ((((j.ab.g task.toNat).au).g i1).ah).toNat).aB))=true from aK 19 _ _)<|HH (aI 3 1 (Zi ((j.af.g ((((j.ab.g task.toNat).au).g i1).ah).toNat).aB)) tX k!)<|HH (show AV.same 20 (Zi ((j.af.g ((((j.ab.g task.toNat).au).g i1).ah).toNat).aB)) (Zi ((j.af.g ((((j.ab.g task.toNat).au).g i1).ah).toNat).aB))=true from aK 19 _ _)<|k:Pk _ [] ps)
         rcases Bool.eq_false_or_eq_true (decide (((j.af.g ((((j.ab.g task.toNat).au).g i1).ah).toNat).aB)<(IntKind.i64.wrap ((jv j ar aj ((((j.ab.g task.toNat).au).g i1).ah) (ar.g i3))+((((j.ab.g task.toNat).au).g i1).aB))))) with f4 | f4
         · have rE:=of_decide_eq_true f4
           exact aC.ret false (by simp only[fB,f1,f2,f3,f4,cond_true,cond_false]) (pk (d+2) _ _ hh _ hh (Vf<|BC f4<|ZZ) k!) (bp.refl aA) k!
         · have rE:=of_decide_eq_false f4
           have u34:=dZ 3 false true i3 1 o!
           exact aC.round (by simp only[fB,f1,f2,f3,f4,cond_true,cond_false]) (pk (d+2) _ _ hh _ hh (Vf<|BC f4<|VV u34<|CC<|ZZ) k!) (bp.refl aA) _ k! (fun x=>oU aX aU s j task i1 ar aj sD A6 A7 oV wk GK GM GN Uv GO ab2 Uw Ln Ux Uy ab3 SE ab4 ab5 ab6 ab7 ab8 ab9 N' (i3+1) o! x hh aA ay nK rG tX)
       · have lV:=of_decide_eq_false f3
         have u18:=dZ 3 false true i3 1 o!
         exact aC.round (by simp only[fB,f1,f2,f3,cond_true,cond_false]) (pk (d+2) _ _ hh _ hh (Oa<|BB f3<|BB f3<|BB f3<|BB f3<|BB f3<|BB f3<|BB f3<|BB f3<|BB f3<|BB f3<|BB f3<|BB f3<|BB f3<|BB f3<|BB f3<|BB f3<|BB f3<|BB f3<|BB f3<|BB f3<|BB f3<|BB f3<|BB f3<|BV f3 (sS false f3)<|HH rC<|HH (show AV.same 20 (AV.bool (aj.g i3)) (AV.bool (aj.g i3))=true from iK 19 _)<|HH qK<|HH (show AV.same 20 (Zi (ar.g i3)) (Zi (ar.g i3))=true from aK 19 _ _)<|HH H'<|HH (show AV.same 20 (Zi (ar.g i3)) (Zi (ar.g i3))=true from aK 19 _ _)<|FF<|CC<|VV u18<|CC<|ZZ) k!) (bp.refl aA) _ k! (fun x=>oU aX aU s j task i1 ar aj sD A6 A7 oV wk GK GM GN Uv GO ab2 Uw Ln Ux Uy ab3 SE ab4 ab5 ab6 ab7 ab8 ab9 N' (i3+1) o! x hh aA ay nK rG tX)
     · have jZ:=of_decide_eq_false f2
       have u13:=dZ 3 false true i3 1 o!
       exact aC.round (by simp only[fB,f1,f2,cond_true,cond_false]) (pk (d+2) _ _ hh _ hh (QF<|BB f2<|BB f2<|BB f2<|BB f2<|BB f2<|BV f2 (sS false f2)<|CC<|FF<|FF<|FF<|FF<|FF<|FF<|FF<|FF<|FF<|FF<|FF<|FF<|FF<|FF<|FF<|FF<|FF<|FF<|FF<|FF<|FF<|FF<|FF<|FF<|CC<|HH rC<|HH (show AV.same 20 (AV.bool (aj.g i3)) (AV.bool (aj.g i3))=true from iK 19 _)<|HH qK<|HH (show AV.same 20 (Zi (ar.g i3)) (Zi (ar.g i3))=true from aK 19 _ _)<|FF<|CC<|VV u13<|CC<|ZZ) k!) (bp.refl aA) _ k! (fun x=>oU aX aU s j task i1 ar aj sD A6 A7 oV wk GK GM GN Uv GO ab2 Uw Ln Ux Uy ab3 SE ab4 ab5 ab6 ab7 ab8 ab9 N' (i3+1) o! x hh aA ay nK rG tX)
   · have u8:=dZ 3 false true i3 1 o!
     exact aC.round (by simp only[fB,f1,cond_true,cond_false]) (pk (d+2) _ _ hh _ hh (zI<|BB f1<|BB f1<|BB f1<|BB f1<|BB f1<|BV f1 (sS false f1)<|CC<|FF<|FF<|FF<|FF<|FF<|FF<|CN 2<|FF<|FF<|FF<|FF<|FF<|FF<|FF<|FF<|FF<|FF<|FF<|FF<|FF<|FF<|FF<|FF<|FF<|FF<|FF<|FF<|FF<|FF<|FF<|FF<|CC<|HH rC<|HH (show AV.same 20 (AV.bool (aj.g i3)) (AV.bool (aj.g i3))=true from iK 19 _)<|FF<|CC<|VV u8<|CC<|ZZ) k!) (bp.refl aA) _ k! (fun x=>oU aX aU s j task i1 ar aj sD A6 A7 oV wk GK GM GN Uv GO ab2 Uw Ln Ux Uy ab3 SE ab4 ab5 ab6 ab7 ab8 ab9 N' (i3+1) o! x hh aA ay nK rG tX)
def gS (j:cG) (task:Int) (s:Int) (ar:List Int) (aj:List Bool):Nat→Nat→Option (Bool)
 | 0,_=>none
 | nH+1,i1=>(bif (decide (0<((j.ab.g task.toNat).takes))) then (match (ib j task i1 s (((j.af.g ((((j.ab.g task.toNat).au).g i1).ah).toNat).off).length) 0) with | none=>(bif (decide (((j.af.g ((((j.ab.g task.toNat).au).g i1).ah).toNat).aB)<(IntKind.i64.wrap ((jv j ar aj ((((j.ab.g task.toNat).au).g i1).ah) s)+((((j.ab.g task.toNat).au).g i1).aB))))) then some false else (match (fB j aj s ar task i1 j.ab.length 0) with | none=>gS j task s ar aj nH (i1+1) | some afz=>some afz)) | some afA=>some afA) else none)
theorem Dr {d:Nat} {h:aw} (aX:AV) (aU:AV) (s:Int) (j:cG) (task:Int) (ar:List Int) (aj:List Bool) (d_:Nat) (gV:Nat) (db:bS h .i64 3 aX ar) (ft:l7 h 4 aU aj) (nI:aM h j.ao j.ab) (jJ:aM h j.ai j.af) (DX:((j.ab.g task.toNat).name).length<2^60) (Yu:bS h .i64 3 ((j.ab.g task.toNat).aO) ((j.ab.g task.toNat).ax)) (sE:aM h ((j.ab.g task.toNat).aS) ((j.ab.g task.toNat).au)) (oJ:aG.ok h j) (HN:aG.ok h (j.ab.g task.toNat)) (mP:aj.length=j.ab.length) (qJ:ar.length=j.ab.length) (ry:0≤task) (xz:task<(j.ab.length:Int)) (Ct:∀q,q<(j.ab.g task.toNat).ax.length→0≤(j.ab.g task.toNat).ax.g q∧(j.ab.g task.toNat).ax.g q<(j.ab.length:Int)) (Cu:∀q,q<(j.ab.g task.toNat).au.length→0≤((j.ab.g task.toNat).au.g q).ah∧((j.ab.g task.toNat).au.g q).ah<(j.af.length:Int)):∀(k_ i_:Nat) (_:i_+k_=(((j.ab.g task.toNat).au).length)) (x:Nat→AV) (hh:aw) (aA:Tidy hh) (ay:Has h hh) (cN:hh.get d_=some (aH.cells [j.ao,j.ai] 25 false)) (eh:hh.get gV=some (aH.cells [(AV.str ((j.ab.g task.toNat).name)),(Zi ((j.ab.g task.toNat).takes)),((j.ab.g task.toNat).aO),((j.ab.g task.toNat).aS)] 39 false)),aC (cU (d+2)) Qz ⟨((x 0)::aX::aU::(x 3)::(Zi s)::(Pt d_)::rx x 6 5 ((Pt gV)::(Zi (IntKind.i64.wrap (s+((j.ab.g task.toNat).takes))))::(x 13)::(x 14)::(Zn i_)::rx x 16 171 [])),hh,[],.no⟩ (.exit 2) hh (fun y=>((y 0)::aX::aU::(y 3)::(Zi s)::(Pt d_)::rx y 6 5 ((Pt gV)::(Zi (IntKind.i64.wrap (s+((j.ab.g task.toNat).takes))))::rx y 13 174 []))) (fun r y=>((y 0)::aX::aU::(y 3)::(Zi s)::(Pt d_)::rx y 6 4 ((AV.bool r)::(Pt gV)::(Zi (IntKind.i64.wrap (s+((j.ab.g task.toNat).takes))))::rx y 13 174 []))) (gS j task s ar aj k_ i_)
 | 0,i1,gq,x,hh,aA,ay,cN,eh=>by
   have ik:=db.small
   have jY:=ft.small
   have zu:=nI.small
   have GR:=jJ.small
   have afB:=Yu.small
   have afC:=sE.small
   have tG:=aA _ _ cN
   have FV:=aA _ _ eh
   have gL:cc (some (.slice 80)) (some ((j.ab.g task.toNat).aS))=some (Zn (((j.ab.g task.toNat).au).length)):=(sE.has ay).len
   have q2:(decide (((i1:Nat):Int)<((((j.ab.g task.toNat).au).length:Nat):Int)))=false:=d!
   exact aC.out rfl (pk (d+2) _ _ hh _ hh (CN 2<|MM (aI 37 3 ((j.ab.g task.toNat).aS) eh k!)<|VV gL<|VV (bO 3 false false .i64 ((i1:Nat):Int) ((((j.ab.g task.toNat).au).length:Nat):Int))<|CC<|BB q2<|BB q2<|BV q2 (sS false q2)<|FF<|ZZ) k!) (bp.refl aA) k!
 | nH+1,i1,gq,x,hh,aA,ay,cN,eh=>by
   have ik:=db.small
   have jY:=ft.small
   have zu:=nI.small
   have GR:=jJ.small
   have afB:=Yu.small
   have afC:=sE.small
   have tG:=aA _ _ cN
   have FV:=aA _ _ eh
   obtain ⟨us1,us2⟩:=Cu i1 o!
   have gL:cc (some (.slice 80)) (some ((j.ab.g task.toNat).aS))=some (Zn (((j.ab.g task.toNat).au).length)):=(sE.has ay).len
   have q2:(decide (((i1:Nat):Int)<((((j.ab.g task.toNat).au).length:Nat):Int)))=true:=d!
   have Yv:=fun {al ps} (k:Pk al _ ps)=>(CN 2<|MM (aI 37 3 ((j.ab.g task.toNat).aS) eh k!)<|VV gL<|VV (bO 3 false false .i64 ((i1:Nat):Int) ((((j.ab.g task.toNat).au).length:Nat):Int))<|CC<|BC q2<|BM q2 (aI 3 1 (Zi ((j.ab.g task.toNat).takes)) eh k!)<|BV q2 (dw 3 false true .i64 ((j.ab.g task.toNat).takes) 0)<|VV (pe (decide (0<((j.ab.g task.toNat).takes))) false q2)<|k:Pk _ [] ps)
   rcases Bool.eq_false_or_eq_true (decide (0<((j.ab.g task.toNat).takes))) with f1 | f1
   · have dQ:=of_decide_eq_true f1
     obtain ⟨p5,q6,Lp⟩:=(sE.has ay).elem (i:=i1) o!
     have U_:bR env (some (.slice 80)) (some ((j.ab.g task.toNat).aS)) (some (Zn i1))=some (AV.ptr p5 q6):=Lp
     have KO:aY env hh 3 (AV.ptr p5 (q6+0))=some (Zi ((((j.ab.g task.toNat).au).g i1).ah)):=(sE.has ay).part (t:=3) (j:=0) o! Lp k! rfl
     obtain ⟨p9,Dm,pI⟩:=(jJ.has ay).elem (i:=((((j.ab.g task.toNat).au).g i1).ah).toNat) o!
     have HR:bR env (some (.slice 36)) (some j.ai) (some (Zi ((((j.ab.g task.toNat).au).g i1).ah)))=some (AV.ptr p9 Dm):=by rw[show (((((j.ab.g task.toNat).au).g i1).ah):Int)=((((((j.ab.g task.toNat).au).g i1).ah).toNat:Nat):Int) by omega];exact pI
     have qK:aY env hh 36 (AV.ptr p9 Dm)=some (AV.agg [(AV.str ((j.af.g ((((j.ab.g task.toNat).au).g i1).ah).toNat).name)),(Zi ((j.af.g ((((j.ab.g task.toNat).au).g i1).ah).toNat).aB)),((j.af.g ((((j.ab.g task.toNat).au).g i1).ah).toNat).dp)]):=(jJ.has ay).load o! pI
     obtain ⟨pL,aiu,qm,aiv,Ob,iC⟩:=kh aA (aH.cells [(AV.str []),(Zi 0),AV.aD] 36 false)
     have jM:Has hh pL:=iC
     have ak1:AV.scalar ((j.af.g ((((j.ab.g task.toNat).au).g i1).ah).toNat).dp)=true:=(((jJ.has ay).ok (i:=((((j.ab.g task.toNat).au).g i1).ah).toNat) o!).2).scalar
     obtain ⟨lU,NF,g7,XJ,qX,f'⟩:=qi (t:=36) (n:=3) (i:=hh.nx) (L:=[(AV.str ((j.af.g ((((j.ab.g task.toNat).au).g i1).ah).toNat).name)),(Zi ((j.af.g ((((j.ab.g task.toNat).au).g i1).ah).toNat).aB)),((j.af.g ((((j.ab.g task.toNat).au).g i1).ah).toNat).dp)]) qm Ob k! rfl rfl (by simp only[AV.cells,List.all_cons,List.all_nil,Bool.and_true,Bool.and_self,iE,gd,iF,iG,eP,lF,lG,lH,lI,lJ,iH,ak1])
     have iB:Has hh lU:=Has.ei jM f' aA o!
     have c15:AV.same 20 j.ai j.ai=true:=(jJ.has ay).same 19
     have QG:AV.same 20 ((j.ab.g task.toNat).aS) ((j.ab.g task.toNat).aS)=true:=(sE.has ay).same 19
     have c17:AV.same 20 (AV.agg [(AV.str ((j.af.g ((((j.ab.g task.toNat).au).g i1).ah).toNat).name)),(Zi ((j.af.g ((((j.ab.g task.toNat).au).g i1).ah).toNat).aB)),((j.af.g ((((j.ab.g task.toNat).au).g i1).ah).toNat).dp)]) (AV.agg [(AV.str ((j.af.g ((((j.ab.g task.toNat).au).g i1).ah).toNat).name)),(Zi ((j.af.g ((((j.ab.g task.toNat).au).g i1).ah).toNat).aB)),((j.af.g ((((j.ab.g task.toNat).au).g i1).ah).toNat).dp)])=true:=jy 18 (xh (fun n=>kS n _) (xh (fun n=>aK n _ _) (xh (((jJ.has ay).ok (i:=((((j.ab.g task.toNat).au).g i1).ah).toNat) o!).2).same TY)))
     have DY:=fun {al ps} (k:Pk al _ ps)=>(Yv<|BC f1<|MM (aI 23 1 j.ai cN k!)<|CC<|MM (aI 37 3 ((j.ab.g task.toNat).aS) eh k!)<|CC<|VV U_<|CC<|MM KO<|VV HR<|MM qK<|NN aiu (fun i=>(Pt i))<|SS NF<|HH (aI 23 1 j.ai (iC _ _ cN) k!)<|HH c15<|HH (aI 37 3 ((j.ab.g task.toNat).aS) (iC _ _ eh) k!)<|HH QG<|k:Pk _ [] ps)
     have Oc:=wj (d:=d) (h:=hh) aX aU s j task i1 ar aj d_ gV hh.nx (db.has ay) (ft.has ay) (nI.has ay) (jJ.has ay) DX (Yu.has ay) (sE.has ay) (((jJ.has ay).ok (i:=((((j.ab.g task.toNat).au).g i1).ah).toNat) o!).1) (((jJ.has ay).ok (i:=((((j.ab.g task.toNat).au).g i1).ah).toNat) o!).2) (aG.mono ay oJ) (aG.mono ay HN) ((sE.has ay).ok (i:=i1) o!) ((jJ.has ay).ok (i:=((((j.ab.g task.toNat).au).g i1).ah).toNat) o!) o! o! o! o! o! o! o! (((j.af.g ((((j.ab.g task.toNat).au).g i1).ah).toNat).off).length) 0 o! (fun k_=>(((x 0)::aX::aU::(x 3)::(Zi s)::(Pt d_)::rx x 6 5 ((Pt gV)::(Zi (IntKind.i64.wrap (s+((j.ab.g task.toNat).takes))))::(x 13)::(x 14)::(Zn i1)::(Pt hh.nx)::(Zi 0)::rx x 18 48 ((Zn i1)::(AV.ptr gV 3)::((j.ab.g task.toNat).aS)::(Zn (((j.ab.g task.toNat).au).length))::(AV.bool (decide (((i1:Nat):Int)<((((j.ab.g task.toNat).au).length:Nat):Int))))::(AV.bool (decide (((i1:Nat):Int)<((((j.ab.g task.toNat).au).length:Nat):Int))))::(AV.ptr gV 1)::(Zi ((j.ab.g task.toNat).takes))::(AV.bool (decide (0<((j.ab.g task.toNat).takes))))::(AV.bool (decide (0<((j.ab.g task.toNat).takes))))::(x 76)::(x 77)::(AV.ptr d_ 1)::j.ai::(AV.ptr gV 3)::((j.ab.g task.toNat).aS)::(Zn i1)::(AV.ptr p5 q6)::(AV.ptr p5 (q6+0))::(Zi ((((j.ab.g task.toNat).au).g i1).ah))::(AV.ptr p9 Dm)::(AV.agg [(AV.str ((j.af.g ((((j.ab.g task.toNat).au).g i1).ah).toNat).name)),(Zi ((j.af.g ((((j.ab.g task.toNat).au).g i1).ah).toNat).aB)),((j.af.g ((((j.ab.g task.toNat).au).g i1).ah).toNat).dp)])::rx x 88 99 []))):List AV).getD k_ AV.undef) lU g7 iB (f' _ _ o! (iC _ _ cN)) (f' _ _ o! (iC _ _ eh)) qX
     cases xr:ib j task i1 s (((j.af.g ((((j.ab.g task.toNat).au).g i1).ah).toNat).off).length) 0 with
     | none=>
       obtain ⟨Lq,FK,A8,fl⟩:=aC.n xr Oc
       have vQ:=fl.y
       have aiw:lU.nx≤FK.nx:=fl.n
       have oH:Has hh FK:=iB.trans fl.a
       obtain ⟨p21,q22,ady⟩:=(sE.has ay).elem (i:=i1) o!
       have afD:bR env (some (.slice 80)) (some ((j.ab.g task.toNat).aS)) (some (Zn i1))=some (AV.ptr p21 q22):=ady
       have Uz:aY env FK 3 (AV.ptr p21 (q22+0))=some (Zi ((((j.ab.g task.toNat).au).g i1).ah)):=((sE.has ay).has oH).part (t:=3) (j:=0) o! ady k! rfl
       obtain ⟨p25,q26,adz⟩:=(sE.has ay).elem (i:=i1) o!
       have afE:bR env (some (.slice 80)) (some ((j.ab.g task.toNat).aS)) (some (Zn i1))=some (AV.ptr p25 q26):=adz
       have Lr:aY env FK 3 (AV.ptr p25 (q26+1))=some (Zi ((((j.ab.g task.toNat).au).g i1).aB)):=((sE.has ay).has oH).part (t:=3) (j:=1) o! adz k! rfl
       have k28:=N8 (d:=d) j ar aj ((((j.ab.g task.toNat).au).g i1).ah) s (aG.mono oH (aG.mono ay oJ)) ((db.has ay).has oH) ((ft.has ay).has oH) xq xq vQ
       have c29:AV.same 20 (AV.agg [j.ao,j.ai]) (AV.agg [j.ao,j.ai])=true:=jy 18 (xh (nI.has ay).same (xh (jJ.has ay).same TY))
       rcases Bool.eq_false_or_eq_true (decide (((j.af.g ((((j.ab.g task.toNat).au).g i1).ah).toNat).aB)<(IntKind.i64.wrap ((jv j ar aj ((((j.ab.g task.toNat).au).g i1).ah) s)+((((j.ab.g task.toNat).au).g i1).aB))))) with f3 | f3
       · have lV:=of_decide_eq_true f3
         exact aC.ret false (by simp only[gS,f1,xr,f3,cond_true,cond_false]) (pk (d+2) _ _ hh _ FK (DY<|HH (show aY env pL 3 (AV.ptr p5 (q6+0))=some (Zi ((((j.ab.g task.toNat).au).g i1).ah)) from (((sE.has ay).has jM).part (t:=3) (j:=0) o! Lp k! rfl))<|HH (show AV.same 20 (Zi ((((j.ab.g task.toNat).au).g i1).ah)) (Zi ((((j.ab.g task.toNat).au).g i1).ah))=true from aK 19 _ _)<|HH (show aY env pL 36 (AV.ptr p9 Dm)=some (AV.agg [(AV.str ((j.af.g ((((j.ab.g task.toNat).au).g i1).ah).toNat).name)),(Zi ((j.af.g ((((j.ab.g task.toNat).au).g i1).ah).toNat).aB)),((j.af.g ((((j.ab.g task.toNat).au).g i1).ah).toNat).dp)]) from (((jJ.has ay).has jM).load o! pI))<|HH c17<|HH (show ∃o,pL.get hh.nx=some o∧aH.same o (aH.cells [(AV.str []),(Zi 0),AV.aD] 36 false)=true from ⟨_,Ob,by simp [aH.same,ep,AV.same]⟩)<|CC<|LL A8<|MM (aI 25 0 (AV.agg [j.ao,j.ai]) (fl.a _ _ (f' _ _ o! (iC _ _ cN))) k!)<|CN 3<|MM (aI 37 3 ((j.ab.g task.toNat).aS) (fl.a _ _ (f' _ _ o! (iC _ _ eh))) k!)<|CC<|VV afD<|CC<|MM Uz<|CN 2<|MM (aI 37 3 ((j.ab.g task.toNat).aS) (fl.a _ _ (f' _ _ o! (iC _ _ eh))) k!)<|CC<|VV afE<|CC<|MM Lr<|CC<|MM (aI 3 1 (Zi ((j.af.g ((((j.ab.g task.toNat).au).g i1).ah).toNat).aB)) (fl.a _ _ qX) k!)<|EE k28<|CC<|VV (dw 3 false false .i64 (IntKind.i64.wrap ((jv j ar aj ((((j.ab.g task.toNat).au).g i1).ah) s)+((((j.ab.g task.toNat).au).g i1).aB))) ((j.af.g ((((j.ab.g task.toNat).au).g i1).ah).toNat).aB))<|HH (aI 25 0 (AV.agg [j.ao,j.ai]) (fl.a _ _ (f' _ _ o! (iC _ _ cN))) k!)<|HH c29<|HH (aI 37 3 ((j.ab.g task.toNat).aS) (fl.a _ _ (f' _ _ o! (iC _ _ eh))) k!)<|HH QG<|HH Uz<|HH (show AV.same 20 (Zi ((((j.ab.g task.toNat).au).g i1).ah)) (Zi ((((j.ab.g task.toNat).au).g i1).ah))=true from aK 19 _ _)<|HH (aI 37 3 ((j.ab.g task.toNat).aS) (fl.a _ _ (f' _ _ o! (iC _ _ eh))) k!)<|HH QG<|HH (aI 37 3 ((j.ab.g task.toNat).aS) (fl.a _ _ (f' _ _ o! (iC _ _ eh))) k!)<|HH QG<|HH Lr<|HH (show AV.same 20 (Zi ((((j.ab.g task.toNat).au).g i1).aB)) (Zi ((((j.ab.g task.toNat).au).g i1).aB))=true from aK 19 _ _)<|HH Lr<|HH (show AV.same 20 (Zi ((((j.ab.g task.toNat).au).g i1).aB)) (Zi ((((j.ab.g task.toNat).au).g i1).aB))=true from aK 19 _ _)<|HH (aI 3 1 (Zi ((j.af.g ((((j.ab.g task.toNat).au).g i1).ah).toNat).aB)) (fl.a _ _ qX) k!)<|HH (show AV.same 20 (Zi ((j.af.g ((((j.ab.g task.toNat).au).g i1).ah).toNat).aB)) (Zi ((j.af.g ((((j.ab.g task.toNat).au).g i1).ah).toNat).aB))=true from aK 19 _ _)<|HH (aI 3 1 (Zi ((j.af.g ((((j.ab.g task.toNat).au).g i1).ah).toNat).aB)) (fl.a _ _ qX) k!)<|HH (show AV.same 20 (Zi ((j.af.g ((((j.ab.g task.toNat).au).g i1).ah).toNat).aB)) (Zi ((j.af.g ((((j.ab.g task.toNat).au).g i1).ah).toNat).aB))=true from aK 19 _ _)<|BC f3<|ZZ) k!) (⟨vQ,oH,by omega⟩) k!
       · have lV:=of_decide_eq_false f3
         have Yw:=oU (d:=d) (h:=hh) aX aU s j task i1 ar aj d_ gV hh.nx (db.has ay) (ft.has ay) (nI.has ay) (jJ.has ay) DX (Yu.has ay) (sE.has ay) (((jJ.has ay).ok (i:=((((j.ab.g task.toNat).au).g i1).ah).toNat) o!).1) (((jJ.has ay).ok (i:=((((j.ab.g task.toNat).au).g i1).ah).toNat) o!).2) (aG.mono ay oJ) (aG.mono ay HN) ((sE.has ay).ok (i:=i1) o!) ((jJ.has ay).ok (i:=((((j.ab.g task.toNat).au).g i1).ah).toNat) o!) o! o! o! o! o! o! o! j.ab.length 0 o! (fun k_=>(((Lq 0)::aX::aU::(Lq 3)::(Zi s)::(Pt d_)::rx Lq 6 5 ((Pt gV)::(Zi (IntKind.i64.wrap (s+((j.ab.g task.toNat).takes))))::(Lq 13)::(Lq 14)::(Zn i1)::(Pt hh.nx)::(Lq 17)::(Zi 0)::rx Lq 19 94 ((AV.agg [j.ao,j.ai])::aX::aU::(AV.ptr gV 3)::((j.ab.g task.toNat).aS)::(Zn i1)::(AV.ptr p21 q22)::(AV.ptr p21 (q22+0))::(Zi ((((j.ab.g task.toNat).au).g i1).ah))::(Zi s)::(Zi (jv j ar aj ((((j.ab.g task.toNat).au).g i1).ah) s))::(AV.ptr gV 3)::((j.ab.g task.toNat).aS)::(Zn i1)::(AV.ptr p25 q26)::(AV.ptr p25 (q26+1))::(Zi ((((j.ab.g task.toNat).au).g i1).aB))::(Zi (IntKind.i64.wrap ((jv j ar aj ((((j.ab.g task.toNat).au).g i1).ah) s)+((((j.ab.g task.toNat).au).g i1).aB))))::(AV.ptr hh.nx 1)::(Zi ((j.af.g ((((j.ab.g task.toNat).au).g i1).ah).toNat).aB))::(AV.bool (decide (((j.af.g ((((j.ab.g task.toNat).au).g i1).ah).toNat).aB)<(IntKind.i64.wrap ((jv j ar aj ((((j.ab.g task.toNat).au).g i1).ah) s)+((((j.ab.g task.toNat).au).g i1).aB))))))::rx Lq 134 53 []))):List AV).getD k_ AV.undef) FK vQ oH (fl.a _ _ (f' _ _ o! (iC _ _ cN))) (fl.a _ _ (f' _ _ o! (iC _ _ eh))) (fl.a _ _ qX)
         cases Ei:fB j aj s ar task i1 j.ab.length 0 with
         | none=>
           obtain ⟨ak2,Z7,Ls,wm⟩:=aC.n Ei Yw
           have SF:=wm.y
           have aix:FK.nx≤Z7.nx:=wm.n
           have SG:Has hh Z7:=oH.trans wm.a
           have UA:Has FK Z7:=wm.a
           have u33:=dZ 3 false true i1 1 o!
           exact aC.round (by simp only[gS,f1,xr,f3,Ei,cond_true,cond_false]) (pk (d+2) _ _ hh _ Z7 (DY<|HH (show aY env pL 3 (AV.ptr p5 (q6+0))=some (Zi ((((j.ab.g task.toNat).au).g i1).ah)) from (((sE.has ay).has jM).part (t:=3) (j:=0) o! Lp k! rfl))<|HH (show AV.same 20 (Zi ((((j.ab.g task.toNat).au).g i1).ah)) (Zi ((((j.ab.g task.toNat).au).g i1).ah))=true from aK 19 _ _)<|HH (show aY env pL 36 (AV.ptr p9 Dm)=some (AV.agg [(AV.str ((j.af.g ((((j.ab.g task.toNat).au).g i1).ah).toNat).name)),(Zi ((j.af.g ((((j.ab.g task.toNat).au).g i1).ah).toNat).aB)),((j.af.g ((((j.ab.g task.toNat).au).g i1).ah).toNat).dp)]) from (((jJ.has ay).has jM).load o! pI))<|HH c17<|HH (show ∃o,pL.get hh.nx=some o∧aH.same o (aH.cells [(AV.str []),(Zi 0),AV.aD] 36 false)=true from ⟨_,Ob,by simp [aH.same,ep,AV.same]⟩)<|CC<|LL A8<|MM (aI 25 0 (AV.agg [j.ao,j.ai]) (fl.a _ _ (f' _ _ o! (iC _ _ cN))) k!)<|CN 3<|MM (aI 37 3 ((j.ab.g task.toNat).aS) (fl.a _ _ (f' _ _ o! (iC _ _ eh))) k!)<|CC<|VV afD<|CC<|MM Uz<|CN 2<|MM (aI 37 3 ((j.ab.g task.toNat).aS) (fl.a _ _ (f' _ _ o! (iC _ _ eh))) k!)<|CC<|VV afE<|CC<|MM Lr<|CC<|MM (aI 3 1 (Zi ((j.af.g ((((j.ab.g task.toNat).au).g i1).ah).toNat).aB)) (fl.a _ _ qX) k!)<|EE k28<|CC<|VV (dw 3 false false .i64 (IntKind.i64.wrap ((jv j ar aj ((((j.ab.g task.toNat).au).g i1).ah) s)+((((j.ab.g task.toNat).au).g i1).aB))) ((j.af.g ((((j.ab.g task.toNat).au).g i1).ah).toNat).aB))<|HH (aI 25 0 (AV.agg [j.ao,j.ai]) (fl.a _ _ (f' _ _ o! (iC _ _ cN))) k!)<|HH c29<|HH (aI 37 3 ((j.ab.g task.toNat).aS) (fl.a _ _ (f' _ _ o! (iC _ _ eh))) k!)<|HH QG<|HH Uz<|HH (show AV.same 20 (Zi ((((j.ab.g task.toNat).au).g i1).ah)) (Zi ((((j.ab.g task.toNat).au).g i1).ah))=true from aK 19 _ _)<|HH (aI 37 3 ((j.ab.g task.toNat).aS) (fl.a _ _ (f' _ _ o! (iC _ _ eh))) k!)<|HH QG<|HH (aI 37 3 ((j.ab.g task.toNat).aS) (fl.a _ _ (f' _ _ o! (iC _ _ eh))) k!)<|HH QG<|HH Lr<|HH (show AV.same 20 (Zi ((((j.ab.g task.toNat).au).g i1).aB)) (Zi ((((j.ab.g task.toNat).au).g i1).aB))=true from aK 19 _ _)<|HH Lr<|HH (show AV.same 20 (Zi ((((j.ab.g task.toNat).au).g i1).aB)) (Zi ((((j.ab.g task.toNat).au).g i1).aB))=true from aK 19 _ _)<|HH (aI 3 1 (Zi ((j.af.g ((((j.ab.g task.toNat).au).g i1).ah).toNat).aB)) (fl.a _ _ qX) k!)<|HH (show AV.same 20 (Zi ((j.af.g ((((j.ab.g task.toNat).au).g i1).ah).toNat).aB)) (Zi ((j.af.g ((((j.ab.g task.toNat).au).g i1).ah).toNat).aB))=true from aK 19 _ _)<|HH (aI 3 1 (Zi ((j.af.g ((((j.ab.g task.toNat).au).g i1).ah).toNat).aB)) (fl.a _ _ qX) k!)<|HH (show AV.same 20 (Zi ((j.af.g ((((j.ab.g task.toNat).au).g i1).ah).toNat).aB)) (Zi ((j.af.g ((((j.ab.g task.toNat).au).g i1).ah).toNat).aB))=true from aK 19 _ _)<|BC f3<|LL Ls<|CC<|VV u33<|CC<|ZZ) k!) (⟨SF,SG,by omega⟩) _ k! (fun x=>Dr aX aU s j task ar aj d_ gV db ft nI jJ DX Yu sE oJ HN mP qJ ry xz Ct Cu nH (i1+1) o! x Z7 SF (ay.trans SG) (wm.a _ _ (fl.a _ _ (f' _ _ o! (iC _ _ cN)))) (wm.a _ _ (fl.a _ _ (f' _ _ o! (iC _ _ eh)))))
         | some afz=>
           obtain ⟨ak2,Z7,Ls,wm⟩:=aC.r Ei Yw
           have SF:=wm.y
           have aix:FK.nx≤Z7.nx:=wm.n
           have SG:Has hh Z7:=oH.trans wm.a
           have UA:Has FK Z7:=wm.a
           exact aC.ret afz (by simp only[gS,f1,xr,f3,Ei,cond_true,cond_false]) (pk (d+2) _ _ hh _ Z7 (DY<|HH (show aY env pL 3 (AV.ptr p5 (q6+0))=some (Zi ((((j.ab.g task.toNat).au).g i1).ah)) from (((sE.has ay).has jM).part (t:=3) (j:=0) o! Lp k! rfl))<|HH (show AV.same 20 (Zi ((((j.ab.g task.toNat).au).g i1).ah)) (Zi ((((j.ab.g task.toNat).au).g i1).ah))=true from aK 19 _ _)<|HH (show aY env pL 36 (AV.ptr p9 Dm)=some (AV.agg [(AV.str ((j.af.g ((((j.ab.g task.toNat).au).g i1).ah).toNat).name)),(Zi ((j.af.g ((((j.ab.g task.toNat).au).g i1).ah).toNat).aB)),((j.af.g ((((j.ab.g task.toNat).au).g i1).ah).toNat).dp)]) from (((jJ.has ay).has jM).load o! pI))<|HH c17<|HH (show ∃o,pL.get hh.nx=some o∧aH.same o (aH.cells [(AV.str []),(Zi 0),AV.aD] 36 false)=true from ⟨_,Ob,by simp [aH.same,ep,AV.same]⟩)<|CC<|LL A8<|MM (aI 25 0 (AV.agg [j.ao,j.ai]) (fl.a _ _ (f' _ _ o! (iC _ _ cN))) k!)<|CN 3<|MM (aI 37 3 ((j.ab.g task.toNat).aS) (fl.a _ _ (f' _ _ o! (iC _ _ eh))) k!)<|CC<|VV afD<|CC<|MM Uz<|CN 2<|MM (aI 37 3 ((j.ab.g task.toNat).aS) (fl.a _ _ (f' _ _ o! (iC _ _ eh))) k!)<|CC<|VV afE<|CC<|MM Lr<|CC<|MM (aI 3 1 (Zi ((j.af.g ((((j.ab.g task.toNat).au).g i1).ah).toNat).aB)) (fl.a _ _ qX) k!)<|EE k28<|CC<|VV (dw 3 false false .i64 (IntKind.i64.wrap ((jv j ar aj ((((j.ab.g task.toNat).au).g i1).ah) s)+((((j.ab.g task.toNat).au).g i1).aB))) ((j.af.g ((((j.ab.g task.toNat).au).g i1).ah).toNat).aB))<|HH (aI 25 0 (AV.agg [j.ao,j.ai]) (fl.a _ _ (f' _ _ o! (iC _ _ cN))) k!)<|HH c29<|HH (aI 37 3 ((j.ab.g task.toNat).aS) (fl.a _ _ (f' _ _ o! (iC _ _ eh))) k!)<|HH QG<|HH Uz<|HH (show AV.same 20 (Zi ((((j.ab.g task.toNat).au).g i1).ah)) (Zi ((((j.ab.g task.toNat).au).g i1).ah))=true from aK 19 _ _)<|HH (aI 37 3 ((j.ab.g task.toNat).aS) (fl.a _ _ (f' _ _ o! (iC _ _ eh))) k!)<|HH QG<|HH (aI 37 3 ((j.ab.g task.toNat).aS) (fl.a _ _ (f' _ _ o! (iC _ _ eh))) k!)<|HH QG<|HH Lr<|HH (show AV.same 20 (Zi ((((j.ab.g task.toNat).au).g i1).aB)) (Zi ((((j.ab.g task.toNat).au).g i1).aB))=true from aK 19 _ _)<|HH Lr<|HH (show AV.same 20 (Zi ((((j.ab.g task.toNat).au).g i1).aB)) (Zi ((((j.ab.g task.toNat).au).g i1).aB))=true from aK 19 _ _)<|HH (aI 3 1 (Zi ((j.af.g ((((j.ab.g task.toNat).au).g i1).ah).toNat).aB)) (fl.a _ _ qX) k!)<|HH (show AV.same 20 (Zi ((j.af.g ((((j.ab.g task.toNat).au).g i1).ah).toNat).aB)) (Zi ((j.af.g ((((j.ab.g task.toNat).au).g i1).ah).toNat).aB))=true from aK 19 _ _)<|HH (aI 3 1 (Zi ((j.af.g ((((j.ab.g task.toNat).au).g i1).ah).toNat).aB)) (fl.a _ _ qX) k!)<|HH (show AV.same 20 (Zi ((j.af.g ((((j.ab.g task.toNat).au).g i1).ah).toNat).aB)) (Zi ((j.af.g ((((j.ab.g task.toNat).au).g i1).ah).toNat).aB))=true from aK 19 _ _)<|BC f3<|LL Ls<|ZZ) k!) (⟨SF,SG,by omega⟩) k!
     | some afA=>
       obtain ⟨Lq,FK,A8,fl⟩:=aC.r xr Oc
       have vQ:=fl.y
       have aiw:lU.nx≤FK.nx:=fl.n
       have oH:Has hh FK:=iB.trans fl.a
       exact aC.ret afA (by simp only[gS,f1,xr,cond_true,cond_false]) (pk (d+2) _ _ hh _ FK (DY<|HH (show aY env pL 3 (AV.ptr p5 (q6+0))=some (Zi ((((j.ab.g task.toNat).au).g i1).ah)) from (((sE.has ay).has jM).part (t:=3) (j:=0) o! Lp k! rfl))<|HH (show AV.same 20 (Zi ((((j.ab.g task.toNat).au).g i1).ah)) (Zi ((((j.ab.g task.toNat).au).g i1).ah))=true from aK 19 _ _)<|HH (show aY env pL 36 (AV.ptr p9 Dm)=some (AV.agg [(AV.str ((j.af.g ((((j.ab.g task.toNat).au).g i1).ah).toNat).name)),(Zi ((j.af.g ((((j.ab.g task.toNat).au).g i1).ah).toNat).aB)),((j.af.g ((((j.ab.g task.toNat).au).g i1).ah).toNat).dp)]) from (((jJ.has ay).has jM).load o! pI))<|HH c17<|HH (show ∃o,pL.get hh.nx=some o∧aH.same o (aH.cells [(AV.str []),(Zi 0),AV.aD] 36 false)=true from ⟨_,Ob,by simp [aH.same,ep,AV.same]⟩)<|CC<|LL A8<|ZZ) k!) (⟨vQ,oH,by omega⟩) k!
   · have dQ:=of_decide_eq_false f1
     exact aC.out (by simp only[gS,f1,cond_true,cond_false]) (pk (d+2) _ _ hh _ hh (Yv<|BB f1<|ZZ) k!) (bp.refl aA) k!
def cC (j:cG) (ar:List Int) (aj:List Bool) (task:Int) (s:Int):Bool:=(bif (!(dP s)) then false else (bif (decide (100000<(IntKind.i64.wrap (s+((j.ab.g task.toNat).takes))))) then false else (match (ia j task aj s ar (((j.ab.g task.toNat).ax).length) 0) with | none=>(match (gS j task s ar aj (((j.ab.g task.toNat).au).length) 0) with | none=>true | some afF=>afF) | some afG=>afG)))
theorem wq {d:Nat} {h:aw} {aX aU:AV} (j:cG) (ar:List Int) (aj:List Bool) (task:Int) (s:Int) (bZ:aG.ok h j) (im:bS h .i64 3 aX ar) (iZ:l7 h 4 aU aj) (nE:aj.length=j.ab.length) (qI:ar.length=j.ab.length) (yS:0≤task) (Ar:task<(j.ab.length:Int)) (DJ:∀q,q<(j.ab.g task.toNat).ax.length→0≤(j.ab.g task.toNat).ax.g q∧(j.ab.g task.toNat).ax.g q<(j.ab.length:Int)) (Uh:∀q,q<(j.ab.g task.toNat).au.length→0≤((j.ab.g task.toNat).au.g q).ah∧((j.ab.g task.toNat).au.g q).ah<(j.af.length:Int)) (ct:Tidy h):cU (d+3) (.fn 114) [(AV.agg [j.ao,j.ai]),aX,aU,(Zi task),(Zi s)] h= .ret (AV.bool (cC j ar aj task s)) h:=by
 have zq:=im.small
 have zp:=iZ.small
 have eT:=bZ.1.small
 have eU:=bZ.2.small
 obtain ⟨h1,dH,cP,kr,bk,bW⟩:=kh ct (aH.cells [j.ao,j.ai] 25 false)
 have bB:Has h h1:=bW
 obtain ⟨p3,q4,cF⟩:=bZ.1.elem (i:=task.toNat) o!
 have jL:bR env (some (.slice 39)) (some j.ao) (some (Zi task))=some (AV.ptr p3 q4):=by rw[show (task:Int)=((task.toNat:Nat):Int) by omega];exact cF
 have j9:aY env h1 39 (AV.ptr p3 q4)=some (AV.agg [(AV.str ((j.ab.g task.toNat).name)),(Zi ((j.ab.g task.toNat).takes)),((j.ab.g task.toNat).aO),((j.ab.g task.toNat).aS)]):=(bZ.1.has bB).load o! cF
 obtain ⟨h6,nU,kM,Ce,nV,cE⟩:=kh cP (aH.cells [(AV.str []),(Zi 0),AV.aD,AV.aD] 39 false)
 have jA:Has h h6:=bB.trans cE
 have PX:AV.scalar ((j.ab.g task.toNat).aO)=true:=((bZ.1.ok (i:=task.toNat) o!).2.1).scalar
 have XI:AV.scalar ((j.ab.g task.toNat).aS)=true:=((bZ.1.ok (i:=task.toNat) o!).2.2).scalar
 obtain ⟨h7,m8,eO,xA,f_,bD⟩:=qi (t:=39) (n:=4) (i:=h1.nx) (L:=[(AV.str ((j.ab.g task.toNat).name)),(Zi ((j.ab.g task.toNat).takes)),((j.ab.g task.toNat).aO),((j.ab.g task.toNat).aS)]) kM nV k! rfl rfl (by simp only[AV.cells,List.all_cons,List.all_nil,Bool.and_true,Bool.and_self,iE,gd,iF,iG,eP,lF,lG,lH,lI,lJ,iH,PX,XI])
 have du:Has h h7:=Has.ei jA bD ct o!
 have k10:=xp (d:=d+1) s eO
 have Yx:=fun {al ps} (k:Pk al _ ps)=>(NN dH (fun i=>(Pt i))<|CN 2<|MM (aI 22 0 j.ao bk k!)<|CC<|VV jL<|MM j9<|NN nU (fun i=>(Pt i))<|SS m8<|CN 2<|MM (aI 3 1 (Zi ((j.ab.g task.toNat).takes)) f_ k!)<|CN 3<|EE k10<|CN 2<|k:Pk _ [] ps)
 rcases Bool.eq_false_or_eq_true (!(dP s)) with f0 | f0
 · have e:cC j ar aj task s=false:=by simp only[cC,f0,cond_true,cond_false]
   rw[e]
   exact aE rfl (aZ Tryz.func114 wh rfl (.inr rfl) (pk (d+2) _ _ h _ h7 (Yx<|BB f0<|BV f0 (xV true f0)<|TT<|CC<|ZZ) k!) k!) du rfl
 · have QH:=fun {al ps} (k:Pk al _ ps)=>(Yx<|BC f0<|BV f0 (dw 3 false true .i64 (IntKind.i64.wrap (s+((j.ab.g task.toNat).takes))) 100000)<|k:Pk _ [] ps)
   rcases Bool.eq_false_or_eq_true (decide (100000<(IntKind.i64.wrap (s+((j.ab.g task.toNat).takes))))) with f1 | f1
   · have dQ:=of_decide_eq_true f1
     have e:cC j ar aj task s=false:=by simp only[cC,f0,f1,cond_true,cond_false]
     rw[e]
     exact aE rfl (aZ Tryz.func114 wh rfl (.inr rfl) (pk (d+2) _ _ h _ h7 (QH<|VV (b8 (a:=some (AV.bool true)) (b:=some (AV.bool (decide (100000<(IntKind.i64.wrap (s+((j.ab.g task.toNat).takes))))))) f0)<|BC f1<|ZZ) k!) k!) du rfl
   · have dQ:=of_decide_eq_false f1
     have aiy:=wi (d:=d) (h:=h) aX aU s j task ar aj h.nx h1.nx im iZ bZ.1 bZ.2 ((bZ.1.ok (i:=task.toNat) o!).1) ((bZ.1.ok (i:=task.toNat) o!).2.1) ((bZ.1.ok (i:=task.toNat) o!).2.2) bZ (bZ.1.ok (i:=task.toNat) o!) o! o! o! o! o! o! (((j.ab.g task.toNat).ax).length) 0 o! (fun k_=>(((AV.agg [j.ao,j.ai])::aX::aU::(Zi task)::(Zi s)::(Pt h.nx)::AV.undef::AV.undef::AV.undef::AV.undef::(AV.bool false)::(Pt h1.nx)::(Zi (IntKind.i64.wrap (s+((j.ab.g task.toNat).takes))))::(Zi 0)::AV.undef::AV.undef::AV.undef::AV.undef::AV.undef::(Pt h.nx)::j.ao::(Zi task)::(AV.ptr p3 q4)::(AV.agg [(AV.str ((j.ab.g task.toNat).name)),(Zi ((j.ab.g task.toNat).takes)),((j.ab.g task.toNat).aO),((j.ab.g task.toNat).aS)])::(Zi s)::(AV.ptr h1.nx 1)::(Zi ((j.ab.g task.toNat).takes))::(Zi (IntKind.i64.wrap (s+((j.ab.g task.toNat).takes))))::(Zi s)::(AV.bool (dP s))::(AV.bool (!(dP s)))::(AV.bool (!(dP s)))::(Zi (IntKind.i64.wrap (s+((j.ab.g task.toNat).takes))))::(AV.bool (decide (100000<(IntKind.i64.wrap (s+((j.ab.g task.toNat).takes))))))::(AV.bool (decide (100000<(IntKind.i64.wrap (s+((j.ab.g task.toNat).takes))))))::lk 152):List AV).getD k_ AV.undef) h7 eO du (bD _ _ o! (cE _ _ bk)) f_
     cases A9:ia j task aj s ar (((j.ab.g task.toNat).ax).length) 0 with
     | none=>
       obtain ⟨QJ,FJ,Ej,A_⟩:=aC.n A9 aiy
       have xW:=A_.y
       have aiz:h7.nx≤FJ.nx:=A_.n
       have sc:Has h FJ:=du.trans A_.a
       have aiA:=Dr (d:=d) (h:=h) aX aU s j task ar aj h.nx h1.nx im iZ bZ.1 bZ.2 ((bZ.1.ok (i:=task.toNat) o!).1) ((bZ.1.ok (i:=task.toNat) o!).2.1) ((bZ.1.ok (i:=task.toNat) o!).2.2) bZ (bZ.1.ok (i:=task.toNat) o!) o! o! o! o! o! o! (((j.ab.g task.toNat).au).length) 0 o! (fun k_=>(((QJ 0)::aX::aU::(QJ 3)::(Zi s)::(Pt h.nx)::rx QJ 6 5 ((Pt h1.nx)::(Zi (IntKind.i64.wrap (s+((j.ab.g task.toNat).takes))))::(QJ 13)::(QJ 14)::(Zi 0)::rx QJ 16 171 [])):List AV).getD k_ AV.undef) FJ xW sc (A_.a _ _ (bD _ _ o! (cE _ _ bk))) (A_.a _ _ f_)
       cases Ek:gS j task s ar aj (((j.ab.g task.toNat).au).length) 0 with
       | none=>
         obtain ⟨ah5,O0,AL,A'⟩:=aC.n Ek aiA
         have I':=A'.y
         have XL:FJ.nx≤O0.nx:=A'.n
         have Dh:Has h O0:=sc.trans A'.a
         have UC:Has FJ O0:=A'.a
         have e:cC j ar aj task s=true:=by simp only[cC,f0,f1,A9,Ek,cond_true,cond_false]
         rw[e]
         exact aE rfl (aZ Tryz.func114 wh rfl (.inr rfl) (pk (d+2) _ _ h _ O0 (QH<|VV (b8 (a:=some (AV.bool true)) (b:=some (AV.bool (decide (100000<(IntKind.i64.wrap (s+((j.ab.g task.toNat).takes))))))) f0)<|BC f1<|LL Ej<|CC<|LL AL<|CC<|ZZ) k!) k!) Dh rfl
       | some afF=>
         obtain ⟨ah5,O0,AL,A'⟩:=aC.r Ek aiA
         have I':=A'.y
         have XL:FJ.nx≤O0.nx:=A'.n
         have Dh:Has h O0:=sc.trans A'.a
         have UC:Has FJ O0:=A'.a
         have e:cC j ar aj task s=afF:=by simp only[cC,f0,f1,A9,Ek,cond_true,cond_false]
         rw[e]
         exact aE rfl (aZ Tryz.func114 wh rfl (.inr rfl) (pk (d+2) _ _ h _ O0 (QH<|VV (b8 (a:=some (AV.bool true)) (b:=some (AV.bool (decide (100000<(IntKind.i64.wrap (s+((j.ab.g task.toNat).takes))))))) f0)<|BC f1<|LL Ej<|CC<|LL AL<|ZZ) k!) k!) Dh rfl
     | some afG=>
       obtain ⟨QJ,FJ,Ej,A_⟩:=aC.r A9 aiy
       have xW:=A_.y
       have aiz:h7.nx≤FJ.nx:=A_.n
       have sc:Has h FJ:=du.trans A_.a
       have e:cC j ar aj task s=afG:=by simp only[cC,f0,f1,A9,cond_true,cond_false]
       rw[e]
       exact aE rfl (aZ Tryz.func114 wh rfl (.inr rfl) (pk (d+2) _ _ h _ FJ (QH<|VV (b8 (a:=some (AV.bool true)) (b:=some (AV.bool (decide (100000<(IntKind.i64.wrap (s+((j.ab.g task.toNat).takes))))))) f0)<|BC f1<|LL Ej<|ZZ) k!) k!) sc rfl
end Go.Proofs.aJ
