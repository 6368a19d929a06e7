import Derived.Test.YtogcojohajankaaGreatW0
import Derived.Test.YtogcojohajankaaGreatW1
namespace Go.Proofs.aJ
open Go.Proofs Ab
set_option maxRecDepth 100000
set_option maxHeartbeats 4000000
set_option linter.unusedVariables false
set_option linter.unusedSimpArgs false
noncomputable def pJ:Code:=(Tryz.f4.body).getD .skip
theorem JA:Tryz.f4.body=some pJ:=by kernel_rfl
noncomputable def OI:Code:=(bw pJ).getD 0 .skip
noncomputable def OJ:Code:=(bw pJ).getD 1 .skip
noncomputable def hZ:Code:=(kT pJ).getD 1 .skip
def lg (j:cG):Nat→Nat→Int→Int
 | 0,_,fK=>fK
 | cS+1,i0,fK=>lg j cS (i0+1) (IntKind.i64.wrap ((IntKind.i64.wrap (fK+((((j.af.g i0).off).length:Nat):Int)))+(IntKind.i64.wrap (Int.tdiv ((List.length ((j.af.g i0).name):Nat):Int) 20))))
theorem Bs {d:Nat} {h:aw} (j:cG) (a_:Nat) (bb:aM h j.ao j.ab) (cf:aM h j.ai j.af) (fW:aG.ok h j):∀(k_ i_:Nat) (fK:Int) (_:i_+k_=j.af.length) (x:Nat→AV) (hh:aw) (aA:Tidy hh) (ay:Has h hh) (bh:hh.get a_=some (aH.cells [j.ao,j.ai] 25 false)),bt (cU (d)) OI ⟨((x 0)::(x 1)::(Pt a_)::(x 3)::(x 4)::(Zi fK)::(Zn i_)::rx x 7 100 []),hh,[],.no⟩ (.exit 0) hh (fun r y=>((y 0)::(y 1)::(Pt a_)::(y 3)::(y 4)::(Zi r)::rx y 6 101 [])) (fun r=>True) (lg j k_ i_ fK)
 | 0,i0,fK,gq,x,hh,aA,ay,bh=>by
   have cr:=bb.small
   have eQ:=cf.small
   have ji:=aA _ _ bh
   have gL:cc (some (.slice 36)) (some j.ai)=some (Zn j.af.length):=(cf.has ay).len
   have q2:(decide (((i0:Nat):Int)<((j.af.length:Nat):Int)))=false:=d!
   exact bt.out fK rfl (pk (d) _ _ hh _ hh (CN 2<|MM (aI 23 1 j.ai bh k!)<|VV gL<|VV (bO 3 false false .i64 ((i0:Nat):Int) ((j.af.length:Nat):Int))<|BB q2<|ZZ) k!) (bp.refl aA) trivial k!
 | cS+1,i0,fK,gq,x,hh,aA,ay,bh=>by
   have cr:=bb.small
   have eQ:=cf.small
   have ji:=aA _ _ bh
   have gL:cc (some (.slice 36)) (some j.ai)=some (Zn j.af.length):=(cf.has ay).len
   have q2:(decide (((i0:Nat):Int)<((j.af.length:Nat):Int)))=true:=d!
   obtain ⟨p4,q5,jE⟩:=(cf.has ay).elem (i:=i0) o!
   have vP:bR env (some (.slice 36)) (some j.ai) (some (Zn i0))=some (AV.ptr p4 q5):=jE
   have rC:aY env hh 34 (AV.ptr p4 (q5+2))=some ((j.af.g i0).dp):=(cf.has ay).part (t:=34) (j:=2) o! jE k! rfl
   have ln7:cc (some (.slice 70)) (some ((j.af.g i0).dp))=some (Zn (((j.af.g i0).off).length)):=(((cf.has ay).ok (i:=i0) o!).2).len
   obtain ⟨p9,Dm,pI⟩:=(cf.has ay).elem (i:=i0) o!
   have HR:bR env (some (.slice 36)) (some j.ai) (some (Zn i0))=some (AV.ptr p9 Dm):=pI
   have qK:aY env hh 9 (AV.ptr p9 (Dm+0))=some (AV.str ((j.af.g i0).name)):=(cf.has ay).part (t:=9) (j:=0) o! pI k! rfl
   have amv:((j.af.g i0).name).length<2^60:=((cf.has ay).ok (i:=i0) o!).1
   have Uf:AV.same 20 j.ai j.ai=true:=(cf.has ay).same 19
   have U':AV.same 20 ((j.af.g i0).dp) ((j.af.g i0).dp)=true:=(((cf.has ay).ok (i:=i0) o!).2).same 19
   have u15:=dZ 3 false true i0 1 o!
   exact bt.round (by simp only[lg,cond_true,cond_false]) (pk (d) _ _ hh _ hh (CN 2<|MM (aI 23 1 j.ai bh k!)<|VV gL<|VV (bO 3 false false .i64 ((i0:Nat):Int) ((j.af.length:Nat):Int))<|BB q2<|CN 2<|MM (aI 23 1 j.ai bh k!)<|CC<|VV vP<|CC<|MM rC<|VV ln7<|CN 2<|MM (aI 23 1 j.ai bh k!)<|CC<|VV HR<|CC<|MM qK<|CN 4<|HH (aI 23 1 j.ai bh k!)<|HH Uf<|HH rC<|HH U'<|HH (aI 23 1 j.ai bh k!)<|HH Uf<|HH qK<|HH (show AV.same 20 (AV.str ((j.af.g i0).name)) (AV.str ((j.af.g i0).name))=true from kS 19 _)<|CC<|VV u15<|CC<|ZZ) k!) (bp.refl aA) _ k! (fun x=>Bs j a_ bb cf fW cS (i0+1) (IntKind.i64.wrap ((IntKind.i64.wrap (fK+((((j.af.g i0).off).length:Nat):Int)))+(IntKind.i64.wrap (Int.tdiv ((List.length ((j.af.g i0).name):Nat):Int) 20)))) o! x hh aA ay bh)
def mz (j:cG):Nat→Nat→Int→Int
 | 0,_,gY=>gY
 | nH+1,i1,gY=>(bif (decide (gY<1000)) then mz j nH (i1+1) (IntKind.i64.wrap ((IntKind.i64.wrap ((IntKind.i64.wrap (gY+((((j.ab.g i1).ax).length:Nat):Int)))+((((j.ab.g i1).au).length:Nat):Int)))+(IntKind.i64.wrap (Int.tdiv ((List.length ((j.ab.g i1).name):Nat):Int) 20)))) else gY)
theorem Bt {d:Nat} {h:aw} (j:cG) (d_:Nat) (db:aM h j.ao j.ab) (ft:aM h j.ai j.af) (oJ:aG.ok h j):∀(k_ i_:Nat) (gY:Int) (_:i_+k_=j.ab.length) (x:Nat→AV) (hh:aw) (aA:Tidy hh) (ay:Has h hh) (cN:hh.get d_=some (aH.cells [j.ao,j.ai] 25 false)),bt (cU (d)) OJ ⟨((x 0)::(x 1)::(Pt d_)::(x 3)::(x 4)::(Zi gY)::(x 6)::(Zn i_)::rx x 8 99 []),hh,[],.no⟩ (.exit 2) hh (fun r y=>((y 0)::(y 1)::(Pt d_)::(y 3)::(y 4)::(Zi r)::rx y 6 101 [])) (fun r=>True) (mz j k_ i_ gY)
 | 0,i1,gY,gq,x,hh,aA,ay,cN=>by
   have ik:=db.small
   have jY:=ft.small
   have tG:=aA _ _ cN
   have gL:cc (some (.slice 39)) (some j.ao)=some (Zn j.ab.length):=(db.has ay).len
   have q2:(decide (((i1:Nat):Int)<((j.ab.length:Nat):Int)))=false:=d!
   exact bt.out gY rfl (pk (d) _ _ hh _ hh (CN 2<|MM (aI 22 0 j.ao cN k!)<|VV gL<|VV (bO 3 false false .i64 ((i1:Nat):Int) ((j.ab.length:Nat):Int))<|CC<|BB q2<|BV q2 (sS false q2)<|FF<|ZZ) k!) (bp.refl aA) trivial k!
 | nH+1,i1,gY,gq,x,hh,aA,ay,cN=>by
   have ik:=db.small
   have jY:=ft.small
   have tG:=aA _ _ cN
   have gL:cc (some (.slice 39)) (some j.ao)=some (Zn j.ab.length):=(db.has ay).len
   have q2:(decide (((i1:Nat):Int)<((j.ab.length:Nat):Int)))=true:=d!
   have dR:=fun {al ps} (k:Pk al _ ps)=>(CN 2<|MM (aI 22 0 j.ao cN k!)<|VV gL<|VV (bO 3 false false .i64 ((i1:Nat):Int) ((j.ab.length:Nat):Int))<|CC<|BC q2<|BV q2 (bO 3 false true .i64 gY 1000)<|VV (pe (decide (gY<1000)) false q2)<|k:Pk _ [] ps)
   rcases Bool.eq_false_or_eq_true (decide (gY<1000)) with f1 | f1
   · have dQ:=of_decide_eq_true f1
     obtain ⟨p5,q6,Lp⟩:=(db.has ay).elem (i:=i1) o!
     have U_:bR env (some (.slice 39)) (some j.ao) (some (Zn i1))=some (AV.ptr p5 q6):=Lp
     have KO:aY env hh 26 (AV.ptr p5 (q6+2))=some ((j.ab.g i1).aO):=(db.has ay).part (t:=26) (j:=2) o! Lp k! rfl
     have Vh:cc (some (.slice 3)) (some ((j.ab.g i1).aO))=some (Zn (((j.ab.g i1).ax).length)):=(((db.has ay).ok (i:=i1) o!).2.1).len
     obtain ⟨p10,q11,Zb⟩:=(db.has ay).elem (i:=i1) o!
     have ix9:bR env (some (.slice 39)) (some j.ao) (some (Zn i1))=some (AV.ptr p10 q11):=Zb
     have As:aY env hh 37 (AV.ptr p10 (q11+3))=some ((j.ab.g i1).aS):=(db.has ay).part (t:=37) (j:=3) o! Zb k! rfl
     have PY:cc (some (.slice 80)) (some ((j.ab.g i1).aS))=some (Zn (((j.ab.g i1).au).length)):=(((db.has ay).ok (i:=i1) o!).2.2).len
     obtain ⟨p15,q16,adL⟩:=(db.has ay).elem (i:=i1) o!
     have ali:bR env (some (.slice 39)) (some j.ao) (some (Zn i1))=some (AV.ptr p15 q16):=adL
     have Ns:aY env hh 9 (AV.ptr p15 (q16+0))=some (AV.str ((j.ab.g i1).name)):=(db.has ay).part (t:=9) (j:=0) o! adL k! rfl
     have amw:((j.ab.g i1).name).length<2^60:=((db.has ay).ok (i:=i1) o!).1
     have c19:AV.same 20 j.ao j.ao=true:=(db.has ay).same 19
     have c20:AV.same 20 ((j.ab.g i1).aO) ((j.ab.g i1).aO)=true:=(((db.has ay).ok (i:=i1) o!).2.1).same 19
     have c21:AV.same 20 ((j.ab.g i1).aS) ((j.ab.g i1).aS)=true:=(((db.has ay).ok (i:=i1) o!).2.2).same 19
     have Yr:=dZ 3 false true i1 1 o!
     exact bt.round (by simp only[mz,f1,cond_true,cond_false]) (pk (d) _ _ hh _ hh (dR<|BB f1<|CN 2<|MM (aI 22 0 j.ao cN k!)<|CC<|VV U_<|CC<|MM KO<|VV Vh<|CN 2<|MM (aI 22 0 j.ao cN k!)<|CC<|VV ix9<|CC<|MM As<|VV PY<|CN 2<|MM (aI 22 0 j.ao cN k!)<|CC<|VV ali<|CC<|MM Ns<|CN 4<|HH (aI 22 0 j.ao cN k!)<|HH c19<|HH KO<|HH c20<|HH (aI 22 0 j.ao cN k!)<|HH c19<|HH As<|HH c21<|HH (aI 22 0 j.ao cN k!)<|HH c19<|HH Ns<|HH (show AV.same 20 (AV.str ((j.ab.g i1).name)) (AV.str ((j.ab.g i1).name))=true from kS 19 _)<|CC<|VV Yr<|CC<|ZZ) k!) (bp.refl aA) _ k! (fun x=>Bt j d_ db ft oJ nH (i1+1) (IntKind.i64.wrap ((IntKind.i64.wrap ((IntKind.i64.wrap (gY+((((j.ab.g i1).ax).length:Nat):Int)))+((((j.ab.g i1).au).length:Nat):Int)))+(IntKind.i64.wrap (Int.tdiv ((List.length ((j.ab.g i1).name):Nat):Int) 20)))) o! x hh aA ay cN)
   · have dQ:=of_decide_eq_false f1
     exact bt.out gY (by simp only[mz,f1,cond_true,cond_false]) (pk (d) _ _ hh _ hh (dR<|BB f1<|ZZ) k!) (bp.refl aA) trivial k!
def jc (j:cG) (ab:Int):Bool:=(bif (bif (decide (ab<((j.ab.length:Nat):Int))) then (bif (decide (((j.ab.length:Nat):Int)≤64)) then true else (bif (decide (80<((j.ab.length:Nat):Int))) then true else (bif (decide (4<((j.af.length:Nat):Int))) then (bif (decide (((j.af.length:Nat):Int)≤16)) then true else (decide (20<((j.af.length:Nat):Int)))) else (decide (20<((j.af.length:Nat):Int)))))) else (bif (decide (80<((j.ab.length:Nat):Int))) then true else (bif (decide (4<((j.af.length:Nat):Int))) then (bif (decide (((j.af.length:Nat):Int)≤16)) then true else (decide (20<((j.af.length:Nat):Int)))) else (decide (20<((j.af.length:Nat):Int)))))) then true else (decide (120<(mz j j.ab.length 0 (lg j j.af.length 0 0)))))
theorem UP {d:Nat} {h:aw} (j:cG) (ab:Int) (bZ:aG.ok h j) (ct:Tidy h):cU (d+1) (.fn 4) [(AV.agg [j.ao,j.ai]),(Zi ab)] h= .ret (AV.bool (jc j ab)) h:=by
 have eT:=bZ.1.small
 have eU:=bZ.2.small
 obtain ⟨h1,dH,cP,kr,bk,bW⟩:=kh ct (aH.cells [j.ao,j.ai] 25 false)
 have bB:Has h h1:=bW
 obtain ⟨Ee,ze⟩:∃Ee:Nat→AV,Ev env (cU (d)) hZ ⟨((AV.agg [j.ao,j.ai])::(Zi ab)::(Pt h.nx)::AV.undef::(AV.bool false)::lk 102),h1,[],.no⟩ .normal ⟨((AV.agg [j.ao,j.ai])::(Zi ab)::(Pt h.nx)::AV.undef::(AV.bool false)::AV.undef::AV.undef::AV.undef::rx Ee 8 34 ((AV.bool (bif (decide (ab<((j.ab.length:Nat):Int))) then (bif (decide (((j.ab.length:Nat):Int)≤64)) then true else (bif (decide (80<((j.ab.length:Nat):Int))) then true else (bif (decide (4<((j.af.length:Nat):Int))) then (bif (decide (((j.af.length:Nat):Int)≤16)) then true else (decide (20<((j.af.length:Nat):Int)))) else (decide (20<((j.af.length:Nat):Int)))))) else (bif (decide (80<((j.ab.length:Nat):Int))) then true else (bif (decide (4<((j.af.length:Nat):Int))) then (bif (decide (((j.af.length:Nat):Int)≤16)) then true else (decide (20<((j.af.length:Nat):Int)))) else (decide (20<((j.af.length:Nat):Int)))))))::lk 64)),h1,[],.no⟩:=by
  have K5:cc (some (.slice 39)) (some j.ao)=some (Zn j.ab.length):=bZ.1.len
  rcases Bool.eq_false_or_eq_true (decide (ab<((j.ab.length:Nat):Int))) with f0 | f0
  · have dx:=of_decide_eq_true f0
    have Eg:cc (some (.slice 39)) (some j.ao)=some (Zn j.ab.length):=bZ.1.len
    rcases Bool.eq_false_or_eq_true (decide (((j.ab.length:Nat):Int)≤64)) with f1 | f1
    · have dQ:=of_decide_eq_true f1
      have ev:=pk (d) hZ ((AV.agg [j.ao,j.ai])::(Zi ab)::(Pt h.nx)::AV.undef::(AV.bool false)::lk 102) h1 .normal h1 (CC<|MM (aI 22 0 j.ao bk k!)<|VV K5<|CC<|VV (dw 3 false false .i64 ((j.ab.length:Nat):Int) ab)<|CC<|BC f0<|BM f0 (aI 22 0 j.ao bk k!)<|BV f0 Eg<|BV f0 (uW 3 false true .i64 ((j.ab.length:Nat):Int) 64)<|VV (pe (decide (((j.ab.length:Nat):Int)≤64)) false f0)<|CC<|BB f1<|BB f1<|BB f1<|BV f1 (xV true f1)<|CC<|TT<|TT<|TT<|TT<|TT<|TT<|CN 2<|TT<|TT<|TT<|TT<|CC<|ZZ) k!
      rw[show (bif (decide (ab<((j.ab.length:Nat):Int))) then (bif (decide (((j.ab.length:Nat):Int)≤64)) then true else (bif (decide (80<((j.ab.length:Nat):Int))) then true else (bif (decide (4<((j.af.length:Nat):Int))) then (bif (decide (((j.af.length:Nat):Int)≤16)) then true else (decide (20<((j.af.length:Nat):Int)))) else (decide (20<((j.af.length:Nat):Int)))))) else (bif (decide (80<((j.ab.length:Nat):Int))) then true else (bif (decide (4<((j.af.length:Nat):Int))) then (bif (decide (((j.af.length:Nat):Int)≤16)) then true else (decide (20<((j.af.length:Nat):Int)))) else (decide (20<((j.af.length:Nat):Int))))))=true by simp only[f0,f1,cond_true,cond_false]]
      exact kI ev k!
    · have dQ:=of_decide_eq_false f1
      have Si:cc (some (.slice 39)) (some j.ao)=some (Zn j.ab.length):=bZ.1.len
      rcases Bool.eq_false_or_eq_true (decide (80<((j.ab.length:Nat):Int))) with f2 | f2
      · have jZ:=of_decide_eq_true f2
        have ev:=pk (d) hZ ((AV.agg [j.ao,j.ai])::(Zi ab)::(Pt h.nx)::AV.undef::(AV.bool false)::lk 102) h1 .normal h1 (CC<|MM (aI 22 0 j.ao bk k!)<|VV K5<|CC<|VV (dw 3 false false .i64 ((j.ab.length:Nat):Int) ab)<|CC<|BC f0<|BM f0 (aI 22 0 j.ao bk k!)<|BV f0 Eg<|BV f0 (uW 3 false true .i64 ((j.ab.length:Nat):Int) 64)<|VV (pe (decide (((j.ab.length:Nat):Int)≤64)) false f0)<|CC<|BC f1<|BM f1 (aI 22 0 j.ao bk k!)<|BV f1 Si<|BV f1 (dw 3 false true .i64 ((j.ab.length:Nat):Int) 80)<|VV (b8 (a:=some (AV.bool true)) (b:=some (AV.bool (decide (80<((j.ab.length:Nat):Int))))) f1)<|CC<|BB f2<|BB f2<|BB f2<|BB f2<|BB f2<|BV f2 (xV true f2)<|CC<|TT<|TT<|TT<|TT<|CC<|ZZ) k!
        rw[show (bif (decide (ab<((j.ab.length:Nat):Int))) then (bif (decide (((j.ab.length:Nat):Int)≤64)) then true else (bif (decide (80<((j.ab.length:Nat):Int))) then true else (bif (decide (4<((j.af.length:Nat):Int))) then (bif (decide (((j.af.length:Nat):Int)≤16)) then true else (decide (20<((j.af.length:Nat):Int)))) else (decide (20<((j.af.length:Nat):Int)))))) else (bif (decide (80<((j.ab.length:Nat):Int))) then true else (bif (decide (4<((j.af.length:Nat):Int))) then (bif (decide (((j.af.length:Nat):Int)≤16)) then true else (decide (20<((j.af.length:Nat):Int)))) else (decide (20<((j.af.length:Nat):Int))))))=true by simp only[f0,f1,f2,cond_true,cond_false]]
        exact kI ev k!
      · have jZ:=of_decide_eq_false f2
        have Vh:cc (some (.slice 36)) (some j.ai)=some (Zn j.af.length):=bZ.2.len
        rcases Bool.eq_false_or_eq_true (decide (4<((j.af.length:Nat):Int))) with f3 | f3
        · have lV:=of_decide_eq_true f3
          have xK:cc (some (.slice 36)) (some j.ai)=some (Zn j.af.length):=bZ.2.len
          rcases Bool.eq_false_or_eq_true (decide (((j.af.length:Nat):Int)≤16)) with f4 | f4
          · have rE:=of_decide_eq_true f4
            have ev:=pk (d) hZ ((AV.agg [j.ao,j.ai])::(Zi ab)::(Pt h.nx)::AV.undef::(AV.bool false)::lk 102) h1 .normal h1 (CC<|MM (aI 22 0 j.ao bk k!)<|VV K5<|CC<|VV (dw 3 false false .i64 ((j.ab.length:Nat):Int) ab)<|CC<|BC f0<|BM f0 (aI 22 0 j.ao bk k!)<|BV f0 Eg<|BV f0 (uW 3 false true .i64 ((j.ab.length:Nat):Int) 64)<|VV (pe (decide (((j.ab.length:Nat):Int)≤64)) false f0)<|CC<|BC f1<|BM f1 (aI 22 0 j.ao bk k!)<|BV f1 Si<|BV f1 (dw 3 false true .i64 ((j.ab.length:Nat):Int) 80)<|VV (b8 (a:=some (AV.bool true)) (b:=some (AV.bool (decide (80<((j.ab.length:Nat):Int))))) f1)<|CC<|BC f2<|BM f2 (aI 23 1 j.ai bk k!)<|BV f2 Vh<|BV f2 (dw 3 false true .i64 ((j.af.length:Nat):Int) 4)<|BC f2<|BC f3<|BM f3 (aI 23 1 j.ai bk k!)<|BV f3 xK<|BV f3 (uW 3 false true .i64 ((j.af.length:Nat):Int) 16)<|BV f2 (pe (decide (((j.af.length:Nat):Int)≤16)) false f3)<|VV (b8 (a:=some (AV.bool true)) (b:=some (AV.bool (decide (((j.af.length:Nat):Int)≤16)))) f2)<|CC<|BB f4<|BB f4<|BB f4<|BV f4 (xV true f4)<|ZZ) k!
            rw[show (bif (decide (ab<((j.ab.length:Nat):Int))) then (bif (decide (((j.ab.length:Nat):Int)≤64)) then true else (bif (decide (80<((j.ab.length:Nat):Int))) then true else (bif (decide (4<((j.af.length:Nat):Int))) then (bif (decide (((j.af.length:Nat):Int)≤16)) then true else (decide (20<((j.af.length:Nat):Int)))) else (decide (20<((j.af.length:Nat):Int)))))) else (bif (decide (80<((j.ab.length:Nat):Int))) then true else (bif (decide (4<((j.af.length:Nat):Int))) then (bif (decide (((j.af.length:Nat):Int)≤16)) then true else (decide (20<((j.af.length:Nat):Int)))) else (decide (20<((j.af.length:Nat):Int))))))=true by simp only[f0,f1,f2,f3,f4,cond_true,cond_false]]
            exact kI ev k!
          · have rE:=of_decide_eq_false f4
            have X0:cc (some (.slice 36)) (some j.ai)=some (Zn j.af.length):=bZ.2.len
            have ev:=pk (d) hZ ((AV.agg [j.ao,j.ai])::(Zi ab)::(Pt h.nx)::AV.undef::(AV.bool false)::lk 102) h1 .normal h1 (CC<|MM (aI 22 0 j.ao bk k!)<|VV K5<|CC<|VV (dw 3 false false .i64 ((j.ab.length:Nat):Int) ab)<|CC<|BC f0<|BM f0 (aI 22 0 j.ao bk k!)<|BV f0 Eg<|BV f0 (uW 3 false true .i64 ((j.ab.length:Nat):Int) 64)<|VV (pe (decide (((j.ab.length:Nat):Int)≤64)) false f0)<|CC<|BC f1<|BM f1 (aI 22 0 j.ao bk k!)<|BV f1 Si<|BV f1 (dw 3 false true .i64 ((j.ab.length:Nat):Int) 80)<|VV (b8 (a:=some (AV.bool true)) (b:=some (AV.bool (decide (80<((j.ab.length:Nat):Int))))) f1)<|CC<|BC f2<|BM f2 (aI 23 1 j.ai bk k!)<|BV f2 Vh<|BV f2 (dw 3 false true .i64 ((j.af.length:Nat):Int) 4)<|BC f2<|BC f3<|BM f3 (aI 23 1 j.ai bk k!)<|BV f3 xK<|BV f3 (uW 3 false true .i64 ((j.af.length:Nat):Int) 16)<|BV f2 (pe (decide (((j.af.length:Nat):Int)≤16)) false f3)<|VV (b8 (a:=some (AV.bool true)) (b:=some (AV.bool (decide (((j.af.length:Nat):Int)≤16)))) f2)<|CC<|BC f4<|BM f4 (aI 23 1 j.ai bk k!)<|BV f4 X0<|BV f4 (dw 3 false true .i64 ((j.af.length:Nat):Int) 20)<|VV (b8 (a:=some (AV.bool true)) (b:=some (AV.bool (decide (20<((j.af.length:Nat):Int))))) f4)<|ZZ) k!
            rw[show (bif (decide (ab<((j.ab.length:Nat):Int))) then (bif (decide (((j.ab.length:Nat):Int)≤64)) then true else (bif (decide (80<((j.ab.length:Nat):Int))) then true else (bif (decide (4<((j.af.length:Nat):Int))) then (bif (decide (((j.af.length:Nat):Int)≤16)) then true else (decide (20<((j.af.length:Nat):Int)))) else (decide (20<((j.af.length:Nat):Int)))))) else (bif (decide (80<((j.ab.length:Nat):Int))) then true else (bif (decide (4<((j.af.length:Nat):Int))) then (bif (decide (((j.af.length:Nat):Int)≤16)) then true else (decide (20<((j.af.length:Nat):Int)))) else (decide (20<((j.af.length:Nat):Int))))))=(decide (20<((j.af.length:Nat):Int))) by simp only[f0,f1,f2,f3,f4,cond_true,cond_false]]
            exact kI ev k!
        · have lV:=of_decide_eq_false f3
          have xK:cc (some (.slice 36)) (some j.ai)=some (Zn j.af.length):=bZ.2.len
          have ev:=pk (d) hZ ((AV.agg [j.ao,j.ai])::(Zi ab)::(Pt h.nx)::AV.undef::(AV.bool false)::lk 102) h1 .normal h1 (CC<|MM (aI 22 0 j.ao bk k!)<|VV K5<|CC<|VV (dw 3 false false .i64 ((j.ab.length:Nat):Int) ab)<|CC<|BC f0<|BM f0 (aI 22 0 j.ao bk k!)<|BV f0 Eg<|BV f0 (uW 3 false true .i64 ((j.ab.length:Nat):Int) 64)<|VV (pe (decide (((j.ab.length:Nat):Int)≤64)) false f0)<|CC<|BC f1<|BM f1 (aI 22 0 j.ao bk k!)<|BV f1 Si<|BV f1 (dw 3 false true .i64 ((j.ab.length:Nat):Int) 80)<|VV (b8 (a:=some (AV.bool true)) (b:=some (AV.bool (decide (80<((j.ab.length:Nat):Int))))) f1)<|CC<|BC f2<|BM f2 (aI 23 1 j.ai bk k!)<|BV f2 Vh<|BV f2 (dw 3 false true .i64 ((j.af.length:Nat):Int) 4)<|BC f2<|BB f3<|BB f3<|BB f3<|BB f3<|BV f2 (sS false f3)<|VV (pcf true false f2)<|CC<|FF<|CC<|FF<|MM (aI 23 1 j.ai bk k!)<|FF<|VV xK<|FF<|VV (dw 3 false true .i64 ((j.af.length:Nat):Int) 20)<|CC<|ZZ) k!
          rw[show (bif (decide (ab<((j.ab.length:Nat):Int))) then (bif (decide (((j.ab.length:Nat):Int)≤64)) then true else (bif (decide (80<((j.ab.length:Nat):Int))) then true else (bif (decide (4<((j.af.length:Nat):Int))) then (bif (decide (((j.af.length:Nat):Int)≤16)) then true else (decide (20<((j.af.length:Nat):Int)))) else (decide (20<((j.af.length:Nat):Int)))))) else (bif (decide (80<((j.ab.length:Nat):Int))) then true else (bif (decide (4<((j.af.length:Nat):Int))) then (bif (decide (((j.af.length:Nat):Int)≤16)) then true else (decide (20<((j.af.length:Nat):Int)))) else (decide (20<((j.af.length:Nat):Int))))))=(decide (20<((j.af.length:Nat):Int))) by simp only[f0,f1,f2,f3,cond_true,cond_false]]
          exact kI ev k!
  · have dx:=of_decide_eq_false f0
    have Eg:cc (some (.slice 39)) (some j.ao)=some (Zn j.ab.length):=bZ.1.len
    rcases Bool.eq_false_or_eq_true (decide (80<((j.ab.length:Nat):Int))) with f1 | f1
    · have dQ:=of_decide_eq_true f1
      have ev:=pk (d) hZ ((AV.agg [j.ao,j.ai])::(Zi ab)::(Pt h.nx)::AV.undef::(AV.bool false)::lk 102) h1 .normal h1 (CC<|MM (aI 22 0 j.ao bk k!)<|VV K5<|CC<|VV (dw 3 false false .i64 ((j.ab.length:Nat):Int) ab)<|CC<|BB f0<|BB f0<|BB f0<|BV f0 (sS false f0)<|CC<|FF<|CC<|FF<|MM (aI 22 0 j.ao bk k!)<|FF<|VV Eg<|FF<|VV (dw 3 false true .i64 ((j.ab.length:Nat):Int) 80)<|CN 2<|BB f1<|BB f1<|BB f1<|BB f1<|BB f1<|BV f1 (xV true f1)<|CC<|TT<|TT<|TT<|TT<|CC<|ZZ) k!
      rw[show (bif (decide (ab<((j.ab.length:Nat):Int))) then (bif (decide (((j.ab.length:Nat):Int)≤64)) then true else (bif (decide (80<((j.ab.length:Nat):Int))) then true else (bif (decide (4<((j.af.length:Nat):Int))) then (bif (decide (((j.af.length:Nat):Int)≤16)) then true else (decide (20<((j.af.length:Nat):Int)))) else (decide (20<((j.af.length:Nat):Int)))))) else (bif (decide (80<((j.ab.length:Nat):Int))) then true else (bif (decide (4<((j.af.length:Nat):Int))) then (bif (decide (((j.af.length:Nat):Int)≤16)) then true else (decide (20<((j.af.length:Nat):Int)))) else (decide (20<((j.af.length:Nat):Int))))))=true by simp only[f0,f1,cond_true,cond_false]]
      exact kI ev k!
    · have dQ:=of_decide_eq_false f1
      have Si:cc (some (.slice 36)) (some j.ai)=some (Zn j.af.length):=bZ.2.len
      rcases Bool.eq_false_or_eq_true (decide (4<((j.af.length:Nat):Int))) with f2 | f2
      · have jZ:=of_decide_eq_true f2
        have Vh:cc (some (.slice 36)) (some j.ai)=some (Zn j.af.length):=bZ.2.len
        rcases Bool.eq_false_or_eq_true (decide (((j.af.length:Nat):Int)≤16)) with f3 | f3
        · have lV:=of_decide_eq_true f3
          have ev:=pk (d) hZ ((AV.agg [j.ao,j.ai])::(Zi ab)::(Pt h.nx)::AV.undef::(AV.bool false)::lk 102) h1 .normal h1 (CC<|MM (aI 22 0 j.ao bk k!)<|VV K5<|CC<|VV (dw 3 false false .i64 ((j.ab.length:Nat):Int) ab)<|CC<|BB f0<|BB f0<|BB f0<|BV f0 (sS false f0)<|CC<|FF<|CC<|FF<|MM (aI 22 0 j.ao bk k!)<|FF<|VV Eg<|FF<|VV (dw 3 false true .i64 ((j.ab.length:Nat):Int) 80)<|CN 2<|BC f1<|BM f1 (aI 23 1 j.ai bk k!)<|BV f1 Si<|BV f1 (dw 3 false true .i64 ((j.af.length:Nat):Int) 4)<|BC f1<|BC f2<|BM f2 (aI 23 1 j.ai bk k!)<|BV f2 Vh<|BV f2 (uW 3 false true .i64 ((j.af.length:Nat):Int) 16)<|BV f1 (pe (decide (((j.af.length:Nat):Int)≤16)) false f2)<|VV (b8 (a:=some (AV.bool true)) (b:=some (AV.bool (decide (((j.af.length:Nat):Int)≤16)))) f1)<|CC<|BB f3<|BB f3<|BB f3<|BV f3 (xV true f3)<|ZZ) k!
          rw[show (bif (decide (ab<((j.ab.length:Nat):Int))) then (bif (decide (((j.ab.length:Nat):Int)≤64)) then true else (bif (decide (80<((j.ab.length:Nat):Int))) then true else (bif (decide (4<((j.af.length:Nat):Int))) then (bif (decide (((j.af.length:Nat):Int)≤16)) then true else (decide (20<((j.af.length:Nat):Int)))) else (decide (20<((j.af.length:Nat):Int)))))) else (bif (decide (80<((j.ab.length:Nat):Int))) then true else (bif (decide (4<((j.af.length:Nat):Int))) then (bif (decide (((j.af.length:Nat):Int)≤16)) then true else (decide (20<((j.af.length:Nat):Int)))) else (decide (20<((j.af.length:Nat):Int))))))=true by simp only[f0,f1,f2,f3,cond_true,cond_false]]
          exact kI ev k!
        · have lV:=of_decide_eq_false f3
          have xK:cc (some (.slice 36)) (some j.ai)=some (Zn j.af.length):=bZ.2.len
          have ev:=pk (d) hZ ((AV.agg [j.ao,j.ai])::(Zi ab)::(Pt h.nx)::AV.undef::(AV.bool false)::lk 102) h1 .normal h1 (CC<|MM (aI 22 0 j.ao bk k!)<|VV K5<|CC<|VV (dw 3 false false .i64 ((j.ab.length:Nat):Int) ab)<|CC<|BB f0<|BB f0<|BB f0<|BV f0 (sS false f0)<|CC<|FF<|CC<|FF<|MM (aI 22 0 j.ao bk k!)<|FF<|VV Eg<|FF<|VV (dw 3 false true .i64 ((j.ab.length:Nat):Int) 80)<|CN 2<|BC f1<|BM f1 (aI 23 1 j.ai bk k!)<|BV f1 Si<|BV f1 (dw 3 false true .i64 ((j.af.length:Nat):Int) 4)<|BC f1<|BC f2<|BM f2 (aI 23 1 j.ai bk k!)<|BV f2 Vh<|BV f2 (uW 3 false true .i64 ((j.af.length:Nat):Int) 16)<|BV f1 (pe (decide (((j.af.length:Nat):Int)≤16)) false f2)<|VV (b8 (a:=some (AV.bool true)) (b:=some (AV.bool (decide (((j.af.length:Nat):Int)≤16)))) f1)<|CC<|BC f3<|BM f3 (aI 23 1 j.ai bk k!)<|BV f3 xK<|BV f3 (dw 3 false true .i64 ((j.af.length:Nat):Int) 20)<|VV (b8 (a:=some (AV.bool true)) (b:=some (AV.bool (decide (20<((j.af.length:Nat):Int))))) f3)<|ZZ) k!
          rw[show (bif (decide (ab<((j.ab.length:Nat):Int))) then (bif (decide (((j.ab.length:Nat):Int)≤64)) then true else (bif (decide (80<((j.ab.length:Nat):Int))) then true else (bif (decide (4<((j.af.length:Nat):Int))) then (bif (decide (((j.af.length:Nat):Int)≤16)) then true else (decide (20<((j.af.length:Nat):Int)))) else (decide (20<((j.af.length:Nat):Int)))))) else (bif (decide (80<((j.ab.length:Nat):Int))) then true else (bif (decide (4<((j.af.length:Nat):Int))) then (bif (decide (((j.af.length:Nat):Int)≤16)) then true else (decide (20<((j.af.length:Nat):Int)))) else (decide (20<((j.af.length:Nat):Int))))))=(decide (20<((j.af.length:Nat):Int))) by simp only[f0,f1,f2,f3,cond_true,cond_false]]
          exact kI ev k!
      · have jZ:=of_decide_eq_false f2
        have Vh:cc (some (.slice 36)) (some j.ai)=some (Zn j.af.length):=bZ.2.len
        have ev:=pk (d) hZ ((AV.agg [j.ao,j.ai])::(Zi ab)::(Pt h.nx)::AV.undef::(AV.bool false)::lk 102) h1 .normal h1 (CC<|MM (aI 22 0 j.ao bk k!)<|VV K5<|CC<|VV (dw 3 false false .i64 ((j.ab.length:Nat):Int) ab)<|CC<|BB f0<|BB f0<|BB f0<|BV f0 (sS false f0)<|CC<|FF<|CC<|FF<|MM (aI 22 0 j.ao bk k!)<|FF<|VV Eg<|FF<|VV (dw 3 false true .i64 ((j.ab.length:Nat):Int) 80)<|CN 2<|BC f1<|BM f1 (aI 23 1 j.ai bk k!)<|BV f1 Si<|BV f1 (dw 3 false true .i64 ((j.af.length:Nat):Int) 4)<|BC f1<|BB f2<|BB f2<|BB f2<|BB f2<|BV f1 (sS false f2)<|VV (pcf true false f1)<|CC<|FF<|CC<|FF<|MM (aI 23 1 j.ai bk k!)<|FF<|VV Vh<|FF<|VV (dw 3 false true .i64 ((j.af.length:Nat):Int) 20)<|CC<|ZZ) k!
        rw[show (bif (decide (ab<((j.ab.length:Nat):Int))) then (bif (decide (((j.ab.length:Nat):Int)≤64)) then true else (bif (decide (80<((j.ab.length:Nat):Int))) then true else (bif (decide (4<((j.af.length:Nat):Int))) then (bif (decide (((j.af.length:Nat):Int)≤16)) then true else (decide (20<((j.af.length:Nat):Int)))) else (decide (20<((j.af.length:Nat):Int)))))) else (bif (decide (80<((j.ab.length:Nat):Int))) then true else (bif (decide (4<((j.af.length:Nat):Int))) then (bif (decide (((j.af.length:Nat):Int)≤16)) then true else (decide (20<((j.af.length:Nat):Int)))) else (decide (20<((j.af.length:Nat):Int))))))=(decide (20<((j.af.length:Nat):Int))) by simp only[f0,f1,f2,cond_true,cond_false]]
        exact kI ev k!
 rcases Bool.eq_false_or_eq_true (bif (decide (ab<((j.ab.length:Nat):Int))) then (bif (decide (((j.ab.length:Nat):Int)≤64)) then true else (bif (decide (80<((j.ab.length:Nat):Int))) then true else (bif (decide (4<((j.af.length:Nat):Int))) then (bif (decide (((j.af.length:Nat):Int)≤16)) then true else (decide (20<((j.af.length:Nat):Int)))) else (decide (20<((j.af.length:Nat):Int)))))) else (bif (decide (80<((j.ab.length:Nat):Int))) then true else (bif (decide (4<((j.af.length:Nat):Int))) then (bif (decide (((j.af.length:Nat):Int)≤16)) then true else (decide (20<((j.af.length:Nat):Int)))) else (decide (20<((j.af.length:Nat):Int)))))) with f0 | f0
 · have e:jc j ab=true:=by simp only[jc,f0,cond_true,cond_false]
   rw[e]
   exact aE rfl (aZ Tryz.func4 JA rfl (.inr rfl) (pk (d) _ _ h _ h1 (NN dH (fun i=>(Pt i))<|CC<|LL ze<|BC f0<|ZZ) k!) k!) bB rfl
 · obtain ⟨xB,h5,dX,dC,Sx⟩:=Bs (d:=d) (h:=h) j h.nx bZ.1 bZ.2 bZ j.af.length 0 0 o! (fun k_=>(((AV.agg [j.ao,j.ai])::(Zi ab)::(Pt h.nx)::AV.undef::(AV.bool false)::(Zi 0)::(Zi 0)::AV.undef::rx Ee 8 34 ((AV.bool (bif (decide (ab<((j.ab.length:Nat):Int))) then (bif (decide (((j.ab.length:Nat):Int)≤64)) then true else (bif (decide (80<((j.ab.length:Nat):Int))) then true else (bif (decide (4<((j.af.length:Nat):Int))) then (bif (decide (((j.af.length:Nat):Int)≤16)) then true else (decide (20<((j.af.length:Nat):Int)))) else (decide (20<((j.af.length:Nat):Int)))))) else (bif (decide (80<((j.ab.length:Nat):Int))) then true else (bif (decide (4<((j.af.length:Nat):Int))) then (bif (decide (((j.af.length:Nat):Int)≤16)) then true else (decide (20<((j.af.length:Nat):Int)))) else (decide (20<((j.af.length:Nat):Int)))))))::lk 64)):List AV).getD k_ AV.undef) h1 cP bB bk
   have kK:=dC.y
   have tC:h1.nx≤h5.nx:=dC.n
   have gE:Has h h5:=bB.trans dC.a
   obtain ⟨yl6,h7,j2,wB,LC⟩:=Bt (d:=d) (h:=h) j h.nx bZ.1 bZ.2 bZ j.ab.length 0 (lg j j.af.length 0 0) o! (fun k_=>(((xB 0)::(xB 1)::(Pt h.nx)::(xB 3)::(xB 4)::(Zi (lg j j.af.length 0 0))::(xB 6)::(Zi 0)::rx xB 8 99 []):List AV).getD k_ AV.undef) h5 kK gE (dC.a _ _ bk)
   have eO:=wB.y
   have HL:h5.nx≤h7.nx:=wB.n
   have du:Has h h7:=gE.trans wB.a
   have acq:Has h5 h7:=wB.a
   have e:jc j ab=(decide (120<(mz j j.ab.length 0 (lg j j.af.length 0 0)))):=by simp only[jc,f0,cond_true,cond_false]
   rw[e]
   exact aE rfl (aZ Tryz.func4 JA rfl (.inr rfl) (pk (d) _ _ h _ h7 (NN dH (fun i=>(Pt i))<|CC<|LL ze<|BB f0<|CN 2<|LL dX<|CC<|LL j2<|CC<|VV (dw 3 false true .i64 (mz j j.ab.length 0 (lg j j.af.length 0 0)) 120)<|CC<|ZZ) k!) k!) du rfl
noncomputable def Dv:Code:=(Tryz.f8.body).getD .skip
theorem Hd:Tryz.f8.body=some Dv:=by kernel_rfl
noncomputable def QY:Code:=(bw Dv).getD 0 .skip
def mL (a:List Int) (b:List Int):Nat→Nat→Option (Bool)
 | 0,_=>none
 | cS+1,i0=>(bif (!decide ((a.g i0)=(b.g i0))) then some false else mL a b cS (i0+1))
theorem Dw {d:Nat} {h:aw} (aV:AV) (bV:AV) (a:List Int) (b:List Int) (bb:bS h .i64 3 aV a) (cf:bS h .i64 3 bV b) (fq:a.length=b.length):∀(k_ i_:Nat) (_:i_+k_=a.length) (x:Nat→AV) (hh:aw) (aA:Tidy hh) (ay:Has h hh),aC (cU (d)) QY ⟨(aV::bV::rx x 2 3 ((Zn i_)::rx x 6 20 [])),hh,[],.no⟩ (.exit 0) hh (fun y=>(aV::bV::rx y 2 24 [])) (fun r y=>(aV::bV::(y 2)::(y 3)::(AV.bool r)::rx y 5 21 [])) (mL a b k_ i_)
 | 0,i0,gq,x,hh,aA,ay=>by
   have cr:=bb.small
   have eQ:=cf.small
   have gL:cc (some (.slice 3)) (some aV)=some (Zn a.length):=(bb.has ay).len
   have q2:(decide (((i0:Nat):Int)<((a.length:Nat):Int)))=false:=d!
   exact aC.out rfl (pk (d) _ _ hh _ hh (CN 2<|VV gL<|VV (bO 3 false false .i64 ((i0:Nat):Int) ((a.length:Nat):Int))<|BB q2<|ZZ) k!) (bp.refl aA) k!
 | cS+1,i0,gq,x,hh,aA,ay=>by
   have cr:=bb.small
   have eQ:=cf.small
   have gL:cc (some (.slice 3)) (some aV)=some (Zn a.length):=(bb.has ay).len
   have q2:(decide (((i0:Nat):Int)<((a.length:Nat):Int)))=true:=d!
   obtain ⟨p4,q5,jE,_⟩:=(bb.has ay).elem (i:=i0) o!
   have vP:bR env (some (.slice 3)) (some aV) (some (Zn i0))=some (AV.ptr p4 q5):=jE
   have rC:aY env hh 3 (AV.ptr p4 q5)=some (Zi (a.g i0)):=(bb.has ay).load o! jE
   obtain ⟨p8,q9,sx,_⟩:=(cf.has ay).elem (i:=i0) o!
   have Qb:bR env (some (.slice 3)) (some bV) (some (Zn i0))=some (AV.ptr p8 q9):=sx
   have vY:aY env hh 3 (AV.ptr p8 q9)=some (Zi (b.g i0)):=(cf.has ay).load o! sx
   have dR:=fun {al ps} (k:Pk al _ ps)=>(CN 2<|VV gL<|VV (bO 3 false false .i64 ((i0:Nat):Int) ((a.length:Nat):Int))<|BB q2<|CN 2<|VV vP<|MM rC<|CN 2<|VV Qb<|MM vY<|VV (pa 3 false false .i64 (a.g i0) (b.g i0))<|HH rC<|HH (show AV.same 20 (Zi (a.g i0)) (Zi (a.g i0))=true from aK 19 _ _)<|HH vY<|HH (show AV.same 20 (Zi (b.g i0)) (Zi (b.g i0))=true from aK 19 _ _)<|k:Pk _ [] ps)
   rcases Bool.eq_false_or_eq_true (!decide ((a.g i0)=(b.g i0))) with f1 | f1
   · have dQ:=HJ f1
     exact aC.ret false (by simp only[mL,f1,cond_true,cond_false]) (pk (d) _ _ hh _ hh (dR<|BC f1<|ZZ) k!) (bp.refl aA) k!
   · have dQ:=HK f1
     have Yh:=dZ 3 false true i0 1 o!
     exact aC.round (by simp only[mL,f1,cond_true,cond_false]) (pk (d) _ _ hh _ hh (dR<|BC f1<|VV Yh<|CC<|ZZ) k!) (bp.refl aA) _ k! (fun x=>Dw aV bV a b bb cf fq cS (i0+1) o! x hh aA ay)
def kz (a:List Int) (b:List Int):Bool:=(bif (!decide (((a.length:Nat):Int)=((b.length:Nat):Int))) then false else (match (mL a b a.length 0) with | none=>true | some y8=>y8))
theorem Zc {d:Nat} {h:aw} {aV bV:AV} (a:List Int) (b:List Int) (h_a:bS h .i64 3 aV a) (h_b:bS h .i64 3 bV b) (ct:Tidy h):cU (d+1) (.fn 8) [aV,bV] h= .ret (AV.bool (kz a b)) h:=by
 have ama:=h_a.small
 have amb:=h_b.small
 have gL:cc (some (.slice 3)) (some aV)=some (Zn a.length):=h_a.len
 have K5:cc (some (.slice 3)) (some bV)=some (Zn b.length):=h_b.len
 have hI:=fun {al ps} (k:Pk al _ ps)=>(CN 2<|VV gL<|CC<|VV K5<|VV (pa 3 false false .i64 ((a.length:Nat):Int) ((b.length:Nat):Int))<|k:Pk _ [] ps)
 rcases Bool.eq_false_or_eq_true (!decide (((a.length:Nat):Int)=((b.length:Nat):Int))) with f0 | f0
 · have dx:=HJ f0
   have e:kz a b=false:=by simp only[kz,f0,cond_true,cond_false]
   rw[e]
   exact aE rfl (aZ Tryz.func8 Hd rfl (.inr rfl) (pk (d) _ _ h _ h (hI<|BC f0<|ZZ) k!) k!) (Has.refl _) rfl
 · have dx:=HK f0
   have NR:=Dw (d:=d) (h:=h) aV bV a b h_a h_b o! a.length 0 o! (fun k_=>((aV::bV::AV.undef::AV.undef::(AV.bool false)::(Zi 0)::aV::(Zn a.length)::bV::(Zn b.length)::(AV.bool (!decide (((a.length:Nat):Int)=((b.length:Nat):Int))))::lk 15):List AV).getD k_ AV.undef) h ct (Has.refl _)
   cases dg:mL a b a.length 0 with
   | none=>
     obtain ⟨xB,h5,dX,dC⟩:=aC.n dg NR
     have kK:=dC.y
     have tC:h.nx≤h5.nx:=dC.n
     have gE:Has h h5:=dC.a
     have e:kz a b=true:=by simp only[kz,f0,dg,cond_true,cond_false]
     rw[e]
     exact aE rfl (aZ Tryz.func8 Hd rfl (.inr rfl) (pk (d) _ _ h _ h5 (hI<|BC f0<|LL dX<|CC<|ZZ) k!) k!) gE rfl
   | some y8=>
     obtain ⟨xB,h5,dX,dC⟩:=aC.r dg NR
     have kK:=dC.y
     have tC:h.nx≤h5.nx:=dC.n
     have gE:Has h h5:=dC.a
     have e:kz a b=y8:=by simp only[kz,f0,dg,cond_true,cond_false]
     rw[e]
     exact aE rfl (aZ Tryz.func8 Hd rfl (.inr rfl) (pk (d) _ _ h _ h5 (hI<|BC f0<|LL dX<|ZZ) k!) k!) gE rfl
noncomputable def mA:Code:=(Tryz.f20.body).getD .skip
theorem ph:Tryz.f20.body=some mA:=by kernel_rfl
noncomputable def Bu:Code:=(bw mA).getD 0 .skip
noncomputable def Bv:Code:=(bw mA).getD 1 .skip
def dr (i0:Nat) (l_:List Int):Nat→Nat→Option (Bool)
 | 0,_=>none
 | nH+1,i1=>(bif (decide ((l_.g i1)=(l_.g i0))) then some false else dr i0 l_ nH (i1+1))
theorem qy {d:Nat} {h:aw} (Dx:AV) (n:Int) (i0:Nat) (l_:List Int) (db:bS h .i64 3 Dx l_) (AE:i0<n.toNat) (mP:((l_.length:Nat):Int)=n):∀(k_ i_:Nat) (_:i_+k_=i0) (x:Nat→AV) (hh:aw) (aA:Tidy hh) (ay:Has h hh),aC (cU (d)) Bv ⟨(Dx::(Zi n)::rx x 2 3 ((Zn i0)::(Zn i_)::rx x 7 36 [])),hh,[],.no⟩ (.exit 2) hh (fun y=>(Dx::(Zi n)::rx y 2 3 ((Zn i0)::rx y 6 37 []))) (fun r y=>(Dx::(Zi n)::(y 2)::(y 3)::(AV.bool r)::(Zn i0)::rx y 6 37 [])) (dr i0 l_ k_ i_)
 | 0,i1,gq,x,hh,aA,ay=>by
   have ik:=db.small
   have q1:(decide (((i1:Nat):Int)<((i0:Nat):Int)))=false:=d!
   exact aC.out rfl (pk (d) _ _ hh _ hh (CN 2<|VV (bO 3 false false .i64 ((i1:Nat):Int) ((i0:Nat):Int))<|BB q1<|ZZ) k!) (bp.refl aA) k!
 | nH+1,i1,gq,x,hh,aA,ay=>by
   have ik:=db.small
   have q1:(decide (((i1:Nat):Int)<((i0:Nat):Int)))=true:=d!
   obtain ⟨p3,q4,cF,_⟩:=(db.has ay).elem (i:=i1) o!
   have jL:bR env (some (.slice 3)) (some Dx) (some (Zn i1))=some (AV.ptr p3 q4):=cF
   have j9:aY env hh 3 (AV.ptr p3 q4)=some (Zi (l_.g i1)):=(db.has ay).load o! cF
   obtain ⟨p7,q8,Bb,_⟩:=(db.has ay).elem (i:=i0) o!
   have KN:bR env (some (.slice 3)) (some Dx) (some (Zn i0))=some (AV.ptr p7 q8):=Bb
   have O2:aY env hh 3 (AV.ptr p7 q8)=some (Zi (l_.g i0)):=(db.has ay).load o! Bb
   have dR:=fun {al ps} (k:Pk al _ ps)=>(CN 2<|VV (bO 3 false false .i64 ((i1:Nat):Int) ((i0:Nat):Int))<|BB q1<|CN 2<|VV jL<|MM j9<|CN 2<|VV KN<|MM O2<|VV (xy 3 false false .i64 (l_.g i1) (l_.g i0))<|HH j9<|HH (show AV.same 20 (Zi (l_.g i1)) (Zi (l_.g i1))=true from aK 19 _ _)<|HH O2<|HH (show AV.same 20 (Zi (l_.g i0)) (Zi (l_.g i0))=true from aK 19 _ _)<|k:Pk _ [] ps)
   rcases Bool.eq_false_or_eq_true (decide ((l_.g i1)=(l_.g i0))) with f1 | f1
   · have dQ:=of_decide_eq_true f1
     exact aC.ret false (by simp only[dr,f1,cond_true,cond_false]) (pk (d) _ _ hh _ hh (dR<|BC f1<|ZZ) k!) (bp.refl aA) k!
   · have dQ:=of_decide_eq_false f1
     have u11:=dZ 3 false true i1 1 o!
     exact aC.round (by simp only[dr,f1,cond_true,cond_false]) (pk (d) _ _ hh _ hh (dR<|BC f1<|VV u11<|CC<|ZZ) k!) (bp.refl aA) _ k! (fun x=>qy Dx n i0 l_ db AE mP nH (i1+1) o! x hh aA ay)
def cz (n:Int) (l_:List Int):Nat→Nat→Option (Bool)
 | 0,_=>none
 | cS+1,i0=>(bif (decide ((l_.g i0)<0)) then some false else (bif (decide (n≤(l_.g i0))) then some false else (match (dr i0 l_ i0 0) with | none=>cz n l_ cS (i0+1) | some QU=>some QU)))
theorem qz {d:Nat} {h:aw} (Dx:AV) (n:Int) (l_:List Int) (bb:bS h .i64 3 Dx l_) (fq:((l_.length:Nat):Int)=n):∀(k_ i_:Nat) (_:i_+k_=n.toNat) (x:Nat→AV) (hh:aw) (aA:Tidy hh) (ay:Has h hh),aC (cU (d)) Bu ⟨(Dx::(Zi n)::rx x 2 3 ((Zn i_)::rx x 6 37 [])),hh,[],.no⟩ (.exit 0) hh (fun y=>(Dx::(Zi n)::rx y 2 41 [])) (fun r y=>(Dx::(Zi n)::(y 2)::(y 3)::(AV.bool r)::rx y 5 38 [])) (cz n l_ k_ i_)
 | 0,i0,gq,x,hh,aA,ay=>by
   have cr:=bb.small
   have q1:(decide (((i0:Nat):Int)<n))=false:=d!
   exact aC.out rfl (pk (d) _ _ hh _ hh (CN 2<|VV (bO 3 false false .i64 ((i0:Nat):Int) n)<|BB q1<|ZZ) k!) (bp.refl aA) k!
 | cS+1,i0,gq,x,hh,aA,ay=>by
   have cr:=bb.small
   have q1:(decide (((i0:Nat):Int)<n))=true:=d!
   obtain ⟨p3,q4,cF,_⟩:=(bb.has ay).elem (i:=i0) o!
   have jL:bR env (some (.slice 3)) (some Dx) (some (Zn i0))=some (AV.ptr p3 q4):=cF
   have j9:aY env hh 3 (AV.ptr p3 q4)=some (Zi (l_.g i0)):=(bb.has ay).load o! cF
   have hI:=fun {al ps} (k:Pk al _ ps)=>(CN 2<|VV (bO 3 false false .i64 ((i0:Nat):Int) n)<|BB q1<|CN 2<|VV jL<|MM j9<|VV (bO 3 false true .i64 (l_.g i0) 0)<|CC<|k:Pk _ [] ps)
   rcases Bool.eq_false_or_eq_true (decide ((l_.g i0)<0)) with f1 | f1
   · have dQ:=of_decide_eq_true f1
     exact aC.ret false (by simp only[cz,f1,cond_true,cond_false]) (pk (d) _ _ hh _ hh (hI<|BB f1<|BB f1<|BB f1<|BB f1<|BB f1<|BV f1 (xV true f1)<|TT<|CC<|ZZ) k!) (bp.refl aA) k!
   · have dQ:=of_decide_eq_false f1
     obtain ⟨p8,q9,sx,_⟩:=(bb.has ay).elem (i:=i0) o!
     have Qb:bR env (some (.slice 3)) (some Dx) (some (Zn i0))=some (AV.ptr p8 q9):=sx
     have vY:aY env hh 3 (AV.ptr p8 q9)=some (Zi (l_.g i0)):=(bb.has ay).load o! sx
     have mH:=fun {al ps} (k:Pk al _ ps)=>(hI<|BC f1<|BC f1<|BV f1 Qb<|BM f1 vY<|BC f1<|BV f1 (pc 3 false false .i64 (l_.g i0) n)<|k:Pk _ [] ps)
     rcases Bool.eq_false_or_eq_true (decide (n≤(l_.g i0))) with f2 | f2
     · have jZ:=of_decide_eq_true f2
       exact aC.ret false (by simp only[cz,f1,f2,cond_true,cond_false]) (pk (d) _ _ hh _ hh (mH<|VV (b8 (a:=some (AV.bool true)) (b:=some (AV.bool (decide (n≤(l_.g i0))))) f1)<|BC f2<|ZZ) k!) (bp.refl aA) k!
     · have jZ:=of_decide_eq_false f2
       have lp5:=qy (d:=d) (h:=hh) Dx n i0 l_ (bb.has ay) o! o! i0 0 o! (fun k_=>((Dx::(Zi n)::rx x 2 3 ((Zn i0)::(Zi 0)::rx x 7 4 ((Zn i0)::(Zi n)::(AV.bool (decide (((i0:Nat):Int)<n)))::(x 14)::(x 15)::Dx::(Zn i0)::(AV.ptr p3 q4)::(Zi (l_.g i0))::(AV.bool (decide ((l_.g i0)<0)))::(AV.bool (decide ((l_.g i0)<0)))::Dx::(Zn i0)::(AV.ptr p8 q9)::(Zi (l_.g i0))::(Zi n)::(AV.bool (decide (n≤(l_.g i0))))::(AV.bool (decide (n≤(l_.g i0))))::rx x 29 14 []))):List AV).getD k_ AV.undef) hh aA (Has.refl _)
       cases mm:dr i0 l_ i0 0 with
       | none=>
         obtain ⟨af1,lU,uh,fI⟩:=aC.n mm lp5
         have g7:=fI.y
         have Jy:hh.nx≤lU.nx:=fI.n
         have iB:Has hh lU:=fI.a
         have u14:=dZ 3 false true i0 1 o!
         exact aC.round (by simp only[cz,f1,f2,mm,cond_true,cond_false]) (pk (d) _ _ hh _ lU (mH<|VV (b8 (a:=some (AV.bool true)) (b:=some (AV.bool (decide (n≤(l_.g i0))))) f1)<|BC f2<|LL uh<|CC<|VV u14<|CC<|ZZ) k!) (⟨g7,iB,by omega⟩) _ k! (fun x=>qz Dx n l_ bb fq cS (i0+1) o! x lU g7 (ay.trans iB))
       | some QU=>
         obtain ⟨af1,lU,uh,fI⟩:=aC.r mm lp5
         have g7:=fI.y
         have Jy:hh.nx≤lU.nx:=fI.n
         have iB:Has hh lU:=fI.a
         exact aC.ret QU (by simp only[cz,f1,f2,mm,cond_true,cond_false]) (pk (d) _ _ hh _ lU (mH<|VV (b8 (a:=some (AV.bool true)) (b:=some (AV.bool (decide (n≤(l_.g i0))))) f1)<|BC f2<|LL uh<|ZZ) k!) (⟨g7,iB,by omega⟩) k!
def da (l_:List Int) (n:Int):Bool:=(bif (!decide (((l_.length:Nat):Int)=n)) then false else (match (cz n l_ n.toNat 0) with | none=>true | some rr3=>rr3))
theorem D4 {d:Nat} {h:aw} {Dx:AV} (l_:List Int) (n:Int) (af3:bS h .i64 3 Dx l_) (ct:Tidy h):cU (d+1) (.fn 20) [Dx,(Zi n)] h= .ret (AV.bool (da l_ n)) h:=by
 have alj:=af3.small
 have gL:cc (some (.slice 3)) (some Dx)=some (Zn l_.length):=af3.len
 have vc:=fun {al ps} (k:Pk al _ ps)=>(CN 2<|VV gL<|CC<|VV (pa 3 false false .i64 ((l_.length:Nat):Int) n)<|k:Pk _ [] ps)
 rcases Bool.eq_false_or_eq_true (!decide (((l_.length:Nat):Int)=n)) with f0 | f0
 · have dx:=HJ f0
   have e:da l_ n=false:=by simp only[da,f0,cond_true,cond_false]
   rw[e]
   exact aE rfl (aZ Tryz.func20 ph rfl (.inr rfl) (pk (d) _ _ h _ h (vc<|BC f0<|ZZ) k!) k!) (Has.refl _) rfl
 · have dx:=HK f0
   have lp6:=qz (d:=d) (h:=h) Dx n l_ af3 o! n.toNat 0 o! (fun k_=>((Dx::(Zi n)::AV.undef::AV.undef::(AV.bool false)::(Zi 0)::AV.undef::Dx::(Zn l_.length)::(Zi n)::(AV.bool (!decide (((l_.length:Nat):Int)=n)))::lk 32):List AV).getD k_ AV.undef) h ct (Has.refl _)
   cases LN:cz n l_ n.toNat 0 with
   | none=>
     obtain ⟨yl3,h4,nX,fA⟩:=aC.n LN lp6
     have nW:=fA.y
     have NI:h.nx≤h4.nx:=fA.n
     have nJ:Has h h4:=fA.a
     have e:da l_ n=true:=by simp only[da,f0,LN,cond_true,cond_false]
     rw[e]
     exact aE rfl (aZ Tryz.func20 ph rfl (.inr rfl) (pk (d) _ _ h _ h4 (vc<|BC f0<|LL nX<|CC<|ZZ) k!) k!) nJ rfl
   | some rr3=>
     obtain ⟨yl3,h4,nX,fA⟩:=aC.r LN lp6
     have nW:=fA.y
     have NI:h.nx≤h4.nx:=fA.n
     have nJ:Has h h4:=fA.a
     have e:da l_ n=rr3:=by simp only[da,f0,LN,cond_true,cond_false]
     rw[e]
     exact aE rfl (aZ Tryz.func20 ph rfl (.inr rfl) (pk (d) _ _ h _ h4 (vc<|BC f0<|LL nX<|ZZ) k!) k!) nJ rfl
end Go.Proofs.aJ
