import Derived.Test.YtjohpcpopggbkaaGreatW0
import Derived.Test.YtjohpcpopggbkaaGreatW4
import Derived.Test.YtjohpcpopggbkaaGreatW5
import Derived.Test.YtjohpcpopggbkaaGreatW2
import Derived.Test.YtjohpcpopggbkaaGreatW1
namespace Go.Proofs.aW
open Go.Proofs Ab
set_option maxRecDepth 100000
set_option maxHeartbeats 4000000
set_option linter.unusedVariables false
set_option linter.unusedSimpArgs false
noncomputable def dW:Code:=(Tryz.f8.body).getD .skip
theorem ke:Tryz.f8.body=some dW:=by kernel_rfl
noncomputable def dA:Code:=(cP dW).getD 0 .skip
noncomputable def oo:Code:=(cP dW).getD 1 .skip
def aQ (l_:List aw):Nat→Nat→Int→Int
 | 0,_,ch=>ch
 | dC+1,i0,ch=>(bif (decide (ch=0)) then (bif (!(gS ((l_.g i0).worker))) then aQ l_ dC (i0+1) 5 else (bif (!(aZ ((l_.g i0).ab))) then aQ l_ dC (i0+1) 1 else (bif (!(aZ ((l_.g i0).aD))) then aQ l_ dC (i0+1) 1 else (bif (!(aZ ((l_.g i0).leave))) then aQ l_ dC (i0+1) 1 else (bif (!(aZ ((l_.g i0).out))) then aQ l_ dC (i0+1) 1 else (bif (decide (0<((i0:Nat):Int))) then (bif (decide (((l_.g i0).aD)<((l_.g (i0 - 1)).aD))) then aQ l_ dC (i0+1) 8 else aQ l_ dC (i0+1) ch) else aQ l_ dC (i0+1) ch)))))) else ch)
theorem db {d:Nat} {h:aq} (bk:AV) (l_:List aw) (t:aH) (bU:Nat) (bC:bf h bk l_) (fw:bf h t.ar t.rows) (j_:aG.ok h t):∀(k_ i_:Nat) (ch:Int) (_:i_+k_=l_.length) (x:Nat→AV) (hh:aq) (aX:Tidy hh) (a_:Has h hh) (cg:hh.get bU=some (aP.cells [t.ar,(AV.int .i64 t.rest),(AV.int .i64 t.day)] 24 false)),cb (dH (d+2)) dA ⟨((x 0)::bk::(AV.ptr bU 0)::rx x 3 3 ((AV.int .i64 ch)::(AV.int .i64 ((i_:Nat):Int))::rx x 8 85 [])),hh,[],.no⟩ (.exit 0) hh (fun r y=>((y 0)::bk::(AV.ptr bU 0)::rx y 3 3 ((AV.int .i64 r)::rx y 7 86 []))) (fun r=>True) (aQ l_ k_ i_ ch)
 | 0,i0,ch,pB,x,hh,aX,a_,cg=>by
   have eQ:=bC.small
   have mf:=fw.small
   have rh:=aX _ _ cg
   have jG:dU (some (.slice 34)) (some bk)=some (AV.int .i64 ((l_.length:Nat):Int)):=(bC.has a_).len
   have q2:(decide (((i0:Nat):Int)<((l_.length:Nat):Int)))=false:=d!
   have ev:=pk (d+2) dA ((x 0)::bk::(AV.ptr bU 0)::rx x 3 3 ((AV.int .i64 ch)::(AV.int .i64 ((i0:Nat):Int))::rx x 8 85 [])) hh (.exit 0) hh (CN 2<|VV jG<|VV (bz 3 false false .i64 ((i0:Nat):Int) ((l_.length:Nat):Int))<|CC<|BB q2<|BB q2<|VV (aL (a:=some AV.undef) (b:=some (AV.bool false)) q2)<|FF<|ZZ) k!
   exact cb.out ch rfl ev (b4.refl aX) trivial k!
 | dC+1,i0,ch,pB,x,hh,aX,a_,cg=>by
   have eQ:=bC.small
   have mf:=fw.small
   have rh:=aX _ _ cg
   have jG:dU (some (.slice 34)) (some bk)=some (AV.int .i64 ((l_.length:Nat):Int)):=(bC.has a_).len
   have q2:(decide (((i0:Nat):Int)<((l_.length:Nat):Int)))=true:=d!
   rcases Bool.eq_false_or_eq_true (decide (ch=0)) with f1 | f1
   · have gF:=of_decide_eq_true f1
     obtain ⟨p5,q6,Jo⟩:=(bC.has a_).elem (i:=i0) o!
     have oP:ep env (some (.slice 34)) (some bk) (some (AV.int .i64 ((i0:Nat):Int)))=some (AV.ptr p5 q6):=Jo
     have Jp:b9 env hh 34 (AV.ptr p5 q6)=some (AV.agg [(AV.str ((l_.g i0).worker)),(AV.int .i64 ((l_.g i0).ab)),(AV.int .i64 ((l_.g i0).aD)),(AV.int .i64 ((l_.g i0).leave)),(AV.int .i64 ((l_.g i0).out))]):=(bC.has a_).load o! Jo
     obtain ⟨h8,Ce,Pw,Zc,VP,As⟩:=jA aX (aP.cells [(AV.str []),(AV.int .i64 0),(AV.int .i64 0),(AV.int .i64 0),(AV.int .i64 0)] 34 false)
     have Px:Has hh h8:=As
     obtain ⟨h9,xZ,jW,Pl,gq,pK⟩:=lC (t:=34) (n:=5) (i:=hh.nx) (L:=[(AV.str ((l_.g i0).worker)),(AV.int .i64 ((l_.g i0).ab)),(AV.int .i64 ((l_.g i0).aD)),(AV.int .i64 ((l_.g i0).leave)),(AV.int .i64 ((l_.g i0).out))]) Pw VP k! rfl rfl (by simp only[AV.cells,List.all_cons,List.all_nil,Bool.and_true,Bool.and_self,dL,cO,dM,dN,cu,fQ,fR,fS,fT,fU,dO])
     have jn:Has hh h9:=Has.ca Px pK aX o!
     have n9:=Jl (d:=d+1) ((l_.g i0).worker) ((bC.has a_).ok (i:=i0) o!) jW
     rcases Bool.eq_false_or_eq_true (!(gS ((l_.g i0).worker))) with f2 | f2
     · have Zd:=fV 3 false true i0 1 o!
       have ev:=pk (d+2) dA ((x 0)::bk::(AV.ptr bU 0)::rx x 3 3 ((AV.int .i64 ch)::(AV.int .i64 ((i0:Nat):Int))::rx x 8 85 [])) hh .normal h9 (CN 2<|VV jG<|VV (bz 3 false false .i64 ((i0:Nat):Int) ((l_.length:Nat):Int))<|CC<|BB q2<|CC<|BB q2<|VV (cM 30 false true .i64 ch 0)<|VV (aM (a:=some (AV.bool (decide (ch=0)))) (b:=some (AV.bool false)) q2)<|BB f1<|CN 2<|VV oP<|MM Jp<|NN Ce (fun i=>(AV.ptr i 0))<|SS xZ<|CC<|MM (au 9 0 (AV.str ((l_.g i0).worker)) gq k!)<|EE n9<|CN 2<|BB f2<|CN 2<|VV Zd<|CC<|ZZ) k!
       exact cb.round (by simp only[aQ,f1,f2,cond_true,cond_false]) ev (⟨jW,jn,by omega⟩) (fun x=>((x 0)::bk::(AV.ptr bU 0)::rx x 3 3 ((AV.int .i64 5)::(AV.int .i64 (((i0+1):Nat):Int))::rx x 8 85 []))) k! (fun x=>db bk l_ t bU bC fw j_ dC (i0+1) 5 o! x h9 jW (a_.trans jn) (pK _ _ o! (As _ _ cg)))
     · have BY:=ij (d:=d+1) ((l_.g i0).ab) jW
       rcases Bool.eq_false_or_eq_true (!(aZ ((l_.g i0).ab))) with f3 | f3
       · have R4:=fV 3 false true i0 1 o!
         have ev:=pk (d+2) dA ((x 0)::bk::(AV.ptr bU 0)::rx x 3 3 ((AV.int .i64 ch)::(AV.int .i64 ((i0:Nat):Int))::rx x 8 85 [])) hh .normal h9 (CN 2<|VV jG<|VV (bz 3 false false .i64 ((i0:Nat):Int) ((l_.length:Nat):Int))<|CC<|BB q2<|CC<|BB q2<|VV (cM 30 false true .i64 ch 0)<|VV (aM (a:=some (AV.bool (decide (ch=0)))) (b:=some (AV.bool false)) q2)<|BB f1<|CN 2<|VV oP<|MM Jp<|NN Ce (fun i=>(AV.ptr i 0))<|SS xZ<|CC<|MM (au 9 0 (AV.str ((l_.g i0).worker)) gq k!)<|EE n9<|CN 2<|BB f2<|CC<|MM (au 3 1 (AV.int .i64 ((l_.g i0).ab)) gq k!)<|EE BY<|CN 2<|BB f3<|BB f3<|BB f3<|BB f3<|VV (aM (a:=some (AV.bool true)) (b:=some AV.undef) f3)<|CC<|TT<|TT<|TT<|TT<|CN 2<|TT<|TT<|TT<|TT<|CN 2<|TT<|CN 2<|VV R4<|CC<|ZZ) k!
         exact cb.round (by simp only[aQ,f1,f2,f3,cond_true,cond_false]) ev (⟨jW,jn,by omega⟩) (fun x=>((x 0)::bk::(AV.ptr bU 0)::rx x 3 3 ((AV.int .i64 1)::(AV.int .i64 (((i0+1):Nat):Int))::rx x 8 85 []))) k! (fun x=>db bk l_ t bU bC fw j_ dC (i0+1) 1 o! x h9 jW (a_.trans jn) (pK _ _ o! (As _ _ cg)))
       · have GS:=ij (d:=d+1) ((l_.g i0).aD) jW
         rcases Bool.eq_false_or_eq_true (!(aZ ((l_.g i0).aD))) with f4 | f4
         · have u16:=fV 3 false true i0 1 o!
           have ev:=pk (d+2) dA ((x 0)::bk::(AV.ptr bU 0)::rx x 3 3 ((AV.int .i64 ch)::(AV.int .i64 ((i0:Nat):Int))::rx x 8 85 [])) hh .normal h9 (CN 2<|VV jG<|VV (bz 3 false false .i64 ((i0:Nat):Int) ((l_.length:Nat):Int))<|CC<|BB q2<|CC<|BB q2<|VV (cM 30 false true .i64 ch 0)<|VV (aM (a:=some (AV.bool (decide (ch=0)))) (b:=some (AV.bool false)) q2)<|BB f1<|CN 2<|VV oP<|MM Jp<|NN Ce (fun i=>(AV.ptr i 0))<|SS xZ<|CC<|MM (au 9 0 (AV.str ((l_.g i0).worker)) gq k!)<|EE n9<|CN 2<|BB f2<|CC<|MM (au 3 1 (AV.int .i64 ((l_.g i0).ab)) gq k!)<|EE BY<|CN 2<|BB f3<|CC<|BB f3<|MM (au 3 2 (AV.int .i64 ((l_.g i0).aD)) gq k!)<|BB f3<|EE GS<|BB f3<|CC<|VV (aL (a:=some (AV.bool true)) (b:=some (AV.bool (!(aZ ((l_.g i0).aD))))) f3)<|CC<|BB f4<|BB f4<|BB f4<|BB f4<|VV (aM (a:=some (AV.bool true)) (b:=some AV.undef) f4)<|CC<|TT<|TT<|TT<|TT<|CN 2<|TT<|CN 2<|VV u16<|CC<|ZZ) k!
           exact cb.round (by simp only[aQ,f1,f2,f3,f4,cond_true,cond_false]) ev (⟨jW,jn,by omega⟩) (fun x=>((x 0)::bk::(AV.ptr bU 0)::rx x 3 3 ((AV.int .i64 1)::(AV.int .i64 (((i0+1):Nat):Int))::rx x 8 85 []))) k! (fun x=>db bk l_ t bU bC fw j_ dC (i0+1) 1 o! x h9 jW (a_.trans jn) (pK _ _ o! (As _ _ cg)))
         · have O6:=ij (d:=d+1) ((l_.g i0).leave) jW
           rcases Bool.eq_false_or_eq_true (!(aZ ((l_.g i0).leave))) with f5 | f5
           · have Ze:=fV 3 false true i0 1 o!
             have ev:=pk (d+2) dA ((x 0)::bk::(AV.ptr bU 0)::rx x 3 3 ((AV.int .i64 ch)::(AV.int .i64 ((i0:Nat):Int))::rx x 8 85 [])) hh .normal h9 (CN 2<|VV jG<|VV (bz 3 false false .i64 ((i0:Nat):Int) ((l_.length:Nat):Int))<|CC<|BB q2<|CC<|BB q2<|VV (cM 30 false true .i64 ch 0)<|VV (aM (a:=some (AV.bool (decide (ch=0)))) (b:=some (AV.bool false)) q2)<|BB f1<|CN 2<|VV oP<|MM Jp<|NN Ce (fun i=>(AV.ptr i 0))<|SS xZ<|CC<|MM (au 9 0 (AV.str ((l_.g i0).worker)) gq k!)<|EE n9<|CN 2<|BB f2<|CC<|MM (au 3 1 (AV.int .i64 ((l_.g i0).ab)) gq k!)<|EE BY<|CN 2<|BB f3<|CC<|BB f3<|MM (au 3 2 (AV.int .i64 ((l_.g i0).aD)) gq k!)<|BB f3<|EE GS<|BB f3<|CC<|VV (aL (a:=some (AV.bool true)) (b:=some (AV.bool (!(aZ ((l_.g i0).aD))))) f3)<|CC<|BB f4<|CC<|BB f4<|MM (au 3 3 (AV.int .i64 ((l_.g i0).leave)) gq k!)<|BB f4<|EE O6<|BB f4<|CC<|VV (aL (a:=some (AV.bool true)) (b:=some (AV.bool (!(aZ ((l_.g i0).leave))))) f4)<|CC<|BB f5<|BB f5<|BB f5<|BB f5<|VV (aM (a:=some (AV.bool true)) (b:=some AV.undef) f5)<|CC<|TT<|CN 2<|VV Ze<|CC<|ZZ) k!
             exact cb.round (by simp only[aQ,f1,f2,f3,f4,f5,cond_true,cond_false]) ev (⟨jW,jn,by omega⟩) (fun x=>((x 0)::bk::(AV.ptr bU 0)::rx x 3 3 ((AV.int .i64 1)::(AV.int .i64 (((i0+1):Nat):Int))::rx x 8 85 []))) k! (fun x=>db bk l_ t bU bC fw j_ dC (i0+1) 1 o! x h9 jW (a_.trans jn) (pK _ _ o! (As _ _ cg)))
           · have Qi:=ij (d:=d+1) ((l_.g i0).out) jW
             rcases Bool.eq_false_or_eq_true (!(aZ ((l_.g i0).out))) with f6 | f6
             · have Zf:=fV 3 false true i0 1 o!
               have ev:=pk (d+2) dA ((x 0)::bk::(AV.ptr bU 0)::rx x 3 3 ((AV.int .i64 ch)::(AV.int .i64 ((i0:Nat):Int))::rx x 8 85 [])) hh .normal h9 (CN 2<|VV jG<|VV (bz 3 false false .i64 ((i0:Nat):Int) ((l_.length:Nat):Int))<|CC<|BB q2<|CC<|BB q2<|VV (cM 30 false true .i64 ch 0)<|VV (aM (a:=some (AV.bool (decide (ch=0)))) (b:=some (AV.bool false)) q2)<|BB f1<|CN 2<|VV oP<|MM Jp<|NN Ce (fun i=>(AV.ptr i 0))<|SS xZ<|CC<|MM (au 9 0 (AV.str ((l_.g i0).worker)) gq k!)<|EE n9<|CN 2<|BB f2<|CC<|MM (au 3 1 (AV.int .i64 ((l_.g i0).ab)) gq k!)<|EE BY<|CN 2<|BB f3<|CC<|BB f3<|MM (au 3 2 (AV.int .i64 ((l_.g i0).aD)) gq k!)<|BB f3<|EE GS<|BB f3<|CC<|VV (aL (a:=some (AV.bool true)) (b:=some (AV.bool (!(aZ ((l_.g i0).aD))))) f3)<|CC<|BB f4<|CC<|BB f4<|MM (au 3 3 (AV.int .i64 ((l_.g i0).leave)) gq k!)<|BB f4<|EE O6<|BB f4<|CC<|VV (aL (a:=some (AV.bool true)) (b:=some (AV.bool (!(aZ ((l_.g i0).leave))))) f4)<|CC<|BB f5<|CC<|BB f5<|MM (au 3 4 (AV.int .i64 ((l_.g i0).out)) gq k!)<|BB f5<|EE Qi<|BB f5<|CC<|VV (aL (a:=some (AV.bool true)) (b:=some (AV.bool (!(aZ ((l_.g i0).out))))) f5)<|CC<|BB f6<|CN 2<|VV Zf<|CC<|ZZ) k!
               exact cb.round (by simp only[aQ,f1,f2,f3,f4,f5,f6,cond_true,cond_false]) ev (⟨jW,jn,by omega⟩) (fun x=>((x 0)::bk::(AV.ptr bU 0)::rx x 3 3 ((AV.int .i64 1)::(AV.int .i64 (((i0+1):Nat):Int))::rx x 8 85 []))) k! (fun x=>db bk l_ t bU bC fw j_ dC (i0+1) 1 o! x h9 jW (a_.trans jn) (pK _ _ o! (As _ _ cg)))
             · rcases Bool.eq_false_or_eq_true (decide (0<((i0:Nat):Int))) with f7 | f7
               · have Py:=of_decide_eq_true f7
                 have Qs:=IZ 3 false true i0 1 o! o!
                 obtain ⟨Xi,Xj,Nk⟩:=(bC.has a_).elem (i:=(i0 - 1)) o!
                 have Sl:ep env (some (.slice 34)) (some bk) (some (AV.int .i64 ((i0 - 1:Nat):Int)))=some (AV.ptr Xi Xj):=Nk
                 have L7:b9 env h9 3 (AV.ptr Xi (Xj+2))=some (AV.int .i64 ((l_.g (i0 - 1)).aD)):=((bC.has a_).has jn).part (t:=3) (j:=2) o! Nk k! rfl
                 rcases Bool.eq_false_or_eq_true (decide (((l_.g i0).aD)<((l_.g (i0 - 1)).aD))) with f8 | f8
                 · have VQ:=of_decide_eq_true f8
                   have VS:=fV 3 false true i0 1 o!
                   have ev:=pk (d+2) dA ((x 0)::bk::(AV.ptr bU 0)::rx x 3 3 ((AV.int .i64 ch)::(AV.int .i64 ((i0:Nat):Int))::rx x 8 85 [])) hh .normal h9 (CN 2<|VV jG<|VV (bz 3 false false .i64 ((i0:Nat):Int) ((l_.length:Nat):Int))<|CC<|BB q2<|CC<|BB q2<|VV (cM 30 false true .i64 ch 0)<|VV (aM (a:=some (AV.bool (decide (ch=0)))) (b:=some (AV.bool false)) q2)<|BB f1<|CN 2<|VV oP<|MM Jp<|NN Ce (fun i=>(AV.ptr i 0))<|SS xZ<|CC<|MM (au 9 0 (AV.str ((l_.g i0).worker)) gq k!)<|EE n9<|CN 2<|BB f2<|CC<|MM (au 3 1 (AV.int .i64 ((l_.g i0).ab)) gq k!)<|EE BY<|CN 2<|BB f3<|CC<|BB f3<|MM (au 3 2 (AV.int .i64 ((l_.g i0).aD)) gq k!)<|BB f3<|EE GS<|BB f3<|CC<|VV (aL (a:=some (AV.bool true)) (b:=some (AV.bool (!(aZ ((l_.g i0).aD))))) f3)<|CC<|BB f4<|CC<|BB f4<|MM (au 3 3 (AV.int .i64 ((l_.g i0).leave)) gq k!)<|BB f4<|EE O6<|BB f4<|CC<|VV (aL (a:=some (AV.bool true)) (b:=some (AV.bool (!(aZ ((l_.g i0).leave))))) f4)<|CC<|BB f5<|CC<|BB f5<|MM (au 3 4 (AV.int .i64 ((l_.g i0).out)) gq k!)<|BB f5<|EE Qi<|BB f5<|CC<|VV (aL (a:=some (AV.bool true)) (b:=some (AV.bool (!(aZ ((l_.g i0).out))))) f5)<|CC<|BB f6<|CC<|VV (cI 3 false true .i64 ((i0:Nat):Int) 0)<|CC<|BB f7<|CC<|BB f7<|CC<|BB f7<|VV Qs<|BB f7<|VV Sl<|BB f7<|CC<|BB f7<|MM L7<|BB f7<|CC<|BB f7<|MM (au 3 2 (AV.int .i64 ((l_.g i0).aD)) gq k!)<|BB f7<|VV (cI 3 false false .i64 ((l_.g (i0 - 1)).aD) ((l_.g i0).aD))<|VV (aM (a:=some (AV.bool (decide (((l_.g i0).aD)<((l_.g (i0 - 1)).aD))))) (b:=some (AV.bool false)) f7)<|CC<|HH L7<|HH (show AV.same 20 (AV.int .i64 ((l_.g (i0 - 1)).aD)) (AV.int .i64 ((l_.g (i0 - 1)).aD))=true from aU 19 _ _)<|HH (au 3 2 (AV.int .i64 ((l_.g i0).aD)) gq k!)<|HH (show AV.same 20 (AV.int .i64 ((l_.g i0).aD)) (AV.int .i64 ((l_.g i0).aD))=true from aU 19 _ _)<|BB f8<|CN 2<|VV VS<|CC<|ZZ) k!
                   exact cb.round (by simp only[aQ,f1,f2,f3,f4,f5,f6,f7,f8,cond_true,cond_false]) ev (⟨jW,jn,by omega⟩) (fun x=>((x 0)::bk::(AV.ptr bU 0)::rx x 3 3 ((AV.int .i64 8)::(AV.int .i64 (((i0+1):Nat):Int))::rx x 8 85 []))) k! (fun x=>db bk l_ t bU bC fw j_ dC (i0+1) 8 o! x h9 jW (a_.trans jn) (pK _ _ o! (As _ _ cg)))
                 · have VQ:=of_decide_eq_false f8
                   have VS:=fV 3 false true i0 1 o!
                   have ev:=pk (d+2) dA ((x 0)::bk::(AV.ptr bU 0)::rx x 3 3 ((AV.int .i64 ch)::(AV.int .i64 ((i0:Nat):Int))::rx x 8 85 [])) hh .normal h9 (CN 2<|VV jG<|VV (bz 3 false false .i64 ((i0:Nat):Int) ((l_.length:Nat):Int))<|CC<|BB q2<|CC<|BB q2<|VV (cM 30 false true .i64 ch 0)<|VV (aM (a:=some (AV.bool (decide (ch=0)))) (b:=some (AV.bool false)) q2)<|BB f1<|CN 2<|VV oP<|MM Jp<|NN Ce (fun i=>(AV.ptr i 0))<|SS xZ<|CC<|MM (au 9 0 (AV.str ((l_.g i0).worker)) gq k!)<|EE n9<|CN 2<|BB f2<|CC<|MM (au 3 1 (AV.int .i64 ((l_.g i0).ab)) gq k!)<|EE BY<|CN 2<|BB f3<|CC<|BB f3<|MM (au 3 2 (AV.int .i64 ((l_.g i0).aD)) gq k!)<|BB f3<|EE GS<|BB f3<|CC<|VV (aL (a:=some (AV.bool true)) (b:=some (AV.bool (!(aZ ((l_.g i0).aD))))) f3)<|CC<|BB f4<|CC<|BB f4<|MM (au 3 3 (AV.int .i64 ((l_.g i0).leave)) gq k!)<|BB f4<|EE O6<|BB f4<|CC<|VV (aL (a:=some (AV.bool true)) (b:=some (AV.bool (!(aZ ((l_.g i0).leave))))) f4)<|CC<|BB f5<|CC<|BB f5<|MM (au 3 4 (AV.int .i64 ((l_.g i0).out)) gq k!)<|BB f5<|EE Qi<|BB f5<|CC<|VV (aL (a:=some (AV.bool true)) (b:=some (AV.bool (!(aZ ((l_.g i0).out))))) f5)<|CC<|BB f6<|CC<|VV (cI 3 false true .i64 ((i0:Nat):Int) 0)<|CC<|BB f7<|CC<|BB f7<|CC<|BB f7<|VV Qs<|BB f7<|VV Sl<|BB f7<|CC<|BB f7<|MM L7<|BB f7<|CC<|BB f7<|MM (au 3 2 (AV.int .i64 ((l_.g i0).aD)) gq k!)<|BB f7<|VV (cI 3 false false .i64 ((l_.g (i0 - 1)).aD) ((l_.g i0).aD))<|VV (aM (a:=some (AV.bool (decide (((l_.g i0).aD)<((l_.g (i0 - 1)).aD))))) (b:=some (AV.bool false)) f7)<|CC<|HH L7<|HH (show AV.same 20 (AV.int .i64 ((l_.g (i0 - 1)).aD)) (AV.int .i64 ((l_.g (i0 - 1)).aD))=true from aU 19 _ _)<|HH (au 3 2 (AV.int .i64 ((l_.g i0).aD)) gq k!)<|HH (show AV.same 20 (AV.int .i64 ((l_.g i0).aD)) (AV.int .i64 ((l_.g i0).aD))=true from aU 19 _ _)<|BB f8<|CC<|VV VS<|CC<|ZZ) k!
                   exact cb.round (by simp only[aQ,f1,f2,f3,f4,f5,f6,f7,f8,cond_true,cond_false]) ev (⟨jW,jn,by omega⟩) (fun x=>((x 0)::bk::(AV.ptr bU 0)::rx x 3 3 ((AV.int .i64 ch)::(AV.int .i64 (((i0+1):Nat):Int))::rx x 8 85 []))) k! (fun x=>db bk l_ t bU bC fw j_ dC (i0+1) ch o! x h9 jW (a_.trans jn) (pK _ _ o! (As _ _ cg)))
               · have Py:=of_decide_eq_false f7
                 have Qs:=fV 3 false true i0 1 o!
                 have ev:=pk (d+2) dA ((x 0)::bk::(AV.ptr bU 0)::rx x 3 3 ((AV.int .i64 ch)::(AV.int .i64 ((i0:Nat):Int))::rx x 8 85 [])) hh .normal h9 (CN 2<|VV jG<|VV (bz 3 false false .i64 ((i0:Nat):Int) ((l_.length:Nat):Int))<|CC<|BB q2<|CC<|BB q2<|VV (cM 30 false true .i64 ch 0)<|VV (aM (a:=some (AV.bool (decide (ch=0)))) (b:=some (AV.bool false)) q2)<|BB f1<|CN 2<|VV oP<|MM Jp<|NN Ce (fun i=>(AV.ptr i 0))<|SS xZ<|CC<|MM (au 9 0 (AV.str ((l_.g i0).worker)) gq k!)<|EE n9<|CN 2<|BB f2<|CC<|MM (au 3 1 (AV.int .i64 ((l_.g i0).ab)) gq k!)<|EE BY<|CN 2<|BB f3<|CC<|BB f3<|MM (au 3 2 (AV.int .i64 ((l_.g i0).aD)) gq k!)<|BB f3<|EE GS<|BB f3<|CC<|VV (aL (a:=some (AV.bool true)) (b:=some (AV.bool (!(aZ ((l_.g i0).aD))))) f3)<|CC<|BB f4<|CC<|BB f4<|MM (au 3 3 (AV.int .i64 ((l_.g i0).leave)) gq k!)<|BB f4<|EE O6<|BB f4<|CC<|VV (aL (a:=some (AV.bool true)) (b:=some (AV.bool (!(aZ ((l_.g i0).leave))))) f4)<|CC<|BB f5<|CC<|BB f5<|MM (au 3 4 (AV.int .i64 ((l_.g i0).out)) gq k!)<|BB f5<|EE Qi<|BB f5<|CC<|VV (aL (a:=some (AV.bool true)) (b:=some (AV.bool (!(aZ ((l_.g i0).out))))) f5)<|CC<|BB f6<|CC<|VV (cI 3 false true .i64 ((i0:Nat):Int) 0)<|CC<|BB f7<|BB f7<|BB f7<|BB f7<|BB f7<|BB f7<|BB f7<|BB f7<|BB f7<|VV (aL (a:=some AV.undef) (b:=some (AV.bool false)) f7)<|CC<|FF<|CC<|VV Qs<|CC<|ZZ) k!
                 exact cb.round (by simp only[aQ,f1,f2,f3,f4,f5,f6,f7,cond_true,cond_false]) ev (⟨jW,jn,by omega⟩) (fun x=>((x 0)::bk::(AV.ptr bU 0)::rx x 3 3 ((AV.int .i64 ch)::(AV.int .i64 (((i0+1):Nat):Int))::rx x 8 85 []))) k! (fun x=>db bk l_ t bU bC fw j_ dC (i0+1) ch o! x h9 jW (a_.trans jn) (pK _ _ o! (As _ _ cg)))
   · have gF:=of_decide_eq_false f1
     have ev:=pk (d+2) dA ((x 0)::bk::(AV.ptr bU 0)::rx x 3 3 ((AV.int .i64 ch)::(AV.int .i64 ((i0:Nat):Int))::rx x 8 85 [])) hh (.exit 0) hh (CN 2<|VV jG<|VV (bz 3 false false .i64 ((i0:Nat):Int) ((l_.length:Nat):Int))<|CC<|BB q2<|CC<|BB q2<|VV (cM 30 false true .i64 ch 0)<|VV (aM (a:=some (AV.bool (decide (ch=0)))) (b:=some (AV.bool false)) q2)<|BB f1<|ZZ) k!
     exact cb.out ch (by simp only[aQ,f1,cond_true,cond_false]) ev (b4.refl aX) trivial k!
theorem jh {l_:List aw} {k i:Nat} {v:Int} (hv:v≠0) (h:aQ l_ k i v=0):False:=by
 cases k with
 | zero=>exact hv h
 | succ k=>rw[aQ,decide_eq_false hv] at h;exact hv h
def cd (t:aH) (l_:List aw):Nat→Nat→List Int→List Int
 | 0,_,uX=>uX
 | Pz+1,i1,uX=>cd t l_ Pz (i1+1) (uX++[(cc t l_ ((i1:Nat):Int))])
theorem ku {d:Nat} {h:aq} (bk:AV) (l_:List aw) (t:aH) (pL:Nat) (x7:bf h bk l_) (Jq:bf h t.ar t.rows) (L8:aG.ok h t) (VT:l_.length≤128) (di:Tidy h) (x8:h.get pL=some (aP.cells [t.ar,(AV.int .i64 t.rest),(AV.int .i64 t.day)] 24 false)):∀(k_ i_:Nat) (uX:List Int) (z1:AV) (_:i_+k_=l_.length) (x:Nat→AV) (hh:aq) (aX:Tidy hh) (a_:Has h hh) (B_:h.nx≤hh.nx) (T5:gd 40 h hh z1 (zs .u8 uX)) (Xk:uX.length≤i_),jC (dH (d+2)) oo ⟨((x 0)::bk::(AV.ptr pL 0)::rx x 3 6 (z1::(AV.int .i64 ((i_:Nat):Int))::rx x 11 82 [])),hh,[],.no⟩ (.exit 3) h 40 (fun r z y=>((y 0)::bk::(AV.ptr pL 0)::rx y 3 6 (z::rx y 10 83 []))) (fun r=>zs .u8 r) l_.length (cd t l_ k_ i_ uX)
 | 0,i1,uX,z1,pB,x,hh,aX,a_,B_,T5,Xk=>by
   have DB:=x7.small
   have PA:=Jq.small
   have PB:=di _ _ x8
   have jG:dU (some (.slice 34)) (some bk)=some (AV.int .i64 ((l_.length:Nat):Int)):=(x7.has a_).len
   have q2:(decide (((i1:Nat):Int)<((l_.length:Nat):Int)))=false:=d!
   have ev:=pk (d+2) oo ((x 0)::bk::(AV.ptr pL 0)::rx x 3 6 (z1::(AV.int .i64 ((i1:Nat):Int))::rx x 11 82 [])) hh (.exit 3) hh (CN 2<|VV jG<|VV (bz 3 false false .i64 ((i1:Nat):Int) ((l_.length:Nat):Int))<|BB q2<|ZZ) k!
   exact jC.out uX z1 rfl ev ⟨aX,a_,by omega⟩ T5 (by show (zs _ _).length≤_;rw[kW];omega) k!
 | Pz+1,i1,uX,z1,pB,x,hh,aX,a_,B_,T5,Xk=>by
   have DB:=x7.small
   have PA:=Jq.small
   have PB:=di _ _ x8
   have jG:dU (some (.slice 34)) (some bk)=some (AV.int .i64 ((l_.length:Nat):Int)):=(x7.has a_).len
   have q2:(decide (((i1:Nat):Int)<((l_.length:Nat):Int)))=true:=d!
   have k3:=F_ (d:=d) t l_ ((i1:Nat):Int) (aG.mono a_ L8) (x7.has a_) (by first | omega | assumption | (simp only[List.length_set,List.length_replicate,List.length_append,List.length_cons,List.length_nil,List.nil_append]<;>omega) | (rw[List.length_take];omega)) (by first | omega | assumption | (simp only[List.length_set,List.length_replicate,List.length_append,List.length_cons,List.length_nil,List.nil_append]<;>omega) | (rw[List.length_take];omega)) aX
   obtain ⟨h4,wC,qm,I7,kZ,eh⟩:=jA aX (aP.cells [(AV.int .u8 (cc t l_ ((i1:Nat):Int)))] 40 false)
   have lf:Has hh h4:=eh
   obtain ⟨z6,h5,Sm,lG,wH,VU,Zg⟩:=gd.RR (k:= .u8) (h0:=h) (tys:= #[37,37]) (v:=(cc t l_ ((i1:Nat):Int))) (L:=uX) qm di (a_.trans lf) o! (T5.has lf) kZ (by first | omega | (simp<;>omega)) rfl rfl k! k! k! (bytes:=1) k! (z0:=AV.int .u8 0) k! rfl (by decide)
   have u8:=fV 3 false true i1 1 o!
   have ev:=pk (d+2) oo ((x 0)::bk::(AV.ptr pL 0)::rx x 3 6 (z1::(AV.int .i64 ((i1:Nat):Int))::rx x 11 82 [])) hh .normal h5 (CN 2<|VV jG<|VV (bz 3 false false .i64 ((i1:Nat):Int) ((l_.length:Nat):Int))<|BB q2<|CC<|MM (au 24 0 (AV.agg [t.ar,(AV.int .i64 t.rest),(AV.int .i64 t.day)]) (a_ _ _ x8) k!)<|CN 2<|EE k3<|NN wC (fun i=>(AV.slice i 0 1 1 false))<|PP (show bN env h4 #[37,37] z1 (AV.slice hh.nx 0 1 1 false)=some (z6,h5) from Sm)<|CN 2<|VV u8<|CC<|ZZ) k!
   exact jC.round (by simp only[cd,cond_true,cond_false]) ev (fun x=>((x 0)::bk::(AV.ptr pL 0)::rx x 3 6 (z6::(AV.int .i64 (((i1+1):Nat):Int))::rx x 11 82 []))) k! (fun x=>ku bk l_ t pL x7 Jq L8 VT di x8 Pz (i1+1) (uX++[(cc t l_ ((i1:Nat):Int))]) z6 o! x h5 lG VU o! Zg (by first | omega | (simp<;>omega)))
def aK (t:aH) (l_:List aw):List Int×Int:=(bif (decide ((aI t)=0)) then (bif (decide (128<((l_.length:Nat):Int))) then (bif (!decide ((aQ l_ l_.length 0 3)=0)) then ([],(aQ l_ l_.length 0 3)) else ((cd t l_ l_.length 0 ([])),0)) else (bif (!decide ((aQ l_ l_.length 0 (aI t))=0)) then ([],(aQ l_ l_.length 0 (aI t))) else ((cd t l_ l_.length 0 ([])),0))) else (bif (!decide ((aQ l_ l_.length 0 (aI t))=0)) then ([],(aQ l_ l_.length 0 (aI t))) else ((cd t l_ l_.length 0 ([])),0)))
theorem DC {d:Nat} {h:aq} {bk:AV} (t:aH) (l_:List aw) (g6:aG.ok h t) (cR:bf h bk l_) (di:Tidy h):∃z hk,dH (d+3) (.fn 8) [(AV.agg [t.ar,(AV.int .i64 t.rest),(AV.int .i64 t.day)]),bk] h= .ret (AV.tuple [z,(AV.int .i64 ((aK t l_).2))]) hk∧b4 h hk∧ff hk .u8 40 z (aK t l_).1∧gd 40 h hk z (zs .u8 (aK t l_).1):=by
 have pH:=cR.small
 obtain ⟨h1,bJ,cK,lD,aO,dI⟩:=jA di (aP.cells [t.ar,(AV.int .i64 t.rest),(AV.int .i64 t.day)] 24 false)
 have bR:Has h h1:=dI
 have k2:=w7 (d:=d) t (aG.mono bR g6) cK
 rcases Bool.eq_false_or_eq_true (decide ((aI t)=0)) with f0 | f0
 · have dY:=of_decide_eq_true f0
   have GU:dU (some (.slice 34)) (some bk)=some (AV.int .i64 ((l_.length:Nat):Int)):=cR.len
   rcases Bool.eq_false_or_eq_true (decide (128<((l_.length:Nat):Int))) with f1 | f1
   · have gF:=of_decide_eq_true f1
     obtain ⟨F',h7,w_,At,L9⟩:=db (d:=d) (h:=h) bk l_ t h.nx cR g6 g6 l_.length 0 3 o! (fun k_=>(((AV.agg [t.ar,(AV.int .i64 t.rest),(AV.int .i64 t.day)])::bk::(AV.ptr h.nx 0)::AV.undef::AV.aF::(AV.int .i64 0)::(AV.int .i64 3)::(AV.int .i64 0)::AV.undef::AV.undef::AV.undef::(AV.agg [t.ar,(AV.int .i64 t.rest),(AV.int .i64 t.day)])::(AV.int .i64 (aI t))::(AV.int .i64 (aI t))::(AV.bool (decide ((aI t)=0)))::(AV.bool (decide ((aI t)=0)))::bk::(AV.int .i64 ((l_.length:Nat):Int))::(AV.bool (decide (128<((l_.length:Nat):Int))))::(AV.bool (decide (128<((l_.length:Nat):Int))))::cx 73):List AV).getD k_ AV.undef) h1 cK bR aO
     have jm:=At.y
     have VW:h1.nx≤h7.nx:=At.n
     have fh:Has h h7:=bR.trans At.a
     rcases Bool.eq_false_or_eq_true (!decide ((aQ l_ l_.length 0 3)=0)) with f2 | f2
     · have lh:=qZ f2
       have ev:=pk (d+2) dW ((AV.agg [t.ar,(AV.int .i64 t.rest),(AV.int .i64 t.day)])::bk::cx 91) h .ret h7 (NN bJ (fun i=>(AV.ptr i 0))<|CN 2<|MM (au 24 0 (AV.agg [t.ar,(AV.int .i64 t.rest),(AV.int .i64 t.day)]) aO k!)<|EE k2<|CN 2<|VV (cM 30 false true .i64 (aI t) 0)<|CC<|BB f0<|CC<|BB f0<|VV GU<|BB f0<|VV (cI 3 false true .i64 ((l_.length:Nat):Int) 128)<|VV (aM (a:=some (AV.bool (decide (128<((l_.length:Nat):Int))))) (b:=some (AV.bool false)) f0)<|BB f1<|CN 2<|LL w_<|CC<|VV (cJ 30 false true .i64 (aQ l_ l_.length 0 3) 0)<|BB f2<|CN 3<|ZZ) k!
       have e:aK t l_=([],(aQ l_ l_.length 0 3)):=by simp only[aK,f0,f1,f2,cond_true,cond_false]
       rw[e]
       exact ⟨.aF,gC rfl (bb Tryz.func8 ke k! (.inr rfl) ev k!) di ⟨jm,fh,by omega⟩ (P:=fun hh=>ff hh .u8 40 .aF []∧gd 40 h hh .aF (zs .u8 [])) ⟨ff.nil k! k!,.inl ⟨rfl,rfl⟩⟩ fun _=>⟨ff.nil k! k!,.inl ⟨rfl,rfl⟩⟩⟩
     · have lh:=ra f2
       obtain ⟨DD,Zh,yS,DE,sC,Jh,Cf⟩:=ku (d:=d) (h:=h7) bk l_ t h.nx (cR.has fh) (g6.has fh) (aG.mono fh g6) (by first | omega | exact (jh (v:=3) (by decide) (by assumption)).elim | exact (jh (v:=aI t) (by assumption) (by assumption)).elim) jm (At.a _ _ aO) l_.length 0 ([]) AV.aF o! (fun k_=>(((F' 0)::bk::(AV.ptr h.nx 0)::rx F' 3 3 ((AV.int .i64 (aQ l_ l_.length 0 3))::(F' 7)::(F' 8)::AV.aF::(AV.int .i64 0)::rx F' 11 65 ((AV.int .i64 (aQ l_ l_.length 0 3))::(AV.bool (!decide ((aQ l_ l_.length 0 3)=0)))::rx F' 78 15 []))):List AV).getD k_ AV.undef) h7 jm (Has.refl _) (Nat.le_refl _) (.inl ⟨rfl,rfl⟩) (Nat.zero_le _)
       rw[kW] at Cf
       have uy:=sC.y
       have Nb:h7.nx≤yS.nx:=sC.n
       have uB:Has h yS:=fh.trans sC.a
       have Jr:Has h7 yS:=sC.a
       have ev:=pk (d+2) dW ((AV.agg [t.ar,(AV.int .i64 t.rest),(AV.int .i64 t.day)])::bk::cx 91) h .ret yS (NN bJ (fun i=>(AV.ptr i 0))<|CN 2<|MM (au 24 0 (AV.agg [t.ar,(AV.int .i64 t.rest),(AV.int .i64 t.day)]) aO k!)<|EE k2<|CN 2<|VV (cM 30 false true .i64 (aI t) 0)<|CC<|BB f0<|CC<|BB f0<|VV GU<|BB f0<|VV (cI 3 false true .i64 ((l_.length:Nat):Int) 128)<|VV (aM (a:=some (AV.bool (decide (128<((l_.length:Nat):Int))))) (b:=some (AV.bool false)) f0)<|BB f1<|CN 2<|LL w_<|CC<|VV (cJ 30 false true .i64 (aQ l_ l_.length 0 3) 0)<|BB f2<|CN 2<|LL DE<|CN 3<|ZZ) k!
       have e:aK t l_=((cd t l_ l_.length 0 ([])),0):=by simp only[aK,f0,f1,f2,cond_true,cond_false]
       rw[e]
       have oz:=gd.le (h0:=h) Jh o!
       exact ⟨DD,gC rfl (bb Tryz.func8 ke k! (.inr rfl) ev k!) di ⟨uy,uB,by omega⟩ (P:=fun hh=>ff hh .u8 40 DD (cd t l_ l_.length 0 ([]))∧gd 40 h hh DD (zs .u8 (cd t l_ l_.length 0 ([])))) ⟨oz.zs o! k! k!,oz⟩ fun v=>⟨oz.EB (mE v) k! k!,oz.EF (mE v)⟩⟩
   · have gF:=of_decide_eq_false f1
     obtain ⟨F',h7,w_,At,L9⟩:=db (d:=d) (h:=h) bk l_ t h.nx cR g6 g6 l_.length 0 (aI t) o! (fun k_=>(((AV.agg [t.ar,(AV.int .i64 t.rest),(AV.int .i64 t.day)])::bk::(AV.ptr h.nx 0)::AV.undef::AV.aF::(AV.int .i64 0)::(AV.int .i64 (aI t))::(AV.int .i64 0)::AV.undef::AV.undef::AV.undef::(AV.agg [t.ar,(AV.int .i64 t.rest),(AV.int .i64 t.day)])::(AV.int .i64 (aI t))::(AV.int .i64 (aI t))::(AV.bool (decide ((aI t)=0)))::(AV.bool (decide ((aI t)=0)))::bk::(AV.int .i64 ((l_.length:Nat):Int))::(AV.bool (decide (128<((l_.length:Nat):Int))))::(AV.bool (decide (128<((l_.length:Nat):Int))))::cx 73):List AV).getD k_ AV.undef) h1 cK bR aO
     have jm:=At.y
     have VW:h1.nx≤h7.nx:=At.n
     have fh:Has h h7:=bR.trans At.a
     rcases Bool.eq_false_or_eq_true (!decide ((aQ l_ l_.length 0 (aI t))=0)) with f2 | f2
     · have lh:=qZ f2
       have ev:=pk (d+2) dW ((AV.agg [t.ar,(AV.int .i64 t.rest),(AV.int .i64 t.day)])::bk::cx 91) h .ret h7 (NN bJ (fun i=>(AV.ptr i 0))<|CN 2<|MM (au 24 0 (AV.agg [t.ar,(AV.int .i64 t.rest),(AV.int .i64 t.day)]) aO k!)<|EE k2<|CN 2<|VV (cM 30 false true .i64 (aI t) 0)<|CC<|BB f0<|CC<|BB f0<|VV GU<|BB f0<|VV (cI 3 false true .i64 ((l_.length:Nat):Int) 128)<|VV (aM (a:=some (AV.bool (decide (128<((l_.length:Nat):Int))))) (b:=some (AV.bool false)) f0)<|BB f1<|CC<|LL w_<|CC<|VV (cJ 30 false true .i64 (aQ l_ l_.length 0 (aI t)) 0)<|BB f2<|CN 3<|ZZ) k!
       have e:aK t l_=([],(aQ l_ l_.length 0 (aI t))):=by simp only[aK,f0,f1,f2,cond_true,cond_false]
       rw[e]
       exact ⟨.aF,gC rfl (bb Tryz.func8 ke k! (.inr rfl) ev k!) di ⟨jm,fh,by omega⟩ (P:=fun hh=>ff hh .u8 40 .aF []∧gd 40 h hh .aF (zs .u8 [])) ⟨ff.nil k! k!,.inl ⟨rfl,rfl⟩⟩ fun _=>⟨ff.nil k! k!,.inl ⟨rfl,rfl⟩⟩⟩
     · have lh:=ra f2
       obtain ⟨DD,Zh,yS,DE,sC,Jh,Cf⟩:=ku (d:=d) (h:=h7) bk l_ t h.nx (cR.has fh) (g6.has fh) (aG.mono fh g6) (by first | omega | exact (jh (v:=3) (by decide) (by assumption)).elim | exact (jh (v:=aI t) (by assumption) (by assumption)).elim) jm (At.a _ _ aO) l_.length 0 ([]) AV.aF o! (fun k_=>(((F' 0)::bk::(AV.ptr h.nx 0)::rx F' 3 3 ((AV.int .i64 (aQ l_ l_.length 0 (aI t)))::(F' 7)::(F' 8)::AV.aF::(AV.int .i64 0)::rx F' 11 65 ((AV.int .i64 (aQ l_ l_.length 0 (aI t)))::(AV.bool (!decide ((aQ l_ l_.length 0 (aI t))=0)))::rx F' 78 15 []))):List AV).getD k_ AV.undef) h7 jm (Has.refl _) (Nat.le_refl _) (.inl ⟨rfl,rfl⟩) (Nat.zero_le _)
       rw[kW] at Cf
       have uy:=sC.y
       have Nb:h7.nx≤yS.nx:=sC.n
       have uB:Has h yS:=fh.trans sC.a
       have Jr:Has h7 yS:=sC.a
       have ev:=pk (d+2) dW ((AV.agg [t.ar,(AV.int .i64 t.rest),(AV.int .i64 t.day)])::bk::cx 91) h .ret yS (NN bJ (fun i=>(AV.ptr i 0))<|CN 2<|MM (au 24 0 (AV.agg [t.ar,(AV.int .i64 t.rest),(AV.int .i64 t.day)]) aO k!)<|EE k2<|CN 2<|VV (cM 30 false true .i64 (aI t) 0)<|CC<|BB f0<|CC<|BB f0<|VV GU<|BB f0<|VV (cI 3 false true .i64 ((l_.length:Nat):Int) 128)<|VV (aM (a:=some (AV.bool (decide (128<((l_.length:Nat):Int))))) (b:=some (AV.bool false)) f0)<|BB f1<|CC<|LL w_<|CC<|VV (cJ 30 false true .i64 (aQ l_ l_.length 0 (aI t)) 0)<|BB f2<|CN 2<|LL DE<|CN 3<|ZZ) k!
       have e:aK t l_=((cd t l_ l_.length 0 ([])),0):=by simp only[aK,f0,f1,f2,cond_true,cond_false]
       rw[e]
       have oz:=gd.le (h0:=h) Jh o!
       exact ⟨DD,gC rfl (bb Tryz.func8 ke k! (.inr rfl) ev k!) di ⟨uy,uB,by omega⟩ (P:=fun hh=>ff hh .u8 40 DD (cd t l_ l_.length 0 ([]))∧gd 40 h hh DD (zs .u8 (cd t l_ l_.length 0 ([])))) ⟨oz.zs o! k! k!,oz⟩ fun v=>⟨oz.EB (mE v) k! k!,oz.EF (mE v)⟩⟩
 · have dY:=of_decide_eq_false f0
   obtain ⟨du,h5,cV,cf,EJ⟩:=db (d:=d) (h:=h) bk l_ t h.nx cR g6 g6 l_.length 0 (aI t) o! (fun k_=>(((AV.agg [t.ar,(AV.int .i64 t.rest),(AV.int .i64 t.day)])::bk::(AV.ptr h.nx 0)::AV.undef::AV.aF::(AV.int .i64 0)::(AV.int .i64 (aI t))::(AV.int .i64 0)::AV.undef::AV.undef::AV.undef::(AV.agg [t.ar,(AV.int .i64 t.rest),(AV.int .i64 t.day)])::(AV.int .i64 (aI t))::(AV.int .i64 (aI t))::(AV.bool (decide ((aI t)=0)))::(AV.bool (decide ((aI t)=0)))::AV.undef::AV.undef::AV.undef::(AV.bool false)::cx 73):List AV).getD k_ AV.undef) h1 cK bR aO
   have lG:=cf.y
   have wH:h1.nx≤h5.nx:=cf.n
   have ie:Has h h5:=bR.trans cf.a
   rcases Bool.eq_false_or_eq_true (!decide ((aQ l_ l_.length 0 (aI t))=0)) with f1 | f1
   · have gF:=qZ f1
     have ev:=pk (d+2) dW ((AV.agg [t.ar,(AV.int .i64 t.rest),(AV.int .i64 t.day)])::bk::cx 91) h .ret h5 (NN bJ (fun i=>(AV.ptr i 0))<|CN 2<|MM (au 24 0 (AV.agg [t.ar,(AV.int .i64 t.rest),(AV.int .i64 t.day)]) aO k!)<|EE k2<|CN 2<|VV (cM 30 false true .i64 (aI t) 0)<|CC<|BB f0<|BB f0<|BB f0<|VV (aL (a:=some AV.undef) (b:=some (AV.bool false)) f0)<|FF<|CC<|LL cV<|CC<|VV (cJ 30 false true .i64 (aQ l_ l_.length 0 (aI t)) 0)<|BB f1<|CN 3<|ZZ) k!
     have e:aK t l_=([],(aQ l_ l_.length 0 (aI t))):=by simp only[aK,f0,f1,cond_true,cond_false]
     rw[e]
     exact ⟨.aF,gC rfl (bb Tryz.func8 ke k! (.inr rfl) ev k!) di ⟨lG,ie,by omega⟩ (P:=fun hh=>ff hh .u8 40 .aF []∧gd 40 h hh .aF (zs .u8 [])) ⟨ff.nil k! k!,.inl ⟨rfl,rfl⟩⟩ fun _=>⟨ff.nil k! k!,.inl ⟨rfl,rfl⟩⟩⟩
   · have gF:=ra f1
     obtain ⟨VX,Z9,h8,PC,L_,VY,VZ⟩:=ku (d:=d) (h:=h5) bk l_ t h.nx (cR.has ie) (g6.has ie) (aG.mono ie g6) (by first | omega | exact (jh (v:=3) (by decide) (by assumption)).elim | exact (jh (v:=aI t) (by assumption) (by assumption)).elim) lG (cf.a _ _ aO) l_.length 0 ([]) AV.aF o! (fun k_=>(((du 0)::bk::(AV.ptr h.nx 0)::rx du 3 3 ((AV.int .i64 (aQ l_ l_.length 0 (aI t)))::(du 7)::(du 8)::AV.aF::(AV.int .i64 0)::rx du 11 65 ((AV.int .i64 (aQ l_ l_.length 0 (aI t)))::(AV.bool (!decide ((aQ l_ l_.length 0 (aI t))=0)))::rx du 78 15 []))):List AV).getD k_ AV.undef) h5 lG (Has.refl _) (Nat.le_refl _) (.inl ⟨rfl,rfl⟩) (Nat.zero_le _)
     rw[kW] at VZ
     have Pw:=L_.y
     have Zi:h5.nx≤h8.nx:=L_.n
     have Px:Has h h8:=ie.trans L_.a
     have T6:Has h5 h8:=L_.a
     have ev:=pk (d+2) dW ((AV.agg [t.ar,(AV.int .i64 t.rest),(AV.int .i64 t.day)])::bk::cx 91) h .ret h8 (NN bJ (fun i=>(AV.ptr i 0))<|CN 2<|MM (au 24 0 (AV.agg [t.ar,(AV.int .i64 t.rest),(AV.int .i64 t.day)]) aO k!)<|EE k2<|CN 2<|VV (cM 30 false true .i64 (aI t) 0)<|CC<|BB f0<|BB f0<|BB f0<|VV (aL (a:=some AV.undef) (b:=some (AV.bool false)) f0)<|FF<|CC<|LL cV<|CC<|VV (cJ 30 false true .i64 (aQ l_ l_.length 0 (aI t)) 0)<|BB f1<|CN 2<|LL PC<|CN 3<|ZZ) k!
     have e:aK t l_=((cd t l_ l_.length 0 ([])),0):=by simp only[aK,f0,f1,cond_true,cond_false]
     rw[e]
     have oz:=gd.le (h0:=h) VY o!
     exact ⟨VX,gC rfl (bb Tryz.func8 ke k! (.inr rfl) ev k!) di ⟨Pw,Px,by omega⟩ (P:=fun hh=>ff hh .u8 40 VX (cd t l_ l_.length 0 ([]))∧gd 40 h hh VX (zs .u8 (cd t l_ l_.length 0 ([])))) ⟨oz.zs o! k! k!,oz⟩ fun v=>⟨oz.EB (mE v) k! k!,oz.EF (mE v)⟩⟩
theorem oq {x:Int} (h:aZ x=true):0≤x∧x≤100000:=by
 unfold aZ at h
 by_cases q:0≤x
 · rw[decide_eq_true q] at h;exact ⟨q,of_decide_eq_true h⟩
 · rw[decide_eq_false q] at h;cases h
theorem ml {t:aH}:∀{k i:Nat},bX t k i=none→∀j,i≤j→j<i+k→0≤(t.rows.g j).out∧(t.rows.g j).out≤100000
 | 0,i,_,j,h1,h2=>by omega
 | k+1,i,h,j,h1,h2=>by
   rw[bX] at h
   cases q1:aZ (t.rows.g i).ab with
   | false=>rw[q1] at h;cases h
   | true=>
     cases q2:aZ (t.rows.g i).ae with
     | false=>rw[q1,q2] at h;cases h
     | true=>
       cases q3:aZ (t.rows.g i).out with
       | false=>rw[q1,q2,q3] at h;cases h
       | true=>
         rw[q1,q2,q3] at h
         by_cases e:j=i
         · rw[e];exact oq q3
         · exact ml (k:=k) (i:=i+1) h j (by omega) (by omega)
theorem mm {t:aH}:∀{k i:Nat} {r:Int},bX t k i=some r→r=1
 | 0,i,r,h=>by cases h
 | k+1,i,r,h=>by
   rw[bX] at h
   cases q1:aZ (t.rows.g i).ab with
   | false=>rw[q1] at h;cases h;rfl
   | true=>
     cases q2:aZ (t.rows.g i).ae with
     | false=>rw[q1,q2] at h;cases h;rfl
     | true=>
       cases q3:aZ (t.rows.g i).out with
       | false=>rw[q1,q2,q3] at h;cases h;rfl
       | true=>rw[q1,q2,q3] at h;exact mm (k:=k) (i:=i+1) h
theorem oA {t:aH} (h:aI t=0):(∀j,j<t.rows.length→0≤(t.rows.g j).out∧(t.rows.g j).out≤100000)∧0≤t.rest∧t.rest≤100000∧0≤t.day∧t.day≤100000:=by
 unfold aI at h
 cases q0:decide (64<((t.rows.length:Nat):Int)) with
 | true=>rw[q0] at h;cases h
 | false=>
   rw[q0] at h
   cases q1:bX t t.rows.length 0 with
   | some r=>rw[q1] at h;have:=mm q1;subst this;cases h
   | none=>
     rw[q1] at h
     cases q2:aZ t.rest with
     | false=>rw[q2] at h;cases h
     | true=>
       cases q3:aZ t.day with
       | false=>rw[q2,q3] at h;cases h
       | true=>
         refine ⟨fun j hj=>ml q1 j (by omega) (by omega),?_⟩
         have a:=oq q2
         have b:=oq q3
         omega
theorem mV {t:aH} {p m:Int} (f:∀j,j<t.rows.length→0≤(t.rows.g j).out∧(t.rows.g j).out≤100000):∀{k i:Nat} {r:Int},i+k≤t.rows.length→cF t p m k i=some r→0≤r∧r≤100000
 | 0,i,r,hk,h=>by cases h
 | k+1,i,r,hk,h=>by
   rw[cF] at h
   cases q1:decide (p≤(t.rows.g i).ab) with
   | false=>rw[q1] at h;exact mV f (k:=k) (i:=i+1) (by omega) h
   | true=>
     cases q2:decide (m≤(t.rows.g i).ae) with
     | false=>rw[q1,q2] at h;exact mV f (k:=k) (i:=i+1) (by omega) h
     | true=>rw[q1,q2] at h;cases h;exact f i (by omega)
theorem DF {t:aH} (p m:Int) (f:∀j,j<t.rows.length→0≤(t.rows.g j).out∧(t.rows.g j).out≤100000): -1≤bK t p m∧bK t p m≤100000:=by
 unfold bK
 cases q:cF t p m t.rows.length 0 with
 | none=>exact ⟨by decide,by decide⟩
 | some r=>have:=mV f (by omega) q;exact ⟨by show -1≤r;omega,by show r≤100000;omega⟩
theorem hQ {l:List aw}:∀{k i:Nat} {v:Int},v≠0→aQ l k i v=v
 | 0,i,v,h=>rfl
 | k+1,i,v,h=>by rw[aQ,decide_eq_false h];rfl
theorem PD (x y:Int):x≤imax x y∧y≤imax x y∧(imax x y=x∨imax x y=y):=by unfold imax;split<;>omega
noncomputable def gP:Code:=(Tryz.f6.body).getD .skip
theorem mn:Tryz.f6.body=some gP:=by kernel_rfl
def ag (t:aH) (ab:Int) (ae:Int):Int×Int:=(bif (!decide ((br t)=0)) then (0,(br t)) else (bif (!(bq ab)) then (0,1) else (bif (!(bq ae)) then (0,1) else (bif (!((aA t ab ae).2)) then (0,7) else ((((aA t ab ae).1).out),0)))))
theorem xa {d:Nat} {h:aq} (t:aH) (ab:Int) (ae:Int) (g6:aG.ok h t) (di:Tidy h):dH (d+6) (.fn 6) [(AV.agg [t.ar,(AV.int .i64 t.rest),(AV.int .i64 t.day)]),(AV.int .i64 ab),(AV.int .i64 ae)] h= .ret (AV.tuple [(AV.int .i64 ((ag t ab ae).1)),(AV.int .i64 ((ag t ab ae).2))]) h:=by
 obtain ⟨h1,bJ,cK,lD,aO,dI⟩:=jA di (aP.cells [t.ar,(AV.int .i64 t.rest),(AV.int .i64 t.day)] 24 false)
 have bR:Has h h1:=dI
 have k2:=pE (d:=d) t (aG.mono bR g6) cK
 rcases Bool.eq_false_or_eq_true (!decide ((br t)=0)) with f0 | f0
 · have dY:=qZ f0
   have ev:=pk (d+5) gP ((AV.agg [t.ar,(AV.int .i64 t.rest),(AV.int .i64 t.day)])::(AV.int .i64 ab)::(AV.int .i64 ae)::cx 32) h .ret h1 (NN bJ (fun i=>(AV.ptr i 0))<|CN 2<|MM (au 24 0 (AV.agg [t.ar,(AV.int .i64 t.rest),(AV.int .i64 t.day)]) aO k!)<|EE k2<|CN 2<|VV (cJ 30 false true .i64 (br t) 0)<|BB f0<|CN 3<|ZZ) k!
   have e:ag t ab ae=(0,(br t)):=by simp only[ag,f0,cond_true,cond_false]
   rw[e]
   exact ay rfl (bb Tryz.func6 mn k! (.inr rfl) ev k!) bR rfl
 · have dY:=ra f0
   have k4:=cW (d:=d+3) ab cK
   rcases Bool.eq_false_or_eq_true (!(bq ab)) with f1 | f1
   · have ev:=pk (d+5) gP ((AV.agg [t.ar,(AV.int .i64 t.rest),(AV.int .i64 t.day)])::(AV.int .i64 ab)::(AV.int .i64 ae)::cx 32) h .ret h1 (NN bJ (fun i=>(AV.ptr i 0))<|CN 2<|MM (au 24 0 (AV.agg [t.ar,(AV.int .i64 t.rest),(AV.int .i64 t.day)]) aO k!)<|EE k2<|CN 2<|VV (cJ 30 false true .i64 (br t) 0)<|BB f0<|CC<|EE k4<|CN 2<|BB f1<|BB f1<|BB f1<|VV (aM (a:=some (AV.bool true)) (b:=some AV.undef) f1)<|TT<|CN 2<|ZZ) k!
     have e:ag t ab ae=(0,1):=by simp only[ag,f0,f1,cond_true,cond_false]
     rw[e]
     exact ay rfl (bb Tryz.func6 mn k! (.inr rfl) ev k!) bR rfl
   · have k6:=cW (d:=d+3) ae cK
     rcases Bool.eq_false_or_eq_true (!(bq ae)) with f2 | f2
     · have ev:=pk (d+5) gP ((AV.agg [t.ar,(AV.int .i64 t.rest),(AV.int .i64 t.day)])::(AV.int .i64 ab)::(AV.int .i64 ae)::cx 32) h .ret h1 (NN bJ (fun i=>(AV.ptr i 0))<|CN 2<|MM (au 24 0 (AV.agg [t.ar,(AV.int .i64 t.rest),(AV.int .i64 t.day)]) aO k!)<|EE k2<|CN 2<|VV (cJ 30 false true .i64 (br t) 0)<|BB f0<|CC<|EE k4<|CN 2<|BB f1<|CC<|BB f1<|EE k6<|BB f1<|CC<|VV (aL (a:=some (AV.bool true)) (b:=some (AV.bool (!(bq ae)))) f1)<|BB f2<|CN 2<|ZZ) k!
       have e:ag t ab ae=(0,1):=by simp only[ag,f0,f1,f2,cond_true,cond_false]
       rw[e]
       exact ay rfl (bb Tryz.func6 mn k! (.inr rfl) ev k!) bR rfl
     · have k8:=re (d:=d+2) t ab ae (aG.mono bR g6) cK
       obtain ⟨h9,LZ,jW,Pl,gq,Pm⟩:=jA cK (aP.cells [(AV.int .i64 0),(AV.int .i64 0),(AV.int .i64 0)] 29 false)
       have jn:Has h h9:=bR.trans Pm
       obtain ⟨yS,Nl,uy,Sn,Js,PE⟩:=lC (t:=29) (n:=3) (i:=h1.nx) (L:=[(AV.int .i64 (((aA t ab ae).1).ab)),(AV.int .i64 (((aA t ab ae).1).ae)),(AV.int .i64 (((aA t ab ae).1).out))]) jW gq k! rfl rfl (by simp only[AV.cells,List.all_cons,List.all_nil,Bool.and_true,Bool.and_self,dL,cO,dM,dN,cu,fQ,fR,fS,fT,fU,dO])
       have uB:Has h yS:=Has.ca jn PE di o!
       rcases Bool.eq_false_or_eq_true (!((aA t ab ae).2)) with f3 | f3
       · have ev:=pk (d+5) gP ((AV.agg [t.ar,(AV.int .i64 t.rest),(AV.int .i64 t.day)])::(AV.int .i64 ab)::(AV.int .i64 ae)::cx 32) h .ret yS (NN bJ (fun i=>(AV.ptr i 0))<|CN 2<|MM (au 24 0 (AV.agg [t.ar,(AV.int .i64 t.rest),(AV.int .i64 t.day)]) aO k!)<|EE k2<|CN 2<|VV (cJ 30 false true .i64 (br t) 0)<|BB f0<|CC<|EE k4<|CN 2<|BB f1<|CC<|BB f1<|EE k6<|BB f1<|CC<|VV (aL (a:=some (AV.bool true)) (b:=some (AV.bool (!(bq ae)))) f1)<|BB f2<|MM (au 24 0 (AV.agg [t.ar,(AV.int .i64 t.rest),(AV.int .i64 t.day)]) aO k!)<|CN 2<|EE k8<|CN 3<|NN LZ (fun i=>(AV.ptr i 0))<|SS Nl<|CN 3<|BB f3<|CN 2<|ZZ) k!
         have e:ag t ab ae=(0,7):=by simp only[ag,f0,f1,f2,f3,cond_true,cond_false]
         rw[e]
         exact ay rfl (bb Tryz.func6 mn k! (.inr rfl) ev k!) uB rfl
       · have ev:=pk (d+5) gP ((AV.agg [t.ar,(AV.int .i64 t.rest),(AV.int .i64 t.day)])::(AV.int .i64 ab)::(AV.int .i64 ae)::cx 32) h .ret yS (NN bJ (fun i=>(AV.ptr i 0))<|CN 2<|MM (au 24 0 (AV.agg [t.ar,(AV.int .i64 t.rest),(AV.int .i64 t.day)]) aO k!)<|EE k2<|CN 2<|VV (cJ 30 false true .i64 (br t) 0)<|BB f0<|CC<|EE k4<|CN 2<|BB f1<|CC<|BB f1<|EE k6<|BB f1<|CC<|VV (aL (a:=some (AV.bool true)) (b:=some (AV.bool (!(bq ae)))) f1)<|BB f2<|MM (au 24 0 (AV.agg [t.ar,(AV.int .i64 t.rest),(AV.int .i64 t.day)]) aO k!)<|CN 2<|EE k8<|CN 3<|NN LZ (fun i=>(AV.ptr i 0))<|SS Nl<|CN 3<|BB f3<|CC<|MM (au 3 2 (AV.int .i64 (((aA t ab ae).1).out)) Js k!)<|CN 2<|ZZ) k!
         have e:ag t ab ae=((((aA t ab ae).1).out),0):=by simp only[ag,f0,f1,f2,f3,cond_true,cond_false]
         rw[e]
         exact ay rfl (bb Tryz.func6 mn k! (.inr rfl) ev k!) uB rfl
def fe (f:Nat→Option Int):Nat→Nat→Option Int
 | 0,_=>none
 | k+1,i=>match f i with
   | some r=>some r
   | none=>fe f k (i+1)
def er (x:Int):Option Int:=bif !decide (x=0) then some x else none
theorem Jt (o:Option Int):(match o with | none=>0 | some r=>r)=o.getD 0:=by cases o<;>rfl
theorem PF {α:Type} [Inhabited α] {l:List α} {i j:Nat} (h:j<i):(l.take i).g j=l.g j:=by
 rw[List.g,List.g,List.getD_eq_getElem?_getD,List.getD_eq_getElem?_getD,List.getElem?_take_of_lt h]
theorem Ju {α:Type} {l:List α} {i:Nat} (h:i≤l.length):(l.take i).length=i:=by rw[List.length_take];omega
def rk (c:UInt8):Bool:=decide (97≤((c.toNat:Nat):Int))&&decide (((c.toNat:Nat):Int)≤122)
def digit (c:UInt8):Bool:=decide (48≤((c.toNat:Nat):Int))&&decide (((c.toNat:Nat):Int)≤57)
def dash (c:UInt8):Bool:=decide (((c.toNat:Nat):Int)=45)
def sD (f:Nat→Bool):Nat→Nat→Bool
 | 0,_=>true
 | k+1,i=>f i&&sD f k (i+1)
theorem all_congr {f g:Nat→Bool}:∀(k i:Nat),(∀j,i≤j→j<i+k→f j=g j)→sD f k i=sD g k i
 | 0,_,_=>rfl
 | k+1,i,h=>by
   rw[sD,sD,h i (Nat.le_refl _) (by omega),all_congr k (i+1) fun j h1 h2=>h j (by omega) (by omega)]
theorem EN (a b:Int):decide (a<b)= !decide (b≤a):=by
 by_cases h:a<b
 · rw[decide_eq_true h,decide_eq_false (by omega)];rfl
 · rw[decide_eq_false h,decide_eq_true (by omega)];rfl
theorem yV (s:List UInt8):∀(k i:Nat),bt s k i=bif sD (fun j=>rk (s.g j)||(!decide ((j:Int)=0)&&(digit (s.g j)||dash (s.g j)))) k i then none else some false
 | 0,_=>rfl
 | k+1,i=>by
   rw[bt,sD,yV s k (i+1),rk,digit,dash]
   generalize sD _ k (i+1)=z
   generalize decide (97≤(((s.g i).toNat:Nat):Int))=a
   generalize decide ((((s.g i).toNat:Nat):Int)≤122)=b
   generalize decide (48≤(((s.g i).toNat:Nat):Int))=c
   generalize decide ((((s.g i).toNat:Nat):Int)≤57)=d
   generalize decide ((((s.g i).toNat:Nat):Int)=45)=e
   generalize decide ((i:Int)=0)=f
   cases a<;>cases b<;>cases c<;>cases d<;>cases e<;>cases f<;>rfl
theorem yW (s:List UInt8):∀(k i:Nat),cy s k i=bif sD (fun j=>rk (s.g j)||(digit (s.g j)||dash (s.g j))) k i then none else some false
 | 0,_=>rfl
 | k+1,i=>by
   rw[cy,sD,yW s k (i+1),rk,digit,dash]
   simp only[EN]
   generalize sD _ k (i+1)=z
   generalize decide (97≤(((s.g i).toNat:Nat):Int))=a
   generalize decide ((((s.g i).toNat:Nat):Int)≤122)=b
   generalize decide (48≤(((s.g i).toNat:Nat):Int))=c
   generalize decide ((((s.g i).toNat:Nat):Int)≤57)=d
   generalize decide ((((s.g i).toNat:Nat):Int)=45)=e
   cases a<;>cases b<;>cases c<;>cases d<;>cases e<;>rfl
theorem Ma (s:List UInt8):dK s=gS s:=by
 unfold dK gS
 cases s with
 | nil=>rfl
 | cons x s=>
   rw[decide_eq_false (show ¬x::s=[] by simp),decide_eq_false (show ¬(((x::s).length:Nat):Int)=0 by simp;omega)]
   cases decide (16<(((x::s).length:Nat):Int)) with
   | true=>rfl
   | false=>
     rw[yV,yW,List.length_cons,sD,sD,EN,EN]
     rw[all_congr (f:=fun j=>rk ((x::s).g j)||(!decide ((j:Int)=0)&&(digit ((x::s).g j)||dash ((x::s).g j)))) (g:=fun j=>rk ((x::s).g j)||(digit ((x::s).g j)||dash ((x::s).g j))) s.length (0+1) fun j hj _=>by
      simp only[decide_eq_false (show ¬(j:Int)=0 by omega),Bool.not_false,Bool.true_and]]
     simp only[rk]
     rw[show decide (((0:Nat):Int)=0)=true from rfl]
     generalize sD _ s.length (0+1)=z
     generalize decide (97≤((((x::s).g 0).toNat:Nat):Int))=a
     generalize decide (((((x::s).g 0).toNat:Nat):Int)≤122)=b
     generalize digit ((x::s).g 0)=c
     generalize dash ((x::s).g 0)=e
     cases a<;>cases b<;>cases c<;>cases e<;>cases z<;>rfl
theorem Nm (f:Nat→Int):∀(k i:Nat),fe (fun j=>er (f j)) k i≠some 0
 | 0,_=>by simp [fe]
 | k+1,i=>by
   rw[fe,er]
   by_cases h:f i=0
   · rw[decide_eq_true h];exact Nm f k (i+1)
   · rw[decide_eq_false h];intro e;exact h (Option.some.inj e)
theorem eU (n:Int):bq n=aZ n:=rfl
theorem nw {x:Int} (h:aZ x=true):0≤x∧x≤100000:=oq h
theorem xb (P:Nat→Int) (l:List bn):∀(k i:Nat),cY P l k i=fe (fun j=>er (P j)) k i
 | 0,_=>rfl
 | k+1,i=>by
   rw[cY,fe,er,xb P l k (i+1)]
   cases (!decide (P i=0))<;>rfl
theorem mH (P:Nat→Int) (l:List aw):∀(k i:Nat),cL P l k i=fe (fun j=>er (P j)) k i
 | 0,_=>rfl
 | k+1,i=>by
   rw[cL,fe,er,mH P l k (i+1)]
   cases (!decide (P i=0))<;>rfl
theorem EO (t:aH) (f:Nat→List bn):∀(k i:Nat),bX t k i=fe (fun j=>er (bE (f j) (t.rows.g j))) k i
 | 0,_=>rfl
 | k+1,i=>by
   rw[bX,fe,EO t f k (i+1),bE,eU,eU,eU]
   cases aZ (t.rows.g i).ab<;>cases aZ (t.rows.g i).ae<;>cases aZ (t.rows.g i).out<;>rfl
theorem qF (t:aH):br t=aI t:=by
 unfold br aI bZ
 rw[xb,EO t (fun j=>List.take j t.rows)]
 cases decide (64<((t.rows.length:Nat):Int)) with
 | true=>rfl
 | false=>
   have nz:=Nm (fun j=>bE (List.take j t.rows) (t.rows.g j)) t.rows.length 0
   cases q:fe (fun j=>er (bE (List.take j t.rows) (t.rows.g j))) t.rows.length 0 with
   | none=>rfl
   | some r=>
     have:r≠0:=fun e=>nz (by rw[q,e])
     show (bif !decide (r=0) then r else _)=r
     rw[decide_eq_false this];rfl
theorem Jv (l:List aw):∀(k i:Nat),i+k≤l.length→aQ l k i 0=(fe (fun j=>er (bw (l.take j) (l.g j))) k i).getD 0
 | 0,_,_=>rfl
 | k+1,i,h=>by
   have ih:=Jv l k (i+1) (by omega)
   rw[aQ,fe,bw,eU,eU,eU,eU,Ma,Ju (by omega)]
   rw[show decide ((0:Int)=0)=true from rfl]
   simp only[cond_true]
   have Zj:aQ l k (i+1) 5=5:=hQ (by decide)
   have Zk:aQ l k (i+1) 1=1:=hQ (by decide)
   have Zl:aQ l k (i+1) 8=8:=hQ (by decide)
   rw[Zj,Zk,Zl,ih]
   cases gS (l.g i).worker with
   | false=>rfl
   | true=>
   cases aZ (l.g i).ab with
   | false=>rfl
   | true=>
   cases aZ (l.g i).aD with
   | false=>rfl
   | true=>
   cases aZ (l.g i).leave with
   | false=>rfl
   | true=>
   cases aZ (l.g i).out with
   | false=>rfl
   | true=>
   by_cases hi:0<i
   · rw[decide_eq_true (show 0<((i:Nat):Int) by omega),PF (show i - 1<i by omega)]
     cases decide ((l.g i).aD<(l.g (i - 1)).aD)<;>rfl
   · rw[decide_eq_false (show ¬0<((i:Nat):Int) by omega)];rfl
theorem pM (t:aH) (l:List aw):aK t l=bif !decide (bl t l=0) then ([],bl t l) else (cd t l l.length 0 [],0):=by
 unfold aK bl b8
 rw[qF,mH]
 by_cases h:aI t=0
 · rw[decide_eq_true h]
   cases decide (128<((l.length:Nat):Int)) with
   | true=>simp only[cond_true,Bool.not_true,cond_false];rw[hQ (show (3:Int)≠0 by decide)]
   | false=>
     simp only[cond_true,Bool.not_true,cond_false]
     rw[h,Jv l _ 0 (by omega)]
     rw[←Jt];rfl
 · rw[decide_eq_false h]
   simp only[Bool.not_false,cond_true,cond_false]
   rw[hQ h]
theorem EP (t:aH) (p m:Int):∀(k i:Nat),(b5 t.rows (fun y=>bM y p m) k i=none∧cF t p m k i=none)∨∃n:Nat,n<i+k∧b5 t.rows (fun y=>bM y p m) k i=some (n:Int)∧cF t p m k i=some (t.rows.g n).out
 | 0,_=> .inl ⟨rfl,rfl⟩
 | k+1,i=>by
   rw[b5,cF,bM]
   have step:(b5 t.rows (fun y=>bM y p m) k (i+1)=none∧cF t p m k (i+1)=none)∨∃n:Nat,n<i+(k+1)∧b5 t.rows (fun y=>bM y p m) k (i+1)=some (n:Int)∧cF t p m k (i+1)=some (t.rows.g n).out:=by
    rcases EP t p m k (i+1) with h | ⟨n,h1,h2,h3⟩
    · exact .inl h
    · exact .inr ⟨n,by omega,h2,h3⟩
   cases decide (p≤(t.rows.g i).ab) with
   | false=>exact step
   | true=>
     cases decide (m≤(t.rows.g i).ae) with
     | false=>exact step
     | true=>exact .inr ⟨i,by omega,rfl,rfl⟩
theorem yX (t:aH) (p m:Int) (ho:∀j,j<t.rows.length→0≤(t.rows.g j).out):
 ((aA t p m).2=false∧bK t p m= -1)∨((aA t p m).2=true∧(aA t p m).1.out=bK t p m∧0≤bK t p m):=by
 unfold aA bK bW
 rcases EP t p m t.rows.length 0 with ⟨h1,h2⟩ | ⟨n,h0,h1,h2⟩
 · rw[h1,h2];exact .inl ⟨rfl,rfl⟩
 · rw[h1,h2]
   have:=ho n (by omega)
   refine .inr ?_
   show (bif decide ((n:Int)<0) then ((⟨0,0,0⟩:bn),false) else (t.rows.g (Int.toNat n),true)).2=true∧(bif decide ((n:Int)<0) then ((⟨0,0,0⟩:bn),false) else (t.rows.g (Int.toNat n),true)).1.out=(t.rows.g n).out∧0≤(t.rows.g n).out
   rw[decide_eq_false (show ¬(n:Int)<0 by omega)]
   exact ⟨rfl,rfl,this⟩
theorem sE {t:aH} (h:aI t=0):∀j,j<t.rows.length→0≤(t.rows.g j).out∧(t.rows.g j).out≤100000:=(oA h).1
end Go.Proofs.aW
