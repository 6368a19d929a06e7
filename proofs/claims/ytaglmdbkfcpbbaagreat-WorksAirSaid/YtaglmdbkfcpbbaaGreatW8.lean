import Derived.Test.YtaglmdbkfcpbbaaGreatW0
import Derived.Test.YtaglmdbkfcpbbaaGreatW5
import Derived.Test.YtaglmdbkfcpbbaaGreatW6
import Derived.Test.YtaglmdbkfcpbbaaGreatW7
import Derived.Test.YtaglmdbkfcpbbaaGreatW3
import Derived.Test.YtaglmdbkfcpbbaaGreatW1
namespace Go.Proofs.bt
open Go.Proofs Ab
set_option maxRecDepth 100000
set_option maxHeartbeats 4000000
set_option linter.unusedVariables false
set_option linter.unusedSimpArgs false
noncomputable def fk:Code:=(Tryz.f11.body).getD .skip
theorem lH:Tryz.f11.body=some fk:=by kernel_rfl
noncomputable def eN:Code:=(dD fk).getD 0 .skip
noncomputable def pT:Code:=(dD fk).getD 1 .skip
def aS (l_:List aO):Nat→Nat→Int→Int
 | 0,_,cQ=>cQ
 | eG+1,i0,cQ=>(bif (decide (cQ=0)) then (bif (!(dS ((l_.g i0).worker))) then aS l_ eG (i0+1) 5 else (bif (!(aF ((l_.g i0).ab))) then aS l_ eG (i0+1) 1 else (bif (!(aF ((l_.g i0).aP))) then aS l_ eG (i0+1) 1 else (bif (!(aF ((l_.g i0).leave))) then aS l_ eG (i0+1) 1 else (bif (!(aF ((l_.g i0).out))) then aS l_ eG (i0+1) 1 else (bif (decide (0<((i0:Nat):Int))) then (bif (decide (((l_.g i0).aP)<((l_.g (i0 - 1)).aP))) then aS l_ eG (i0+1) 8 else aS l_ eG (i0+1) cQ) else aS l_ eG (i0+1) cQ)))))) else cQ)
theorem dq {d:Nat} {h:ar} (bA:AV) (l_:List aO) (t:aK) (cC:Nat) (bk:bD h bA l_) (ft:bD h t.ak t.rows) (l8:aD.ok h t):∀(k_ i_:Nat) (cQ:Int) (_:i_+k_=l_.length) (x:Nat→AV) (hh:ar) (bb:Tidy hh) (aR:Has h hh) (dg:hh.get cC=some (aH.cells [t.ak,(AV.int .i64 t.rest),(AV.int .i64 t.day)] 24 false)),dm (eD (d+2)) eN ⟨((x 0)::bA::(AV.ptr cC 0)::rx x 3 3 ((AV.int .i64 cQ)::(AV.int .i64 ((i_:Nat):Int))::rx x 8 85 [])),hh,[],.no⟩ (.exit 0) hh (fun r y=>((y 0)::bA::(AV.ptr cC 0)::rx y 3 3 ((AV.int .i64 r)::rx y 7 86 []))) (fun r=>True) (aS l_ k_ i_ cQ)
 | 0,i0,cQ,qo,x,hh,bb,aR,dg=>by
   have fK:=bk.small
   have lC:=ft.small
   have sW:=bb _ _ dg
   have hS:cJ (some (.slice 37)) (some bA)=some (AV.int .i64 ((l_.length:Nat):Int)):=(bk.has aR).len
   have q2:(decide (((i0:Nat):Int)<((l_.length:Nat):Int)))=false:=d!
   have ev:=pk (d+2) eN ((x 0)::bA::(AV.ptr cC 0)::rx x 3 3 ((AV.int .i64 cQ)::(AV.int .i64 ((i0:Nat):Int))::rx x 8 85 [])) hh (.exit 0) hh (CN 2<|VV hS<|VV (bT 3 false false .i64 ((i0:Nat):Int) ((l_.length:Nat):Int))<|CC<|BB q2<|BB q2<|VV (aJ (a:=some AV.undef) (b:=some (AV.bool false)) q2)<|FF<|ZZ) k!
   exact dm.out cQ rfl ev (cG.refl bb) trivial k!
 | eG+1,i0,cQ,qo,x,hh,bb,aR,dg=>by
   have fK:=bk.small
   have lC:=ft.small
   have sW:=bb _ _ dg
   rcases Bool.eq_false_or_eq_true (decide (cQ=0)) with f1 | f1
   · have jn:=of_decide_eq_true f1
     rcases Bool.eq_false_or_eq_true (!(dS ((l_.g i0).worker))) with f2 | f2
     · have hS:cJ (some (.slice 37)) (some bA)=some (AV.int .i64 ((l_.length:Nat):Int)):=(bk.has aR).len
       have q2:(decide (((i0:Nat):Int)<((l_.length:Nat):Int)))=true:=d!
       obtain ⟨p5,q6,nt⟩:=(bk.has aR).elem (i:=i0) o!
       have kB:c_ env (some (.slice 37)) (some bA) (some (AV.int .i64 ((i0:Nat):Int)))=some (AV.ptr p5 q6):=nt
       have FC:bN env hh 37 (AV.ptr p5 q6)=some (AV.agg [(AV.str ((l_.g i0).worker)),(AV.int .i64 ((l_.g i0).ab)),(AV.int .i64 ((l_.g i0).aP)),(AV.int .i64 ((l_.g i0).leave)),(AV.int .i64 ((l_.g i0).out))]):=(bk.has aR).load o! nt
       obtain ⟨h8,s6,cT,zO,me,nu⟩:=cj bb (aH.cells [(AV.str []),(AV.int .i64 0),(AV.int .i64 0),(AV.int .i64 0),(AV.int .i64 0)] 37 false)
       have dJ:Has hh h8:=nu
       obtain ⟨h9,rn,dZ,vx,eZ,iJ⟩:=dW (t:=37) (n:=5) (i:=hh.nx) (L:=[(AV.str ((l_.g i0).worker)),(AV.int .i64 ((l_.g i0).ab)),(AV.int .i64 ((l_.g i0).aP)),(AV.int .i64 ((l_.g i0).leave)),(AV.int .i64 ((l_.g i0).out))]) cT me k! rfl rfl (by simp only[AV.cells,List.all_cons,List.all_nil,Bool.and_true,Bool.and_self,bP,bB,bQ,bR,bl,cm,cn,cq,cr,ct,bS])
       have g8:Has hh h9:=Has.aU dJ iJ bb o!
       have jC:=eV (d:=d+1) ((l_.g i0).worker) ((bk.has aR).ok (i:=i0) o!) dZ
       have Wq:=hJ 3 false true i0 1 o!
       have ev:=pk (d+2) eN ((x 0)::bA::(AV.ptr cC 0)::rx x 3 3 ((AV.int .i64 cQ)::(AV.int .i64 ((i0:Nat):Int))::rx x 8 85 [])) hh .normal h9 (CN 2<|VV hS<|VV (bT 3 false false .i64 ((i0:Nat):Int) ((l_.length:Nat):Int))<|CC<|BB q2<|CC<|BB q2<|VV (dC 28 false true .i64 cQ 0)<|VV (aX (a:=some (AV.bool (decide (cQ=0)))) (b:=some (AV.bool false)) q2)<|BB f1<|CN 2<|VV kB<|MM FC<|NN s6 (fun i=>(AV.ptr i 0))<|SS rn<|CC<|MM (aw 9 0 (AV.str ((l_.g i0).worker)) eZ k!)<|EE jC<|CN 2<|BB f2<|CN 2<|VV Wq<|CC<|ZZ) k!
       exact dm.round (by simp only[aS,f1,f2,cond_true,cond_false]) ev (⟨dZ,g8,by omega⟩) (fun x=>((x 0)::bA::(AV.ptr cC 0)::rx x 3 3 ((AV.int .i64 5)::(AV.int .i64 (((i0+1):Nat):Int))::rx x 8 85 []))) k! (fun x=>dq bA l_ t cC bk ft l8 eG (i0+1) 5 o! x h9 dZ (aR.trans g8) (iJ _ _ o! (nu _ _ dg)))
     · rcases Bool.eq_false_or_eq_true (!(aF ((l_.g i0).ab))) with f3 | f3
       · have hS:cJ (some (.slice 37)) (some bA)=some (AV.int .i64 ((l_.length:Nat):Int)):=(bk.has aR).len
         have q2:(decide (((i0:Nat):Int)<((l_.length:Nat):Int)))=true:=d!
         obtain ⟨p5,q6,nt⟩:=(bk.has aR).elem (i:=i0) o!
         have kB:c_ env (some (.slice 37)) (some bA) (some (AV.int .i64 ((i0:Nat):Int)))=some (AV.ptr p5 q6):=nt
         have FC:bN env hh 37 (AV.ptr p5 q6)=some (AV.agg [(AV.str ((l_.g i0).worker)),(AV.int .i64 ((l_.g i0).ab)),(AV.int .i64 ((l_.g i0).aP)),(AV.int .i64 ((l_.g i0).leave)),(AV.int .i64 ((l_.g i0).out))]):=(bk.has aR).load o! nt
         obtain ⟨h8,s6,cT,zO,me,nu⟩:=cj bb (aH.cells [(AV.str []),(AV.int .i64 0),(AV.int .i64 0),(AV.int .i64 0),(AV.int .i64 0)] 37 false)
         have dJ:Has hh h8:=nu
         obtain ⟨h9,rn,dZ,vx,eZ,iJ⟩:=dW (t:=37) (n:=5) (i:=hh.nx) (L:=[(AV.str ((l_.g i0).worker)),(AV.int .i64 ((l_.g i0).ab)),(AV.int .i64 ((l_.g i0).aP)),(AV.int .i64 ((l_.g i0).leave)),(AV.int .i64 ((l_.g i0).out))]) cT me k! rfl rfl (by simp only[AV.cells,List.all_cons,List.all_nil,Bool.and_true,Bool.and_self,bP,bB,bQ,bR,bl,cm,cn,cq,cr,ct,bS])
         have g8:Has hh h9:=Has.aU dJ iJ bb o!
         have jC:=eV (d:=d+1) ((l_.g i0).worker) ((bk.has aR).ok (i:=i0) o!) dZ
         have nj:=a_ (d:=d+1) ((l_.g i0).ab) dZ
         have S7:=hJ 3 false true i0 1 o!
         have ev:=pk (d+2) eN ((x 0)::bA::(AV.ptr cC 0)::rx x 3 3 ((AV.int .i64 cQ)::(AV.int .i64 ((i0:Nat):Int))::rx x 8 85 [])) hh .normal h9 (CN 2<|VV hS<|VV (bT 3 false false .i64 ((i0:Nat):Int) ((l_.length:Nat):Int))<|CC<|BB q2<|CC<|BB q2<|VV (dC 28 false true .i64 cQ 0)<|VV (aX (a:=some (AV.bool (decide (cQ=0)))) (b:=some (AV.bool false)) q2)<|BB f1<|CN 2<|VV kB<|MM FC<|NN s6 (fun i=>(AV.ptr i 0))<|SS rn<|CC<|MM (aw 9 0 (AV.str ((l_.g i0).worker)) eZ k!)<|EE jC<|CN 2<|BB f2<|CC<|MM (aw 3 1 (AV.int .i64 ((l_.g i0).ab)) eZ k!)<|EE nj<|CN 2<|BB f3<|BB f3<|BB f3<|BB f3<|VV (aX (a:=some (AV.bool true)) (b:=some AV.undef) f3)<|CC<|TT<|TT<|TT<|TT<|CN 2<|TT<|TT<|TT<|TT<|CN 2<|TT<|CN 2<|VV S7<|CC<|ZZ) k!
         exact dm.round (by simp only[aS,f1,f2,f3,cond_true,cond_false]) ev (⟨dZ,g8,by omega⟩) (fun x=>((x 0)::bA::(AV.ptr cC 0)::rx x 3 3 ((AV.int .i64 1)::(AV.int .i64 (((i0+1):Nat):Int))::rx x 8 85 []))) k! (fun x=>dq bA l_ t cC bk ft l8 eG (i0+1) 1 o! x h9 dZ (aR.trans g8) (iJ _ _ o! (nu _ _ dg)))
       · rcases Bool.eq_false_or_eq_true (!(aF ((l_.g i0).aP))) with f4 | f4
         · have hS:cJ (some (.slice 37)) (some bA)=some (AV.int .i64 ((l_.length:Nat):Int)):=(bk.has aR).len
           have q2:(decide (((i0:Nat):Int)<((l_.length:Nat):Int)))=true:=d!
           obtain ⟨p5,q6,nt⟩:=(bk.has aR).elem (i:=i0) o!
           have kB:c_ env (some (.slice 37)) (some bA) (some (AV.int .i64 ((i0:Nat):Int)))=some (AV.ptr p5 q6):=nt
           have FC:bN env hh 37 (AV.ptr p5 q6)=some (AV.agg [(AV.str ((l_.g i0).worker)),(AV.int .i64 ((l_.g i0).ab)),(AV.int .i64 ((l_.g i0).aP)),(AV.int .i64 ((l_.g i0).leave)),(AV.int .i64 ((l_.g i0).out))]):=(bk.has aR).load o! nt
           obtain ⟨h8,s6,cT,zO,me,nu⟩:=cj bb (aH.cells [(AV.str []),(AV.int .i64 0),(AV.int .i64 0),(AV.int .i64 0),(AV.int .i64 0)] 37 false)
           have dJ:Has hh h8:=nu
           obtain ⟨h9,rn,dZ,vx,eZ,iJ⟩:=dW (t:=37) (n:=5) (i:=hh.nx) (L:=[(AV.str ((l_.g i0).worker)),(AV.int .i64 ((l_.g i0).ab)),(AV.int .i64 ((l_.g i0).aP)),(AV.int .i64 ((l_.g i0).leave)),(AV.int .i64 ((l_.g i0).out))]) cT me k! rfl rfl (by simp only[AV.cells,List.all_cons,List.all_nil,Bool.and_true,Bool.and_self,bP,bB,bQ,bR,bl,cm,cn,cq,cr,ct,bS])
           have g8:Has hh h9:=Has.aU dJ iJ bb o!
           have jC:=eV (d:=d+1) ((l_.g i0).worker) ((bk.has aR).ok (i:=i0) o!) dZ
           have nj:=a_ (d:=d+1) ((l_.g i0).ab) dZ
           have ra:=a_ (d:=d+1) ((l_.g i0).aP) dZ
           have u16:=hJ 3 false true i0 1 o!
           have ev:=pk (d+2) eN ((x 0)::bA::(AV.ptr cC 0)::rx x 3 3 ((AV.int .i64 cQ)::(AV.int .i64 ((i0:Nat):Int))::rx x 8 85 [])) hh .normal h9 (CN 2<|VV hS<|VV (bT 3 false false .i64 ((i0:Nat):Int) ((l_.length:Nat):Int))<|CC<|BB q2<|CC<|BB q2<|VV (dC 28 false true .i64 cQ 0)<|VV (aX (a:=some (AV.bool (decide (cQ=0)))) (b:=some (AV.bool false)) q2)<|BB f1<|CN 2<|VV kB<|MM FC<|NN s6 (fun i=>(AV.ptr i 0))<|SS rn<|CC<|MM (aw 9 0 (AV.str ((l_.g i0).worker)) eZ k!)<|EE jC<|CN 2<|BB f2<|CC<|MM (aw 3 1 (AV.int .i64 ((l_.g i0).ab)) eZ k!)<|EE nj<|CN 2<|BB f3<|CC<|BB f3<|MM (aw 3 2 (AV.int .i64 ((l_.g i0).aP)) eZ k!)<|BB f3<|EE ra<|BB f3<|CC<|VV (aJ (a:=some (AV.bool true)) (b:=some (AV.bool (!(aF ((l_.g i0).aP))))) f3)<|CC<|BB f4<|BB f4<|BB f4<|BB f4<|VV (aX (a:=some (AV.bool true)) (b:=some AV.undef) f4)<|CC<|TT<|TT<|TT<|TT<|CN 2<|TT<|CN 2<|VV u16<|CC<|ZZ) k!
           exact dm.round (by simp only[aS,f1,f2,f3,f4,cond_true,cond_false]) ev (⟨dZ,g8,by omega⟩) (fun x=>((x 0)::bA::(AV.ptr cC 0)::rx x 3 3 ((AV.int .i64 1)::(AV.int .i64 (((i0+1):Nat):Int))::rx x 8 85 []))) k! (fun x=>dq bA l_ t cC bk ft l8 eG (i0+1) 1 o! x h9 dZ (aR.trans g8) (iJ _ _ o! (nu _ _ dg)))
         · rcases Bool.eq_false_or_eq_true (!(aF ((l_.g i0).leave))) with f5 | f5
           · have hS:cJ (some (.slice 37)) (some bA)=some (AV.int .i64 ((l_.length:Nat):Int)):=(bk.has aR).len
             have q2:(decide (((i0:Nat):Int)<((l_.length:Nat):Int)))=true:=d!
             obtain ⟨p5,q6,nt⟩:=(bk.has aR).elem (i:=i0) o!
             have kB:c_ env (some (.slice 37)) (some bA) (some (AV.int .i64 ((i0:Nat):Int)))=some (AV.ptr p5 q6):=nt
             have FC:bN env hh 37 (AV.ptr p5 q6)=some (AV.agg [(AV.str ((l_.g i0).worker)),(AV.int .i64 ((l_.g i0).ab)),(AV.int .i64 ((l_.g i0).aP)),(AV.int .i64 ((l_.g i0).leave)),(AV.int .i64 ((l_.g i0).out))]):=(bk.has aR).load o! nt
             obtain ⟨h8,s6,cT,zO,me,nu⟩:=cj bb (aH.cells [(AV.str []),(AV.int .i64 0),(AV.int .i64 0),(AV.int .i64 0),(AV.int .i64 0)] 37 false)
             have dJ:Has hh h8:=nu
             obtain ⟨h9,rn,dZ,vx,eZ,iJ⟩:=dW (t:=37) (n:=5) (i:=hh.nx) (L:=[(AV.str ((l_.g i0).worker)),(AV.int .i64 ((l_.g i0).ab)),(AV.int .i64 ((l_.g i0).aP)),(AV.int .i64 ((l_.g i0).leave)),(AV.int .i64 ((l_.g i0).out))]) cT me k! rfl rfl (by simp only[AV.cells,List.all_cons,List.all_nil,Bool.and_true,Bool.and_self,bP,bB,bQ,bR,bl,cm,cn,cq,cr,ct,bS])
             have g8:Has hh h9:=Has.aU dJ iJ bb o!
             have jC:=eV (d:=d+1) ((l_.g i0).worker) ((bk.has aR).ok (i:=i0) o!) dZ
             have nj:=a_ (d:=d+1) ((l_.g i0).ab) dZ
             have ra:=a_ (d:=d+1) ((l_.g i0).aP) dZ
             have wI:=a_ (d:=d+1) ((l_.g i0).leave) dZ
             have Y5:=hJ 3 false true i0 1 o!
             have ev:=pk (d+2) eN ((x 0)::bA::(AV.ptr cC 0)::rx x 3 3 ((AV.int .i64 cQ)::(AV.int .i64 ((i0:Nat):Int))::rx x 8 85 [])) hh .normal h9 (CN 2<|VV hS<|VV (bT 3 false false .i64 ((i0:Nat):Int) ((l_.length:Nat):Int))<|CC<|BB q2<|CC<|BB q2<|VV (dC 28 false true .i64 cQ 0)<|VV (aX (a:=some (AV.bool (decide (cQ=0)))) (b:=some (AV.bool false)) q2)<|BB f1<|CN 2<|VV kB<|MM FC<|NN s6 (fun i=>(AV.ptr i 0))<|SS rn<|CC<|MM (aw 9 0 (AV.str ((l_.g i0).worker)) eZ k!)<|EE jC<|CN 2<|BB f2<|CC<|MM (aw 3 1 (AV.int .i64 ((l_.g i0).ab)) eZ k!)<|EE nj<|CN 2<|BB f3<|CC<|BB f3<|MM (aw 3 2 (AV.int .i64 ((l_.g i0).aP)) eZ k!)<|BB f3<|EE ra<|BB f3<|CC<|VV (aJ (a:=some (AV.bool true)) (b:=some (AV.bool (!(aF ((l_.g i0).aP))))) f3)<|CC<|BB f4<|CC<|BB f4<|MM (aw 3 3 (AV.int .i64 ((l_.g i0).leave)) eZ k!)<|BB f4<|EE wI<|BB f4<|CC<|VV (aJ (a:=some (AV.bool true)) (b:=some (AV.bool (!(aF ((l_.g i0).leave))))) f4)<|CC<|BB f5<|BB f5<|BB f5<|BB f5<|VV (aX (a:=some (AV.bool true)) (b:=some AV.undef) f5)<|CC<|TT<|CN 2<|VV Y5<|CC<|ZZ) k!
             exact dm.round (by simp only[aS,f1,f2,f3,f4,f5,cond_true,cond_false]) ev (⟨dZ,g8,by omega⟩) (fun x=>((x 0)::bA::(AV.ptr cC 0)::rx x 3 3 ((AV.int .i64 1)::(AV.int .i64 (((i0+1):Nat):Int))::rx x 8 85 []))) k! (fun x=>dq bA l_ t cC bk ft l8 eG (i0+1) 1 o! x h9 dZ (aR.trans g8) (iJ _ _ o! (nu _ _ dg)))
           · rcases Bool.eq_false_or_eq_true (!(aF ((l_.g i0).out))) with f6 | f6
             · have hS:cJ (some (.slice 37)) (some bA)=some (AV.int .i64 ((l_.length:Nat):Int)):=(bk.has aR).len
               have q2:(decide (((i0:Nat):Int)<((l_.length:Nat):Int)))=true:=d!
               obtain ⟨p5,q6,nt⟩:=(bk.has aR).elem (i:=i0) o!
               have kB:c_ env (some (.slice 37)) (some bA) (some (AV.int .i64 ((i0:Nat):Int)))=some (AV.ptr p5 q6):=nt
               have FC:bN env hh 37 (AV.ptr p5 q6)=some (AV.agg [(AV.str ((l_.g i0).worker)),(AV.int .i64 ((l_.g i0).ab)),(AV.int .i64 ((l_.g i0).aP)),(AV.int .i64 ((l_.g i0).leave)),(AV.int .i64 ((l_.g i0).out))]):=(bk.has aR).load o! nt
               obtain ⟨h8,s6,cT,zO,me,nu⟩:=cj bb (aH.cells [(AV.str []),(AV.int .i64 0),(AV.int .i64 0),(AV.int .i64 0),(AV.int .i64 0)] 37 false)
               have dJ:Has hh h8:=nu
               obtain ⟨h9,rn,dZ,vx,eZ,iJ⟩:=dW (t:=37) (n:=5) (i:=hh.nx) (L:=[(AV.str ((l_.g i0).worker)),(AV.int .i64 ((l_.g i0).ab)),(AV.int .i64 ((l_.g i0).aP)),(AV.int .i64 ((l_.g i0).leave)),(AV.int .i64 ((l_.g i0).out))]) cT me k! rfl rfl (by simp only[AV.cells,List.all_cons,List.all_nil,Bool.and_true,Bool.and_self,bP,bB,bQ,bR,bl,cm,cn,cq,cr,ct,bS])
               have g8:Has hh h9:=Has.aU dJ iJ bb o!
               have jC:=eV (d:=d+1) ((l_.g i0).worker) ((bk.has aR).ok (i:=i0) o!) dZ
               have nj:=a_ (d:=d+1) ((l_.g i0).ab) dZ
               have ra:=a_ (d:=d+1) ((l_.g i0).aP) dZ
               have wI:=a_ (d:=d+1) ((l_.g i0).leave) dZ
               have NC:=a_ (d:=d+1) ((l_.g i0).out) dZ
               have Y6:=hJ 3 false true i0 1 o!
               have ev:=pk (d+2) eN ((x 0)::bA::(AV.ptr cC 0)::rx x 3 3 ((AV.int .i64 cQ)::(AV.int .i64 ((i0:Nat):Int))::rx x 8 85 [])) hh .normal h9 (CN 2<|VV hS<|VV (bT 3 false false .i64 ((i0:Nat):Int) ((l_.length:Nat):Int))<|CC<|BB q2<|CC<|BB q2<|VV (dC 28 false true .i64 cQ 0)<|VV (aX (a:=some (AV.bool (decide (cQ=0)))) (b:=some (AV.bool false)) q2)<|BB f1<|CN 2<|VV kB<|MM FC<|NN s6 (fun i=>(AV.ptr i 0))<|SS rn<|CC<|MM (aw 9 0 (AV.str ((l_.g i0).worker)) eZ k!)<|EE jC<|CN 2<|BB f2<|CC<|MM (aw 3 1 (AV.int .i64 ((l_.g i0).ab)) eZ k!)<|EE nj<|CN 2<|BB f3<|CC<|BB f3<|MM (aw 3 2 (AV.int .i64 ((l_.g i0).aP)) eZ k!)<|BB f3<|EE ra<|BB f3<|CC<|VV (aJ (a:=some (AV.bool true)) (b:=some (AV.bool (!(aF ((l_.g i0).aP))))) f3)<|CC<|BB f4<|CC<|BB f4<|MM (aw 3 3 (AV.int .i64 ((l_.g i0).leave)) eZ k!)<|BB f4<|EE wI<|BB f4<|CC<|VV (aJ (a:=some (AV.bool true)) (b:=some (AV.bool (!(aF ((l_.g i0).leave))))) f4)<|CC<|BB f5<|CC<|BB f5<|MM (aw 3 4 (AV.int .i64 ((l_.g i0).out)) eZ k!)<|BB f5<|EE NC<|BB f5<|CC<|VV (aJ (a:=some (AV.bool true)) (b:=some (AV.bool (!(aF ((l_.g i0).out))))) f5)<|CC<|BB f6<|CN 2<|VV Y6<|CC<|ZZ) k!
               exact dm.round (by simp only[aS,f1,f2,f3,f4,f5,f6,cond_true,cond_false]) ev (⟨dZ,g8,by omega⟩) (fun x=>((x 0)::bA::(AV.ptr cC 0)::rx x 3 3 ((AV.int .i64 1)::(AV.int .i64 (((i0+1):Nat):Int))::rx x 8 85 []))) k! (fun x=>dq bA l_ t cC bk ft l8 eG (i0+1) 1 o! x h9 dZ (aR.trans g8) (iJ _ _ o! (nu _ _ dg)))
             · rcases Bool.eq_false_or_eq_true (decide (0<((i0:Nat):Int))) with f7 | f7
               · have Qz:=of_decide_eq_true f7
                 rcases Bool.eq_false_or_eq_true (decide (((l_.g i0).aP)<((l_.g (i0 - 1)).aP))) with f8 | f8
                 · have K0:=of_decide_eq_true f8
                   have hS:cJ (some (.slice 37)) (some bA)=some (AV.int .i64 ((l_.length:Nat):Int)):=(bk.has aR).len
                   have q2:(decide (((i0:Nat):Int)<((l_.length:Nat):Int)))=true:=d!
                   obtain ⟨p5,q6,nt⟩:=(bk.has aR).elem (i:=i0) o!
                   have kB:c_ env (some (.slice 37)) (some bA) (some (AV.int .i64 ((i0:Nat):Int)))=some (AV.ptr p5 q6):=nt
                   have FC:bN env hh 37 (AV.ptr p5 q6)=some (AV.agg [(AV.str ((l_.g i0).worker)),(AV.int .i64 ((l_.g i0).ab)),(AV.int .i64 ((l_.g i0).aP)),(AV.int .i64 ((l_.g i0).leave)),(AV.int .i64 ((l_.g i0).out))]):=(bk.has aR).load o! nt
                   obtain ⟨h8,s6,cT,zO,me,nu⟩:=cj bb (aH.cells [(AV.str []),(AV.int .i64 0),(AV.int .i64 0),(AV.int .i64 0),(AV.int .i64 0)] 37 false)
                   have dJ:Has hh h8:=nu
                   obtain ⟨h9,rn,dZ,vx,eZ,iJ⟩:=dW (t:=37) (n:=5) (i:=hh.nx) (L:=[(AV.str ((l_.g i0).worker)),(AV.int .i64 ((l_.g i0).ab)),(AV.int .i64 ((l_.g i0).aP)),(AV.int .i64 ((l_.g i0).leave)),(AV.int .i64 ((l_.g i0).out))]) cT me k! rfl rfl (by simp only[AV.cells,List.all_cons,List.all_nil,Bool.and_true,Bool.and_self,bP,bB,bQ,bR,bl,cm,cn,cq,cr,ct,bS])
                   have g8:Has hh h9:=Has.aU dJ iJ bb o!
                   have jC:=eV (d:=d+1) ((l_.g i0).worker) ((bk.has aR).ok (i:=i0) o!) dZ
                   have nj:=a_ (d:=d+1) ((l_.g i0).ab) dZ
                   have ra:=a_ (d:=d+1) ((l_.g i0).aP) dZ
                   have wI:=a_ (d:=d+1) ((l_.g i0).leave) dZ
                   have NC:=a_ (d:=d+1) ((l_.g i0).out) dZ
                   have Qv:=BH 3 false true i0 1 o! o!
                   obtain ⟨Tk,Tl,DQ⟩:=(bk.has aR).elem (i:=(i0 - 1)) o!
                   have QA:c_ env (some (.slice 37)) (some bA) (some (AV.int .i64 ((i0 - 1:Nat):Int)))=some (AV.ptr Tk Tl):=DQ
                   have K1:bN env h9 3 (AV.ptr Tk (Tl+2))=some (AV.int .i64 ((l_.g (i0 - 1)).aP)):=((bk.has aR).has g8).part (t:=3) (j:=2) o! DQ k! rfl
                   have Wr:=hJ 3 false true i0 1 o!
                   have ev:=pk (d+2) eN ((x 0)::bA::(AV.ptr cC 0)::rx x 3 3 ((AV.int .i64 cQ)::(AV.int .i64 ((i0:Nat):Int))::rx x 8 85 [])) hh .normal h9 (CN 2<|VV hS<|VV (bT 3 false false .i64 ((i0:Nat):Int) ((l_.length:Nat):Int))<|CC<|BB q2<|CC<|BB q2<|VV (dC 28 false true .i64 cQ 0)<|VV (aX (a:=some (AV.bool (decide (cQ=0)))) (b:=some (AV.bool false)) q2)<|BB f1<|CN 2<|VV kB<|MM FC<|NN s6 (fun i=>(AV.ptr i 0))<|SS rn<|CC<|MM (aw 9 0 (AV.str ((l_.g i0).worker)) eZ k!)<|EE jC<|CN 2<|BB f2<|CC<|MM (aw 3 1 (AV.int .i64 ((l_.g i0).ab)) eZ k!)<|EE nj<|CN 2<|BB f3<|CC<|BB f3<|MM (aw 3 2 (AV.int .i64 ((l_.g i0).aP)) eZ k!)<|BB f3<|EE ra<|BB f3<|CC<|VV (aJ (a:=some (AV.bool true)) (b:=some (AV.bool (!(aF ((l_.g i0).aP))))) f3)<|CC<|BB f4<|CC<|BB f4<|MM (aw 3 3 (AV.int .i64 ((l_.g i0).leave)) eZ k!)<|BB f4<|EE wI<|BB f4<|CC<|VV (aJ (a:=some (AV.bool true)) (b:=some (AV.bool (!(aF ((l_.g i0).leave))))) f4)<|CC<|BB f5<|CC<|BB f5<|MM (aw 3 4 (AV.int .i64 ((l_.g i0).out)) eZ k!)<|BB f5<|EE NC<|BB f5<|CC<|VV (aJ (a:=some (AV.bool true)) (b:=some (AV.bool (!(aF ((l_.g i0).out))))) f5)<|CC<|BB f6<|CC<|VV (dA 3 false true .i64 ((i0:Nat):Int) 0)<|CC<|BB f7<|CC<|BB f7<|CC<|BB f7<|VV Qv<|BB f7<|VV QA<|BB f7<|CC<|BB f7<|MM K1<|BB f7<|CC<|BB f7<|MM (aw 3 2 (AV.int .i64 ((l_.g i0).aP)) eZ k!)<|BB f7<|VV (dA 3 false false .i64 ((l_.g (i0 - 1)).aP) ((l_.g i0).aP))<|VV (aX (a:=some (AV.bool (decide (((l_.g i0).aP)<((l_.g (i0 - 1)).aP))))) (b:=some (AV.bool false)) f7)<|CC<|HH K1<|HH (show AV.same 20 (AV.int .i64 ((l_.g (i0 - 1)).aP)) (AV.int .i64 ((l_.g (i0 - 1)).aP))=true from aQ 19 _ _)<|HH (aw 3 2 (AV.int .i64 ((l_.g i0).aP)) eZ k!)<|HH (show AV.same 20 (AV.int .i64 ((l_.g i0).aP)) (AV.int .i64 ((l_.g i0).aP))=true from aQ 19 _ _)<|BB f8<|CN 2<|VV Wr<|CC<|ZZ) k!
                   exact dm.round (by simp only[aS,f1,f2,f3,f4,f5,f6,f7,f8,cond_true,cond_false]) ev (⟨dZ,g8,by omega⟩) (fun x=>((x 0)::bA::(AV.ptr cC 0)::rx x 3 3 ((AV.int .i64 8)::(AV.int .i64 (((i0+1):Nat):Int))::rx x 8 85 []))) k! (fun x=>dq bA l_ t cC bk ft l8 eG (i0+1) 8 o! x h9 dZ (aR.trans g8) (iJ _ _ o! (nu _ _ dg)))
                 · have K0:=of_decide_eq_false f8
                   have hS:cJ (some (.slice 37)) (some bA)=some (AV.int .i64 ((l_.length:Nat):Int)):=(bk.has aR).len
                   have q2:(decide (((i0:Nat):Int)<((l_.length:Nat):Int)))=true:=d!
                   obtain ⟨p5,q6,nt⟩:=(bk.has aR).elem (i:=i0) o!
                   have kB:c_ env (some (.slice 37)) (some bA) (some (AV.int .i64 ((i0:Nat):Int)))=some (AV.ptr p5 q6):=nt
                   have FC:bN env hh 37 (AV.ptr p5 q6)=some (AV.agg [(AV.str ((l_.g i0).worker)),(AV.int .i64 ((l_.g i0).ab)),(AV.int .i64 ((l_.g i0).aP)),(AV.int .i64 ((l_.g i0).leave)),(AV.int .i64 ((l_.g i0).out))]):=(bk.has aR).load o! nt
                   obtain ⟨h8,s6,cT,zO,me,nu⟩:=cj bb (aH.cells [(AV.str []),(AV.int .i64 0),(AV.int .i64 0),(AV.int .i64 0),(AV.int .i64 0)] 37 false)
                   have dJ:Has hh h8:=nu
                   obtain ⟨h9,rn,dZ,vx,eZ,iJ⟩:=dW (t:=37) (n:=5) (i:=hh.nx) (L:=[(AV.str ((l_.g i0).worker)),(AV.int .i64 ((l_.g i0).ab)),(AV.int .i64 ((l_.g i0).aP)),(AV.int .i64 ((l_.g i0).leave)),(AV.int .i64 ((l_.g i0).out))]) cT me k! rfl rfl (by simp only[AV.cells,List.all_cons,List.all_nil,Bool.and_true,Bool.and_self,bP,bB,bQ,bR,bl,cm,cn,cq,cr,ct,bS])
                   have g8:Has hh h9:=Has.aU dJ iJ bb o!
                   have jC:=eV (d:=d+1) ((l_.g i0).worker) ((bk.has aR).ok (i:=i0) o!) dZ
                   have nj:=a_ (d:=d+1) ((l_.g i0).ab) dZ
                   have ra:=a_ (d:=d+1) ((l_.g i0).aP) dZ
                   have wI:=a_ (d:=d+1) ((l_.g i0).leave) dZ
                   have NC:=a_ (d:=d+1) ((l_.g i0).out) dZ
                   have Qv:=BH 3 false true i0 1 o! o!
                   obtain ⟨Tk,Tl,DQ⟩:=(bk.has aR).elem (i:=(i0 - 1)) o!
                   have QA:c_ env (some (.slice 37)) (some bA) (some (AV.int .i64 ((i0 - 1:Nat):Int)))=some (AV.ptr Tk Tl):=DQ
                   have K1:bN env h9 3 (AV.ptr Tk (Tl+2))=some (AV.int .i64 ((l_.g (i0 - 1)).aP)):=((bk.has aR).has g8).part (t:=3) (j:=2) o! DQ k! rfl
                   have Wr:=hJ 3 false true i0 1 o!
                   have ev:=pk (d+2) eN ((x 0)::bA::(AV.ptr cC 0)::rx x 3 3 ((AV.int .i64 cQ)::(AV.int .i64 ((i0:Nat):Int))::rx x 8 85 [])) hh .normal h9 (CN 2<|VV hS<|VV (bT 3 false false .i64 ((i0:Nat):Int) ((l_.length:Nat):Int))<|CC<|BB q2<|CC<|BB q2<|VV (dC 28 false true .i64 cQ 0)<|VV (aX (a:=some (AV.bool (decide (cQ=0)))) (b:=some (AV.bool false)) q2)<|BB f1<|CN 2<|VV kB<|MM FC<|NN s6 (fun i=>(AV.ptr i 0))<|SS rn<|CC<|MM (aw 9 0 (AV.str ((l_.g i0).worker)) eZ k!)<|EE jC<|CN 2<|BB f2<|CC<|MM (aw 3 1 (AV.int .i64 ((l_.g i0).ab)) eZ k!)<|EE nj<|CN 2<|BB f3<|CC<|BB f3<|MM (aw 3 2 (AV.int .i64 ((l_.g i0).aP)) eZ k!)<|BB f3<|EE ra<|BB f3<|CC<|VV (aJ (a:=some (AV.bool true)) (b:=some (AV.bool (!(aF ((l_.g i0).aP))))) f3)<|CC<|BB f4<|CC<|BB f4<|MM (aw 3 3 (AV.int .i64 ((l_.g i0).leave)) eZ k!)<|BB f4<|EE wI<|BB f4<|CC<|VV (aJ (a:=some (AV.bool true)) (b:=some (AV.bool (!(aF ((l_.g i0).leave))))) f4)<|CC<|BB f5<|CC<|BB f5<|MM (aw 3 4 (AV.int .i64 ((l_.g i0).out)) eZ k!)<|BB f5<|EE NC<|BB f5<|CC<|VV (aJ (a:=some (AV.bool true)) (b:=some (AV.bool (!(aF ((l_.g i0).out))))) f5)<|CC<|BB f6<|CC<|VV (dA 3 false true .i64 ((i0:Nat):Int) 0)<|CC<|BB f7<|CC<|BB f7<|CC<|BB f7<|VV Qv<|BB f7<|VV QA<|BB f7<|CC<|BB f7<|MM K1<|BB f7<|CC<|BB f7<|MM (aw 3 2 (AV.int .i64 ((l_.g i0).aP)) eZ k!)<|BB f7<|VV (dA 3 false false .i64 ((l_.g (i0 - 1)).aP) ((l_.g i0).aP))<|VV (aX (a:=some (AV.bool (decide (((l_.g i0).aP)<((l_.g (i0 - 1)).aP))))) (b:=some (AV.bool false)) f7)<|CC<|HH K1<|HH (show AV.same 20 (AV.int .i64 ((l_.g (i0 - 1)).aP)) (AV.int .i64 ((l_.g (i0 - 1)).aP))=true from aQ 19 _ _)<|HH (aw 3 2 (AV.int .i64 ((l_.g i0).aP)) eZ k!)<|HH (show AV.same 20 (AV.int .i64 ((l_.g i0).aP)) (AV.int .i64 ((l_.g i0).aP))=true from aQ 19 _ _)<|BB f8<|CC<|VV Wr<|CC<|ZZ) k!
                   exact dm.round (by simp only[aS,f1,f2,f3,f4,f5,f6,f7,f8,cond_true,cond_false]) ev (⟨dZ,g8,by omega⟩) (fun x=>((x 0)::bA::(AV.ptr cC 0)::rx x 3 3 ((AV.int .i64 cQ)::(AV.int .i64 (((i0+1):Nat):Int))::rx x 8 85 []))) k! (fun x=>dq bA l_ t cC bk ft l8 eG (i0+1) cQ o! x h9 dZ (aR.trans g8) (iJ _ _ o! (nu _ _ dg)))
               · have Qz:=of_decide_eq_false f7
                 have hS:cJ (some (.slice 37)) (some bA)=some (AV.int .i64 ((l_.length:Nat):Int)):=(bk.has aR).len
                 have q2:(decide (((i0:Nat):Int)<((l_.length:Nat):Int)))=true:=d!
                 obtain ⟨p5,q6,nt⟩:=(bk.has aR).elem (i:=i0) o!
                 have kB:c_ env (some (.slice 37)) (some bA) (some (AV.int .i64 ((i0:Nat):Int)))=some (AV.ptr p5 q6):=nt
                 have FC:bN env hh 37 (AV.ptr p5 q6)=some (AV.agg [(AV.str ((l_.g i0).worker)),(AV.int .i64 ((l_.g i0).ab)),(AV.int .i64 ((l_.g i0).aP)),(AV.int .i64 ((l_.g i0).leave)),(AV.int .i64 ((l_.g i0).out))]):=(bk.has aR).load o! nt
                 obtain ⟨h8,s6,cT,zO,me,nu⟩:=cj bb (aH.cells [(AV.str []),(AV.int .i64 0),(AV.int .i64 0),(AV.int .i64 0),(AV.int .i64 0)] 37 false)
                 have dJ:Has hh h8:=nu
                 obtain ⟨h9,rn,dZ,vx,eZ,iJ⟩:=dW (t:=37) (n:=5) (i:=hh.nx) (L:=[(AV.str ((l_.g i0).worker)),(AV.int .i64 ((l_.g i0).ab)),(AV.int .i64 ((l_.g i0).aP)),(AV.int .i64 ((l_.g i0).leave)),(AV.int .i64 ((l_.g i0).out))]) cT me k! rfl rfl (by simp only[AV.cells,List.all_cons,List.all_nil,Bool.and_true,Bool.and_self,bP,bB,bQ,bR,bl,cm,cn,cq,cr,ct,bS])
                 have g8:Has hh h9:=Has.aU dJ iJ bb o!
                 have jC:=eV (d:=d+1) ((l_.g i0).worker) ((bk.has aR).ok (i:=i0) o!) dZ
                 have nj:=a_ (d:=d+1) ((l_.g i0).ab) dZ
                 have ra:=a_ (d:=d+1) ((l_.g i0).aP) dZ
                 have wI:=a_ (d:=d+1) ((l_.g i0).leave) dZ
                 have NC:=a_ (d:=d+1) ((l_.g i0).out) dZ
                 have Qv:=hJ 3 false true i0 1 o!
                 have ev:=pk (d+2) eN ((x 0)::bA::(AV.ptr cC 0)::rx x 3 3 ((AV.int .i64 cQ)::(AV.int .i64 ((i0:Nat):Int))::rx x 8 85 [])) hh .normal h9 (CN 2<|VV hS<|VV (bT 3 false false .i64 ((i0:Nat):Int) ((l_.length:Nat):Int))<|CC<|BB q2<|CC<|BB q2<|VV (dC 28 false true .i64 cQ 0)<|VV (aX (a:=some (AV.bool (decide (cQ=0)))) (b:=some (AV.bool false)) q2)<|BB f1<|CN 2<|VV kB<|MM FC<|NN s6 (fun i=>(AV.ptr i 0))<|SS rn<|CC<|MM (aw 9 0 (AV.str ((l_.g i0).worker)) eZ k!)<|EE jC<|CN 2<|BB f2<|CC<|MM (aw 3 1 (AV.int .i64 ((l_.g i0).ab)) eZ k!)<|EE nj<|CN 2<|BB f3<|CC<|BB f3<|MM (aw 3 2 (AV.int .i64 ((l_.g i0).aP)) eZ k!)<|BB f3<|EE ra<|BB f3<|CC<|VV (aJ (a:=some (AV.bool true)) (b:=some (AV.bool (!(aF ((l_.g i0).aP))))) f3)<|CC<|BB f4<|CC<|BB f4<|MM (aw 3 3 (AV.int .i64 ((l_.g i0).leave)) eZ k!)<|BB f4<|EE wI<|BB f4<|CC<|VV (aJ (a:=some (AV.bool true)) (b:=some (AV.bool (!(aF ((l_.g i0).leave))))) f4)<|CC<|BB f5<|CC<|BB f5<|MM (aw 3 4 (AV.int .i64 ((l_.g i0).out)) eZ k!)<|BB f5<|EE NC<|BB f5<|CC<|VV (aJ (a:=some (AV.bool true)) (b:=some (AV.bool (!(aF ((l_.g i0).out))))) f5)<|CC<|BB f6<|CC<|VV (dA 3 false true .i64 ((i0:Nat):Int) 0)<|CC<|BB f7<|BB f7<|BB f7<|BB f7<|BB f7<|BB f7<|BB f7<|BB f7<|BB f7<|VV (aJ (a:=some AV.undef) (b:=some (AV.bool false)) f7)<|CC<|FF<|CC<|VV Qv<|CC<|ZZ) k!
                 exact dm.round (by simp only[aS,f1,f2,f3,f4,f5,f6,f7,cond_true,cond_false]) ev (⟨dZ,g8,by omega⟩) (fun x=>((x 0)::bA::(AV.ptr cC 0)::rx x 3 3 ((AV.int .i64 cQ)::(AV.int .i64 (((i0+1):Nat):Int))::rx x 8 85 []))) k! (fun x=>dq bA l_ t cC bk ft l8 eG (i0+1) cQ o! x h9 dZ (aR.trans g8) (iJ _ _ o! (nu _ _ dg)))
   · have jn:=of_decide_eq_false f1
     have hS:cJ (some (.slice 37)) (some bA)=some (AV.int .i64 ((l_.length:Nat):Int)):=(bk.has aR).len
     have q2:(decide (((i0:Nat):Int)<((l_.length:Nat):Int)))=true:=d!
     have ev:=pk (d+2) eN ((x 0)::bA::(AV.ptr cC 0)::rx x 3 3 ((AV.int .i64 cQ)::(AV.int .i64 ((i0:Nat):Int))::rx x 8 85 [])) hh (.exit 0) hh (CN 2<|VV hS<|VV (bT 3 false false .i64 ((i0:Nat):Int) ((l_.length:Nat):Int))<|CC<|BB q2<|CC<|BB q2<|VV (dC 28 false true .i64 cQ 0)<|VV (aX (a:=some (AV.bool (decide (cQ=0)))) (b:=some (AV.bool false)) q2)<|BB f1<|ZZ) k!
     exact dm.out cQ (by simp only[aS,f1,cond_true,cond_false]) ev (cG.refl bb) trivial k!
theorem kt {l_:List aO} {k i:Nat} {v:Int} (hv:v≠0) (h:aS l_ k i v=0):False:=by
 cases k with
 | zero=>exact hv h
 | succ k=>rw[aS,decide_eq_false hv] at h;exact hv h
def cR (t:aK) (l_:List aO):Nat→Nat→List Int→List Int
 | 0,_,wV=>wV
 | QB+1,i1,wV=>cR t l_ QB (i1+1) (wV++[(cX t l_ ((i1:Nat):Int))])
theorem lQ {d:Nat} {h:ar} (bA:AV) (l_:List aO) (t:aK) (oS:Nat) (nN:bD h bA l_) (FD:bD h t.ak t.rows) (Ir:aD.ok h t) (QC:l_.length≤128) (b4:Tidy h) (wX:h.get oS=some (aH.cells [t.ak,(AV.int .i64 t.rest),(AV.int .i64 t.day)] 24 false)):∀(k_ i_:Nat) (wV:List Int) (z1:AV) (_:i_+k_=l_.length) (x:Nat→AV) (hh:ar) (bb:Tidy hh) (aR:Has h hh) (DJ:h.nx≤hh.nx) (UG:ij 81 h hh z1 (zs .u8 wV)) (XL:wV.length≤i_),kN (eD (d+2)) pT ⟨((x 0)::bA::(AV.ptr oS 0)::rx x 3 6 (z1::(AV.int .i64 ((i_:Nat):Int))::rx x 11 82 [])),hh,[],.no⟩ (.exit 3) h 81 (fun r z y=>((y 0)::bA::(AV.ptr oS 0)::rx y 3 6 (z::rx y 10 83 []))) (fun r=>zs .u8 r) l_.length (cR t l_ k_ i_ wV)
 | 0,i1,wV,z1,qo,x,hh,bb,aR,DJ,UG,XL=>by
   have FE:=nN.small
   have QD:=FD.small
   have QE:=b4 _ _ wX
   have hS:cJ (some (.slice 37)) (some bA)=some (AV.int .i64 ((l_.length:Nat):Int)):=(nN.has aR).len
   have q2:(decide (((i1:Nat):Int)<((l_.length:Nat):Int)))=false:=d!
   have ev:=pk (d+2) pT ((x 0)::bA::(AV.ptr oS 0)::rx x 3 6 (z1::(AV.int .i64 ((i1:Nat):Int))::rx x 11 82 [])) hh (.exit 3) hh (CN 2<|VV hS<|VV (bT 3 false false .i64 ((i1:Nat):Int) ((l_.length:Nat):Int))<|BB q2<|ZZ) k!
   exact kN.out wV z1 rfl ev ⟨bb,aR,by omega⟩ UG (by show (zs _ _).length≤_;rw[mr];omega) k!
 | QB+1,i1,wV,z1,qo,x,hh,bb,aR,DJ,UG,XL=>by
   have FE:=nN.small
   have QD:=FD.small
   have QE:=b4 _ _ wX
   have hS:cJ (some (.slice 37)) (some bA)=some (AV.int .i64 ((l_.length:Nat):Int)):=(nN.has aR).len
   have q2:(decide (((i1:Nat):Int)<((l_.length:Nat):Int)))=true:=d!
   have k3:=vy (d:=d) t l_ ((i1:Nat):Int) (aD.mono aR Ir) (nN.has aR) (by first | omega | assumption | (simp only[List.length_set,List.length_replicate,List.length_append,List.length_cons,List.length_nil,List.nil_append]<;>omega) | (rw[List.length_take];omega)) (by first | omega | assumption | (simp only[List.length_set,List.length_replicate,List.length_append,List.length_cons,List.length_nil,List.nil_append]<;>omega) | (rw[List.length_take];omega)) bb
   obtain ⟨h4,re,eY,yA,jl,dx⟩:=cj bb (aH.cells [(AV.int .u8 (cX t l_ ((i1:Nat):Int)))] 81 false)
   have gN:Has hh h4:=dx
   obtain ⟨z6,h5,Tm,eB,lD,Ws,Y7⟩:=ij.SZ (k:= .u8) (h0:=h) (tys:= #[32,32]) (v:=(cX t l_ ((i1:Nat):Int))) (L:=wV) eY b4 (aR.trans gN) o! (UG.has gN) jl (by first | omega | (simp;omega)) rfl rfl k! k! k! (bytes:=1) k! (z0:=AV.int .u8 0) k! rfl (by decide)
   have u8:=hJ 3 false true i1 1 o!
   have ev:=pk (d+2) pT ((x 0)::bA::(AV.ptr oS 0)::rx x 3 6 (z1::(AV.int .i64 ((i1:Nat):Int))::rx x 11 82 [])) hh .normal h5 (CN 2<|VV hS<|VV (bT 3 false false .i64 ((i1:Nat):Int) ((l_.length:Nat):Int))<|BB q2<|CC<|MM (aw 24 0 (AV.agg [t.ak,(AV.int .i64 t.rest),(AV.int .i64 t.day)]) (aR _ _ wX) k!)<|CN 2<|EE k3<|NN re (fun i=>(AV.slice i 0 1 1 false))<|PP (show da env h4 #[32,32] z1 (AV.slice hh.nx 0 1 1 false)=some (z6,h5) from Tm)<|CN 2<|VV u8<|CC<|ZZ) k!
   exact kN.round (by simp only[cR,cond_true,cond_false]) ev (fun x=>((x 0)::bA::(AV.ptr oS 0)::rx x 3 6 (z6::(AV.int .i64 (((i1+1):Nat):Int))::rx x 11 82 []))) k! (fun x=>lQ bA l_ t oS nN FD Ir QC b4 wX QB (i1+1) (wV++[(cX t l_ ((i1:Nat):Int))]) z6 o! x h5 eB Ws o! Y7 (by first | omega | (simp;omega)))
def aC (t:aK) (l_:List aO):List Int×Int:=(bif (decide ((ay t)=0)) then (bif (decide (128<((l_.length:Nat):Int))) then (bif (!decide ((aS l_ l_.length 0 3)=0)) then ([],(aS l_ l_.length 0 3)) else ((cR t l_ l_.length 0 ([])),0)) else (bif (!decide ((aS l_ l_.length 0 (ay t))=0)) then ([],(aS l_ l_.length 0 (ay t))) else ((cR t l_ l_.length 0 ([])),0))) else (bif (!decide ((aS l_ l_.length 0 (ay t))=0)) then ([],(aS l_ l_.length 0 (ay t))) else ((cR t l_ l_.length 0 ([])),0)))
theorem dK {d:Nat} {h:ar} {bA:AV} (t:aK) (l_:List aO) (b8:aD.ok h t) (bE:bD h bA l_) (b4:Tidy h):∃z hk,eD (d+3) (.fn 11) [(AV.agg [t.ak,(AV.int .i64 t.rest),(AV.int .i64 t.day)]),bA] h= .ret (AV.tuple [z,(AV.int .i64 ((aC t l_).2))]) hk∧cG h hk∧fW hk .u8 81 z (aC t l_).1∧ij 81 h hk z (zs .u8 (aC t l_).1):=by
 have pP:=bE.small
 rcases Bool.eq_false_or_eq_true (decide ((ay t)=0)) with f0 | f0
 · have fH:=of_decide_eq_true f0
   rcases Bool.eq_false_or_eq_true (decide (128<((l_.length:Nat):Int))) with f1 | f1
   · have jn:=of_decide_eq_true f1
     rcases Bool.eq_false_or_eq_true (!decide ((aS l_ l_.length 0 3)=0)) with f2 | f2
     · have np:=sS f2
       obtain ⟨h1,bm,aL,cu,aE,bh⟩:=cj b4 (aH.cells [t.ak,(AV.int .i64 t.rest),(AV.int .i64 t.day)] 24 false)
       have aG:Has h h1:=bh
       have k2:=cg (d:=d) t (aD.mono aG b8) aL
       have DG:cJ (some (.slice 37)) (some bA)=some (AV.int .i64 ((l_.length:Nat):Int)):=bE.len
       obtain ⟨FG,h7,s7,rp,B0⟩:=dq (d:=d) (h:=h) bA l_ t h.nx bE b8 b8 l_.length 0 3 o! (fun k_=>(((AV.agg [t.ak,(AV.int .i64 t.rest),(AV.int .i64 t.day)])::bA::(AV.ptr h.nx 0)::AV.undef::AV.aI::(AV.int .i64 0)::(AV.int .i64 3)::(AV.int .i64 0)::AV.undef::AV.undef::AV.undef::(AV.agg [t.ak,(AV.int .i64 t.rest),(AV.int .i64 t.day)])::(AV.int .i64 (ay t))::(AV.int .i64 (ay t))::(AV.bool (decide ((ay t)=0)))::(AV.bool (decide ((ay t)=0)))::bA::(AV.int .i64 ((l_.length:Nat):Int))::(AV.bool (decide (128<((l_.length:Nat):Int))))::(AV.bool (decide (128<((l_.length:Nat):Int))))::cz 73):List AV).getD k_ AV.undef) h1 aL aG aE
       have eA:=rp.y
       have QF:h1.nx≤h7.nx:=rp.n
       have di:Has h h7:=aG.trans rp.a
       have ev:=pk (d+2) fk ((AV.agg [t.ak,(AV.int .i64 t.rest),(AV.int .i64 t.day)])::bA::cz 91) h .ret h7 (NN bm (fun i=>(AV.ptr i 0))<|CN 2<|MM (aw 24 0 (AV.agg [t.ak,(AV.int .i64 t.rest),(AV.int .i64 t.day)]) aE k!)<|EE k2<|CN 2<|VV (dC 28 false true .i64 (ay t) 0)<|CC<|BB f0<|CC<|BB f0<|VV DG<|BB f0<|VV (dA 3 false true .i64 ((l_.length:Nat):Int) 128)<|VV (aX (a:=some (AV.bool (decide (128<((l_.length:Nat):Int))))) (b:=some (AV.bool false)) f0)<|BB f1<|CN 2<|LL s7<|CC<|VV (cS 28 false true .i64 (aS l_ l_.length 0 3) 0)<|BB f2<|CN 3<|ZZ) k!
       have e:aC t l_=([],(aS l_ l_.length 0 3)):=by simp only[aC,f0,f1,f2,cond_true,cond_false]
       rw[e]
       exact ⟨.aI,iy rfl (bz Tryz.func11 lH k! (.inr rfl) ev k!) b4 ⟨eA,di,by omega⟩ (P:=fun hh=>fW hh .u8 81 .aI []∧ij 81 h hh .aI (zs .u8 [])) ⟨fW.nil k! k!,.inl ⟨rfl,rfl⟩⟩ fun _=>⟨fW.nil k! k!,.inl ⟨rfl,rfl⟩⟩⟩
     · have np:=sU f2
       obtain ⟨h1,bm,aL,cu,aE,bh⟩:=cj b4 (aH.cells [t.ak,(AV.int .i64 t.rest),(AV.int .i64 t.day)] 24 false)
       have aG:Has h h1:=bh
       have k2:=cg (d:=d) t (aD.mono aG b8) aL
       have DG:cJ (some (.slice 37)) (some bA)=some (AV.int .i64 ((l_.length:Nat):Int)):=bE.len
       obtain ⟨FG,h7,s7,rp,B0⟩:=dq (d:=d) (h:=h) bA l_ t h.nx bE b8 b8 l_.length 0 3 o! (fun k_=>(((AV.agg [t.ak,(AV.int .i64 t.rest),(AV.int .i64 t.day)])::bA::(AV.ptr h.nx 0)::AV.undef::AV.aI::(AV.int .i64 0)::(AV.int .i64 3)::(AV.int .i64 0)::AV.undef::AV.undef::AV.undef::(AV.agg [t.ak,(AV.int .i64 t.rest),(AV.int .i64 t.day)])::(AV.int .i64 (ay t))::(AV.int .i64 (ay t))::(AV.bool (decide ((ay t)=0)))::(AV.bool (decide ((ay t)=0)))::bA::(AV.int .i64 ((l_.length:Nat):Int))::(AV.bool (decide (128<((l_.length:Nat):Int))))::(AV.bool (decide (128<((l_.length:Nat):Int))))::cz 73):List AV).getD k_ AV.undef) h1 aL aG aE
       have eA:=rp.y
       have QF:h1.nx≤h7.nx:=rp.n
       have di:Has h h7:=aG.trans rp.a
       obtain ⟨FH,Y8,nG,FI,uu,KU,yO⟩:=lQ (d:=d) (h:=h7) bA l_ t h.nx (bE.has di) (b8.has di) (aD.mono di b8) (by first | omega | exact (kt (v:=3) (by decide) (by assumption)).elim | exact (kt (v:=ay t) (by assumption) (by assumption)).elim) eA (rp.a _ _ aE) l_.length 0 ([]) AV.aI o! (fun k_=>(((FG 0)::bA::(AV.ptr h.nx 0)::rx FG 3 3 ((AV.int .i64 (aS l_ l_.length 0 3))::(FG 7)::(FG 8)::AV.aI::(AV.int .i64 0)::rx FG 11 65 ((AV.int .i64 (aS l_ l_.length 0 3))::(AV.bool (!decide ((aS l_ l_.length 0 3)=0)))::rx FG 78 15 []))):List AV).getD k_ AV.undef) h7 eA (Has.refl _) (Nat.le_refl _) (.inl ⟨rfl,rfl⟩) (Nat.zero_le _)
       rw[mr] at yO
       have j0:=uu.y
       have OL:h7.nx≤nG.nx:=uu.n
       have gC:Has h nG:=di.trans uu.a
       have K2:Has h7 nG:=uu.a
       have ev:=pk (d+2) fk ((AV.agg [t.ak,(AV.int .i64 t.rest),(AV.int .i64 t.day)])::bA::cz 91) h .ret nG (NN bm (fun i=>(AV.ptr i 0))<|CN 2<|MM (aw 24 0 (AV.agg [t.ak,(AV.int .i64 t.rest),(AV.int .i64 t.day)]) aE k!)<|EE k2<|CN 2<|VV (dC 28 false true .i64 (ay t) 0)<|CC<|BB f0<|CC<|BB f0<|VV DG<|BB f0<|VV (dA 3 false true .i64 ((l_.length:Nat):Int) 128)<|VV (aX (a:=some (AV.bool (decide (128<((l_.length:Nat):Int))))) (b:=some (AV.bool false)) f0)<|BB f1<|CN 2<|LL s7<|CC<|VV (cS 28 false true .i64 (aS l_ l_.length 0 3) 0)<|BB f2<|CN 2<|LL FI<|CN 3<|ZZ) k!
       have e:aC t l_=((cR t l_ l_.length 0 ([])),0):=by simp only[aC,f0,f1,f2,cond_true,cond_false]
       rw[e]
       have oz:=ij.le (h0:=h) KU o!
       exact ⟨FH,iy rfl (bz Tryz.func11 lH k! (.inr rfl) ev k!) b4 ⟨j0,gC,by omega⟩ (P:=fun hh=>fW hh .u8 81 FH (cR t l_ l_.length 0 ([]))∧ij 81 h hh FH (zs .u8 (cR t l_ l_.length 0 ([])))) ⟨oz.zs o! k! k!,oz⟩ fun v=>⟨oz.GO (nW v) k! k!,oz.GQ (nW v)⟩⟩
   · have jn:=of_decide_eq_false f1
     rcases Bool.eq_false_or_eq_true (!decide ((aS l_ l_.length 0 (ay t))=0)) with f2 | f2
     · have np:=sS f2
       obtain ⟨h1,bm,aL,cu,aE,bh⟩:=cj b4 (aH.cells [t.ak,(AV.int .i64 t.rest),(AV.int .i64 t.day)] 24 false)
       have aG:Has h h1:=bh
       have k2:=cg (d:=d) t (aD.mono aG b8) aL
       have DG:cJ (some (.slice 37)) (some bA)=some (AV.int .i64 ((l_.length:Nat):Int)):=bE.len
       obtain ⟨FG,h7,s7,rp,B0⟩:=dq (d:=d) (h:=h) bA l_ t h.nx bE b8 b8 l_.length 0 (ay t) o! (fun k_=>(((AV.agg [t.ak,(AV.int .i64 t.rest),(AV.int .i64 t.day)])::bA::(AV.ptr h.nx 0)::AV.undef::AV.aI::(AV.int .i64 0)::(AV.int .i64 (ay t))::(AV.int .i64 0)::AV.undef::AV.undef::AV.undef::(AV.agg [t.ak,(AV.int .i64 t.rest),(AV.int .i64 t.day)])::(AV.int .i64 (ay t))::(AV.int .i64 (ay t))::(AV.bool (decide ((ay t)=0)))::(AV.bool (decide ((ay t)=0)))::bA::(AV.int .i64 ((l_.length:Nat):Int))::(AV.bool (decide (128<((l_.length:Nat):Int))))::(AV.bool (decide (128<((l_.length:Nat):Int))))::cz 73):List AV).getD k_ AV.undef) h1 aL aG aE
       have eA:=rp.y
       have QF:h1.nx≤h7.nx:=rp.n
       have di:Has h h7:=aG.trans rp.a
       have ev:=pk (d+2) fk ((AV.agg [t.ak,(AV.int .i64 t.rest),(AV.int .i64 t.day)])::bA::cz 91) h .ret h7 (NN bm (fun i=>(AV.ptr i 0))<|CN 2<|MM (aw 24 0 (AV.agg [t.ak,(AV.int .i64 t.rest),(AV.int .i64 t.day)]) aE k!)<|EE k2<|CN 2<|VV (dC 28 false true .i64 (ay t) 0)<|CC<|BB f0<|CC<|BB f0<|VV DG<|BB f0<|VV (dA 3 false true .i64 ((l_.length:Nat):Int) 128)<|VV (aX (a:=some (AV.bool (decide (128<((l_.length:Nat):Int))))) (b:=some (AV.bool false)) f0)<|BB f1<|CC<|LL s7<|CC<|VV (cS 28 false true .i64 (aS l_ l_.length 0 (ay t)) 0)<|BB f2<|CN 3<|ZZ) k!
       have e:aC t l_=([],(aS l_ l_.length 0 (ay t))):=by simp only[aC,f0,f1,f2,cond_true,cond_false]
       rw[e]
       exact ⟨.aI,iy rfl (bz Tryz.func11 lH k! (.inr rfl) ev k!) b4 ⟨eA,di,by omega⟩ (P:=fun hh=>fW hh .u8 81 .aI []∧ij 81 h hh .aI (zs .u8 [])) ⟨fW.nil k! k!,.inl ⟨rfl,rfl⟩⟩ fun _=>⟨fW.nil k! k!,.inl ⟨rfl,rfl⟩⟩⟩
     · have np:=sU f2
       obtain ⟨h1,bm,aL,cu,aE,bh⟩:=cj b4 (aH.cells [t.ak,(AV.int .i64 t.rest),(AV.int .i64 t.day)] 24 false)
       have aG:Has h h1:=bh
       have k2:=cg (d:=d) t (aD.mono aG b8) aL
       have DG:cJ (some (.slice 37)) (some bA)=some (AV.int .i64 ((l_.length:Nat):Int)):=bE.len
       obtain ⟨FG,h7,s7,rp,B0⟩:=dq (d:=d) (h:=h) bA l_ t h.nx bE b8 b8 l_.length 0 (ay t) o! (fun k_=>(((AV.agg [t.ak,(AV.int .i64 t.rest),(AV.int .i64 t.day)])::bA::(AV.ptr h.nx 0)::AV.undef::AV.aI::(AV.int .i64 0)::(AV.int .i64 (ay t))::(AV.int .i64 0)::AV.undef::AV.undef::AV.undef::(AV.agg [t.ak,(AV.int .i64 t.rest),(AV.int .i64 t.day)])::(AV.int .i64 (ay t))::(AV.int .i64 (ay t))::(AV.bool (decide ((ay t)=0)))::(AV.bool (decide ((ay t)=0)))::bA::(AV.int .i64 ((l_.length:Nat):Int))::(AV.bool (decide (128<((l_.length:Nat):Int))))::(AV.bool (decide (128<((l_.length:Nat):Int))))::cz 73):List AV).getD k_ AV.undef) h1 aL aG aE
       have eA:=rp.y
       have QF:h1.nx≤h7.nx:=rp.n
       have di:Has h h7:=aG.trans rp.a
       obtain ⟨FH,Y8,nG,FI,uu,KU,yO⟩:=lQ (d:=d) (h:=h7) bA l_ t h.nx (bE.has di) (b8.has di) (aD.mono di b8) (by first | omega | exact (kt (v:=3) (by decide) (by assumption)).elim | exact (kt (v:=ay t) (by assumption) (by assumption)).elim) eA (rp.a _ _ aE) l_.length 0 ([]) AV.aI o! (fun k_=>(((FG 0)::bA::(AV.ptr h.nx 0)::rx FG 3 3 ((AV.int .i64 (aS l_ l_.length 0 (ay t)))::(FG 7)::(FG 8)::AV.aI::(AV.int .i64 0)::rx FG 11 65 ((AV.int .i64 (aS l_ l_.length 0 (ay t)))::(AV.bool (!decide ((aS l_ l_.length 0 (ay t))=0)))::rx FG 78 15 []))):List AV).getD k_ AV.undef) h7 eA (Has.refl _) (Nat.le_refl _) (.inl ⟨rfl,rfl⟩) (Nat.zero_le _)
       rw[mr] at yO
       have j0:=uu.y
       have OL:h7.nx≤nG.nx:=uu.n
       have gC:Has h nG:=di.trans uu.a
       have K2:Has h7 nG:=uu.a
       have ev:=pk (d+2) fk ((AV.agg [t.ak,(AV.int .i64 t.rest),(AV.int .i64 t.day)])::bA::cz 91) h .ret nG (NN bm (fun i=>(AV.ptr i 0))<|CN 2<|MM (aw 24 0 (AV.agg [t.ak,(AV.int .i64 t.rest),(AV.int .i64 t.day)]) aE k!)<|EE k2<|CN 2<|VV (dC 28 false true .i64 (ay t) 0)<|CC<|BB f0<|CC<|BB f0<|VV DG<|BB f0<|VV (dA 3 false true .i64 ((l_.length:Nat):Int) 128)<|VV (aX (a:=some (AV.bool (decide (128<((l_.length:Nat):Int))))) (b:=some (AV.bool false)) f0)<|BB f1<|CC<|LL s7<|CC<|VV (cS 28 false true .i64 (aS l_ l_.length 0 (ay t)) 0)<|BB f2<|CN 2<|LL FI<|CN 3<|ZZ) k!
       have e:aC t l_=((cR t l_ l_.length 0 ([])),0):=by simp only[aC,f0,f1,f2,cond_true,cond_false]
       rw[e]
       have oz:=ij.le (h0:=h) KU o!
       exact ⟨FH,iy rfl (bz Tryz.func11 lH k! (.inr rfl) ev k!) b4 ⟨j0,gC,by omega⟩ (P:=fun hh=>fW hh .u8 81 FH (cR t l_ l_.length 0 ([]))∧ij 81 h hh FH (zs .u8 (cR t l_ l_.length 0 ([])))) ⟨oz.zs o! k! k!,oz⟩ fun v=>⟨oz.GO (nW v) k! k!,oz.GQ (nW v)⟩⟩
 · have fH:=of_decide_eq_false f0
   rcases Bool.eq_false_or_eq_true (!decide ((aS l_ l_.length 0 (ay t))=0)) with f1 | f1
   · have jn:=sS f1
     obtain ⟨h1,bm,aL,cu,aE,bh⟩:=cj b4 (aH.cells [t.ak,(AV.int .i64 t.rest),(AV.int .i64 t.day)] 24 false)
     have aG:Has h h1:=bh
     have k2:=cg (d:=d) t (aD.mono aG b8) aL
     obtain ⟨Av,h5,eI,bJ,GU⟩:=dq (d:=d) (h:=h) bA l_ t h.nx bE b8 b8 l_.length 0 (ay t) o! (fun k_=>(((AV.agg [t.ak,(AV.int .i64 t.rest),(AV.int .i64 t.day)])::bA::(AV.ptr h.nx 0)::AV.undef::AV.aI::(AV.int .i64 0)::(AV.int .i64 (ay t))::(AV.int .i64 0)::AV.undef::AV.undef::AV.undef::(AV.agg [t.ak,(AV.int .i64 t.rest),(AV.int .i64 t.day)])::(AV.int .i64 (ay t))::(AV.int .i64 (ay t))::(AV.bool (decide ((ay t)=0)))::(AV.bool (decide ((ay t)=0)))::AV.undef::AV.undef::AV.undef::(AV.bool false)::cz 73):List AV).getD k_ AV.undef) h1 aL aG aE
     have eB:=bJ.y
     have lD:h1.nx≤h5.nx:=bJ.n
     have ck:Has h h5:=aG.trans bJ.a
     have ev:=pk (d+2) fk ((AV.agg [t.ak,(AV.int .i64 t.rest),(AV.int .i64 t.day)])::bA::cz 91) h .ret h5 (NN bm (fun i=>(AV.ptr i 0))<|CN 2<|MM (aw 24 0 (AV.agg [t.ak,(AV.int .i64 t.rest),(AV.int .i64 t.day)]) aE k!)<|EE k2<|CN 2<|VV (dC 28 false true .i64 (ay t) 0)<|CC<|BB f0<|BB f0<|BB f0<|VV (aJ (a:=some AV.undef) (b:=some (AV.bool false)) f0)<|FF<|CC<|LL eI<|CC<|VV (cS 28 false true .i64 (aS l_ l_.length 0 (ay t)) 0)<|BB f1<|CN 3<|ZZ) k!
     have e:aC t l_=([],(aS l_ l_.length 0 (ay t))):=by simp only[aC,f0,f1,cond_true,cond_false]
     rw[e]
     exact ⟨.aI,iy rfl (bz Tryz.func11 lH k! (.inr rfl) ev k!) b4 ⟨eB,ck,by omega⟩ (P:=fun hh=>fW hh .u8 81 .aI []∧ij 81 h hh .aI (zs .u8 [])) ⟨fW.nil k! k!,.inl ⟨rfl,rfl⟩⟩ fun _=>⟨fW.nil k! k!,.inl ⟨rfl,rfl⟩⟩⟩
   · have jn:=sU f1
     obtain ⟨h1,bm,aL,cu,aE,bh⟩:=cj b4 (aH.cells [t.ak,(AV.int .i64 t.rest),(AV.int .i64 t.day)] 24 false)
     have aG:Has h h1:=bh
     have k2:=cg (d:=d) t (aD.mono aG b8) aL
     obtain ⟨Av,h5,eI,bJ,GU⟩:=dq (d:=d) (h:=h) bA l_ t h.nx bE b8 b8 l_.length 0 (ay t) o! (fun k_=>(((AV.agg [t.ak,(AV.int .i64 t.rest),(AV.int .i64 t.day)])::bA::(AV.ptr h.nx 0)::AV.undef::AV.aI::(AV.int .i64 0)::(AV.int .i64 (ay t))::(AV.int .i64 0)::AV.undef::AV.undef::AV.undef::(AV.agg [t.ak,(AV.int .i64 t.rest),(AV.int .i64 t.day)])::(AV.int .i64 (ay t))::(AV.int .i64 (ay t))::(AV.bool (decide ((ay t)=0)))::(AV.bool (decide ((ay t)=0)))::AV.undef::AV.undef::AV.undef::(AV.bool false)::cz 73):List AV).getD k_ AV.undef) h1 aL aG aE
     have eB:=bJ.y
     have lD:h1.nx≤h5.nx:=bJ.n
     have ck:Has h h5:=aG.trans bJ.a
     obtain ⟨Wt,mf,h8,gD,dr,Wu,Wv⟩:=lQ (d:=d) (h:=h5) bA l_ t h.nx (bE.has ck) (b8.has ck) (aD.mono ck b8) (by first | omega | exact (kt (v:=3) (by decide) (by assumption)).elim | exact (kt (v:=ay t) (by assumption) (by assumption)).elim) eB (bJ.a _ _ aE) l_.length 0 ([]) AV.aI o! (fun k_=>(((Av 0)::bA::(AV.ptr h.nx 0)::rx Av 3 3 ((AV.int .i64 (aS l_ l_.length 0 (ay t)))::(Av 7)::(Av 8)::AV.aI::(AV.int .i64 0)::rx Av 11 65 ((AV.int .i64 (aS l_ l_.length 0 (ay t)))::(AV.bool (!decide ((aS l_ l_.length 0 (ay t))=0)))::rx Av 78 15 []))):List AV).getD k_ AV.undef) h5 eB (Has.refl _) (Nat.le_refl _) (.inl ⟨rfl,rfl⟩) (Nat.zero_le _)
     rw[mr] at Wv
     have cT:=dr.y
     have yP:h5.nx≤h8.nx:=dr.n
     have dJ:Has h h8:=ck.trans dr.a
     have kg:Has h5 h8:=dr.a
     have ev:=pk (d+2) fk ((AV.agg [t.ak,(AV.int .i64 t.rest),(AV.int .i64 t.day)])::bA::cz 91) h .ret h8 (NN bm (fun i=>(AV.ptr i 0))<|CN 2<|MM (aw 24 0 (AV.agg [t.ak,(AV.int .i64 t.rest),(AV.int .i64 t.day)]) aE k!)<|EE k2<|CN 2<|VV (dC 28 false true .i64 (ay t) 0)<|CC<|BB f0<|BB f0<|BB f0<|VV (aJ (a:=some AV.undef) (b:=some (AV.bool false)) f0)<|FF<|CC<|LL eI<|CC<|VV (cS 28 false true .i64 (aS l_ l_.length 0 (ay t)) 0)<|BB f1<|CN 2<|LL gD<|CN 3<|ZZ) k!
     have e:aC t l_=((cR t l_ l_.length 0 ([])),0):=by simp only[aC,f0,f1,cond_true,cond_false]
     rw[e]
     have oz:=ij.le (h0:=h) Wu o!
     exact ⟨Wt,iy rfl (bz Tryz.func11 lH k! (.inr rfl) ev k!) b4 ⟨cT,dJ,by omega⟩ (P:=fun hh=>fW hh .u8 81 Wt (cR t l_ l_.length 0 ([]))∧ij 81 h hh Wt (zs .u8 (cR t l_ l_.length 0 ([])))) ⟨oz.zs o! k! k!,oz⟩ fun v=>⟨oz.GO (nW v) k! k!,oz.GQ (nW v)⟩⟩
theorem jt {x:Int} (h:aF x=true):0≤x∧x≤100000:=by
 unfold aF at h
 by_cases q:0≤x
 · rw[decide_eq_true q] at h;exact ⟨q,of_decide_eq_true h⟩
 · rw[decide_eq_false q] at h;cases h
theorem nv {t:aK}:∀{k i:Nat},cD t k i=none→∀j,i≤j→j<i+k→0≤(t.rows.g j).out∧(t.rows.g j).out≤100000
 | 0,i,_,j,h1,h2=>by omega
 | k+1,i,h,j,h1,h2=>by
   rw[cD] at h
   cases q1:aF (t.rows.g i).ab with
   | false=>rw[q1] at h;cases h
   | true=>
     cases q2:aF (t.rows.g i).ae with
     | false=>rw[q1,q2] at h;cases h
     | true=>
       cases q3:aF (t.rows.g i).out with
       | false=>rw[q1,q2,q3] at h;cases h
       | true=>
         rw[q1,q2,q3] at h
         by_cases e:j=i
         · rw[e];exact jt q3
         · exact nv (k:=k) (i:=i+1) h j (by omega) (by omega)
theorem nw {t:aK}:∀{k i:Nat} {r:Int},cD t k i=some r→r=1
 | 0,i,r,h=>by cases h
 | k+1,i,r,h=>by
   rw[cD] at h
   cases q1:aF (t.rows.g i).ab with
   | false=>rw[q1] at h;cases h;rfl
   | true=>
     cases q2:aF (t.rows.g i).ae with
     | false=>rw[q1,q2] at h;cases h;rfl
     | true=>
       cases q3:aF (t.rows.g i).out with
       | false=>rw[q1,q2,q3] at h;cases h;rfl
       | true=>rw[q1,q2,q3] at h;exact nw (k:=k) (i:=i+1) h
theorem my {t:aK} (h:ay t=0):(∀j,j<t.rows.length→0≤(t.rows.g j).out∧(t.rows.g j).out≤100000)∧0≤t.rest∧t.rest≤100000∧0≤t.day∧t.day≤100000:=by
 unfold ay at h
 cases q0:decide (64<((t.rows.length:Nat):Int)) with
 | true=>rw[q0] at h;cases h
 | false=>
   rw[q0] at h
   cases q1:cD t t.rows.length 0 with
   | some r=>rw[q1] at h;have:=nw q1;subst this;cases h
   | none=>
     rw[q1] at h
     cases q2:aF t.rest with
     | false=>rw[q2] at h;cases h
     | true=>
       cases q3:aF t.day with
       | false=>rw[q2,q3] at h;cases h
       | true=>
         refine ⟨fun j hj=>nv q1 j (by omega) (by omega),?_⟩
         have a:=jt q2
         have b:=jt q3
         omega
theorem oo {t:aK} {p m:Int} (f:∀j,j<t.rows.length→0≤(t.rows.g j).out∧(t.rows.g j).out≤100000):∀{k i:Nat} {r:Int},i+k≤t.rows.length→dy t p m k i=some r→0≤r∧r≤100000
 | 0,i,r,hk,h=>by cases h
 | k+1,i,r,hk,h=>by
   rw[dy] at h
   cases q1:decide (p≤(t.rows.g i).ab) with
   | false=>rw[q1] at h;exact oo f (k:=k) (i:=i+1) (by omega) h
   | true=>
     cases q2:decide (m≤(t.rows.g i).ae) with
     | false=>rw[q1,q2] at h;exact oo f (k:=k) (i:=i+1) (by omega) h
     | true=>rw[q1,q2] at h;cases h;exact f i (by omega)
theorem yQ {t:aK} (p m:Int) (f:∀j,j<t.rows.length→0≤(t.rows.g j).out∧(t.rows.g j).out≤100000): -1≤aA t p m∧aA t p m≤100000:=by
 unfold aA
 cases q:dy t p m t.rows.length 0 with
 | none=>exact ⟨by decide,by decide⟩
 | some r=>have:=oo f (by omega) q;exact ⟨by show -1≤r;omega,by show r≤100000;omega⟩
theorem fA {l:List aO}:∀{k i:Nat} {v:Int},v≠0→aS l k i v=v
 | 0,i,v,h=>rfl
 | k+1,i,v,h=>by rw[aS,decide_eq_false h];rfl
theorem ru {l:List aO}:∀{k i:Nat} {v:Int},aS l k i v=0→∀j,i≤j→j<i+k→0≤(l.g j).aP∧(l.g j).aP≤100000
 | 0,i,v,_,j,h1,h2=>by omega
 | k+1,i,v,h,j,h1,h2=>by
   have nz:∀{w:Int},w≠0→aS l k (i+1) w≠0:=fun hw e=>hw ((fA hw).symm.trans e)
   rw[aS] at h
   by_cases q:v=0
   · rw[decide_eq_true q] at h
     simp only[cond_true] at h
     cases q1:dS (l.g i).worker with
     | false=>rw[q1] at h;exact absurd h (nz (by decide))
     | true=>
     cases q2:aF (l.g i).ab with
     | false=>rw[q1,q2] at h;exact absurd h (nz (by decide))
     | true=>
     cases q3:aF (l.g i).aP with
     | false=>rw[q1,q2,q3] at h;exact absurd h (nz (by decide))
     | true=>
     cases q4:aF (l.g i).leave with
     | false=>rw[q1,q2,q3,q4] at h;exact absurd h (nz (by decide))
     | true=>
     cases q5:aF (l.g i).out with
     | false=>rw[q1,q2,q3,q4,q5] at h;exact absurd h (nz (by decide))
     | true=>
     rw[q1,q2,q3,q4,q5] at h
     by_cases e:j=i
     · rw[e];exact jt q3
     · have:∃w,aS l k (i+1) w=0:=by
        cases q6:decide (0<((i:Nat):Int)) with
        | false=>rw[q6] at h;exact ⟨_,h⟩
        | true=>
          cases q7:decide ((l.g i).aP<(l.g (i - 1)).aP) with
          | false=>rw[q6,q7] at h;exact ⟨_,h⟩
          | true=>rw[q6,q7] at h;exact ⟨_,h⟩
       obtain ⟨w,hw⟩:=this
       exact ru hw j (by omega) (by omega)
   · rw[decide_eq_false q] at h;exact absurd h q
theorem DS {t:aK} {l:List aO} (h:(aC t l).2=0):ay t=0∧l.length≤128∧∀j,j<l.length→0≤(l.g j).aP∧(l.g j).aP≤100000:=by
 unfold aC at h
 by_cases q:ay t=0
 · rw[decide_eq_true q] at h
   by_cases r:128<((l.length:Nat):Int)
   · rw[decide_eq_true r,fA (show (3:Int)≠0 by decide)] at h;cases h
   · rw[decide_eq_false r] at h
     refine ⟨q,by omega,fun j hj=>?_⟩
     by_cases s:aS l l.length 0 (ay t)=0
     · exact ru s j (by omega) (by omega)
     · rw[decide_eq_false s] at h;exact absurd h s
 · rw[decide_eq_false q,fA q,decide_eq_false q] at h;exact absurd h q
theorem FJ {t:aK} {l:List aO} (p m:Int) (h:(aC t l).2=0):l.length≤128∧-1≤aA t p m∧aA t p m≤100000∧(0<l.length→0≤(l.g (l.length - 1)).aP∧(l.g (l.length - 1)).aP≤100000):=by
 obtain ⟨a,b,c⟩:=DS h
 have w:=yQ p m (my a).1
 exact ⟨b,w.1,w.2,fun hl=>c _ (by omega)⟩
theorem K3 (x y:Int):x≤imax x y∧y≤imax x y∧(imax x y=x∨imax x y=y):=by unfold imax;split<;>omega
noncomputable def iR:Code:=(Tryz.f6.body).getD .skip
theorem ny:Tryz.f6.body=some iR:=by kernel_rfl
def b6 (t:aK) (ab:Int) (ae:Int):Int×Int:=(bif (!decide ((bw t)=0)) then (0,(bw t)) else (bif (!(bW ab)) then (0,1) else (bif (!(bW ae)) then (0,1) else (bif (!((ax t ab ae).2)) then (0,7) else ((((ax t ab ae).1).out),0)))))
theorem ju {d:Nat} {h:ar} (t:aK) (ab:Int) (ae:Int) (b8:aD.ok h t) (b4:Tidy h):eD (d+6) (.fn 6) [(AV.agg [t.ak,(AV.int .i64 t.rest),(AV.int .i64 t.day)]),(AV.int .i64 ab),(AV.int .i64 ae)] h= .ret (AV.tuple [(AV.int .i64 ((b6 t ab ae).1)),(AV.int .i64 ((b6 t ab ae).2))]) h:=by
 rcases Bool.eq_false_or_eq_true (!decide ((bw t)=0)) with f0 | f0
 · have fH:=sS f0
   obtain ⟨h1,bm,aL,cu,aE,bh⟩:=cj b4 (aH.cells [t.ak,(AV.int .i64 t.rest),(AV.int .i64 t.day)] 24 false)
   have aG:Has h h1:=bh
   have k2:=cN (d:=d) t (aD.mono aG b8) aL
   have ev:=pk (d+5) iR ((AV.agg [t.ak,(AV.int .i64 t.rest),(AV.int .i64 t.day)])::(AV.int .i64 ab)::(AV.int .i64 ae)::cz 32) h .ret h1 (NN bm (fun i=>(AV.ptr i 0))<|CN 2<|MM (aw 24 0 (AV.agg [t.ak,(AV.int .i64 t.rest),(AV.int .i64 t.day)]) aE k!)<|EE k2<|CN 2<|VV (cS 28 false true .i64 (bw t) 0)<|BB f0<|CN 3<|ZZ) k!
   have e:b6 t ab ae=(0,(bw t)):=by simp only[b6,f0,cond_true,cond_false]
   rw[e]
   exact az rfl (bz Tryz.func6 ny k! (.inr rfl) ev k!) aG rfl
 · have fH:=sU f0
   rcases Bool.eq_false_or_eq_true (!(bW ab)) with f1 | f1
   · obtain ⟨h1,bm,aL,cu,aE,bh⟩:=cj b4 (aH.cells [t.ak,(AV.int .i64 t.rest),(AV.int .i64 t.day)] 24 false)
     have aG:Has h h1:=bh
     have k2:=cN (d:=d) t (aD.mono aG b8) aL
     have k4:=aZ (d:=d+3) ab aL
     have ev:=pk (d+5) iR ((AV.agg [t.ak,(AV.int .i64 t.rest),(AV.int .i64 t.day)])::(AV.int .i64 ab)::(AV.int .i64 ae)::cz 32) h .ret h1 (NN bm (fun i=>(AV.ptr i 0))<|CN 2<|MM (aw 24 0 (AV.agg [t.ak,(AV.int .i64 t.rest),(AV.int .i64 t.day)]) aE k!)<|EE k2<|CN 2<|VV (cS 28 false true .i64 (bw t) 0)<|BB f0<|CC<|EE k4<|CN 2<|BB f1<|BB f1<|BB f1<|VV (aX (a:=some (AV.bool true)) (b:=some AV.undef) f1)<|TT<|CN 2<|ZZ) k!
     have e:b6 t ab ae=(0,1):=by simp only[b6,f0,f1,cond_true,cond_false]
     rw[e]
     exact az rfl (bz Tryz.func6 ny k! (.inr rfl) ev k!) aG rfl
   · rcases Bool.eq_false_or_eq_true (!(bW ae)) with f2 | f2
     · obtain ⟨h1,bm,aL,cu,aE,bh⟩:=cj b4 (aH.cells [t.ak,(AV.int .i64 t.rest),(AV.int .i64 t.day)] 24 false)
       have aG:Has h h1:=bh
       have k2:=cN (d:=d) t (aD.mono aG b8) aL
       have k4:=aZ (d:=d+3) ab aL
       have k6:=aZ (d:=d+3) ae aL
       have ev:=pk (d+5) iR ((AV.agg [t.ak,(AV.int .i64 t.rest),(AV.int .i64 t.day)])::(AV.int .i64 ab)::(AV.int .i64 ae)::cz 32) h .ret h1 (NN bm (fun i=>(AV.ptr i 0))<|CN 2<|MM (aw 24 0 (AV.agg [t.ak,(AV.int .i64 t.rest),(AV.int .i64 t.day)]) aE k!)<|EE k2<|CN 2<|VV (cS 28 false true .i64 (bw t) 0)<|BB f0<|CC<|EE k4<|CN 2<|BB f1<|CC<|BB f1<|EE k6<|BB f1<|CC<|VV (aJ (a:=some (AV.bool true)) (b:=some (AV.bool (!(bW ae)))) f1)<|BB f2<|CN 2<|ZZ) k!
       have e:b6 t ab ae=(0,1):=by simp only[b6,f0,f1,f2,cond_true,cond_false]
       rw[e]
       exact az rfl (bz Tryz.func6 ny k! (.inr rfl) ev k!) aG rfl
     · rcases Bool.eq_false_or_eq_true (!((ax t ab ae).2)) with f3 | f3
       · obtain ⟨h1,bm,aL,cu,aE,bh⟩:=cj b4 (aH.cells [t.ak,(AV.int .i64 t.rest),(AV.int .i64 t.day)] 24 false)
         have aG:Has h h1:=bh
         have k2:=cN (d:=d) t (aD.mono aG b8) aL
         have k4:=aZ (d:=d+3) ab aL
         have k6:=aZ (d:=d+3) ae aL
         have k8:=jk (d:=d+2) t ab ae (aD.mono aG b8) aL
         obtain ⟨h9,BV,dZ,vx,eZ,pQ⟩:=cj aL (aH.cells [(AV.int .i64 0),(AV.int .i64 0),(AV.int .i64 0)] 67 false)
         have g8:Has h h9:=aG.trans pQ
         obtain ⟨nG,K4,j0,wx,ku,FK⟩:=dW (t:=67) (n:=3) (i:=h1.nx) (L:=[(AV.int .i64 (((ax t ab ae).1).ab)),(AV.int .i64 (((ax t ab ae).1).ae)),(AV.int .i64 (((ax t ab ae).1).out))]) dZ eZ k! rfl rfl (by simp only[AV.cells,List.all_cons,List.all_nil,Bool.and_true,Bool.and_self,bP,bB,bQ,bR,bl,cm,cn,cq,cr,ct,bS])
         have gC:Has h nG:=Has.aU g8 FK b4 o!
         have ev:=pk (d+5) iR ((AV.agg [t.ak,(AV.int .i64 t.rest),(AV.int .i64 t.day)])::(AV.int .i64 ab)::(AV.int .i64 ae)::cz 32) h .ret nG (NN bm (fun i=>(AV.ptr i 0))<|CN 2<|MM (aw 24 0 (AV.agg [t.ak,(AV.int .i64 t.rest),(AV.int .i64 t.day)]) aE k!)<|EE k2<|CN 2<|VV (cS 28 false true .i64 (bw t) 0)<|BB f0<|CC<|EE k4<|CN 2<|BB f1<|CC<|BB f1<|EE k6<|BB f1<|CC<|VV (aJ (a:=some (AV.bool true)) (b:=some (AV.bool (!(bW ae)))) f1)<|BB f2<|MM (aw 24 0 (AV.agg [t.ak,(AV.int .i64 t.rest),(AV.int .i64 t.day)]) aE k!)<|CN 2<|EE k8<|CN 3<|NN BV (fun i=>(AV.ptr i 0))<|SS K4<|CN 3<|BB f3<|CN 2<|ZZ) k!
         have e:b6 t ab ae=(0,7):=by simp only[b6,f0,f1,f2,f3,cond_true,cond_false]
         rw[e]
         exact az rfl (bz Tryz.func6 ny k! (.inr rfl) ev k!) gC rfl
       · obtain ⟨h1,bm,aL,cu,aE,bh⟩:=cj b4 (aH.cells [t.ak,(AV.int .i64 t.rest),(AV.int .i64 t.day)] 24 false)
         have aG:Has h h1:=bh
         have k2:=cN (d:=d) t (aD.mono aG b8) aL
         have k4:=aZ (d:=d+3) ab aL
         have k6:=aZ (d:=d+3) ae aL
         have k8:=jk (d:=d+2) t ab ae (aD.mono aG b8) aL
         obtain ⟨h9,BV,dZ,vx,eZ,pQ⟩:=cj aL (aH.cells [(AV.int .i64 0),(AV.int .i64 0),(AV.int .i64 0)] 67 false)
         have g8:Has h h9:=aG.trans pQ
         obtain ⟨nG,K4,j0,wx,ku,FK⟩:=dW (t:=67) (n:=3) (i:=h1.nx) (L:=[(AV.int .i64 (((ax t ab ae).1).ab)),(AV.int .i64 (((ax t ab ae).1).ae)),(AV.int .i64 (((ax t ab ae).1).out))]) dZ eZ k! rfl rfl (by simp only[AV.cells,List.all_cons,List.all_nil,Bool.and_true,Bool.and_self,bP,bB,bQ,bR,bl,cm,cn,cq,cr,ct,bS])
         have gC:Has h nG:=Has.aU g8 FK b4 o!
         have ev:=pk (d+5) iR ((AV.agg [t.ak,(AV.int .i64 t.rest),(AV.int .i64 t.day)])::(AV.int .i64 ab)::(AV.int .i64 ae)::cz 32) h .ret nG (NN bm (fun i=>(AV.ptr i 0))<|CN 2<|MM (aw 24 0 (AV.agg [t.ak,(AV.int .i64 t.rest),(AV.int .i64 t.day)]) aE k!)<|EE k2<|CN 2<|VV (cS 28 false true .i64 (bw t) 0)<|BB f0<|CC<|EE k4<|CN 2<|BB f1<|CC<|BB f1<|EE k6<|BB f1<|CC<|VV (aJ (a:=some (AV.bool true)) (b:=some (AV.bool (!(bW ae)))) f1)<|BB f2<|MM (aw 24 0 (AV.agg [t.ak,(AV.int .i64 t.rest),(AV.int .i64 t.day)]) aE k!)<|CN 2<|EE k8<|CN 3<|NN BV (fun i=>(AV.ptr i 0))<|SS K4<|CN 3<|BB f3<|CC<|MM (aw 3 2 (AV.int .i64 (((ax t ab ae).1).out)) ku k!)<|CN 2<|ZZ) k!
         have e:b6 t ab ae=((((ax t ab ae).1).out),0):=by simp only[b6,f0,f1,f2,f3,cond_true,cond_false]
         rw[e]
         exact az rfl (bz Tryz.func6 ny k! (.inr rfl) ev k!) gC rfl
end Go.Proofs.bt
