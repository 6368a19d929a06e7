import Derived.Test.YtjohpcpopggbkaaGreatW0
import Derived.Test.YtjohpcpopggbkaaGreatW2
namespace Go.Proofs.aW
open Go.Proofs Ab
set_option maxRecDepth 100000
set_option maxHeartbeats 4000000
set_option linter.unusedVariables false
set_option linter.unusedSimpArgs false
noncomputable def ea:Code:=(Tryz.f61.body).getD .skip
theorem jK:Tryz.f61.body=some ea:=by kernel_rfl
noncomputable def fL:Code:=(cP ea).getD 0 .skip
def cL (P:Nat→Int) (list:List aw):Nat→Nat→Option (Int)
 | 0,_=>none
 | dC+1,i0=>(bif (!decide ((P i0)=0)) then some (P i0) else cL P list dC (i0+1))
theorem hJ {d:Nat} {h:aq} (bV:AV) (g:FuncId) (cap:List AV) (list:List aw) (P:Nat→Int) (bC:bf h bV list) (hP:∀j,j<list.length→∀aV hh,Tidy hh→Has h hh→bf hh aV (list.take j)→dH d (.fn g) (aV:: .agg (aG.c (list.g j))::cap) hh= .ret (.int .i64 (P j)) hh):∀(k_ i_:Nat) (_:i_+k_=list.length) (x:Nat→AV) (hh:aq) (aX:Tidy hh) (a_:Has h hh),aS (dH (d)) fL ⟨(bV::(x 1)::(AV.func g [] cap)::rx x 3 11 (bV::(AV.int .i64 ((list.length:Nat):Int))::(AV.int .i64 ((i_:Nat):Int))::rx x 17 14 [])),hh,[],.no⟩ (.exit 0) hh (fun y=>(bV::(y 1)::(AV.func g [] cap)::rx y 3 11 (bV::(AV.int .i64 ((list.length:Nat):Int))::rx y 16 15 []))) (fun r y=>(bV::(y 1)::(AV.func g [] cap)::rx y 3 3 ((AV.int .i64 r)::rx y 7 7 (bV::(AV.int .i64 ((list.length:Nat):Int))::rx y 16 15 [])))) (cL P list k_ i_)
 | 0,i0,pB,x,hh,aX,a_=>by
   have eQ:=bC.small
   have q1:(decide (((i0:Nat):Int)<((list.length:Nat):Int)))=false:=d!
   have ev:=pk (d) fL (bV::(x 1)::(AV.func g [] cap)::rx x 3 11 (bV::(AV.int .i64 ((list.length:Nat):Int))::(AV.int .i64 ((i0:Nat):Int))::rx x 17 14 [])) hh (.exit 0) hh (VV (bz 3 false false .i64 ((i0:Nat):Int) ((list.length:Nat):Int))<|BB q1<|ZZ) k!
   exact aS.out rfl ev (b4.refl aX) k!
 | dC+1,i0,pB,x,hh,aX,a_=>by
   have eQ:=bC.small
   have q1:(decide (((i0:Nat):Int)<((list.length:Nat):Int)))=true:=d!
   obtain ⟨p3,q4,kH⟩:=(bC.has a_).elem (i:=i0) o!
   have kO:ep env (some (.slice 34)) (some bV) (some (AV.int .i64 ((i0:Nat):Int)))=some (AV.ptr p3 q4):=kH
   have pC:b9 env hh 34 (AV.ptr p3 q4)=some (AV.agg [(AV.str ((list.g i0).worker)),(AV.int .i64 ((list.g i0).ab)),(AV.int .i64 ((list.g i0).aD)),(AV.int .i64 ((list.g i0).leave)),(AV.int .i64 ((list.g i0).out))]):=(bC.has a_).load o! kH
   obtain ⟨h6,jI,oK,F3,oL,bQ⟩:=jA aX (aP.cells [(AV.str []),(AV.int .i64 0),(AV.int .i64 0),(AV.int .i64 0),(AV.int .i64 0)] 34 false)
   have oc:Has hh h6:=bQ
   obtain ⟨h7,lF,jm,F1,b6,dR⟩:=lC (t:=34) (n:=5) (i:=hh.nx) (L:=[(AV.str ((list.g i0).worker)),(AV.int .i64 ((list.g i0).ab)),(AV.int .i64 ((list.g i0).aD)),(AV.int .i64 ((list.g i0).leave)),(AV.int .i64 ((list.g i0).out))]) oK oL k! rfl rfl (by simp only[AV.cells,List.all_cons,List.all_nil,Bool.and_true,Bool.and_self,dL,cO,dM,dN,cu,fQ,fR,fS,fT,fU,dO])
   have fh:Has hh h7:=Has.ca oc dR aX o!
   obtain ⟨r8,Jb,Jc⟩:=(bC.has a_).pre (t:=25) k! (i:=i0) o!
   have Pf:eY env 25 bV (none) (some (AV.int .i64 ((i0:Nat):Int))) (none)=some r8:=Jb
   have O5:=hP i0 o! r8 h7 jm (a_.trans fh) (Jc.has fh)
   have R3:AV.same 20 (AV.agg [(AV.str ((list.g i0).worker)),(AV.int .i64 ((list.g i0).ab)),(AV.int .i64 ((list.g i0).aD)),(AV.int .i64 ((list.g i0).leave)),(AV.int .i64 ((list.g i0).out))]) (AV.agg [(AV.str ((list.g i0).worker)),(AV.int .i64 ((list.g i0).ab)),(AV.int .i64 ((list.g i0).aD)),(AV.int .i64 ((list.g i0).leave)),(AV.int .i64 ((list.g i0).out))])=true:=nq 18 (ve (fun n=>iK n _) (ve (fun n=>aU n _ _) (ve (fun n=>aU n _ _) (ve (fun n=>aU n _ _) (ve (fun n=>aU n _ _) Qk)))))
   rcases Bool.eq_false_or_eq_true (!decide ((P i0)=0)) with f1 | f1
   · have gF:=qZ f1
     have ev:=pk (d) fL (bV::(x 1)::(AV.func g [] cap)::rx x 3 11 (bV::(AV.int .i64 ((list.length:Nat):Int))::(AV.int .i64 ((i0:Nat):Int))::rx x 17 14 [])) hh .ret h7 (VV (bz 3 false false .i64 ((i0:Nat):Int) ((list.length:Nat):Int))<|BB q1<|CC<|VV kO<|MM pC<|NN jI (fun i=>(AV.ptr i 0))<|CC<|SS lF<|CN 3<|QQ Pf<|MM (au 34 0 (AV.agg [(AV.str ((list.g i0).worker)),(AV.int .i64 ((list.g i0).ab)),(AV.int .i64 ((list.g i0).aD)),(AV.int .i64 ((list.g i0).leave)),(AV.int .i64 ((list.g i0).out))]) b6 k!)<|EE O5<|CC<|HH (au 34 0 (AV.agg [(AV.str ((list.g i0).worker)),(AV.int .i64 ((list.g i0).ab)),(AV.int .i64 ((list.g i0).aD)),(AV.int .i64 ((list.g i0).leave)),(AV.int .i64 ((list.g i0).out))]) b6 k!)<|HH R3<|CC<|VV (cJ 30 false true .i64 (P i0) 0)<|BB f1<|CN 2<|ZZ) k!
     exact aS.ret (P i0) (by simp only[cL,f1,cond_true,cond_false]) ev (⟨jm,fh,by omega⟩) k!
   · have gF:=ra f1
     have R4:=fV 3 false true i0 1 o!
     have ev:=pk (d) fL (bV::(x 1)::(AV.func g [] cap)::rx x 3 11 (bV::(AV.int .i64 ((list.length:Nat):Int))::(AV.int .i64 ((i0:Nat):Int))::rx x 17 14 [])) hh .normal h7 (VV (bz 3 false false .i64 ((i0:Nat):Int) ((list.length:Nat):Int))<|BB q1<|CC<|VV kO<|MM pC<|NN jI (fun i=>(AV.ptr i 0))<|CC<|SS lF<|CN 3<|QQ Pf<|MM (au 34 0 (AV.agg [(AV.str ((list.g i0).worker)),(AV.int .i64 ((list.g i0).ab)),(AV.int .i64 ((list.g i0).aD)),(AV.int .i64 ((list.g i0).leave)),(AV.int .i64 ((list.g i0).out))]) b6 k!)<|EE O5<|CC<|HH (au 34 0 (AV.agg [(AV.str ((list.g i0).worker)),(AV.int .i64 ((list.g i0).ab)),(AV.int .i64 ((list.g i0).aD)),(AV.int .i64 ((list.g i0).leave)),(AV.int .i64 ((list.g i0).out))]) b6 k!)<|HH R3<|CC<|VV (cJ 30 false true .i64 (P i0) 0)<|BB f1<|VV R4<|CC<|ZZ) k!
     exact aS.round (by simp only[cL,f1,cond_true,cond_false]) ev (⟨jm,fh,by omega⟩) (fun x=>(bV::(x 1)::(AV.func g [] cap)::rx x 3 11 (bV::(AV.int .i64 ((list.length:Nat):Int))::(AV.int .i64 (((i0+1):Nat):Int))::rx x 17 14 []))) k! (fun x=>hJ bV g cap list P bC hP dC (i0+1) o! x h7 jm (a_.trans fh))
def b8 (list:List aw) (dZ:Int) (P:Nat→Int):Int:=(bif (decide (dZ<((list.length:Nat):Int))) then 3 else (match (cL P list list.length 0) with | none=>0 | some Dt=>Dt))
theorem sv {d:Nat} {h:aq} {bV:AV} {g:FuncId} {cap:List AV} (list:List aw) (dZ:Int) (P:Nat→Int) (mh:bf h bV list) (hP:∀j,j<list.length→∀aV hh,Tidy hh→Has h hh→bf hh aV (list.take j)→dH d (.fn g) (aV:: .agg (aG.c (list.g j))::cap) hh= .ret (.int .i64 (P j)) hh) (di:Tidy h):dH (d+1) (.fn 61) [bV,(AV.int .i64 dZ),(AV.func g [] cap)] h= .ret (AV.int .i64 (b8 list dZ P)) h:=by
 have Jd:=mh.small
 have jG:dU (some (.slice 34)) (some bV)=some (AV.int .i64 ((list.length:Nat):Int)):=mh.len
 rcases Bool.eq_false_or_eq_true (decide (dZ<((list.length:Nat):Int))) with f0 | f0
 · have dY:=of_decide_eq_true f0
   have ev:=pk (d) ea (bV::(AV.int .i64 dZ)::(AV.func g [] cap)::cx 28) h .ret h (CN 2<|VV jG<|CC<|VV (cI 3 false false .i64 ((list.length:Nat):Int) dZ)<|BB f0<|CC<|ZZ) k!
   have e:b8 list dZ P=3:=by simp only[b8,f0,cond_true,cond_false]
   rw[e]
   exact ay rfl (bb Tryz.func61 jK k! (.inr rfl) ev k!) (Has.refl _) rfl
 · have dY:=of_decide_eq_false f0
   have Pc:dU (some (.slice 34)) (some bV)=some (AV.int .i64 ((list.length:Nat):Int)):=mh.len
   cases fH:cL P list list.length 0 with
   | none=>
     obtain ⟨du,h5,cV,cf⟩:=aS.n fH (hJ (d:=d) (h:=h) bV g cap list P mh hP list.length 0 o! (fun k_=>((bV::(AV.int .i64 dZ)::(AV.func g [] cap)::AV.undef::AV.undef::AV.undef::(AV.int .i64 0)::AV.undef::AV.undef::AV.undef::bV::(AV.int .i64 ((list.length:Nat):Int))::(AV.int .i64 dZ)::(AV.bool (decide (dZ<((list.length:Nat):Int))))::bV::(AV.int .i64 ((list.length:Nat):Int))::(AV.int .i64 0)::cx 14):List AV).getD k_ AV.undef) h di (Has.refl _))
     have lG:=cf.y
     have wH:h.nx≤h5.nx:=cf.n
     have ie:Has h h5:=cf.a
     have ev:=pk (d) ea (bV::(AV.int .i64 dZ)::(AV.func g [] cap)::cx 28) h .ret h5 (CN 2<|VV jG<|CC<|VV (cI 3 false false .i64 ((list.length:Nat):Int) dZ)<|BB f0<|CC<|VV Pc<|CC<|LL cV<|CC<|ZZ) k!
     have e:b8 list dZ P=0:=by simp only[b8,f0,fH,cond_true,cond_false]
     rw[e]
     exact ay rfl (bb Tryz.func61 jK k! (.inr rfl) ev k!) ie rfl
   | some Dt=>
     obtain ⟨du,h5,cV,cf⟩:=aS.r fH (hJ (d:=d) (h:=h) bV g cap list P mh hP list.length 0 o! (fun k_=>((bV::(AV.int .i64 dZ)::(AV.func g [] cap)::AV.undef::AV.undef::AV.undef::(AV.int .i64 0)::AV.undef::AV.undef::AV.undef::bV::(AV.int .i64 ((list.length:Nat):Int))::(AV.int .i64 dZ)::(AV.bool (decide (dZ<((list.length:Nat):Int))))::bV::(AV.int .i64 ((list.length:Nat):Int))::(AV.int .i64 0)::cx 14):List AV).getD k_ AV.undef) h di (Has.refl _))
     have lG:=cf.y
     have wH:h.nx≤h5.nx:=cf.n
     have ie:Has h h5:=cf.a
     have ev:=pk (d) ea (bV::(AV.int .i64 dZ)::(AV.func g [] cap)::cx 28) h .ret h5 (CN 2<|VV jG<|CC<|VV (cI 3 false false .i64 ((list.length:Nat):Int) dZ)<|BB f0<|CC<|VV Pc<|CC<|LL cV<|ZZ) k!
     have e:b8 list dZ P=Dt:=by simp only[b8,f0,fH,cond_true,cond_false]
     rw[e]
     exact ay rfl (bb Tryz.func61 jK k! (.inr rfl) ev k!) ie rfl
noncomputable def gO:Code:=(Tryz.f54.body).getD .skip
theorem od:Tryz.f54.body=some gO:=by kernel_rfl
noncomputable def bS:Code:=(cP gO).getD 0 .skip
def bt (text:List UInt8):Nat→Nat→Option (Bool)
 | 0,_=>none
 | dC+1,i0=>(bif (decide (97≤(((text.g i0).toNat:Nat):Int))) then (bif (decide (48≤(((text.g i0).toNat:Nat):Int))) then (bif (decide ((((text.g i0).toNat:Nat):Int)≤57)) then (bif (!(decide ((((text.g i0).toNat:Nat):Int)≤122))) then (bif (decide (((i0:Nat):Int)=0)) then some false else bt text dC (i0+1)) else bt text dC (i0+1)) else (bif (!(decide ((((text.g i0).toNat:Nat):Int)≤122))) then (bif (decide (((i0:Nat):Int)=0)) then some false else (bif (!(decide ((((text.g i0).toNat:Nat):Int)=45))) then some false else bt text dC (i0+1))) else bt text dC (i0+1))) else (bif (!(decide ((((text.g i0).toNat:Nat):Int)≤122))) then (bif (decide (((i0:Nat):Int)=0)) then some false else (bif (!(decide ((((text.g i0).toNat:Nat):Int)=45))) then some false else bt text dC (i0+1))) else bt text dC (i0+1))) else (bif (decide (48≤(((text.g i0).toNat:Nat):Int))) then (bif (decide ((((text.g i0).toNat:Nat):Int)≤57)) then (bif (decide (((i0:Nat):Int)=0)) then some false else bt text dC (i0+1)) else (bif (decide (((i0:Nat):Int)=0)) then some false else (bif (!(decide ((((text.g i0).toNat:Nat):Int)=45))) then some false else bt text dC (i0+1)))) else (bif (decide (((i0:Nat):Int)=0)) then some false else (bif (!(decide ((((text.g i0).toNat:Nat):Int)=45))) then some false else bt text dC (i0+1)))))
theorem da {d:Nat} {h:aq} (text:List UInt8) (bC:text.length<2^60):∀(k_ i_:Nat) (_:i_+k_=(List.length text)) (x:Nat→AV) (hh:aq) (aX:Tidy hh) (a_:Has h hh),aS (dH (d)) bS ⟨((AV.str text)::rx x 1 13 ((AV.int .i64 ((List.length text:Nat):Int))::(AV.int .i64 ((i_:Nat):Int))::rx x 16 39 [])),hh,[],.no⟩ (.exit 0) hh (fun y=>((AV.str text)::rx y 1 13 ((AV.int .i64 ((List.length text:Nat):Int))::rx y 15 40 []))) (fun r y=>((AV.str text)::(y 1)::(AV.bool r)::rx y 3 11 ((AV.int .i64 ((List.length text:Nat):Int))::rx y 15 40 []))) (bt text k_ i_)
 | 0,i0,pB,x,hh,aX,a_=>by
   have q1:(decide (((i0:Nat):Int)<((List.length text:Nat):Int)))=false:=d!
   have ev:=pk (d) bS ((AV.str text)::rx x 1 13 ((AV.int .i64 ((List.length text:Nat):Int))::(AV.int .i64 ((i0:Nat):Int))::rx x 16 39 [])) hh (.exit 0) hh (VV (bz 3 false false .i64 ((i0:Nat):Int) ((List.length text:Nat):Int))<|BB q1<|ZZ) k!
   exact aS.out rfl ev (b4.refl aX) k!
 | dC+1,i0,pB,x,hh,aX,a_=>by
   have q1:(decide (((i0:Nat):Int)<((List.length text:Nat):Int)))=true:=d!
   have kO:n7 env (some .string) (some (AV.str text)) (some (AV.int .i64 ((i0:Nat):Int)))=some (AV.int .u8 (((text.g i0).toNat:Nat):Int)):=ia (j:=i0) o!
   rcases Bool.eq_false_or_eq_true (decide (97≤(((text.g i0).toNat:Nat):Int))) with f1 | f1
   · have gF:=of_decide_eq_true f1
     have oP:n7 env (some .string) (some (AV.str text)) (some (AV.int .i64 ((i0:Nat):Int)))=some (AV.int .u8 (((text.g i0).toNat:Nat):Int)):=ia (j:=i0) o!
     have Je:n7 env (some .string) (some (AV.str text)) (some (AV.int .i64 ((i0:Nat):Int)))=some (AV.int .u8 (((text.g i0).toNat:Nat):Int)):=ia (j:=i0) o!
     rcases Bool.eq_false_or_eq_true (decide (48≤(((text.g i0).toNat:Nat):Int))) with f2 | f2
     · have lh:=of_decide_eq_true f2
       have EG:n7 env (some .string) (some (AV.str text)) (some (AV.int .i64 ((i0:Nat):Int)))=some (AV.int .u8 (((text.g i0).toNat:Nat):Int)):=ia (j:=i0) o!
       rcases Bool.eq_false_or_eq_true (decide ((((text.g i0).toNat:Nat):Int)≤57)) with f3 | f3
       · have oe:=of_decide_eq_true f3
         rcases Bool.eq_false_or_eq_true (!(decide ((((text.g i0).toNat:Nat):Int)≤122))) with f4 | f4
         · have og:=qZ f4
           rcases Bool.eq_false_or_eq_true (decide (((i0:Nat):Int)=0)) with f5 | f5
           · have pF:=of_decide_eq_true f5
             have ev:=pk (d) bS ((AV.str text)::rx x 1 13 ((AV.int .i64 ((List.length text:Nat):Int))::(AV.int .i64 ((i0:Nat):Int))::rx x 16 39 [])) hh .ret hh (VV (bz 3 false false .i64 ((i0:Nat):Int) ((List.length text:Nat):Int))<|BB q1<|CN 4<|VV kO<|VV (dx 5 false true .u8 (((text.g i0).toNat:Nat):Int) 97)<|CC<|BB f1<|CC<|BB f1<|CC<|BB f1<|VV oP<|BB f1<|VV (fu 5 false true .u8 (((text.g i0).toNat:Nat):Int) 122)<|VV (aM (a:=some (AV.bool (decide ((((text.g i0).toNat:Nat):Int)≤122)))) (b:=some (AV.bool false)) f1)<|CN 3<|VV Je<|VV (dx 5 false true .u8 (((text.g i0).toNat:Nat):Int) 48)<|CC<|BB f2<|CC<|BB f2<|CC<|BB f2<|VV EG<|BB f2<|VV (fu 5 false true .u8 (((text.g i0).toNat:Nat):Int) 57)<|VV (aM (a:=some (AV.bool (decide ((((text.g i0).toNat:Nat):Int)≤57)))) (b:=some (AV.bool false)) f2)<|CC<|BB f3<|BB f3<|BB f3<|BB f3<|VV (aM (a:=some (AV.bool true)) (b:=some AV.undef) f3)<|CN 4<|BB f4<|CC<|BB f4<|VV (cM 3 false true .i64 ((i0:Nat):Int) 0)<|BB f4<|CC<|BB f5<|BB f5<|BB f4<|VV (aM (a:=some (AV.bool true)) (b:=some AV.undef) f5)<|VV (aM (a:=some (AV.bool true)) (b:=some (AV.bool false)) f4)<|TT<|CC<|ZZ) k!
             exact aS.ret false (by simp only[bt,f1,f2,f3,f4,f5,cond_true,cond_false]) ev (b4.refl aX) k!
           · have pF:=of_decide_eq_false f5
             have Pg:=fV 3 false true i0 1 o!
             have ev:=pk (d) bS ((AV.str text)::rx x 1 13 ((AV.int .i64 ((List.length text:Nat):Int))::(AV.int .i64 ((i0:Nat):Int))::rx x 16 39 [])) hh .normal hh (VV (bz 3 false false .i64 ((i0:Nat):Int) ((List.length text:Nat):Int))<|BB q1<|CN 4<|VV kO<|VV (dx 5 false true .u8 (((text.g i0).toNat:Nat):Int) 97)<|CC<|BB f1<|CC<|BB f1<|CC<|BB f1<|VV oP<|BB f1<|VV (fu 5 false true .u8 (((text.g i0).toNat:Nat):Int) 122)<|VV (aM (a:=some (AV.bool (decide ((((text.g i0).toNat:Nat):Int)≤122)))) (b:=some (AV.bool false)) f1)<|CN 3<|VV Je<|VV (dx 5 false true .u8 (((text.g i0).toNat:Nat):Int) 48)<|CC<|BB f2<|CC<|BB f2<|CC<|BB f2<|VV EG<|BB f2<|VV (fu 5 false true .u8 (((text.g i0).toNat:Nat):Int) 57)<|VV (aM (a:=some (AV.bool (decide ((((text.g i0).toNat:Nat):Int)≤57)))) (b:=some (AV.bool false)) f2)<|CC<|BB f3<|BB f3<|BB f3<|BB f3<|VV (aM (a:=some (AV.bool true)) (b:=some AV.undef) f3)<|CN 4<|BB f4<|CC<|BB f4<|VV (cM 3 false true .i64 ((i0:Nat):Int) 0)<|BB f4<|CC<|BB f5<|CC<|BB f5<|CC<|BB f4<|VV (aL (a:=some (AV.bool true)) (b:=some (AV.bool false)) f5)<|VV (aM (a:=some (AV.bool false)) (b:=some (AV.bool false)) f4)<|FF<|VV Pg<|CC<|ZZ) k!
             exact aS.round (by simp only[bt,f1,f2,f3,f4,f5,cond_true,cond_false]) ev (b4.refl aX) (fun x=>((AV.str text)::rx x 1 13 ((AV.int .i64 ((List.length text:Nat):Int))::(AV.int .i64 (((i0+1):Nat):Int))::rx x 16 39 []))) k! (fun x=>da text bC dC (i0+1) o! x hh aX a_)
         · have og:=ra f4
           have Y5:=fV 3 false true i0 1 o!
           have ev:=pk (d) bS ((AV.str text)::rx x 1 13 ((AV.int .i64 ((List.length text:Nat):Int))::(AV.int .i64 ((i0:Nat):Int))::rx x 16 39 [])) hh .normal hh (VV (bz 3 false false .i64 ((i0:Nat):Int) ((List.length text:Nat):Int))<|BB q1<|CN 4<|VV kO<|VV (dx 5 false true .u8 (((text.g i0).toNat:Nat):Int) 97)<|CC<|BB f1<|CC<|BB f1<|CC<|BB f1<|VV oP<|BB f1<|VV (fu 5 false true .u8 (((text.g i0).toNat:Nat):Int) 122)<|VV (aM (a:=some (AV.bool (decide ((((text.g i0).toNat:Nat):Int)≤122)))) (b:=some (AV.bool false)) f1)<|CN 3<|VV Je<|VV (dx 5 false true .u8 (((text.g i0).toNat:Nat):Int) 48)<|CC<|BB f2<|CC<|BB f2<|CC<|BB f2<|VV EG<|BB f2<|VV (fu 5 false true .u8 (((text.g i0).toNat:Nat):Int) 57)<|VV (aM (a:=some (AV.bool (decide ((((text.g i0).toNat:Nat):Int)≤57)))) (b:=some (AV.bool false)) f2)<|CC<|BB f3<|BB f3<|BB f3<|BB f3<|VV (aM (a:=some (AV.bool true)) (b:=some AV.undef) f3)<|CN 4<|BB f4<|BB f4<|BB f4<|BB f4<|VV (aL (a:=some AV.undef) (b:=some (AV.bool false)) f4)<|FF<|VV Y5<|CC<|ZZ) k!
           exact aS.round (by simp only[bt,f1,f2,f3,f4,cond_true,cond_false]) ev (b4.refl aX) (fun x=>((AV.str text)::rx x 1 13 ((AV.int .i64 ((List.length text:Nat):Int))::(AV.int .i64 (((i0+1):Nat):Int))::rx x 16 39 []))) k! (fun x=>da text bC dC (i0+1) o! x hh aX a_)
       · have oe:=of_decide_eq_false f3
         have Kl:n7 env (some .string) (some (AV.str text)) (some (AV.int .i64 ((i0:Nat):Int)))=some (AV.int .u8 (((text.g i0).toNat:Nat):Int)):=ia (j:=i0) o!
         rcases Bool.eq_false_or_eq_true (!(decide ((((text.g i0).toNat:Nat):Int)≤122))) with f4 | f4
         · have og:=qZ f4
           rcases Bool.eq_false_or_eq_true (decide (((i0:Nat):Int)=0)) with f5 | f5
           · have pF:=of_decide_eq_true f5
             have ev:=pk (d) bS ((AV.str text)::rx x 1 13 ((AV.int .i64 ((List.length text:Nat):Int))::(AV.int .i64 ((i0:Nat):Int))::rx x 16 39 [])) hh .ret hh (VV (bz 3 false false .i64 ((i0:Nat):Int) ((List.length text:Nat):Int))<|BB q1<|CN 4<|VV kO<|VV (dx 5 false true .u8 (((text.g i0).toNat:Nat):Int) 97)<|CC<|BB f1<|CC<|BB f1<|CC<|BB f1<|VV oP<|BB f1<|VV (fu 5 false true .u8 (((text.g i0).toNat:Nat):Int) 122)<|VV (aM (a:=some (AV.bool (decide ((((text.g i0).toNat:Nat):Int)≤122)))) (b:=some (AV.bool false)) f1)<|CN 3<|VV Je<|VV (dx 5 false true .u8 (((text.g i0).toNat:Nat):Int) 48)<|CC<|BB f2<|CC<|BB f2<|CC<|BB f2<|VV EG<|BB f2<|VV (fu 5 false true .u8 (((text.g i0).toNat:Nat):Int) 57)<|VV (aM (a:=some (AV.bool (decide ((((text.g i0).toNat:Nat):Int)≤57)))) (b:=some (AV.bool false)) f2)<|CC<|BB f3<|CC<|BB f3<|CC<|BB f3<|VV Kl<|BB f3<|VV (cM 5 false true .u8 (((text.g i0).toNat:Nat):Int) 45)<|VV (aL (a:=some (AV.bool true)) (b:=some (AV.bool (decide ((((text.g i0).toNat:Nat):Int)=45)))) f3)<|CN 4<|BB f4<|CC<|BB f4<|VV (cM 3 false true .i64 ((i0:Nat):Int) 0)<|BB f4<|CC<|BB f5<|BB f5<|BB f4<|VV (aM (a:=some (AV.bool true)) (b:=some AV.undef) f5)<|VV (aM (a:=some (AV.bool true)) (b:=some (AV.bool false)) f4)<|TT<|CC<|ZZ) k!
             exact aS.ret false (by simp only[bt,f1,f2,f3,f4,f5,cond_true,cond_false]) ev (b4.refl aX) k!
           · have pF:=of_decide_eq_false f5
             rcases Bool.eq_false_or_eq_true (!(decide ((((text.g i0).toNat:Nat):Int)=45))) with f6 | f6
             · have Ao:=qZ f6
               have ev:=pk (d) bS ((AV.str text)::rx x 1 13 ((AV.int .i64 ((List.length text:Nat):Int))::(AV.int .i64 ((i0:Nat):Int))::rx x 16 39 [])) hh .ret hh (VV (bz 3 false false .i64 ((i0:Nat):Int) ((List.length text:Nat):Int))<|BB q1<|CN 4<|VV kO<|VV (dx 5 false true .u8 (((text.g i0).toNat:Nat):Int) 97)<|CC<|BB f1<|CC<|BB f1<|CC<|BB f1<|VV oP<|BB f1<|VV (fu 5 false true .u8 (((text.g i0).toNat:Nat):Int) 122)<|VV (aM (a:=some (AV.bool (decide ((((text.g i0).toNat:Nat):Int)≤122)))) (b:=some (AV.bool false)) f1)<|CN 3<|VV Je<|VV (dx 5 false true .u8 (((text.g i0).toNat:Nat):Int) 48)<|CC<|BB f2<|CC<|BB f2<|CC<|BB f2<|VV EG<|BB f2<|VV (fu 5 false true .u8 (((text.g i0).toNat:Nat):Int) 57)<|VV (aM (a:=some (AV.bool (decide ((((text.g i0).toNat:Nat):Int)≤57)))) (b:=some (AV.bool false)) f2)<|CC<|BB f3<|CC<|BB f3<|CC<|BB f3<|VV Kl<|BB f3<|VV (cM 5 false true .u8 (((text.g i0).toNat:Nat):Int) 45)<|VV (aL (a:=some (AV.bool true)) (b:=some (AV.bool (decide ((((text.g i0).toNat:Nat):Int)=45)))) f3)<|CN 4<|BB f4<|CC<|BB f4<|VV (cM 3 false true .i64 ((i0:Nat):Int) 0)<|BB f4<|CC<|BB f5<|CC<|BB f5<|CC<|BB f4<|VV (aL (a:=some (AV.bool true)) (b:=some (AV.bool (!(decide ((((text.g i0).toNat:Nat):Int)=45))))) f5)<|VV (aM (a:=some (AV.bool (!(decide ((((text.g i0).toNat:Nat):Int)=45))))) (b:=some (AV.bool false)) f4)<|BB f6<|CC<|ZZ) k!
               exact aS.ret false (by simp only[bt,f1,f2,f3,f4,f5,f6,cond_true,cond_false]) ev (b4.refl aX) k!
             · have Ao:=ra f6
               have R5:=fV 3 false true i0 1 o!
               have ev:=pk (d) bS ((AV.str text)::rx x 1 13 ((AV.int .i64 ((List.length text:Nat):Int))::(AV.int .i64 ((i0:Nat):Int))::rx x 16 39 [])) hh .normal hh (VV (bz 3 false false .i64 ((i0:Nat):Int) ((List.length text:Nat):Int))<|BB q1<|CN 4<|VV kO<|VV (dx 5 false true .u8 (((text.g i0).toNat:Nat):Int) 97)<|CC<|BB f1<|CC<|BB f1<|CC<|BB f1<|VV oP<|BB f1<|VV (fu 5 false true .u8 (((text.g i0).toNat:Nat):Int) 122)<|VV (aM (a:=some (AV.bool (decide ((((text.g i0).toNat:Nat):Int)≤122)))) (b:=some (AV.bool false)) f1)<|CN 3<|VV Je<|VV (dx 5 false true .u8 (((text.g i0).toNat:Nat):Int) 48)<|CC<|BB f2<|CC<|BB f2<|CC<|BB f2<|VV EG<|BB f2<|VV (fu 5 false true .u8 (((text.g i0).toNat:Nat):Int) 57)<|VV (aM (a:=some (AV.bool (decide ((((text.g i0).toNat:Nat):Int)≤57)))) (b:=some (AV.bool false)) f2)<|CC<|BB f3<|CC<|BB f3<|CC<|BB f3<|VV Kl<|BB f3<|VV (cM 5 false true .u8 (((text.g i0).toNat:Nat):Int) 45)<|VV (aL (a:=some (AV.bool true)) (b:=some (AV.bool (decide ((((text.g i0).toNat:Nat):Int)=45)))) f3)<|CN 4<|BB f4<|CC<|BB f4<|VV (cM 3 false true .i64 ((i0:Nat):Int) 0)<|BB f4<|CC<|BB f5<|CC<|BB f5<|CC<|BB f4<|VV (aL (a:=some (AV.bool true)) (b:=some (AV.bool (!(decide ((((text.g i0).toNat:Nat):Int)=45))))) f5)<|VV (aM (a:=some (AV.bool (!(decide ((((text.g i0).toNat:Nat):Int)=45))))) (b:=some (AV.bool false)) f4)<|BB f6<|VV R5<|CC<|ZZ) k!
               exact aS.round (by simp only[bt,f1,f2,f3,f4,f5,f6,cond_true,cond_false]) ev (b4.refl aX) (fun x=>((AV.str text)::rx x 1 13 ((AV.int .i64 ((List.length text:Nat):Int))::(AV.int .i64 (((i0+1):Nat):Int))::rx x 16 39 []))) k! (fun x=>da text bC dC (i0+1) o! x hh aX a_)
         · have og:=ra f4
           have Pg:=fV 3 false true i0 1 o!
           have ev:=pk (d) bS ((AV.str text)::rx x 1 13 ((AV.int .i64 ((List.length text:Nat):Int))::(AV.int .i64 ((i0:Nat):Int))::rx x 16 39 [])) hh .normal hh (VV (bz 3 false false .i64 ((i0:Nat):Int) ((List.length text:Nat):Int))<|BB q1<|CN 4<|VV kO<|VV (dx 5 false true .u8 (((text.g i0).toNat:Nat):Int) 97)<|CC<|BB f1<|CC<|BB f1<|CC<|BB f1<|VV oP<|BB f1<|VV (fu 5 false true .u8 (((text.g i0).toNat:Nat):Int) 122)<|VV (aM (a:=some (AV.bool (decide ((((text.g i0).toNat:Nat):Int)≤122)))) (b:=some (AV.bool false)) f1)<|CN 3<|VV Je<|VV (dx 5 false true .u8 (((text.g i0).toNat:Nat):Int) 48)<|CC<|BB f2<|CC<|BB f2<|CC<|BB f2<|VV EG<|BB f2<|VV (fu 5 false true .u8 (((text.g i0).toNat:Nat):Int) 57)<|VV (aM (a:=some (AV.bool (decide ((((text.g i0).toNat:Nat):Int)≤57)))) (b:=some (AV.bool false)) f2)<|CC<|BB f3<|CC<|BB f3<|CC<|BB f3<|VV Kl<|BB f3<|VV (cM 5 false true .u8 (((text.g i0).toNat:Nat):Int) 45)<|VV (aL (a:=some (AV.bool true)) (b:=some (AV.bool (decide ((((text.g i0).toNat:Nat):Int)=45)))) f3)<|CN 4<|BB f4<|BB f4<|BB f4<|BB f4<|VV (aL (a:=some AV.undef) (b:=some (AV.bool false)) f4)<|FF<|VV Pg<|CC<|ZZ) k!
           exact aS.round (by simp only[bt,f1,f2,f3,f4,cond_true,cond_false]) ev (b4.refl aX) (fun x=>((AV.str text)::rx x 1 13 ((AV.int .i64 ((List.length text:Nat):Int))::(AV.int .i64 (((i0+1):Nat):Int))::rx x 16 39 []))) k! (fun x=>da text bC dC (i0+1) o! x hh aX a_)
     · have lh:=of_decide_eq_false f2
       have EG:n7 env (some .string) (some (AV.str text)) (some (AV.int .i64 ((i0:Nat):Int)))=some (AV.int .u8 (((text.g i0).toNat:Nat):Int)):=ia (j:=i0) o!
       rcases Bool.eq_false_or_eq_true (!(decide ((((text.g i0).toNat:Nat):Int)≤122))) with f3 | f3
       · have oe:=qZ f3
         rcases Bool.eq_false_or_eq_true (decide (((i0:Nat):Int)=0)) with f4 | f4
         · have og:=of_decide_eq_true f4
           have ev:=pk (d) bS ((AV.str text)::rx x 1 13 ((AV.int .i64 ((List.length text:Nat):Int))::(AV.int .i64 ((i0:Nat):Int))::rx x 16 39 [])) hh .ret hh (VV (bz 3 false false .i64 ((i0:Nat):Int) ((List.length text:Nat):Int))<|BB q1<|CN 4<|VV kO<|VV (dx 5 false true .u8 (((text.g i0).toNat:Nat):Int) 97)<|CC<|BB f1<|CC<|BB f1<|CC<|BB f1<|VV oP<|BB f1<|VV (fu 5 false true .u8 (((text.g i0).toNat:Nat):Int) 122)<|VV (aM (a:=some (AV.bool (decide ((((text.g i0).toNat:Nat):Int)≤122)))) (b:=some (AV.bool false)) f1)<|CN 3<|VV Je<|VV (dx 5 false true .u8 (((text.g i0).toNat:Nat):Int) 48)<|CC<|BB f2<|BB f2<|BB f2<|BB f2<|VV (aL (a:=some AV.undef) (b:=some (AV.bool false)) f2)<|CC<|FF<|CC<|FF<|CC<|FF<|VV EG<|FF<|VV (cM 5 false true .u8 (((text.g i0).toNat:Nat):Int) 45)<|CN 5<|BB f3<|CC<|BB f3<|VV (cM 3 false true .i64 ((i0:Nat):Int) 0)<|BB f3<|CC<|BB f4<|BB f4<|BB f3<|VV (aM (a:=some (AV.bool true)) (b:=some AV.undef) f4)<|VV (aM (a:=some (AV.bool true)) (b:=some (AV.bool false)) f3)<|TT<|CC<|ZZ) k!
           exact aS.ret false (by simp only[bt,f1,f2,f3,f4,cond_true,cond_false]) ev (b4.refl aX) k!
         · have og:=of_decide_eq_false f4
           rcases Bool.eq_false_or_eq_true (!(decide ((((text.g i0).toNat:Nat):Int)=45))) with f5 | f5
           · have pF:=qZ f5
             have ev:=pk (d) bS ((AV.str text)::rx x 1 13 ((AV.int .i64 ((List.length text:Nat):Int))::(AV.int .i64 ((i0:Nat):Int))::rx x 16 39 [])) hh .ret hh (VV (bz 3 false false .i64 ((i0:Nat):Int) ((List.length text:Nat):Int))<|BB q1<|CN 4<|VV kO<|VV (dx 5 false true .u8 (((text.g i0).toNat:Nat):Int) 97)<|CC<|BB f1<|CC<|BB f1<|CC<|BB f1<|VV oP<|BB f1<|VV (fu 5 false true .u8 (((text.g i0).toNat:Nat):Int) 122)<|VV (aM (a:=some (AV.bool (decide ((((text.g i0).toNat:Nat):Int)≤122)))) (b:=some (AV.bool false)) f1)<|CN 3<|VV Je<|VV (dx 5 false true .u8 (((text.g i0).toNat:Nat):Int) 48)<|CC<|BB f2<|BB f2<|BB f2<|BB f2<|VV (aL (a:=some AV.undef) (b:=some (AV.bool false)) f2)<|CC<|FF<|CC<|FF<|CC<|FF<|VV EG<|FF<|VV (cM 5 false true .u8 (((text.g i0).toNat:Nat):Int) 45)<|CN 5<|BB f3<|CC<|BB f3<|VV (cM 3 false true .i64 ((i0:Nat):Int) 0)<|BB f3<|CC<|BB f4<|CC<|BB f4<|CC<|BB f3<|VV (aL (a:=some (AV.bool true)) (b:=some (AV.bool (!(decide ((((text.g i0).toNat:Nat):Int)=45))))) f4)<|VV (aM (a:=some (AV.bool (!(decide ((((text.g i0).toNat:Nat):Int)=45))))) (b:=some (AV.bool false)) f3)<|BB f5<|CC<|ZZ) k!
             exact aS.ret false (by simp only[bt,f1,f2,f3,f4,f5,cond_true,cond_false]) ev (b4.refl aX) k!
           · have pF:=ra f5
             have Pg:=fV 3 false true i0 1 o!
             have ev:=pk (d) bS ((AV.str text)::rx x 1 13 ((AV.int .i64 ((List.length text:Nat):Int))::(AV.int .i64 ((i0:Nat):Int))::rx x 16 39 [])) hh .normal hh (VV (bz 3 false false .i64 ((i0:Nat):Int) ((List.length text:Nat):Int))<|BB q1<|CN 4<|VV kO<|VV (dx 5 false true .u8 (((text.g i0).toNat:Nat):Int) 97)<|CC<|BB f1<|CC<|BB f1<|CC<|BB f1<|VV oP<|BB f1<|VV (fu 5 false true .u8 (((text.g i0).toNat:Nat):Int) 122)<|VV (aM (a:=some (AV.bool (decide ((((text.g i0).toNat:Nat):Int)≤122)))) (b:=some (AV.bool false)) f1)<|CN 3<|VV Je<|VV (dx 5 false true .u8 (((text.g i0).toNat:Nat):Int) 48)<|CC<|BB f2<|BB f2<|BB f2<|BB f2<|VV (aL (a:=some AV.undef) (b:=some (AV.bool false)) f2)<|CC<|FF<|CC<|FF<|CC<|FF<|VV EG<|FF<|VV (cM 5 false true .u8 (((text.g i0).toNat:Nat):Int) 45)<|CN 5<|BB f3<|CC<|BB f3<|VV (cM 3 false true .i64 ((i0:Nat):Int) 0)<|BB f3<|CC<|BB f4<|CC<|BB f4<|CC<|BB f3<|VV (aL (a:=some (AV.bool true)) (b:=some (AV.bool (!(decide ((((text.g i0).toNat:Nat):Int)=45))))) f4)<|VV (aM (a:=some (AV.bool (!(decide ((((text.g i0).toNat:Nat):Int)=45))))) (b:=some (AV.bool false)) f3)<|BB f5<|VV Pg<|CC<|ZZ) k!
             exact aS.round (by simp only[bt,f1,f2,f3,f4,f5,cond_true,cond_false]) ev (b4.refl aX) (fun x=>((AV.str text)::rx x 1 13 ((AV.int .i64 ((List.length text:Nat):Int))::(AV.int .i64 (((i0+1):Nat):Int))::rx x 16 39 []))) k! (fun x=>da text bC dC (i0+1) o! x hh aX a_)
       · have oe:=ra f3
         have u9:=fV 3 false true i0 1 o!
         have ev:=pk (d) bS ((AV.str text)::rx x 1 13 ((AV.int .i64 ((List.length text:Nat):Int))::(AV.int .i64 ((i0:Nat):Int))::rx x 16 39 [])) hh .normal hh (VV (bz 3 false false .i64 ((i0:Nat):Int) ((List.length text:Nat):Int))<|BB q1<|CN 4<|VV kO<|VV (dx 5 false true .u8 (((text.g i0).toNat:Nat):Int) 97)<|CC<|BB f1<|CC<|BB f1<|CC<|BB f1<|VV oP<|BB f1<|VV (fu 5 false true .u8 (((text.g i0).toNat:Nat):Int) 122)<|VV (aM (a:=some (AV.bool (decide ((((text.g i0).toNat:Nat):Int)≤122)))) (b:=some (AV.bool false)) f1)<|CN 3<|VV Je<|VV (dx 5 false true .u8 (((text.g i0).toNat:Nat):Int) 48)<|CC<|BB f2<|BB f2<|BB f2<|BB f2<|VV (aL (a:=some AV.undef) (b:=some (AV.bool false)) f2)<|CC<|FF<|CC<|FF<|CC<|FF<|VV EG<|FF<|VV (cM 5 false true .u8 (((text.g i0).toNat:Nat):Int) 45)<|CN 5<|BB f3<|BB f3<|BB f3<|BB f3<|VV (aL (a:=some AV.undef) (b:=some (AV.bool false)) f3)<|FF<|VV u9<|CC<|ZZ) k!
         exact aS.round (by simp only[bt,f1,f2,f3,cond_true,cond_false]) ev (b4.refl aX) (fun x=>((AV.str text)::rx x 1 13 ((AV.int .i64 ((List.length text:Nat):Int))::(AV.int .i64 (((i0+1):Nat):Int))::rx x 16 39 []))) k! (fun x=>da text bC dC (i0+1) o! x hh aX a_)
   · have gF:=of_decide_eq_false f1
     have oP:n7 env (some .string) (some (AV.str text)) (some (AV.int .i64 ((i0:Nat):Int)))=some (AV.int .u8 (((text.g i0).toNat:Nat):Int)):=ia (j:=i0) o!
     rcases Bool.eq_false_or_eq_true (decide (48≤(((text.g i0).toNat:Nat):Int))) with f2 | f2
     · have lh:=of_decide_eq_true f2
       have Dp:n7 env (some .string) (some (AV.str text)) (some (AV.int .i64 ((i0:Nat):Int)))=some (AV.int .u8 (((text.g i0).toNat:Nat):Int)):=ia (j:=i0) o!
       rcases Bool.eq_false_or_eq_true (decide ((((text.g i0).toNat:Nat):Int)≤57)) with f3 | f3
       · have oe:=of_decide_eq_true f3
         rcases Bool.eq_false_or_eq_true (decide (((i0:Nat):Int)=0)) with f4 | f4
         · have og:=of_decide_eq_true f4
           have ev:=pk (d) bS ((AV.str text)::rx x 1 13 ((AV.int .i64 ((List.length text:Nat):Int))::(AV.int .i64 ((i0:Nat):Int))::rx x 16 39 [])) hh .ret hh (VV (bz 3 false false .i64 ((i0:Nat):Int) ((List.length text:Nat):Int))<|BB q1<|CN 4<|VV kO<|VV (dx 5 false true .u8 (((text.g i0).toNat:Nat):Int) 97)<|CC<|BB f1<|BB f1<|BB f1<|BB f1<|VV (aL (a:=some AV.undef) (b:=some (AV.bool false)) f1)<|CN 3<|VV oP<|VV (dx 5 false true .u8 (((text.g i0).toNat:Nat):Int) 48)<|CC<|BB f2<|CC<|BB f2<|CC<|BB f2<|VV Dp<|BB f2<|VV (fu 5 false true .u8 (((text.g i0).toNat:Nat):Int) 57)<|VV (aM (a:=some (AV.bool (decide ((((text.g i0).toNat:Nat):Int)≤57)))) (b:=some (AV.bool false)) f2)<|CC<|BB f3<|BB f3<|BB f3<|BB f3<|VV (aM (a:=some (AV.bool true)) (b:=some AV.undef) f3)<|CN 4<|TT<|CC<|TT<|VV (cM 3 false true .i64 ((i0:Nat):Int) 0)<|TT<|CC<|BB f4<|BB f4<|TT<|VV (aM (a:=some (AV.bool true)) (b:=some AV.undef) f4)<|CC<|TT<|CC<|ZZ) k!
           exact aS.ret false (by simp only[bt,f1,f2,f3,f4,cond_true,cond_false]) ev (b4.refl aX) k!
         · have og:=of_decide_eq_false f4
           have u9:=fV 3 false true i0 1 o!
           have ev:=pk (d) bS ((AV.str text)::rx x 1 13 ((AV.int .i64 ((List.length text:Nat):Int))::(AV.int .i64 ((i0:Nat):Int))::rx x 16 39 [])) hh .normal hh (VV (bz 3 false false .i64 ((i0:Nat):Int) ((List.length text:Nat):Int))<|BB q1<|CN 4<|VV kO<|VV (dx 5 false true .u8 (((text.g i0).toNat:Nat):Int) 97)<|CC<|BB f1<|BB f1<|BB f1<|BB f1<|VV (aL (a:=some AV.undef) (b:=some (AV.bool false)) f1)<|CN 3<|VV oP<|VV (dx 5 false true .u8 (((text.g i0).toNat:Nat):Int) 48)<|CC<|BB f2<|CC<|BB f2<|CC<|BB f2<|VV Dp<|BB f2<|VV (fu 5 false true .u8 (((text.g i0).toNat:Nat):Int) 57)<|VV (aM (a:=some (AV.bool (decide ((((text.g i0).toNat:Nat):Int)≤57)))) (b:=some (AV.bool false)) f2)<|CC<|BB f3<|BB f3<|BB f3<|BB f3<|VV (aM (a:=some (AV.bool true)) (b:=some AV.undef) f3)<|CN 4<|TT<|CC<|TT<|VV (cM 3 false true .i64 ((i0:Nat):Int) 0)<|TT<|CC<|BB f4<|CC<|BB f4<|CC<|TT<|VV (aL (a:=some (AV.bool true)) (b:=some (AV.bool false)) f4)<|CC<|FF<|VV u9<|CC<|ZZ) k!
           exact aS.round (by simp only[bt,f1,f2,f3,f4,cond_true,cond_false]) ev (b4.refl aX) (fun x=>((AV.str text)::rx x 1 13 ((AV.int .i64 ((List.length text:Nat):Int))::(AV.int .i64 (((i0+1):Nat):Int))::rx x 16 39 []))) k! (fun x=>da text bC dC (i0+1) o! x hh aX a_)
       · have oe:=of_decide_eq_false f3
         have Km:n7 env (some .string) (some (AV.str text)) (some (AV.int .i64 ((i0:Nat):Int)))=some (AV.int .u8 (((text.g i0).toNat:Nat):Int)):=ia (j:=i0) o!
         rcases Bool.eq_false_or_eq_true (decide (((i0:Nat):Int)=0)) with f4 | f4
         · have og:=of_decide_eq_true f4
           have ev:=pk (d) bS ((AV.str text)::rx x 1 13 ((AV.int .i64 ((List.length text:Nat):Int))::(AV.int .i64 ((i0:Nat):Int))::rx x 16 39 [])) hh .ret hh (VV (bz 3 false false .i64 ((i0:Nat):Int) ((List.length text:Nat):Int))<|BB q1<|CN 4<|VV kO<|VV (dx 5 false true .u8 (((text.g i0).toNat:Nat):Int) 97)<|CC<|BB f1<|BB f1<|BB f1<|BB f1<|VV (aL (a:=some AV.undef) (b:=some (AV.bool false)) f1)<|CN 3<|VV oP<|VV (dx 5 false true .u8 (((text.g i0).toNat:Nat):Int) 48)<|CC<|BB f2<|CC<|BB f2<|CC<|BB f2<|VV Dp<|BB f2<|VV (fu 5 false true .u8 (((text.g i0).toNat:Nat):Int) 57)<|VV (aM (a:=some (AV.bool (decide ((((text.g i0).toNat:Nat):Int)≤57)))) (b:=some (AV.bool false)) f2)<|CC<|BB f3<|CC<|BB f3<|CC<|BB f3<|VV Km<|BB f3<|VV (cM 5 false true .u8 (((text.g i0).toNat:Nat):Int) 45)<|VV (aL (a:=some (AV.bool true)) (b:=some (AV.bool (decide ((((text.g i0).toNat:Nat):Int)=45)))) f3)<|CN 4<|TT<|CC<|TT<|VV (cM 3 false true .i64 ((i0:Nat):Int) 0)<|TT<|CC<|BB f4<|BB f4<|TT<|VV (aM (a:=some (AV.bool true)) (b:=some AV.undef) f4)<|CC<|TT<|CC<|ZZ) k!
           exact aS.ret false (by simp only[bt,f1,f2,f3,f4,cond_true,cond_false]) ev (b4.refl aX) k!
         · have og:=of_decide_eq_false f4
           rcases Bool.eq_false_or_eq_true (!(decide ((((text.g i0).toNat:Nat):Int)=45))) with f5 | f5
           · have pF:=qZ f5
             have ev:=pk (d) bS ((AV.str text)::rx x 1 13 ((AV.int .i64 ((List.length text:Nat):Int))::(AV.int .i64 ((i0:Nat):Int))::rx x 16 39 [])) hh .ret hh (VV (bz 3 false false .i64 ((i0:Nat):Int) ((List.length text:Nat):Int))<|BB q1<|CN 4<|VV kO<|VV (dx 5 false true .u8 (((text.g i0).toNat:Nat):Int) 97)<|CC<|BB f1<|BB f1<|BB f1<|BB f1<|VV (aL (a:=some AV.undef) (b:=some (AV.bool false)) f1)<|CN 3<|VV oP<|VV (dx 5 false true .u8 (((text.g i0).toNat:Nat):Int) 48)<|CC<|BB f2<|CC<|BB f2<|CC<|BB f2<|VV Dp<|BB f2<|VV (fu 5 false true .u8 (((text.g i0).toNat:Nat):Int) 57)<|VV (aM (a:=some (AV.bool (decide ((((text.g i0).toNat:Nat):Int)≤57)))) (b:=some (AV.bool false)) f2)<|CC<|BB f3<|CC<|BB f3<|CC<|BB f3<|VV Km<|BB f3<|VV (cM 5 false true .u8 (((text.g i0).toNat:Nat):Int) 45)<|VV (aL (a:=some (AV.bool true)) (b:=some (AV.bool (decide ((((text.g i0).toNat:Nat):Int)=45)))) f3)<|CN 4<|TT<|CC<|TT<|VV (cM 3 false true .i64 ((i0:Nat):Int) 0)<|TT<|CC<|BB f4<|CC<|BB f4<|CC<|TT<|VV (aL (a:=some (AV.bool true)) (b:=some (AV.bool (!(decide ((((text.g i0).toNat:Nat):Int)=45))))) f4)<|CC<|BB f5<|CC<|ZZ) k!
             exact aS.ret false (by simp only[bt,f1,f2,f3,f4,f5,cond_true,cond_false]) ev (b4.refl aX) k!
           · have pF:=ra f5
             have Pg:=fV 3 false true i0 1 o!
             have ev:=pk (d) bS ((AV.str text)::rx x 1 13 ((AV.int .i64 ((List.length text:Nat):Int))::(AV.int .i64 ((i0:Nat):Int))::rx x 16 39 [])) hh .normal hh (VV (bz 3 false false .i64 ((i0:Nat):Int) ((List.length text:Nat):Int))<|BB q1<|CN 4<|VV kO<|VV (dx 5 false true .u8 (((text.g i0).toNat:Nat):Int) 97)<|CC<|BB f1<|BB f1<|BB f1<|BB f1<|VV (aL (a:=some AV.undef) (b:=some (AV.bool false)) f1)<|CN 3<|VV oP<|VV (dx 5 false true .u8 (((text.g i0).toNat:Nat):Int) 48)<|CC<|BB f2<|CC<|BB f2<|CC<|BB f2<|VV Dp<|BB f2<|VV (fu 5 false true .u8 (((text.g i0).toNat:Nat):Int) 57)<|VV (aM (a:=some (AV.bool (decide ((((text.g i0).toNat:Nat):Int)≤57)))) (b:=some (AV.bool false)) f2)<|CC<|BB f3<|CC<|BB f3<|CC<|BB f3<|VV Km<|BB f3<|VV (cM 5 false true .u8 (((text.g i0).toNat:Nat):Int) 45)<|VV (aL (a:=some (AV.bool true)) (b:=some (AV.bool (decide ((((text.g i0).toNat:Nat):Int)=45)))) f3)<|CN 4<|TT<|CC<|TT<|VV (cM 3 false true .i64 ((i0:Nat):Int) 0)<|TT<|CC<|BB f4<|CC<|BB f4<|CC<|TT<|VV (aL (a:=some (AV.bool true)) (b:=some (AV.bool (!(decide ((((text.g i0).toNat:Nat):Int)=45))))) f4)<|CC<|BB f5<|VV Pg<|CC<|ZZ) k!
             exact aS.round (by simp only[bt,f1,f2,f3,f4,f5,cond_true,cond_false]) ev (b4.refl aX) (fun x=>((AV.str text)::rx x 1 13 ((AV.int .i64 ((List.length text:Nat):Int))::(AV.int .i64 (((i0+1):Nat):Int))::rx x 16 39 []))) k! (fun x=>da text bC dC (i0+1) o! x hh aX a_)
     · have lh:=of_decide_eq_false f2
       have Dp:n7 env (some .string) (some (AV.str text)) (some (AV.int .i64 ((i0:Nat):Int)))=some (AV.int .u8 (((text.g i0).toNat:Nat):Int)):=ia (j:=i0) o!
       rcases Bool.eq_false_or_eq_true (decide (((i0:Nat):Int)=0)) with f3 | f3
       · have oe:=of_decide_eq_true f3
         have ev:=pk (d) bS ((AV.str text)::rx x 1 13 ((AV.int .i64 ((List.length text:Nat):Int))::(AV.int .i64 ((i0:Nat):Int))::rx x 16 39 [])) hh .ret hh (VV (bz 3 false false .i64 ((i0:Nat):Int) ((List.length text:Nat):Int))<|BB q1<|CN 4<|VV kO<|VV (dx 5 false true .u8 (((text.g i0).toNat:Nat):Int) 97)<|CC<|BB f1<|BB f1<|BB f1<|BB f1<|VV (aL (a:=some AV.undef) (b:=some (AV.bool false)) f1)<|CN 3<|VV oP<|VV (dx 5 false true .u8 (((text.g i0).toNat:Nat):Int) 48)<|CC<|BB f2<|BB f2<|BB f2<|BB f2<|VV (aL (a:=some AV.undef) (b:=some (AV.bool false)) f2)<|CC<|FF<|CC<|FF<|CC<|FF<|VV Dp<|FF<|VV (cM 5 false true .u8 (((text.g i0).toNat:Nat):Int) 45)<|CN 5<|TT<|CC<|TT<|VV (cM 3 false true .i64 ((i0:Nat):Int) 0)<|TT<|CC<|BB f3<|BB f3<|TT<|VV (aM (a:=some (AV.bool true)) (b:=some AV.undef) f3)<|CC<|TT<|CC<|ZZ) k!
         exact aS.ret false (by simp only[bt,f1,f2,f3,cond_true,cond_false]) ev (b4.refl aX) k!
       · have oe:=of_decide_eq_false f3
         rcases Bool.eq_false_or_eq_true (!(decide ((((text.g i0).toNat:Nat):Int)=45))) with f4 | f4
         · have og:=qZ f4
           have ev:=pk (d) bS ((AV.str text)::rx x 1 13 ((AV.int .i64 ((List.length text:Nat):Int))::(AV.int .i64 ((i0:Nat):Int))::rx x 16 39 [])) hh .ret hh (VV (bz 3 false false .i64 ((i0:Nat):Int) ((List.length text:Nat):Int))<|BB q1<|CN 4<|VV kO<|VV (dx 5 false true .u8 (((text.g i0).toNat:Nat):Int) 97)<|CC<|BB f1<|BB f1<|BB f1<|BB f1<|VV (aL (a:=some AV.undef) (b:=some (AV.bool false)) f1)<|CN 3<|VV oP<|VV (dx 5 false true .u8 (((text.g i0).toNat:Nat):Int) 48)<|CC<|BB f2<|BB f2<|BB f2<|BB f2<|VV (aL (a:=some AV.undef) (b:=some (AV.bool false)) f2)<|CC<|FF<|CC<|FF<|CC<|FF<|VV Dp<|FF<|VV (cM 5 false true .u8 (((text.g i0).toNat:Nat):Int) 45)<|CN 5<|TT<|CC<|TT<|VV (cM 3 false true .i64 ((i0:Nat):Int) 0)<|TT<|CC<|BB f3<|CC<|BB f3<|CC<|TT<|VV (aL (a:=some (AV.bool true)) (b:=some (AV.bool (!(decide ((((text.g i0).toNat:Nat):Int)=45))))) f3)<|CC<|BB f4<|CC<|ZZ) k!
           exact aS.ret false (by simp only[bt,f1,f2,f3,f4,cond_true,cond_false]) ev (b4.refl aX) k!
         · have og:=ra f4
           have u9:=fV 3 false true i0 1 o!
           have ev:=pk (d) bS ((AV.str text)::rx x 1 13 ((AV.int .i64 ((List.length text:Nat):Int))::(AV.int .i64 ((i0:Nat):Int))::rx x 16 39 [])) hh .normal hh (VV (bz 3 false false .i64 ((i0:Nat):Int) ((List.length text:Nat):Int))<|BB q1<|CN 4<|VV kO<|VV (dx 5 false true .u8 (((text.g i0).toNat:Nat):Int) 97)<|CC<|BB f1<|BB f1<|BB f1<|BB f1<|VV (aL (a:=some AV.undef) (b:=some (AV.bool false)) f1)<|CN 3<|VV oP<|VV (dx 5 false true .u8 (((text.g i0).toNat:Nat):Int) 48)<|CC<|BB f2<|BB f2<|BB f2<|BB f2<|VV (aL (a:=some AV.undef) (b:=some (AV.bool false)) f2)<|CC<|FF<|CC<|FF<|CC<|FF<|VV Dp<|FF<|VV (cM 5 false true .u8 (((text.g i0).toNat:Nat):Int) 45)<|CN 5<|TT<|CC<|TT<|VV (cM 3 false true .i64 ((i0:Nat):Int) 0)<|TT<|CC<|BB f3<|CC<|BB f3<|CC<|TT<|VV (aL (a:=some (AV.bool true)) (b:=some (AV.bool (!(decide ((((text.g i0).toNat:Nat):Int)=45))))) f3)<|CC<|BB f4<|VV u9<|CC<|ZZ) k!
           exact aS.round (by simp only[bt,f1,f2,f3,f4,cond_true,cond_false]) ev (b4.refl aX) (fun x=>((AV.str text)::rx x 1 13 ((AV.int .i64 ((List.length text:Nat):Int))::(AV.int .i64 (((i0+1):Nat):Int))::rx x 16 39 []))) k! (fun x=>da text bC dC (i0+1) o! x hh aX a_)
def dK (text:List UInt8):Bool:=(bif (decide (text=[])) then false else (bif (decide (16<((List.length text:Nat):Int))) then false else (match (bt text (List.length text) 0) with | none=>true | some Dt=>Dt)))
theorem wK {d:Nat} {h:aq} (text:List UInt8) (Du:text.length<2^60) (di:Tidy h):dH (d+1) (.fn 54) [(AV.str text)] h= .ret (AV.bool (dK text)) h:=by
 rcases Bool.eq_false_or_eq_true (decide (text=[])) with f0 | f0
 · have dY:=of_decide_eq_true f0
   have ev:=pk (d) gO ((AV.str text)::cx 54) h .ret h (CN 2<|VV (FY 9 false true text [])<|CC<|BB f0<|BB f0<|BB f0<|VV (aM (a:=some (AV.bool true)) (b:=some AV.undef) f0)<|TT<|CC<|ZZ) k!
   have e:dK text=false:=by simp only[dK,f0,cond_true,cond_false]
   rw[e]
   exact ay rfl (bb Tryz.func54 od k! (.inr rfl) ev k!) (Has.refl _) rfl
 · have dY:=of_decide_eq_false f0
   have Z7:text.length<2^60:=Du
   rcases Bool.eq_false_or_eq_true (decide (16<((List.length text:Nat):Int))) with f1 | f1
   · have gF:=of_decide_eq_true f1
     have ev:=pk (d) gO ((AV.str text)::cx 54) h .ret h (CN 2<|VV (FY 9 false true text [])<|CC<|BB f0<|CC<|BB f0<|CC<|BB f0<|VV (cI 3 false true .i64 ((List.length text:Nat):Int) 16)<|VV (aL (a:=some (AV.bool true)) (b:=some (AV.bool (decide (16<((List.length text:Nat):Int))))) f0)<|BB f1<|CC<|ZZ) k!
     have e:dK text=false:=by simp only[dK,f0,f1,cond_true,cond_false]
     rw[e]
     exact ay rfl (bb Tryz.func54 od k! (.inr rfl) ev k!) (Has.refl _) rfl
   · have gF:=of_decide_eq_false f1
     cases fH:bt text (List.length text) 0 with
     | none=>
       obtain ⟨du,h5,cV,cf⟩:=aS.n fH (da (d:=d) (h:=h) text Du (List.length text) 0 o! (fun k_=>(((AV.str text)::AV.undef::(AV.bool false)::AV.undef::AV.undef::AV.undef::(AV.str text)::(AV.bool (decide (text=[])))::(AV.bool (decide (text=[])))::(AV.str text)::(AV.int .i64 ((List.length text:Nat):Int))::(AV.bool (decide (16<((List.length text:Nat):Int))))::(AV.bool (decide (16<((List.length text:Nat):Int))))::(AV.str text)::(AV.int .i64 ((List.length text:Nat):Int))::(AV.int .i64 0)::cx 39):List AV).getD k_ AV.undef) h di (Has.refl _))
       have lG:=cf.y
       have wH:h.nx≤h5.nx:=cf.n
       have ie:Has h h5:=cf.a
       have ev:=pk (d) gO ((AV.str text)::cx 54) h .ret h5 (CN 2<|VV (FY 9 false true text [])<|CC<|BB f0<|CC<|BB f0<|CC<|BB f0<|VV (cI 3 false true .i64 ((List.length text:Nat):Int) 16)<|VV (aL (a:=some (AV.bool true)) (b:=some (AV.bool (decide (16<((List.length text:Nat):Int))))) f0)<|BB f1<|CN 3<|LL cV<|CC<|ZZ) k!
       have e:dK text=true:=by simp only[dK,f0,f1,fH,cond_true,cond_false]
       rw[e]
       exact ay rfl (bb Tryz.func54 od k! (.inr rfl) ev k!) ie rfl
     | some Dt=>
       obtain ⟨du,h5,cV,cf⟩:=aS.r fH (da (d:=d) (h:=h) text Du (List.length text) 0 o! (fun k_=>(((AV.str text)::AV.undef::(AV.bool false)::AV.undef::AV.undef::AV.undef::(AV.str text)::(AV.bool (decide (text=[])))::(AV.bool (decide (text=[])))::(AV.str text)::(AV.int .i64 ((List.length text:Nat):Int))::(AV.bool (decide (16<((List.length text:Nat):Int))))::(AV.bool (decide (16<((List.length text:Nat):Int))))::(AV.str text)::(AV.int .i64 ((List.length text:Nat):Int))::(AV.int .i64 0)::cx 39):List AV).getD k_ AV.undef) h di (Has.refl _))
       have lG:=cf.y
       have wH:h.nx≤h5.nx:=cf.n
       have ie:Has h h5:=cf.a
       have ev:=pk (d) gO ((AV.str text)::cx 54) h .ret h5 (CN 2<|VV (FY 9 false true text [])<|CC<|BB f0<|CC<|BB f0<|CC<|BB f0<|VV (cI 3 false true .i64 ((List.length text:Nat):Int) 16)<|VV (aL (a:=some (AV.bool true)) (b:=some (AV.bool (decide (16<((List.length text:Nat):Int))))) f0)<|BB f1<|CN 3<|LL cV<|ZZ) k!
       have e:dK text=Dt:=by simp only[dK,f0,f1,fH,cond_true,cond_false]
       rw[e]
       exact ay rfl (bb Tryz.func54 od k! (.inr rfl) ev k!) ie rfl
noncomputable def cQ:Code:=(Tryz.f62.body).getD .skip
theorem eG:Tryz.f62.body=some cQ:=by kernel_rfl
def bw (ahead:List aw) (d_:aw):Int:=(bif (!(dK d_.worker)) then 5 else (bif (!(bq d_.ab)) then 1 else (bif (!(bq d_.aD)) then 1 else (bif (!(bq d_.leave)) then 1 else (bif (!(bq d_.out)) then 1 else (bif (decide (0<((ahead.length:Nat):Int))) then (bif (decide (d_.aD<((ahead.g (ahead.length - 1)).aD))) then 8 else 0) else 0))))))
theorem xX {d:Nat} {h:aq} {aE:AV} (ahead:List aw) (d_:aw) (kp:bf h aE ahead) (R2:aG.ok h d_) (di:Tidy h):dH (d+3) (.fn 62) [aE,(AV.agg [(AV.str d_.worker),(AV.int .i64 d_.ab),(AV.int .i64 d_.aD),(AV.int .i64 d_.leave),(AV.int .i64 d_.out)])] h= .ret (AV.int .i64 (bw ahead d_)) h:=by
 have F5:=kp.small
 obtain ⟨h1,bJ,cK,lD,aO,dI⟩:=jA di (aP.cells [(AV.str d_.worker),(AV.int .i64 d_.ab),(AV.int .i64 d_.aD),(AV.int .i64 d_.leave),(AV.int .i64 d_.out)] 34 false)
 have bR:Has h h1:=dI
 have k2:=wK (d:=d+1) d_.worker R2 cK
 rcases Bool.eq_false_or_eq_true (!(dK d_.worker)) with f0 | f0
 · have ev:=pk (d+2) cQ (aE::(AV.agg [(AV.str d_.worker),(AV.int .i64 d_.ab),(AV.int .i64 d_.aD),(AV.int .i64 d_.leave),(AV.int .i64 d_.out)])::cx 41) h .ret h1 (NN bJ (fun i=>(AV.ptr i 0))<|CN 2<|MM (au 9 0 (AV.str d_.worker) aO k!)<|EE k2<|CN 2<|BB f0<|CC<|ZZ) k!
   have e:bw ahead d_=5:=by simp only[bw,f0,cond_true,cond_false]
   rw[e]
   exact ay rfl (bb Tryz.func62 eG k! (.inr rfl) ev k!) bR rfl
 · have k4:=cW (d:=d) d_.ab cK
   rcases Bool.eq_false_or_eq_true (!(bq d_.ab)) with f1 | f1
   · have ev:=pk (d+2) cQ (aE::(AV.agg [(AV.str d_.worker),(AV.int .i64 d_.ab),(AV.int .i64 d_.aD),(AV.int .i64 d_.leave),(AV.int .i64 d_.out)])::cx 41) h .ret h1 (NN bJ (fun i=>(AV.ptr i 0))<|CN 2<|MM (au 9 0 (AV.str d_.worker) aO k!)<|EE k2<|CN 2<|BB f0<|CC<|MM (au 3 1 (AV.int .i64 d_.ab) aO k!)<|EE k4<|CN 2<|BB f1<|BB f1<|CC<|ZZ) k!
     have e:bw ahead d_=1:=by simp only[bw,f0,f1,cond_true,cond_false]
     rw[e]
     exact ay rfl (bb Tryz.func62 eG k! (.inr rfl) ev k!) bR rfl
   · have k6:=cW (d:=d) d_.aD cK
     rcases Bool.eq_false_or_eq_true (!(bq d_.aD)) with f2 | f2
     · have ev:=pk (d+2) cQ (aE::(AV.agg [(AV.str d_.worker),(AV.int .i64 d_.ab),(AV.int .i64 d_.aD),(AV.int .i64 d_.leave),(AV.int .i64 d_.out)])::cx 41) h .ret h1 (NN bJ (fun i=>(AV.ptr i 0))<|CN 2<|MM (au 9 0 (AV.str d_.worker) aO k!)<|EE k2<|CN 2<|BB f0<|CC<|MM (au 3 1 (AV.int .i64 d_.ab) aO k!)<|EE k4<|CN 2<|BB f1<|CC<|MM (au 3 2 (AV.int .i64 d_.aD) aO k!)<|EE k6<|CN 2<|BB f2<|BB f2<|CC<|ZZ) k!
       have e:bw ahead d_=1:=by simp only[bw,f0,f1,f2,cond_true,cond_false]
       rw[e]
       exact ay rfl (bb Tryz.func62 eG k! (.inr rfl) ev k!) bR rfl
     · have k8:=cW (d:=d) d_.leave cK
       rcases Bool.eq_false_or_eq_true (!(bq d_.leave)) with f3 | f3
       · have ev:=pk (d+2) cQ (aE::(AV.agg [(AV.str d_.worker),(AV.int .i64 d_.ab),(AV.int .i64 d_.aD),(AV.int .i64 d_.leave),(AV.int .i64 d_.out)])::cx 41) h .ret h1 (NN bJ (fun i=>(AV.ptr i 0))<|CN 2<|MM (au 9 0 (AV.str d_.worker) aO k!)<|EE k2<|CN 2<|BB f0<|CC<|MM (au 3 1 (AV.int .i64 d_.ab) aO k!)<|EE k4<|CN 2<|BB f1<|CC<|MM (au 3 2 (AV.int .i64 d_.aD) aO k!)<|EE k6<|CN 2<|BB f2<|CC<|MM (au 3 3 (AV.int .i64 d_.leave) aO k!)<|EE k8<|CN 2<|BB f3<|BB f3<|CC<|ZZ) k!
         have e:bw ahead d_=1:=by simp only[bw,f0,f1,f2,f3,cond_true,cond_false]
         rw[e]
         exact ay rfl (bb Tryz.func62 eG k! (.inr rfl) ev k!) bR rfl
       · have n9:=cW (d:=d) d_.out cK
         rcases Bool.eq_false_or_eq_true (!(bq d_.out)) with f4 | f4
         · have ev:=pk (d+2) cQ (aE::(AV.agg [(AV.str d_.worker),(AV.int .i64 d_.ab),(AV.int .i64 d_.aD),(AV.int .i64 d_.leave),(AV.int .i64 d_.out)])::cx 41) h .ret h1 (NN bJ (fun i=>(AV.ptr i 0))<|CN 2<|MM (au 9 0 (AV.str d_.worker) aO k!)<|EE k2<|CN 2<|BB f0<|CC<|MM (au 3 1 (AV.int .i64 d_.ab) aO k!)<|EE k4<|CN 2<|BB f1<|CC<|MM (au 3 2 (AV.int .i64 d_.aD) aO k!)<|EE k6<|CN 2<|BB f2<|CC<|MM (au 3 3 (AV.int .i64 d_.leave) aO k!)<|EE k8<|CN 2<|BB f3<|CC<|MM (au 3 4 (AV.int .i64 d_.out) aO k!)<|EE n9<|CN 2<|BB f4<|CC<|ZZ) k!
           have e:bw ahead d_=1:=by simp only[bw,f0,f1,f2,f3,f4,cond_true,cond_false]
           rw[e]
           exact ay rfl (bb Tryz.func62 eG k! (.inr rfl) ev k!) bR rfl
         · have Pj:dU (some (.slice 34)) (some aE)=some (AV.int .i64 ((ahead.length:Nat):Int)):=kp.len
           rcases Bool.eq_false_or_eq_true (decide (0<((ahead.length:Nat):Int))) with f5 | f5
           · have pF:=of_decide_eq_true f5
             have R6:dU (some (.slice 34)) (some aE)=some (AV.int .i64 ((ahead.length:Nat):Int)):=kp.len
             have R7:=IZ 3 false true ahead.length 1 o! o!
             obtain ⟨R8,R9,B8⟩:=kp.elem (i:=(ahead.length - 1)) o!
             have F6:ep env (some (.slice 34)) (some aE) (some (AV.int .i64 ((ahead.length - 1:Nat):Int)))=some (AV.ptr R8 R9):=B8
             have wM:b9 env h1 3 (AV.ptr R8 (R9+2))=some (AV.int .i64 ((ahead.g (ahead.length - 1)).aD)):=(kp.has bR).part (t:=3) (j:=2) o! B8 k! rfl
             rcases Bool.eq_false_or_eq_true (decide (d_.aD<((ahead.g (ahead.length - 1)).aD))) with f6 | f6
             · have Ao:=of_decide_eq_true f6
               have ev:=pk (d+2) cQ (aE::(AV.agg [(AV.str d_.worker),(AV.int .i64 d_.ab),(AV.int .i64 d_.aD),(AV.int .i64 d_.leave),(AV.int .i64 d_.out)])::cx 41) h .ret h1 (NN bJ (fun i=>(AV.ptr i 0))<|CN 2<|MM (au 9 0 (AV.str d_.worker) aO k!)<|EE k2<|CN 2<|BB f0<|CC<|MM (au 3 1 (AV.int .i64 d_.ab) aO k!)<|EE k4<|CN 2<|BB f1<|CC<|MM (au 3 2 (AV.int .i64 d_.aD) aO k!)<|EE k6<|CN 2<|BB f2<|CC<|MM (au 3 3 (AV.int .i64 d_.leave) aO k!)<|EE k8<|CN 2<|BB f3<|CC<|MM (au 3 4 (AV.int .i64 d_.out) aO k!)<|EE n9<|CN 2<|BB f4<|CC<|VV Pj<|VV (cI 3 false true .i64 ((ahead.length:Nat):Int) 0)<|CC<|BB f5<|CC<|BB f5<|CC<|BB f5<|VV R6<|BB f5<|VV R7<|BB f5<|VV F6<|BB f5<|CC<|BB f5<|MM wM<|BB f5<|CC<|BB f5<|MM (au 3 2 (AV.int .i64 d_.aD) aO k!)<|BB f5<|VV (cI 3 false false .i64 ((ahead.g (ahead.length - 1)).aD) d_.aD)<|VV (aM (a:=some (AV.bool (decide (d_.aD<((ahead.g (ahead.length - 1)).aD))))) (b:=some (AV.bool false)) f5)<|CC<|HH wM<|HH (show AV.same 20 (AV.int .i64 ((ahead.g (ahead.length - 1)).aD)) (AV.int .i64 ((ahead.g (ahead.length - 1)).aD))=true from aU 19 _ _)<|HH (au 3 2 (AV.int .i64 d_.aD) aO k!)<|HH (show AV.same 20 (AV.int .i64 d_.aD) (AV.int .i64 d_.aD)=true from aU 19 _ _)<|BB f6<|CC<|ZZ) k!
               have e:bw ahead d_=8:=by simp only[bw,f0,f1,f2,f3,f4,f5,f6,cond_true,cond_false]
               rw[e]
               exact ay rfl (bb Tryz.func62 eG k! (.inr rfl) ev k!) bR rfl
             · have Ao:=of_decide_eq_false f6
               have ev:=pk (d+2) cQ (aE::(AV.agg [(AV.str d_.worker),(AV.int .i64 d_.ab),(AV.int .i64 d_.aD),(AV.int .i64 d_.leave),(AV.int .i64 d_.out)])::cx 41) h .ret h1 (NN bJ (fun i=>(AV.ptr i 0))<|CN 2<|MM (au 9 0 (AV.str d_.worker) aO k!)<|EE k2<|CN 2<|BB f0<|CC<|MM (au 3 1 (AV.int .i64 d_.ab) aO k!)<|EE k4<|CN 2<|BB f1<|CC<|MM (au 3 2 (AV.int .i64 d_.aD) aO k!)<|EE k6<|CN 2<|BB f2<|CC<|MM (au 3 3 (AV.int .i64 d_.leave) aO k!)<|EE k8<|CN 2<|BB f3<|CC<|MM (au 3 4 (AV.int .i64 d_.out) aO k!)<|EE n9<|CN 2<|BB f4<|CC<|VV Pj<|VV (cI 3 false true .i64 ((ahead.length:Nat):Int) 0)<|CC<|BB f5<|CC<|BB f5<|CC<|BB f5<|VV R6<|BB f5<|VV R7<|BB f5<|VV F6<|BB f5<|CC<|BB f5<|MM wM<|BB f5<|CC<|BB f5<|MM (au 3 2 (AV.int .i64 d_.aD) aO k!)<|BB f5<|VV (cI 3 false false .i64 ((ahead.g (ahead.length - 1)).aD) d_.aD)<|VV (aM (a:=some (AV.bool (decide (d_.aD<((ahead.g (ahead.length - 1)).aD))))) (b:=some (AV.bool false)) f5)<|CC<|HH wM<|HH (show AV.same 20 (AV.int .i64 ((ahead.g (ahead.length - 1)).aD)) (AV.int .i64 ((ahead.g (ahead.length - 1)).aD))=true from aU 19 _ _)<|HH (au 3 2 (AV.int .i64 d_.aD) aO k!)<|HH (show AV.same 20 (AV.int .i64 d_.aD) (AV.int .i64 d_.aD)=true from aU 19 _ _)<|BB f6<|CC<|ZZ) k!
               have e:bw ahead d_=0:=by simp only[bw,f0,f1,f2,f3,f4,f5,f6,cond_true,cond_false]
               rw[e]
               exact ay rfl (bb Tryz.func62 eG k! (.inr rfl) ev k!) bR rfl
           · have pF:=of_decide_eq_false f5
             have ev:=pk (d+2) cQ (aE::(AV.agg [(AV.str d_.worker),(AV.int .i64 d_.ab),(AV.int .i64 d_.aD),(AV.int .i64 d_.leave),(AV.int .i64 d_.out)])::cx 41) h .ret h1 (NN bJ (fun i=>(AV.ptr i 0))<|CN 2<|MM (au 9 0 (AV.str d_.worker) aO k!)<|EE k2<|CN 2<|BB f0<|CC<|MM (au 3 1 (AV.int .i64 d_.ab) aO k!)<|EE k4<|CN 2<|BB f1<|CC<|MM (au 3 2 (AV.int .i64 d_.aD) aO k!)<|EE k6<|CN 2<|BB f2<|CC<|MM (au 3 3 (AV.int .i64 d_.leave) aO k!)<|EE k8<|CN 2<|BB f3<|CC<|MM (au 3 4 (AV.int .i64 d_.out) aO k!)<|EE n9<|CN 2<|BB f4<|CC<|VV Pj<|VV (cI 3 false true .i64 ((ahead.length:Nat):Int) 0)<|CC<|BB f5<|BB f5<|BB f5<|BB f5<|BB f5<|BB f5<|BB f5<|BB f5<|BB f5<|BB f5<|VV (aL (a:=some AV.undef) (b:=some (AV.bool false)) f5)<|CC<|FF<|CC<|ZZ) k!
             have e:bw ahead d_=0:=by simp only[bw,f0,f1,f2,f3,f4,f5,cond_true,cond_false]
             rw[e]
             exact ay rfl (bb Tryz.func62 eG k! (.inr rfl) ev k!) bR rfl
noncomputable def jL:Code:=(Tryz.f30.body).getD .skip
theorem pG:Tryz.f30.body=some jL:=by kernel_rfl
def bl (t:aH) (l_:List aw):Int:=(bif (!decide ((br t)=0)) then (br t) else (b8 l_ 128 (fun j=>bw (List.take j l_) (List.g l_ j))))
theorem wN {d:Nat} {h:aq} {bk:AV} (t:aH) (l_:List aw) (g6:aG.ok h t) (cR:bf h bk l_) (di:Tidy h):dH (d+7) (.fn 30) [(AV.agg [t.ar,(AV.int .i64 t.rest),(AV.int .i64 t.day)]),bk] h= .ret (AV.int .i64 (bl t l_)) h:=by
 have pH:=cR.small
 obtain ⟨h1,bJ,cK,lD,aO,dI⟩:=jA di (aP.cells [t.ar,(AV.int .i64 t.rest),(AV.int .i64 t.day)] 24 false)
 have bR:Has h h1:=dI
 have k2:=pE (d:=d+1) t (aG.mono bR g6) cK
 rcases Bool.eq_false_or_eq_true (!decide ((br t)=0)) with f0 | f0
 · have dY:=qZ f0
   have ev:=pk (d+6) jL ((AV.agg [t.ar,(AV.int .i64 t.rest),(AV.int .i64 t.day)])::bk::cx 11) h .ret h1 (NN bJ (fun i=>(AV.ptr i 0))<|CC<|MM (au 24 0 (AV.agg [t.ar,(AV.int .i64 t.rest),(AV.int .i64 t.day)]) aO k!)<|EE k2<|CN 2<|VV (cJ 30 false true .i64 (br t) 0)<|BB f0<|CN 2<|ZZ) k!
   have e:bl t l_=(br t):=by simp only[bl,f0,cond_true,cond_false]
   rw[e]
   exact ay rfl (bb Tryz.func30 pG k! (.inr rfl) ev k!) bR rfl
 · have dY:=ra f0
   have k4:=sv (d:=d+5) l_ 128 (fun j=>bw (List.take j l_) (List.g l_ j)) (cR.has bR) (fun j hj aV hh yy aa fa=>xX (d:=d+2) (List.take j l_) (List.g l_ j) fa (aG.mono aa ((cR.has bR).ok hj)) yy) cK
   have ev:=pk (d+6) jL ((AV.agg [t.ar,(AV.int .i64 t.rest),(AV.int .i64 t.day)])::bk::cx 11) h .ret h1 (NN bJ (fun i=>(AV.ptr i 0))<|CC<|MM (au 24 0 (AV.agg [t.ar,(AV.int .i64 t.rest),(AV.int .i64 t.day)]) aO k!)<|EE k2<|CN 2<|VV (cJ 30 false true .i64 (br t) 0)<|BB f0<|CC<|EE k4<|CC<|ZZ) k!
   have e:bl t l_=(b8 l_ 128 (fun j=>bw (List.take j l_) (List.g l_ j))):=by simp only[bl,f0,cond_true,cond_false]
   rw[e]
   exact ay rfl (bb Tryz.func30 pG k! (.inr rfl) ev k!) bR rfl
theorem qn {l:List aw} {n:Int} {P:Nat→Int} (h:b8 l n P=0):(l.length:Int)≤n:=by
 unfold b8 at h
 by_cases q:n<(l.length:Int)
 · rw[decide_eq_true q] at h;cases h
 · omega
theorem kb {t:aH} {l_:List aw} (h:bl t l_=0):l_.length≤128:=by
 unfold bl at h
 cases e:(!decide (br t=0)) with
 | true=>rw[e] at h;rw[show br t=0 from h] at e;cases e
 | false=>rw[e] at h;have:=qn (n:=128) h;omega
noncomputable def mi:Code:=(Tryz.f21.body).getD .skip
theorem B9:Tryz.f21.body=some mi:=by kernel_rfl
noncomputable def kq:Code:=(cP mi).getD 0 .skip
def dg (l_:List aw) (worker:List UInt8):Nat→Nat→List aw→List aw
 | 0,_,cr=>cr
 | dC+1,i0,cr=>(bif (decide (((l_.g i0).worker)=worker)) then dg l_ worker dC (i0+1) (cr++([(l_.g i0)])) else dg l_ worker dC (i0+1) cr)
theorem mj {d:Nat} {h:aq} (worker:List UInt8) (bk:AV) (l_:List aw) (bC:worker.length<2^60) (fw:bf h bk l_) (wQ:l_.length≤128) (di:Tidy h):∀(k_ i_:Nat) (cr:List aw) (z0:AV) (_:i_+k_=l_.length) (x:Nat→AV) (hh:aq) (aX:Tidy hh) (a_:Has h hh) (B_:h.nx≤hh.nx) (Kn:gD h hh z0 cr) (Jg:∀y∈cr,aG.ok hh y) (R_:cr.length≤i_),jD (dH (d)) kq ⟨((x 0)::(AV.str worker)::rx x 2 3 (z0::(x 6)::(x 7)::bk::(AV.int .i64 ((l_.length:Nat):Int))::(AV.int .i64 ((i_:Nat):Int))::rx x 11 13 [])),hh,[],.no⟩ (.exit 0) h (fun r z y=>((y 0)::(AV.str worker)::rx y 2 3 (z::(y 6)::(y 7)::bk::(AV.int .i64 ((l_.length:Nat):Int))::rx y 10 14 []))) (fun r=>r) l_.length (dg l_ worker k_ i_ cr)
 | 0,i0,cr,z0,pB,x,hh,aX,a_,B_,Kn,Jg,R_=>by
   have mf:=fw.small
   have q1:(decide (((i0:Nat):Int)<((l_.length:Nat):Int)))=false:=d!
   have ev:=pk (d) kq ((x 0)::(AV.str worker)::rx x 2 3 (z0::(x 6)::(x 7)::bk::(AV.int .i64 ((l_.length:Nat):Int))::(AV.int .i64 ((i0:Nat):Int))::rx x 11 13 [])) hh (.exit 0) hh (VV (bz 3 false false .i64 ((i0:Nat):Int) ((l_.length:Nat):Int))<|BB q1<|ZZ) k!
   exact jD.out cr z0 rfl ev ⟨aX,a_,by omega⟩ Kn Jg (by first | omega | (simp<;>omega)) k!
 | dC+1,i0,cr,z0,pB,x,hh,aX,a_,B_,Kn,Jg,R_=>by
   have mf:=fw.small
   have q1:(decide (((i0:Nat):Int)<((l_.length:Nat):Int)))=true:=d!
   obtain ⟨p3,q4,kH⟩:=(fw.has a_).elem (i:=i0) o!
   have kO:ep env (some (.slice 34)) (some bk) (some (AV.int .i64 ((i0:Nat):Int)))=some (AV.ptr p3 q4):=kH
   have pC:b9 env hh 34 (AV.ptr p3 q4)=some (AV.agg [(AV.str ((l_.g i0).worker)),(AV.int .i64 ((l_.g i0).ab)),(AV.int .i64 ((l_.g i0).aD)),(AV.int .i64 ((l_.g i0).leave)),(AV.int .i64 ((l_.g i0).out))]):=(fw.has a_).load o! kH
   obtain ⟨h6,jI,oK,F3,oL,bQ⟩:=jA aX (aP.cells [(AV.str []),(AV.int .i64 0),(AV.int .i64 0),(AV.int .i64 0),(AV.int .i64 0)] 34 false)
   have oc:Has hh h6:=bQ
   obtain ⟨h7,lF,jm,F1,b6,dR⟩:=lC (t:=34) (n:=5) (i:=hh.nx) (L:=[(AV.str ((l_.g i0).worker)),(AV.int .i64 ((l_.g i0).ab)),(AV.int .i64 ((l_.g i0).aD)),(AV.int .i64 ((l_.g i0).leave)),(AV.int .i64 ((l_.g i0).out))]) oK oL k! rfl rfl (by simp only[AV.cells,List.all_cons,List.all_nil,Bool.and_true,Bool.and_self,dL,cO,dM,dN,cu,fQ,fR,fS,fT,fU,dO])
   have fh:Has hh h7:=Has.ca oc dR aX o!
   rcases Bool.eq_false_or_eq_true (decide (((l_.g i0).worker)=worker)) with f1 | f1
   · have gF:=of_decide_eq_true f1
     obtain ⟨h9,LZ,jW,Pl,gq,Pm⟩:=jA jm (aP.cells [(AV.str ((l_.g i0).worker)),(AV.int .i64 ((l_.g i0).ab)),(AV.int .i64 ((l_.g i0).aD)),(AV.int .i64 ((l_.g i0).leave)),(AV.int .i64 ((l_.g i0).out))] 34 false)
     have jn:Has hh h9:=fh.trans Pm
     obtain ⟨Na,yS,Pn,uy,Nb,R',Jh,VB⟩:=gD.app (tys:= #[25,25]) (l:=cr) (m:=[(l_.g i0)]) (x:=(AV.slice h7.nx 0 1 1 false)) jW di (a_.trans jn) o! (Kn.has jn) rfl (wz (x:=(l_.g i0)) gq) (by simp [aG.c,aw.c,AV.scalar]) (by first | omega | (simp<;>omega)) rfl rfl k! k! (bytes:=48) k! (z0:=(AV.agg [(AV.str []),(AV.int .i64 0),(AV.int .i64 0),(AV.int .i64 0),(AV.int .i64 0)])) k! rfl (by decide)
     have Po:∀y∈(cr++([(l_.g i0)])),aG.ok yS y:=n_ (D:=aw) (Dm (ED jn Jg) (ok_one (aG.mono jn ((fw.has a_).ok (i:=i0) o!))))
     have R5:=fV 3 false true i0 1 o!
     have ev:=pk (d) kq ((x 0)::(AV.str worker)::rx x 2 3 (z0::(x 6)::(x 7)::bk::(AV.int .i64 ((l_.length:Nat):Int))::(AV.int .i64 ((i0:Nat):Int))::rx x 11 13 [])) hh .normal yS (VV (bz 3 false false .i64 ((i0:Nat):Int) ((l_.length:Nat):Int))<|BB q1<|VV kO<|MM pC<|NN jI (fun i=>(AV.ptr i 0))<|SS lF<|CC<|MM (au 9 0 (AV.str ((l_.g i0).worker)) b6 k!)<|CC<|VV (FY 9 false false ((l_.g i0).worker) worker)<|BB f1<|CC<|MM (au 34 0 (AV.agg [(AV.str ((l_.g i0).worker)),(AV.int .i64 ((l_.g i0).ab)),(AV.int .i64 ((l_.g i0).aD)),(AV.int .i64 ((l_.g i0).leave)),(AV.int .i64 ((l_.g i0).out))]) b6 k!)<|NN LZ (fun i=>(AV.slice i 0 1 1 false))<|PP (show bN env h9 #[25,25] z0 (AV.slice h7.nx 0 1 1 false)=some (Na,yS) from Pn)<|CC<|VV R5<|CC<|ZZ) k!
     exact jD.round (by simp only[dg,f1,cond_true,cond_false]) ev (fun x=>((x 0)::(AV.str worker)::rx x 2 3 (Na::(x 6)::(x 7)::bk::(AV.int .i64 ((l_.length:Nat):Int))::(AV.int .i64 (((i0+1):Nat):Int))::rx x 11 13 []))) k! (fun x=>mj worker bk l_ bC fw wQ di dC (i0+1) (cr++([(l_.g i0)])) Na o! x yS uy R' o! Jh Po (by first | omega | (simp<;>omega)))
   · have gF:=of_decide_eq_false f1
     have u9:=fV 3 false true i0 1 o!
     have ev:=pk (d) kq ((x 0)::(AV.str worker)::rx x 2 3 (z0::(x 6)::(x 7)::bk::(AV.int .i64 ((l_.length:Nat):Int))::(AV.int .i64 ((i0:Nat):Int))::rx x 11 13 [])) hh .normal h7 (VV (bz 3 false false .i64 ((i0:Nat):Int) ((l_.length:Nat):Int))<|BB q1<|VV kO<|MM pC<|NN jI (fun i=>(AV.ptr i 0))<|SS lF<|CC<|MM (au 9 0 (AV.str ((l_.g i0).worker)) b6 k!)<|CC<|VV (FY 9 false false ((l_.g i0).worker) worker)<|BB f1<|VV u9<|CC<|ZZ) k!
     exact jD.round (by simp only[dg,f1,cond_true,cond_false]) ev (fun x=>((x 0)::(AV.str worker)::rx x 2 3 (z0::(x 6)::(x 7)::bk::(AV.int .i64 ((l_.length:Nat):Int))::(AV.int .i64 (((i0+1):Nat):Int))::rx x 11 13 []))) k! (fun x=>mj worker bk l_ bC fw wQ di dC (i0+1) cr z0 o! x h7 jm (a_.trans fh) o! (Kn.has fh) (n_ (D:=aw) Jg) (by first | omega | (simp<;>omega)))
def aR (l_:List aw) (worker:List UInt8):List aw:=(dg l_ worker l_.length 0 ([]))
theorem pI {d:Nat} {h:aq} {bk:AV} (l_:List aw) (worker:List UInt8) (cR:bf h bk l_) (cA:worker.length<2^60) (Sa:l_.length≤128) (di:Tidy h):∃z hk,dH (d+1) (.fn 21) [bk,(AV.str worker)] h= .ret z hk∧b4 h hk∧bf hk z (aR l_ worker):=by
 have pH:=cR.small
 have jG:dU (some (.slice 34)) (some bk)=some (AV.int .i64 ((l_.length:Nat):Int)):=cR.len
 obtain ⟨VC,O',h3,hH,ib,W6,Ji,Qq⟩:=mj (d:=d) (h:=h) worker bk l_ cA cR o! di l_.length 0 ([]) AV.aF o! (fun k_=>((bk::(AV.str worker)::AV.undef::AV.undef::AV.aF::AV.aF::AV.undef::AV.undef::bk::(AV.int .i64 ((l_.length:Nat):Int))::(AV.int .i64 0)::cx 13):List AV).getD k_ AV.undef) h di (Has.refl _) (Nat.le_refl _) (.inl ⟨.inl rfl,rfl⟩) (fun y hy=>by cases hy) (Nat.zero_le _)
 have VD:(dg l_ worker l_.length 0 ([])).length≤l_.length:=Qq
 have VE:bf h3 VC (dg l_ worker l_.length 0 ([])):=gD.rows W6 o! Ji
 have ql:=ib.y
 have Dn:h.nx≤h3.nx:=ib.n
 have kY:Has h h3:=ib.a
 have ev:=pk (d) mi (bk::(AV.str worker)::cx 22) h .ret h3 (CN 3<|VV jG<|CC<|LL hH<|CN 2<|ZZ) k!
 have e:aR l_ worker=(dg l_ worker l_.length 0 ([])):=by simp only[aR,cond_true,cond_false]
 rw[e]
 have oz:=gD.le (h0:=h) W6 o!
 exact ⟨VC,gC rfl (bb Tryz.func21 B9 k! (.inr rfl) ev k!) di ⟨ql,kY,by omega⟩ (P:=fun hh=>bf hh VC (dg l_ worker l_.length 0 ([]))) (gD.rows oz (by first | omega | decide) Ji) fun v=>gD.RY oz v⟩
end Go.Proofs.aW
