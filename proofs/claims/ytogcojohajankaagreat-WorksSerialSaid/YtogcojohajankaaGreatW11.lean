import Derived.Test.YtogcojohajankaaGreatW0
import Derived.Test.YtogcojohajankaaGreatW1
import Derived.Test.YtogcojohajankaaGreatW4
import Derived.Test.YtogcojohajankaaGreatW6
namespace Go.Proofs.aJ
open Go.Proofs Ab
set_option maxRecDepth 100000
set_option maxHeartbeats 4000000
set_option linter.unusedVariables false
set_option linter.unusedSimpArgs false
noncomputable def Du:Code:=(Tryz.f53.body).getD .skip
theorem sI:Tryz.f53.body=some Du:=by kernel_rfl
noncomputable def QT:Code:=(bw Du).getD 0 .skip
def dq (s:List UInt8):Nat→Nat→Option (Bool)
 | 0,_=>none
 | cS+1,i0=>(bif (decide ((((s.g i0).toNat:Nat):Int)<97)) then (bif (decide ((((s.g i0).toNat:Nat):Int)<48)) then (bif (!decide ((((s.g i0).toNat:Nat):Int)=45)) then some false else dq s cS (i0+1)) else (bif (decide (57<(((s.g i0).toNat:Nat):Int))) then (bif (!decide ((((s.g i0).toNat:Nat):Int)=45)) then some false else dq s cS (i0+1)) else dq s cS (i0+1))) else (bif (decide (122<(((s.g i0).toNat:Nat):Int))) then (bif (decide ((((s.g i0).toNat:Nat):Int)<48)) then (bif (!decide ((((s.g i0).toNat:Nat):Int)=45)) then some false else dq s cS (i0+1)) else (bif (decide (57<(((s.g i0).toNat:Nat):Int))) then (bif (!decide ((((s.g i0).toNat:Nat):Int)=45)) then some false else dq s cS (i0+1)) else dq s cS (i0+1))) else dq s cS (i0+1)))
theorem jR {d:Nat} {h:aw} (s:List UInt8) (bb:s.length<2^60):∀(k_ i_:Nat) (_:i_+k_=(List.length s)) (x:Nat→AV) (hh:aw) (aA:Tidy hh) (ay:Has h hh),aC (cU (d)) QT ⟨((AV.str s)::(x 1)::(x 2)::(Zn i_)::rx x 4 46 []),hh,[],.no⟩ (.exit 0) hh (fun y=>((AV.str s)::rx y 1 49 [])) (fun r y=>((AV.str s)::(y 1)::(AV.bool r)::rx y 3 47 [])) (dq s k_ i_)
 | 0,i0,gq,x,hh,aA,ay=>by
   have sn1:s.length<2^60:=bb
   have q2:(decide (((i0:Nat):Int)<((List.length s:Nat):Int)))=false:=d!
   exact aC.out rfl (pk (d) _ _ hh _ hh (CN 3<|VV (bO 3 false false .i64 ((i0:Nat):Int) ((List.length s:Nat):Int))<|BB q2<|ZZ) k!) (bp.refl aA) k!
 | cS+1,i0,gq,x,hh,aA,ay=>by
   have sn1:s.length<2^60:=bb
   have q2:(decide (((i0:Nat):Int)<((List.length s:Nat):Int)))=true:=d!
   have vP:yL env (some .string) (some (AV.str s)) (some (Zn i0))=some (AV.int .u8 (((s.g i0).toNat:Nat):Int)):=pD (j:=i0) o!
   have dR:=fun {al ps} (k:Pk al _ ps)=>(CN 3<|VV (bO 3 false false .i64 ((i0:Nat):Int) ((List.length s:Nat):Int))<|BB q2<|CN 2<|VV vP<|CN 2<|k:Pk _ [] ps)
   rcases Bool.eq_false_or_eq_true (decide ((((s.g i0).toNat:Nat):Int)<97)) with f1 | f1
   · have dQ:=of_decide_eq_true f1
     rcases Bool.eq_false_or_eq_true (decide ((((s.g i0).toNat:Nat):Int)<48)) with f2 | f2
     · have jZ:=of_decide_eq_true f2
       have hI:=fun {al ps} (k:Pk al _ ps)=>(dR<|VV (bO 5 false true .u8 (((s.g i0).toNat:Nat):Int) 97)<|CC<|BB f1<|BV f1 (xV true f1)<|CC<|TT<|CC<|TT<|VV (bO 5 false true .u8 (((s.g i0).toNat:Nat):Int) 48)<|TT<|CC<|BB f2<|BB f2<|TT<|VV (xV true f2)<|CN 2<|TT<|CC<|TT<|VV (pa 5 false true .u8 (((s.g i0).toNat:Nat):Int) 45)<|CC<|k:Pk _ [] ps)
       rcases Bool.eq_false_or_eq_true (!decide ((((s.g i0).toNat:Nat):Int)=45)) with f3 | f3
       · have lV:=HJ f3
         exact aC.ret false (by simp only[dq,f1,f2,f3,cond_true,cond_false]) (pk (d) _ _ hh _ hh (hI<|BC f3<|ZZ) k!) (bp.refl aA) k!
       · have lV:=HK f3
         have u7:=dZ 3 false true i0 1 o!
         exact aC.round (by simp only[dq,f1,f2,f3,cond_true,cond_false]) (pk (d) _ _ hh _ hh (hI<|BC f3<|VV u7<|CC<|ZZ) k!) (bp.refl aA) _ k! (fun x=>jR s bb cS (i0+1) o! x hh aA ay)
     · have jZ:=of_decide_eq_false f2
       rcases Bool.eq_false_or_eq_true (decide (57<(((s.g i0).toNat:Nat):Int))) with f3 | f3
       · have lV:=of_decide_eq_true f3
         rcases Bool.eq_false_or_eq_true (!decide ((((s.g i0).toNat:Nat):Int)=45)) with f4 | f4
         · have rE:=HJ f4
           exact aC.ret false (by simp only[dq,f1,f2,f3,f4,cond_true,cond_false]) (pk (d) _ _ hh _ hh (dR<|VV (bO 5 false true .u8 (((s.g i0).toNat:Nat):Int) 97)<|CC<|BB f1<|BV f1 (xV true f1)<|CC<|TT<|CC<|TT<|VV (bO 5 false true .u8 (((s.g i0).toNat:Nat):Int) 48)<|TT<|CC<|BC f2<|BV f2 (dw 5 false true .u8 (((s.g i0).toNat:Nat):Int) 57)<|TT<|VV (b8 (a:=some (AV.bool true)) (b:=some (AV.bool (decide (57<(((s.g i0).toNat:Nat):Int))))) f2)<|CN 2<|BC f3<|BV f3 (pa 5 false true .u8 (((s.g i0).toNat:Nat):Int) 45)<|VV (pe (!decide ((((s.g i0).toNat:Nat):Int)=45)) false f3)<|BC f4<|ZZ) k!) (bp.refl aA) k!
         · have rE:=HK f4
           have u8:=dZ 3 false true i0 1 o!
           exact aC.round (by simp only[dq,f1,f2,f3,f4,cond_true,cond_false]) (pk (d) _ _ hh _ hh (dR<|VV (bO 5 false true .u8 (((s.g i0).toNat:Nat):Int) 97)<|CC<|BB f1<|BV f1 (xV true f1)<|CC<|TT<|CC<|TT<|VV (bO 5 false true .u8 (((s.g i0).toNat:Nat):Int) 48)<|TT<|CC<|BC f2<|BV f2 (dw 5 false true .u8 (((s.g i0).toNat:Nat):Int) 57)<|TT<|VV (b8 (a:=some (AV.bool true)) (b:=some (AV.bool (decide (57<(((s.g i0).toNat:Nat):Int))))) f2)<|CN 2<|BC f3<|BV f3 (pa 5 false true .u8 (((s.g i0).toNat:Nat):Int) 45)<|VV (pe (!decide ((((s.g i0).toNat:Nat):Int)=45)) false f3)<|BC f4<|VV u8<|CC<|ZZ) k!) (bp.refl aA) _ k! (fun x=>jR s bb cS (i0+1) o! x hh aA ay)
       · have lV:=of_decide_eq_false f3
         have u7:=dZ 3 false true i0 1 o!
         exact aC.round (by simp only[dq,f1,f2,f3,cond_true,cond_false]) (pk (d) _ _ hh _ hh (dR<|VV (bO 5 false true .u8 (((s.g i0).toNat:Nat):Int) 97)<|CC<|BB f1<|BV f1 (xV true f1)<|CC<|TT<|CC<|TT<|VV (bO 5 false true .u8 (((s.g i0).toNat:Nat):Int) 48)<|TT<|CC<|BC f2<|BV f2 (dw 5 false true .u8 (((s.g i0).toNat:Nat):Int) 57)<|TT<|VV (b8 (a:=some (AV.bool true)) (b:=some (AV.bool (decide (57<(((s.g i0).toNat:Nat):Int))))) f2)<|CN 2<|BB f3<|BV f3 (sS false f3)<|FF<|CC<|VV u7<|CC<|ZZ) k!) (bp.refl aA) _ k! (fun x=>jR s bb cS (i0+1) o! x hh aA ay)
   · have dQ:=of_decide_eq_false f1
     rcases Bool.eq_false_or_eq_true (decide (122<(((s.g i0).toNat:Nat):Int))) with f2 | f2
     · have jZ:=of_decide_eq_true f2
       rcases Bool.eq_false_or_eq_true (decide ((((s.g i0).toNat:Nat):Int)<48)) with f3 | f3
       · have lV:=of_decide_eq_true f3
         rcases Bool.eq_false_or_eq_true (!decide ((((s.g i0).toNat:Nat):Int)=45)) with f4 | f4
         · have rE:=HJ f4
           exact aC.ret false (by simp only[dq,f1,f2,f3,f4,cond_true,cond_false]) (pk (d) _ _ hh _ hh (dR<|VV (bO 5 false true .u8 (((s.g i0).toNat:Nat):Int) 97)<|CC<|BC f1<|BV f1 (dw 5 false true .u8 (((s.g i0).toNat:Nat):Int) 122)<|VV (b8 (a:=some (AV.bool true)) (b:=some (AV.bool (decide (122<(((s.g i0).toNat:Nat):Int))))) f1)<|CC<|BC f2<|BV f2 (bO 5 false true .u8 (((s.g i0).toNat:Nat):Int) 48)<|BC f2<|BB f3<|BB f3<|BV f2 (xV true f3)<|VV (pe true false f2)<|CC<|TT<|CC<|TT<|VV (pa 5 false true .u8 (((s.g i0).toNat:Nat):Int) 45)<|CC<|BC f4<|ZZ) k!) (bp.refl aA) k!
         · have rE:=HK f4
           have u8:=dZ 3 false true i0 1 o!
           exact aC.round (by simp only[dq,f1,f2,f3,f4,cond_true,cond_false]) (pk (d) _ _ hh _ hh (dR<|VV (bO 5 false true .u8 (((s.g i0).toNat:Nat):Int) 97)<|CC<|BC f1<|BV f1 (dw 5 false true .u8 (((s.g i0).toNat:Nat):Int) 122)<|VV (b8 (a:=some (AV.bool true)) (b:=some (AV.bool (decide (122<(((s.g i0).toNat:Nat):Int))))) f1)<|CC<|BC f2<|BV f2 (bO 5 false true .u8 (((s.g i0).toNat:Nat):Int) 48)<|BC f2<|BB f3<|BB f3<|BV f2 (xV true f3)<|VV (pe true false f2)<|CC<|TT<|CC<|TT<|VV (pa 5 false true .u8 (((s.g i0).toNat:Nat):Int) 45)<|CC<|BC f4<|VV u8<|CC<|ZZ) k!) (bp.refl aA) _ k! (fun x=>jR s bb cS (i0+1) o! x hh aA ay)
       · have lV:=of_decide_eq_false f3
         rcases Bool.eq_false_or_eq_true (decide (57<(((s.g i0).toNat:Nat):Int))) with f4 | f4
         · have rE:=of_decide_eq_true f4
           have mH:=fun {al ps} (k:Pk al _ ps)=>(dR<|VV (bO 5 false true .u8 (((s.g i0).toNat:Nat):Int) 97)<|CC<|BC f1<|BV f1 (dw 5 false true .u8 (((s.g i0).toNat:Nat):Int) 122)<|VV (b8 (a:=some (AV.bool true)) (b:=some (AV.bool (decide (122<(((s.g i0).toNat:Nat):Int))))) f1)<|CC<|BC f2<|BV f2 (bO 5 false true .u8 (((s.g i0).toNat:Nat):Int) 48)<|BC f2<|BC f3<|BV f3 (dw 5 false true .u8 (((s.g i0).toNat:Nat):Int) 57)<|BV f2 (b8 (a:=some (AV.bool true)) (b:=some (AV.bool (decide (57<(((s.g i0).toNat:Nat):Int))))) f3)<|VV (pe (decide (57<(((s.g i0).toNat:Nat):Int))) false f2)<|CC<|BC f4<|BV f4 (pa 5 false true .u8 (((s.g i0).toNat:Nat):Int) 45)<|VV (pe (!decide ((((s.g i0).toNat:Nat):Int)=45)) false f4)<|k:Pk _ [] ps)
           rcases Bool.eq_false_or_eq_true (!decide ((((s.g i0).toNat:Nat):Int)=45)) with f5 | f5
           · have Y0:=HJ f5
             exact aC.ret false (by simp only[dq,f1,f2,f3,f4,f5,cond_true,cond_false]) (pk (d) _ _ hh _ hh (mH<|BC f5<|ZZ) k!) (bp.refl aA) k!
           · have Y0:=HK f5
             have u9:=dZ 3 false true i0 1 o!
             exact aC.round (by simp only[dq,f1,f2,f3,f4,f5,cond_true,cond_false]) (pk (d) _ _ hh _ hh (mH<|BC f5<|VV u9<|CC<|ZZ) k!) (bp.refl aA) _ k! (fun x=>jR s bb cS (i0+1) o! x hh aA ay)
         · have rE:=of_decide_eq_false f4
           have u8:=dZ 3 false true i0 1 o!
           exact aC.round (by simp only[dq,f1,f2,f3,f4,cond_true,cond_false]) (pk (d) _ _ hh _ hh (dR<|VV (bO 5 false true .u8 (((s.g i0).toNat:Nat):Int) 97)<|CC<|BC f1<|BV f1 (dw 5 false true .u8 (((s.g i0).toNat:Nat):Int) 122)<|VV (b8 (a:=some (AV.bool true)) (b:=some (AV.bool (decide (122<(((s.g i0).toNat:Nat):Int))))) f1)<|CC<|BC f2<|BV f2 (bO 5 false true .u8 (((s.g i0).toNat:Nat):Int) 48)<|BC f2<|BC f3<|BV f3 (dw 5 false true .u8 (((s.g i0).toNat:Nat):Int) 57)<|BV f2 (b8 (a:=some (AV.bool true)) (b:=some (AV.bool (decide (57<(((s.g i0).toNat:Nat):Int))))) f3)<|VV (pe (decide (57<(((s.g i0).toNat:Nat):Int))) false f2)<|CC<|BB f4<|BV f4 (sS false f4)<|FF<|CC<|VV u8<|CC<|ZZ) k!) (bp.refl aA) _ k! (fun x=>jR s bb cS (i0+1) o! x hh aA ay)
     · have jZ:=of_decide_eq_false f2
       have u6:=dZ 3 false true i0 1 o!
       exact aC.round (by simp only[dq,f1,f2,cond_true,cond_false]) (pk (d) _ _ hh _ hh (dR<|VV (bO 5 false true .u8 (((s.g i0).toNat:Nat):Int) 97)<|CC<|BC f1<|BV f1 (dw 5 false true .u8 (((s.g i0).toNat:Nat):Int) 122)<|VV (b8 (a:=some (AV.bool true)) (b:=some (AV.bool (decide (122<(((s.g i0).toNat:Nat):Int))))) f1)<|CC<|BB f2<|BB f2<|BB f2<|BV f2 (sS false f2)<|CC<|FF<|FF<|CC<|FF<|CC<|VV u6<|CC<|ZZ) k!) (bp.refl aA) _ k! (fun x=>jR s bb cS (i0+1) o! x hh aA ay)
def fG (s:List UInt8):Bool:=(bif (decide (((List.length s:Nat):Int)=0)) then false else (bif (decide (16<((List.length s:Nat):Int))) then false else (bif (decide ((((s.g 0).toNat:Nat):Int)<97)) then false else (bif (decide (122<(((s.g 0).toNat:Nat):Int))) then false else (match (dq s (List.length s) 0) with | none=>true | some rr8=>rr8)))))
theorem OC {d:Nat} {h:aw} (s:List UInt8) (sU:s.length<2^60) (ct:Tidy h):cU (d+1) (.fn 53) [(AV.str s)] h= .ret (AV.bool (fG s)) h:=by
 have sn1:s.length<2^60:=sU
 have vc:=fun {al ps} (k:Pk al _ ps)=>(CN 3<|VV (xy 3 false true .i64 ((List.length s:Nat):Int) 0)<|CC<|k:Pk _ [] ps)
 rcases Bool.eq_false_or_eq_true (decide (((List.length s:Nat):Int)=0)) with f0 | f0
 · have dx:=of_decide_eq_true f0
   have e:fG s=false:=by simp only[fG,f0,cond_true,cond_false]
   rw[e]
   exact aE rfl (aZ Tryz.func53 sI rfl (.inr rfl) (pk (d) _ _ h _ h (vc<|BB f0<|BB f0<|BV f0 (xV true f0)<|CC<|TT<|TT<|TT<|CN 2<|TT<|TT<|TT<|CC<|TT<|CC<|ZZ) k!) k!) (Has.refl _) rfl
 · have dx:=of_decide_eq_false f0
   have zI:=fun {al ps} (k:Pk al _ ps)=>(vc<|BC f0<|BC f0<|BV f0 (dw 3 false true .i64 ((List.length s:Nat):Int) 16)<|k:Pk _ [] ps)
   rcases Bool.eq_false_or_eq_true (decide (16<((List.length s:Nat):Int))) with f1 | f1
   · have dQ:=of_decide_eq_true f1
     have e:fG s=false:=by simp only[fG,f0,f1,cond_true,cond_false]
     rw[e]
     exact aE rfl (aZ Tryz.func53 sI rfl (.inr rfl) (pk (d) _ _ h _ h (zI<|VV (b8 (a:=some (AV.bool true)) (b:=some (AV.bool (decide (16<((List.length s:Nat):Int))))) f0)<|CC<|BB f1<|BB f1<|BV f1 (xV true f1)<|CC<|TT<|TT<|TT<|CC<|TT<|CC<|ZZ) k!) k!) (Has.refl _) rfl
   · have dQ:=of_decide_eq_false f1
     have U_:yL env (some .string) (some (AV.str s)) (some (Zi 0))=some (AV.int .u8 (((s.g 0).toNat:Nat):Int)):=pD (j:=0) o!
     rcases Bool.eq_false_or_eq_true (decide ((((s.g 0).toNat:Nat):Int)<97)) with f2 | f2
     · have jZ:=of_decide_eq_true f2
       have e:fG s=false:=by simp only[fG,f0,f1,f2,cond_true,cond_false]
       rw[e]
       exact aE rfl (aZ Tryz.func53 sI rfl (.inr rfl) (pk (d) _ _ h _ h (zI<|VV (b8 (a:=some (AV.bool true)) (b:=some (AV.bool (decide (16<((List.length s:Nat):Int))))) f0)<|CC<|BC f1<|BV f1 U_<|BV f1 (bO 5 false true .u8 (((s.g 0).toNat:Nat):Int) 97)<|VV (b8 (a:=some (AV.bool true)) (b:=some (AV.bool (decide ((((s.g 0).toNat:Nat):Int)<97)))) f1)<|CC<|BB f2<|BB f2<|BV f2 (xV true f2)<|TT<|CC<|ZZ) k!) k!) (Has.refl _) rfl
     · have jZ:=of_decide_eq_false f2
       have KN:yL env (some .string) (some (AV.str s)) (some (Zi 0))=some (AV.int .u8 (((s.g 0).toNat:Nat):Int)):=pD (j:=0) o!
       rcases Bool.eq_false_or_eq_true (decide (122<(((s.g 0).toNat:Nat):Int))) with f3 | f3
       · have lV:=of_decide_eq_true f3
         have e:fG s=false:=by simp only[fG,f0,f1,f2,f3,cond_true,cond_false]
         rw[e]
         exact aE rfl (aZ Tryz.func53 sI rfl (.inr rfl) (pk (d) _ _ h _ h (zI<|VV (b8 (a:=some (AV.bool true)) (b:=some (AV.bool (decide (16<((List.length s:Nat):Int))))) f0)<|CC<|BC f1<|BV f1 U_<|BV f1 (bO 5 false true .u8 (((s.g 0).toNat:Nat):Int) 97)<|VV (b8 (a:=some (AV.bool true)) (b:=some (AV.bool (decide ((((s.g 0).toNat:Nat):Int)<97)))) f1)<|CC<|BC f2<|BV f2 KN<|BV f2 (dw 5 false true .u8 (((s.g 0).toNat:Nat):Int) 122)<|VV (b8 (a:=some (AV.bool true)) (b:=some (AV.bool (decide (122<(((s.g 0).toNat:Nat):Int))))) f2)<|BC f3<|ZZ) k!) k!) (Has.refl _) rfl
       · have lV:=of_decide_eq_false f3
         have lp6:=jR (d:=d) (h:=h) s sU (List.length s) 0 o! (fun k_=>(((AV.str s)::AV.undef::(AV.bool false)::(Zi 0)::AV.undef::(AV.str s)::(Zn (List.length s))::(AV.bool (decide (((List.length s:Nat):Int)=0)))::(AV.bool (decide (((List.length s:Nat):Int)=0)))::(AV.str s)::(Zn (List.length s))::(AV.bool (decide (16<((List.length s:Nat):Int))))::(AV.bool (decide (16<((List.length s:Nat):Int))))::(AV.bool (decide (16<((List.length s:Nat):Int))))::(AV.str s)::(AV.int .u8 (((s.g 0).toNat:Nat):Int))::(AV.bool (decide ((((s.g 0).toNat:Nat):Int)<97)))::(AV.bool (decide ((((s.g 0).toNat:Nat):Int)<97)))::(AV.bool (decide ((((s.g 0).toNat:Nat):Int)<97)))::(AV.str s)::(AV.int .u8 (((s.g 0).toNat:Nat):Int))::(AV.bool (decide (122<(((s.g 0).toNat:Nat):Int))))::(AV.bool (decide (122<(((s.g 0).toNat:Nat):Int))))::lk 27):List AV).getD k_ AV.undef) h ct (Has.refl _)
         cases rJ:dq s (List.length s) 0 with
         | none=>
           obtain ⟨yl8,h9,tD,mf⟩:=aC.n rJ lp6
           have pF:=mf.y
           have KQ:h.nx≤h9.nx:=mf.n
           have my:Has h h9:=mf.a
           have e:fG s=true:=by simp only[fG,f0,f1,f2,f3,rJ,cond_true,cond_false]
           rw[e]
           exact aE rfl (aZ Tryz.func53 sI rfl (.inr rfl) (pk (d) _ _ h _ h9 (zI<|VV (b8 (a:=some (AV.bool true)) (b:=some (AV.bool (decide (16<((List.length s:Nat):Int))))) f0)<|CC<|BC f1<|BV f1 U_<|BV f1 (bO 5 false true .u8 (((s.g 0).toNat:Nat):Int) 97)<|VV (b8 (a:=some (AV.bool true)) (b:=some (AV.bool (decide ((((s.g 0).toNat:Nat):Int)<97)))) f1)<|CC<|BC f2<|BV f2 KN<|BV f2 (dw 5 false true .u8 (((s.g 0).toNat:Nat):Int) 122)<|VV (b8 (a:=some (AV.bool true)) (b:=some (AV.bool (decide (122<(((s.g 0).toNat:Nat):Int))))) f2)<|BC f3<|LL tD<|CC<|ZZ) k!) k!) my rfl
         | some rr8=>
           obtain ⟨yl8,h9,tD,mf⟩:=aC.r rJ lp6
           have pF:=mf.y
           have KQ:h.nx≤h9.nx:=mf.n
           have my:Has h h9:=mf.a
           have e:fG s=rr8:=by simp only[fG,f0,f1,f2,f3,rJ,cond_true,cond_false]
           rw[e]
           exact aE rfl (aZ Tryz.func53 sI rfl (.inr rfl) (pk (d) _ _ h _ h9 (zI<|VV (b8 (a:=some (AV.bool true)) (b:=some (AV.bool (decide (16<((List.length s:Nat):Int))))) f0)<|CC<|BC f1<|BV f1 U_<|BV f1 (bO 5 false true .u8 (((s.g 0).toNat:Nat):Int) 97)<|VV (b8 (a:=some (AV.bool true)) (b:=some (AV.bool (decide ((((s.g 0).toNat:Nat):Int)<97)))) f1)<|CC<|BC f2<|BV f2 KN<|BV f2 (dw 5 false true .u8 (((s.g 0).toNat:Nat):Int) 122)<|VV (b8 (a:=some (AV.bool true)) (b:=some (AV.bool (decide (122<(((s.g 0).toNat:Nat):Int))))) f2)<|BC f3<|LL tD<|ZZ) k!) k!) my rfl
def zA (c:UInt8):Bool:=decide (97≤((c.toNat:Nat):Int))&&decide (((c.toNat:Nat):Int)≤122)
def digit (c:UInt8):Bool:=decide (48≤((c.toNat:Nat):Int))&&decide (((c.toNat:Nat):Int)≤57)
def dash (c:UInt8):Bool:=decide (((c.toNat:Nat):Int)=45)
def Bj (f:Nat→Bool):Nat→Nat→Bool
 | 0,_=>true
 | k+1,i=>f i&&Bj f k (i+1)
theorem all_congr {f g:Nat→Bool}:∀(k i:Nat),(∀j,i≤j→j<i+k→f j=g j)→Bj f k i=Bj g k i
 | 0,_,_=>rfl
 | k+1,i,h=>by
   rw[Bj,Bj,h i (Nat.le_refl _) o!,all_congr k (i+1) fun j h1 h2=>h j o! o!]
theorem Y1 (a b:Int):decide (a<b)= !decide (b≤a):=by
 by_cases h:a<b
 · rw[decide_eq_true h,decide_eq_false o!];rfl
 · rw[decide_eq_false h,decide_eq_true o!];rfl
theorem Jw (s:List UInt8):∀(k i:Nat),jP s k i=bif Bj (fun j=>zA (s.g j)||(!decide ((j:Int)=0)&&(digit (s.g j)||dash (s.g j)))) k i then none else some false
 | 0,_=>rfl
 | k+1,i=>by
   rw[jP,Bj,Jw s k (i+1),zA,digit,dash]
   generalize Bj _ k (i+1)=z
   generalize decide (97≤(((s.g i).toNat:Nat):Int))=a
   generalize decide ((((s.g i).toNat:Nat):Int)≤122)=b
   generalize decide (48≤(((s.g i).toNat:Nat):Int))=c
   generalize decide ((((s.g i).toNat:Nat):Int)≤57)=d
   generalize decide ((((s.g i).toNat:Nat):Int)=45)=e
   generalize decide ((i:Int)=0)=f
   cases a<;>cases b<;>cases c<;>cases d<;>cases e<;>cases f<;>rfl
theorem Jx (s:List UInt8):∀(k i:Nat),dq s k i=bif Bj (fun j=>zA (s.g j)||(digit (s.g j)||dash (s.g j))) k i then none else some false
 | 0,_=>rfl
 | k+1,i=>by
   rw[dq,Bj,Jx s k (i+1),zA,digit,dash]
   simp only[Y1]
   generalize Bj _ k (i+1)=z
   generalize decide (97≤(((s.g i).toNat:Nat):Int))=a
   generalize decide ((((s.g i).toNat:Nat):Int)≤122)=b
   generalize decide (48≤(((s.g i).toNat:Nat):Int))=c
   generalize decide ((((s.g i).toNat:Nat):Int)≤57)=d
   generalize decide ((((s.g i).toNat:Nat):Int)=45)=e
   cases a<;>cases b<;>cases c<;>cases d<;>cases e<;>rfl
theorem S1 (s:List UInt8):g8 s=fG s:=by
 unfold g8 fG
 cases s with
 | nil=>rfl
 | cons x s=>
   rw[decide_eq_false (show ¬x::s=[] by simp),decide_eq_false (show ¬(((x::s).length:Nat):Int)=0 by simp;omega)]
   cases decide (16<(((x::s).length:Nat):Int)) with
   | true=>rfl
   | false=>
     rw[Jw,Jx,List.length_cons,Bj,Bj,Y1,Y1]
     rw[all_congr (f:=fun j=>zA ((x::s).g j)||(!decide ((j:Int)=0)&&(digit ((x::s).g j)||dash ((x::s).g j)))) (g:=fun j=>zA ((x::s).g j)||(digit ((x::s).g j)||dash ((x::s).g j))) s.length (0+1) fun j hj _=>by
      simp only[decide_eq_false (show ¬(j:Int)=0 by omega),Bool.not_false,Bool.true_and]]
     simp only[zA]
     rw[show decide (((0:Nat):Int)=0)=true from rfl]
     generalize Bj _ s.length (0+1)=z
     generalize decide (97≤((((x::s).g 0).toNat:Nat):Int))=a
     generalize decide (((((x::s).g 0).toNat:Nat):Int)≤122)=b
     generalize digit ((x::s).g 0)=c
     generalize dash ((x::s).g 0)=e
     cases a<;>cases b<;>cases c<;>cases e<;>cases z<;>rfl
noncomputable def oW:Code:=(Tryz.f54.body).getD .skip
theorem jb:Tryz.f54.body=some oW:=by kernel_rfl
noncomputable def xL:Code:=(bw oW).getD 0 .skip
def cy (x_:bI):Nat→Nat→Option (Int)
 | 0,_=>none
 | cS+1,i0=>(bif (!(dP ((x_.off.g i0).bl))) then some 1 else (bif (!(dP ((x_.off.g i0).aN))) then some 1 else (bif (decide (((x_.off.g i0).aN)<((x_.off.g i0).bl))) then some 1 else (bif (decide (0<((i0:Nat):Int))) then (bif (decide (((x_.off.g i0).bl)≤((x_.off.g (i0 - 1)).aN))) then some 1 else cy x_ cS (i0+1)) else cy x_ cS (i0+1)))))
theorem lf {d:Nat} {h:aw} (x_:bI) (a_:Nat) (bb:x_.name.length<2^60) (cf:aM h x_.dp x_.off) (fW:aG.ok h x_):∀(k_ i_:Nat) (_:i_+k_=x_.off.length) (x:Nat→AV) (hh:aw) (aA:Tidy hh) (ay:Has h hh) (bh:hh.get a_=some (aH.cells [(AV.str x_.name),(Zi x_.aB),x_.dp] 36 false)),aC (cU (d+1)) xL ⟨((x 0)::(Pt a_)::(x 2)::(Zn i_)::rx x 4 58 []),hh,[],.no⟩ (.exit 0) hh (fun y=>((y 0)::(Pt a_)::rx y 2 60 [])) (fun r y=>((y 0)::(Pt a_)::(Zi r)::rx y 3 59 [])) (cy x_ k_ i_)
 | 0,i0,gq,x,hh,aA,ay,bh=>by
   have eQ:=cf.small
   have ji:=aA _ _ bh
   have gL:cc (some (.slice 70)) (some x_.dp)=some (Zn x_.off.length):=(cf.has ay).len
   have q2:(decide (((i0:Nat):Int)<((x_.off.length:Nat):Int)))=false:=d!
   exact aC.out rfl (pk (d+1) _ _ hh _ hh (CN 2<|MM (aI 34 2 x_.dp bh k!)<|VV gL<|VV (bO 3 false false .i64 ((i0:Nat):Int) ((x_.off.length:Nat):Int))<|BB q2<|ZZ) k!) (bp.refl aA) k!
 | cS+1,i0,gq,x,hh,aA,ay,bh=>by
   have eQ:=cf.small
   have ji:=aA _ _ bh
   have gL:cc (some (.slice 70)) (some x_.dp)=some (Zn x_.off.length):=(cf.has ay).len
   have q2:(decide (((i0:Nat):Int)<((x_.off.length:Nat):Int)))=true:=d!
   obtain ⟨p4,q5,jE⟩:=(cf.has ay).elem (i:=i0) o!
   have vP:bR env (some (.slice 70)) (some x_.dp) (some (Zn i0))=some (AV.ptr p4 q5):=jE
   have rC:aY env hh 70 (AV.ptr p4 q5)=some (AV.agg [(Zi ((x_.off.g i0).bl)),(Zi ((x_.off.g i0).aN))]):=(cf.has ay).load o! jE
   obtain ⟨h7,afW,eO,xA,f_,Bk⟩:=kh aA (aH.cells [(Zi 0),(Zi 0)] 70 false)
   have du:Has hh h7:=Bk
   obtain ⟨h8,afX,ql,aeT,kV,qY⟩:=qi (t:=70) (n:=2) (i:=hh.nx) (L:=[(Zi ((x_.off.g i0).bl)),(Zi ((x_.off.g i0).aN))]) eO f_ k! rfl rfl (by simp only[AV.cells,List.all_cons,List.all_nil,Bool.and_true,Bool.and_self,iE,gd,iF,iG,eP,lF,lG,lH,lI,lJ,iH])
   have oK:Has hh h8:=Has.ei du qY aA o!
   have k9:=xp (d:=d) ((x_.off.g i0).bl) ql
   have dR:=fun {al ps} (k:Pk al _ ps)=>(CN 2<|MM (aI 34 2 x_.dp bh k!)<|VV gL<|VV (bO 3 false false .i64 ((i0:Nat):Int) ((x_.off.length:Nat):Int))<|BC q2<|MM (aI 34 2 x_.dp bh k!)<|CC<|VV vP<|MM rC<|NN afW (fun i=>(Pt i))<|SS afX<|CC<|MM (aI 3 0 (Zi ((x_.off.g i0).bl)) kV k!)<|EE k9<|CN 2<|k:Pk _ [] ps)
   rcases Bool.eq_false_or_eq_true (!(dP ((x_.off.g i0).bl))) with f1 | f1
   · exact aC.ret 1 (by simp only[cy,f1,cond_true,cond_false]) (pk (d+1) _ _ hh _ h8 (dR<|BB f1<|BB f1<|BB f1<|BV f1 (xV true f1)<|CC<|TT<|TT<|TT<|TT<|TT<|CN 2<|TT<|TT<|TT<|TT<|CC<|HH (aI 3 0 (Zi ((x_.off.g i0).bl)) kV k!)<|HH (show AV.same 20 (Zi ((x_.off.g i0).bl)) (Zi ((x_.off.g i0).bl))=true from aK 19 _ _)<|TT<|CC<|ZZ) k!) (⟨ql,oK,by omega⟩) k!
   · have U9:=xp (d:=d) ((x_.off.g i0).aN) ql
     have hI:=fun {al ps} (k:Pk al _ ps)=>(dR<|BC f1<|BM f1 (aI 3 1 (Zi ((x_.off.g i0).aN)) kV k!)<|BB f1<|EE U9<|BC f1<|VV (b8 (a:=some (AV.bool true)) (b:=some (AV.bool (!(dP ((x_.off.g i0).aN))))) f1)<|CC<|k:Pk _ [] ps)
     rcases Bool.eq_false_or_eq_true (!(dP ((x_.off.g i0).aN))) with f2 | f2
     · exact aC.ret 1 (by simp only[cy,f1,f2,cond_true,cond_false]) (pk (d+1) _ _ hh _ h8 (hI<|BB f2<|BB f2<|BB f2<|BB f2<|BV f2 (xV true f2)<|CC<|TT<|TT<|TT<|TT<|CC<|HH (aI 3 0 (Zi ((x_.off.g i0).bl)) kV k!)<|HH (show AV.same 20 (Zi ((x_.off.g i0).bl)) (Zi ((x_.off.g i0).bl))=true from aK 19 _ _)<|HH (aI 3 1 (Zi ((x_.off.g i0).aN)) kV k!)<|HH (show AV.same 20 (Zi ((x_.off.g i0).aN)) (Zi ((x_.off.g i0).aN))=true from aK 19 _ _)<|TT<|CC<|ZZ) k!) (⟨ql,oK,by omega⟩) k!
     · have mH:=fun {al ps} (k:Pk al _ ps)=>(hI<|BC f2<|BM f2 (aI 3 0 (Zi ((x_.off.g i0).bl)) kV k!)<|BC f2<|BM f2 (aI 3 1 (Zi ((x_.off.g i0).aN)) kV k!)<|BV f2 (dw 3 false false .i64 ((x_.off.g i0).bl) ((x_.off.g i0).aN))<|VV (b8 (a:=some (AV.bool true)) (b:=some (AV.bool (decide (((x_.off.g i0).aN)<((x_.off.g i0).bl))))) f2)<|CC<|k:Pk _ [] ps)
       rcases Bool.eq_false_or_eq_true (decide (((x_.off.g i0).aN)<((x_.off.g i0).bl))) with f3 | f3
       · have lV:=of_decide_eq_true f3
         exact aC.ret 1 (by simp only[cy,f1,f2,f3,cond_true,cond_false]) (pk (d+1) _ _ hh _ h8 (mH<|BB f3<|BB f3<|BB f3<|BV f3 (xV true f3)<|HH (aI 3 0 (Zi ((x_.off.g i0).bl)) kV k!)<|HH (show AV.same 20 (Zi ((x_.off.g i0).bl)) (Zi ((x_.off.g i0).bl))=true from aK 19 _ _)<|HH (aI 3 1 (Zi ((x_.off.g i0).aN)) kV k!)<|HH (show AV.same 20 (Zi ((x_.off.g i0).aN)) (Zi ((x_.off.g i0).aN))=true from aK 19 _ _)<|HH (aI 3 0 (Zi ((x_.off.g i0).bl)) kV k!)<|HH (show AV.same 20 (Zi ((x_.off.g i0).bl)) (Zi ((x_.off.g i0).bl))=true from aK 19 _ _)<|HH (aI 3 1 (Zi ((x_.off.g i0).aN)) kV k!)<|HH (show AV.same 20 (Zi ((x_.off.g i0).aN)) (Zi ((x_.off.g i0).aN))=true from aK 19 _ _)<|TT<|CC<|ZZ) k!) (⟨ql,oK,by omega⟩) k!
       · have lV:=of_decide_eq_false f3
         have vc:=fun {al ps} (k:Pk al _ ps)=>(mH<|BC f3<|BV f3 (dw 3 false true .i64 ((i0:Nat):Int) 0)<|BC f3<|k:Pk _ [] ps)
         rcases Bool.eq_false_or_eq_true (decide (0<((i0:Nat):Int))) with f4 | f4
         · have rE:=of_decide_eq_true f4
           have u15:=ahy 3 false true i0 1 o! o!
           obtain ⟨p17,q18,Dq⟩:=(cf.has ay).elem (i:=(i0 - 1)) o!
           have KP:bR env (some (.slice 70)) (some x_.dp) (some (Zn (i0 - 1)))=some (AV.ptr p17 q18):=Dq
           have HO:aY env h8 3 (AV.ptr p17 (q18+1))=some (Zi ((x_.off.g (i0 - 1)).aN)):=((cf.has ay).has oK).part (t:=3) (j:=1) o! Dq k! rfl
           have c20:AV.same 20 x_.dp x_.dp=true:=(cf.has ay).same 19
           have zI:=fun {al ps} (k:Pk al _ ps)=>(vc<|BC f4<|BM f4 (aI 3 0 (Zi ((x_.off.g i0).bl)) kV k!)<|BC f4<|BM f4 (aI 34 2 x_.dp (qY _ _ o! (Bk _ _ bh)) k!)<|BC f4<|BV f4 u15<|BV f4 KP<|BC f4<|BM f4 HO<|BV f4 (uW 3 false false .i64 ((x_.off.g i0).bl) ((x_.off.g (i0 - 1)).aN))<|BV f3 (pe (decide (((x_.off.g i0).bl)≤((x_.off.g (i0 - 1)).aN))) false f4)<|VV (b8 (a:=some (AV.bool true)) (b:=some (AV.bool (decide (((x_.off.g i0).bl)≤((x_.off.g (i0 - 1)).aN))))) f3)<|HH (aI 3 0 (Zi ((x_.off.g i0).bl)) kV k!)<|HH (show AV.same 20 (Zi ((x_.off.g i0).bl)) (Zi ((x_.off.g i0).bl))=true from aK 19 _ _)<|HH (aI 3 1 (Zi ((x_.off.g i0).aN)) kV k!)<|HH (show AV.same 20 (Zi ((x_.off.g i0).aN)) (Zi ((x_.off.g i0).aN))=true from aK 19 _ _)<|HH (aI 3 0 (Zi ((x_.off.g i0).bl)) kV k!)<|HH (show AV.same 20 (Zi ((x_.off.g i0).bl)) (Zi ((x_.off.g i0).bl))=true from aK 19 _ _)<|HH (aI 3 1 (Zi ((x_.off.g i0).aN)) kV k!)<|HH (show AV.same 20 (Zi ((x_.off.g i0).aN)) (Zi ((x_.off.g i0).aN))=true from aK 19 _ _)<|HH (aI 3 0 (Zi ((x_.off.g i0).bl)) kV k!)<|HH (show AV.same 20 (Zi ((x_.off.g i0).bl)) (Zi ((x_.off.g i0).bl))=true from aK 19 _ _)<|HH (aI 34 2 x_.dp (qY _ _ o! (Bk _ _ bh)) k!)<|HH c20<|HH HO<|HH (show AV.same 20 (Zi ((x_.off.g (i0 - 1)).aN)) (Zi ((x_.off.g (i0 - 1)).aN))=true from aK 19 _ _)<|k:Pk _ [] ps)
           rcases Bool.eq_false_or_eq_true (decide (((x_.off.g i0).bl)≤((x_.off.g (i0 - 1)).aN))) with f5 | f5
           · have Y0:=of_decide_eq_true f5
             exact aC.ret 1 (by simp only[cy,f1,f2,f3,f4,f5,cond_true,cond_false]) (pk (d+1) _ _ hh _ h8 (zI<|BC f5<|ZZ) k!) (⟨ql,oK,by omega⟩) k!
           · have Y0:=of_decide_eq_false f5
             have Yr:=dZ 3 false true i0 1 o!
             exact aC.round (by simp only[cy,f1,f2,f3,f4,f5,cond_true,cond_false]) (pk (d+1) _ _ hh _ h8 (zI<|BC f5<|VV Yr<|CC<|ZZ) k!) (⟨ql,oK,by omega⟩) _ k! (fun x=>lf x_ a_ bb cf fW cS (i0+1) o! x h8 ql (ay.trans oK) (qY _ _ o! (Bk _ _ bh)))
         · have rE:=of_decide_eq_false f4
           have u15:=dZ 3 false true i0 1 o!
           exact aC.round (by simp only[cy,f1,f2,f3,f4,cond_true,cond_false]) (pk (d+1) _ _ hh _ h8 (vc<|BB f4<|BB f4<|BB f4<|BB f4<|BB f4<|BB f4<|BB f4<|BB f4<|BB f4<|BB f4<|BV f3 (sS false f4)<|VV (pcf true false f3)<|HH (aI 3 0 (Zi ((x_.off.g i0).bl)) kV k!)<|HH (show AV.same 20 (Zi ((x_.off.g i0).bl)) (Zi ((x_.off.g i0).bl))=true from aK 19 _ _)<|HH (aI 3 1 (Zi ((x_.off.g i0).aN)) kV k!)<|HH (show AV.same 20 (Zi ((x_.off.g i0).aN)) (Zi ((x_.off.g i0).aN))=true from aK 19 _ _)<|HH (aI 3 0 (Zi ((x_.off.g i0).bl)) kV k!)<|HH (show AV.same 20 (Zi ((x_.off.g i0).bl)) (Zi ((x_.off.g i0).bl))=true from aK 19 _ _)<|HH (aI 3 1 (Zi ((x_.off.g i0).aN)) kV k!)<|HH (show AV.same 20 (Zi ((x_.off.g i0).aN)) (Zi ((x_.off.g i0).aN))=true from aK 19 _ _)<|FF<|CC<|VV u15<|CC<|ZZ) k!) (⟨ql,oK,by omega⟩) _ k! (fun x=>lf x_ a_ bb cf fW cS (i0+1) o! x h8 ql (ay.trans oK) (qY _ _ o! (Bk _ _ bh)))
def bY (x_:bI):Int:=(bif (decide (x_.aB<0)) then 1 else (bif (decide (1000<x_.aB)) then 1 else (bif (decide (16<((x_.off.length:Nat):Int))) then 3 else (match (cy x_ x_.off.length 0) with | none=>0 | some DZ=>DZ))))
theorem Bl {d:Nat} {h:aw} (x_:bI) (n6:aG.ok h x_) (ct:Tidy h):cU (d+2) (.fn 54) [(AV.agg [(AV.str x_.name),(Zi x_.aB),x_.dp])] h= .ret (Zi (bY x_)) h:=by
 have aiJ:=n6.2.small
 obtain ⟨h1,dH,cP,kr,bk,bW⟩:=kh ct (aH.cells [(AV.str x_.name),(Zi x_.aB),x_.dp] 36 false)
 have bB:Has h h1:=bW
 have QF:=fun {al ps} (k:Pk al _ ps)=>(NN dH (fun i=>(Pt i))<|CN 2<|MM (aI 3 1 (Zi x_.aB) bk k!)<|VV (bO 3 false true .i64 x_.aB 0)<|CC<|k:Pk _ [] ps)
 rcases Bool.eq_false_or_eq_true (decide (x_.aB<0)) with f0 | f0
 · have dx:=of_decide_eq_true f0
   have e:bY x_=1:=by simp only[bY,f0,cond_true,cond_false]
   rw[e]
   exact aE rfl (aZ Tryz.func54 jb rfl (.inr rfl) (pk (d+1) _ _ h _ h1 (QF<|BB f0<|BB f0<|BV f0 (xV true f0)<|TT<|CC<|ZZ) k!) k!) bB rfl
 · have dx:=of_decide_eq_false f0
   have Oa:=fun {al ps} (k:Pk al _ ps)=>(QF<|BC f0<|BM f0 (aI 3 1 (Zi x_.aB) bk k!)<|BV f0 (dw 3 false true .i64 x_.aB 1000)<|k:Pk _ [] ps)
   rcases Bool.eq_false_or_eq_true (decide (1000<x_.aB)) with f1 | f1
   · have dQ:=of_decide_eq_true f1
     have e:bY x_=1:=by simp only[bY,f0,f1,cond_true,cond_false]
     rw[e]
     exact aE rfl (aZ Tryz.func54 jb rfl (.inr rfl) (pk (d+1) _ _ h _ h1 (Oa<|VV (b8 (a:=some (AV.bool true)) (b:=some (AV.bool (decide (1000<x_.aB)))) f0)<|BC f1<|ZZ) k!) k!) bB rfl
   · have dQ:=of_decide_eq_false f1
     have Eg:cc (some (.slice 70)) (some x_.dp)=some (Zn x_.off.length):=n6.2.len
     rcases Bool.eq_false_or_eq_true (decide (16<((x_.off.length:Nat):Int))) with f2 | f2
     · have jZ:=of_decide_eq_true f2
       have e:bY x_=3:=by simp only[bY,f0,f1,f2,cond_true,cond_false]
       rw[e]
       exact aE rfl (aZ Tryz.func54 jb rfl (.inr rfl) (pk (d+1) _ _ h _ h1 (Oa<|VV (b8 (a:=some (AV.bool true)) (b:=some (AV.bool (decide (1000<x_.aB)))) f0)<|BC f1<|MM (aI 34 2 x_.dp bk k!)<|VV Eg<|VV (dw 3 false true .i64 ((x_.off.length:Nat):Int) 16)<|BC f2<|ZZ) k!) k!) bB rfl
     · have jZ:=of_decide_eq_false f2
       have lp8:=lf (d:=d) (h:=h) x_ h.nx n6.1 n6.2 n6 x_.off.length 0 o! (fun k_=>(((AV.agg [(AV.str x_.name),(Zi x_.aB),x_.dp])::(Pt h.nx)::(Zi 0)::(Zi 0)::AV.undef::(AV.ptr h.nx 1)::(Zi x_.aB)::(AV.bool (decide (x_.aB<0)))::(AV.bool (decide (x_.aB<0)))::(AV.ptr h.nx 1)::(Zi x_.aB)::(AV.bool (decide (1000<x_.aB)))::(AV.bool (decide (1000<x_.aB)))::(AV.ptr h.nx 2)::x_.dp::(Zn x_.off.length)::(AV.bool (decide (16<((x_.off.length:Nat):Int))))::lk 45):List AV).getD k_ AV.undef) h1 cP bB bk
       cases j3:cy x_ x_.off.length 0 with
       | none=>
         obtain ⟨yl6,h7,j2,wB⟩:=aC.n j3 lp8
         have eO:=wB.y
         have HL:h1.nx≤h7.nx:=wB.n
         have du:Has h h7:=bB.trans wB.a
         have e:bY x_=0:=by simp only[bY,f0,f1,f2,j3,cond_true,cond_false]
         rw[e]
         exact aE rfl (aZ Tryz.func54 jb rfl (.inr rfl) (pk (d+1) _ _ h _ h7 (Oa<|VV (b8 (a:=some (AV.bool true)) (b:=some (AV.bool (decide (1000<x_.aB)))) f0)<|BC f1<|MM (aI 34 2 x_.dp bk k!)<|VV Eg<|VV (dw 3 false true .i64 ((x_.off.length:Nat):Int) 16)<|BC f2<|LL j2<|CC<|ZZ) k!) k!) du rfl
       | some DZ=>
         obtain ⟨yl6,h7,j2,wB⟩:=aC.r j3 lp8
         have eO:=wB.y
         have HL:h1.nx≤h7.nx:=wB.n
         have du:Has h h7:=bB.trans wB.a
         have e:bY x_=DZ:=by simp only[bY,f0,f1,f2,j3,cond_true,cond_false]
         rw[e]
         exact aE rfl (aZ Tryz.func54 jb rfl (.inr rfl) (pk (d+1) _ _ h _ h7 (Oa<|VV (b8 (a:=some (AV.bool true)) (b:=some (AV.bool (decide (1000<x_.aB)))) f0)<|BC f1<|MM (aI 34 2 x_.dp bk k!)<|VV Eg<|VV (dw 3 false true .i64 ((x_.off.length:Nat):Int) 16)<|BC f2<|LL j2<|ZZ) k!) k!) du rfl
noncomputable def jF:Code:=(Tryz.f55.body).getD .skip
theorem oh:Tryz.f55.body=some jF:=by kernel_rfl
noncomputable def D0:Code:=(bw jF).getD 0 .skip
noncomputable def D1:Code:=(bw jF).getD 1 .skip
noncomputable def D2:Code:=(bw jF).getD 2 .skip
noncomputable def D3:Code:=(bw jF).getD 3 .skip
def eH (i0:Nat) (x_:Task):Nat→Nat→Option (Int)
 | 0,_=>none
 | nH+1,i1=>(bif (decide ((x_.ax.g i1)=(x_.ax.g i0))) then some 6 else eH i0 x_ nH (i1+1))
theorem sJ {d:Nat} {h:aw} (i0:Nat) (j:cG) (x_:Task) (d_:Nat) (gV:Nat) (db:aM h j.ao j.ab) (ft:aM h j.ai j.af) (nI:x_.name.length<2^60) (jJ:bS h .i64 3 x_.aO x_.ax) (DX:aM h x_.aS x_.au) (oJ:aG.ok h j) (HN:aG.ok h x_) (AE:i0<x_.ax.length):∀(k_ i_:Nat) (_:i_+k_=i0) (x:Nat→AV) (hh:aw) (aA:Tidy hh) (ay:Has h hh) (cN:hh.get d_=some (aH.cells [j.ao,j.ai] 25 false)) (eh:hh.get gV=some (aH.cells [(AV.str x_.name),(Zi x_.takes),x_.aO,x_.aS] 39 false)),aC (cU (d+1)) D1 ⟨((x 0)::(x 1)::(Pt d_)::(Pt gV)::(x 4)::(Zn i0)::(Zn i_)::rx x 7 102 []),hh,[],.no⟩ (.exit 2) hh (fun y=>((y 0)::(y 1)::(Pt d_)::(Pt gV)::(y 4)::(Zn i0)::rx y 6 103 [])) (fun r y=>((y 0)::(y 1)::(Pt d_)::(Pt gV)::(Zi r)::(Zn i0)::rx y 6 103 [])) (eH i0 x_ k_ i_)
 | 0,i1,gq,x,hh,aA,ay,cN,eh=>by
   have ik:=db.small
   have jY:=ft.small
   have GR:=jJ.small
   have QP:=DX.small
   have tG:=aA _ _ cN
   have FV:=aA _ _ eh
   have q1:(decide (((i1:Nat):Int)<((i0:Nat):Int)))=false:=d!
   exact aC.out rfl (pk (d+1) _ _ hh _ hh (CN 2<|VV (bO 3 false false .i64 ((i1:Nat):Int) ((i0:Nat):Int))<|BB q1<|ZZ) k!) (bp.refl aA) k!
 | nH+1,i1,gq,x,hh,aA,ay,cN,eh=>by
   have ik:=db.small
   have jY:=ft.small
   have GR:=jJ.small
   have QP:=DX.small
   have tG:=aA _ _ cN
   have FV:=aA _ _ eh
   have q1:(decide (((i1:Nat):Int)<((i0:Nat):Int)))=true:=d!
   obtain ⟨p3,q4,cF,_⟩:=(jJ.has ay).elem (i:=i1) o!
   have jL:bR env (some (.slice 3)) (some x_.aO) (some (Zn i1))=some (AV.ptr p3 q4):=cF
   have j9:aY env hh 3 (AV.ptr p3 q4)=some (Zi (x_.ax.g i1)):=(jJ.has ay).load o! cF
   obtain ⟨p7,q8,Bb,_⟩:=(jJ.has ay).elem (i:=i0) o!
   have KN:bR env (some (.slice 3)) (some x_.aO) (some (Zn i0))=some (AV.ptr p7 q8):=Bb
   have O2:aY env hh 3 (AV.ptr p7 q8)=some (Zi (x_.ax.g i0)):=(jJ.has ay).load o! Bb
   have Z9:AV.same 20 x_.aO x_.aO=true:=(jJ.has ay).same 19
   have dR:=fun {al ps} (k:Pk al _ ps)=>(CN 2<|VV (bO 3 false false .i64 ((i1:Nat):Int) ((i0:Nat):Int))<|BC q1<|MM (aI 26 2 x_.aO eh k!)<|CC<|VV jL<|MM j9<|CC<|MM (aI 26 2 x_.aO eh k!)<|CC<|VV KN<|MM O2<|VV (xy 3 false false .i64 (x_.ax.g i1) (x_.ax.g i0))<|HH (aI 26 2 x_.aO eh k!)<|HH Z9<|HH j9<|HH (show AV.same 20 (Zi (x_.ax.g i1)) (Zi (x_.ax.g i1))=true from aK 19 _ _)<|HH (aI 26 2 x_.aO eh k!)<|HH Z9<|HH O2<|HH (show AV.same 20 (Zi (x_.ax.g i0)) (Zi (x_.ax.g i0))=true from aK 19 _ _)<|k:Pk _ [] ps)
   rcases Bool.eq_false_or_eq_true (decide ((x_.ax.g i1)=(x_.ax.g i0))) with f1 | f1
   · have dQ:=of_decide_eq_true f1
     exact aC.ret 6 (by simp only[eH,f1,cond_true,cond_false]) (pk (d+1) _ _ hh _ hh (dR<|BC f1<|ZZ) k!) (bp.refl aA) k!
   · have dQ:=of_decide_eq_false f1
     have Yh:=dZ 3 false true i1 1 o!
     exact aC.round (by simp only[eH,f1,cond_true,cond_false]) (pk (d+1) _ _ hh _ hh (dR<|BC f1<|VV Yh<|CC<|ZZ) k!) (bp.refl aA) _ k! (fun x=>sJ i0 j x_ d_ gV db ft nI jJ DX oJ HN AE nH (i1+1) o! x hh aA ay cN eh)
def cY (x_:Task) (j:cG):Nat→Nat→Option (Int)
 | 0,_=>none
 | cS+1,i0=>(bif (decide ((x_.ax.g i0)<0)) then some 7 else (bif (decide (((j.ab.length:Nat):Int)≤(x_.ax.g i0))) then some 7 else (match (eH i0 x_ i0 0) with | none=>cY x_ j cS (i0+1) | some afY=>some afY)))
theorem sK {d:Nat} {h:aw} (x_:Task) (j:cG) (a_:Nat) (cx:Nat) (bb:aM h j.ao j.ab) (cf:aM h j.ai j.af) (dc:x_.name.length<2^60) (iU:bS h .i64 3 x_.aO x_.ax) (tJ:aM h x_.aS x_.au) (fW:aG.ok h j) (F8:aG.ok h x_):∀(k_ i_:Nat) (_:i_+k_=x_.ax.length) (x:Nat→AV) (hh:aw) (aA:Tidy hh) (ay:Has h hh) (bh:hh.get a_=some (aH.cells [j.ao,j.ai] 25 false)) (cV:hh.get cx=some (aH.cells [(AV.str x_.name),(Zi x_.takes),x_.aO,x_.aS] 39 false)),aC (cU (d+1)) D0 ⟨((x 0)::(x 1)::(Pt a_)::(Pt cx)::(x 4)::(Zn i_)::rx x 6 103 []),hh,[],.no⟩ (.exit 0) hh (fun y=>((y 0)::(y 1)::(Pt a_)::(Pt cx)::rx y 4 105 [])) (fun r y=>((y 0)::(y 1)::(Pt a_)::(Pt cx)::(Zi r)::rx y 5 104 [])) (cY x_ j k_ i_)
 | 0,i0,gq,x,hh,aA,ay,bh,cV=>by
   have cr:=bb.small
   have eQ:=cf.small
   have tW:=iU.small
   have yW:=tJ.small
   have ji:=aA _ _ bh
   have vR:=aA _ _ cV
   have gL:cc (some (.slice 3)) (some x_.aO)=some (Zn x_.ax.length):=(iU.has ay).len
   have q2:(decide (((i0:Nat):Int)<((x_.ax.length:Nat):Int)))=false:=d!
   exact aC.out rfl (pk (d+1) _ _ hh _ hh (CN 2<|MM (aI 26 2 x_.aO cV k!)<|VV gL<|VV (bO 3 false false .i64 ((i0:Nat):Int) ((x_.ax.length:Nat):Int))<|BB q2<|ZZ) k!) (bp.refl aA) k!
 | cS+1,i0,gq,x,hh,aA,ay,bh,cV=>by
   have cr:=bb.small
   have eQ:=cf.small
   have tW:=iU.small
   have yW:=tJ.small
   have ji:=aA _ _ bh
   have vR:=aA _ _ cV
   have gL:cc (some (.slice 3)) (some x_.aO)=some (Zn x_.ax.length):=(iU.has ay).len
   have q2:(decide (((i0:Nat):Int)<((x_.ax.length:Nat):Int)))=true:=d!
   obtain ⟨p4,q5,jE,_⟩:=(iU.has ay).elem (i:=i0) o!
   have vP:bR env (some (.slice 3)) (some x_.aO) (some (Zn i0))=some (AV.ptr p4 q5):=jE
   have rC:aY env hh 3 (AV.ptr p4 q5)=some (Zi (x_.ax.g i0)):=(iU.has ay).load o! jE
   have hI:=fun {al ps} (k:Pk al _ ps)=>(CN 2<|MM (aI 26 2 x_.aO cV k!)<|VV gL<|VV (bO 3 false false .i64 ((i0:Nat):Int) ((x_.ax.length:Nat):Int))<|BC q2<|MM (aI 26 2 x_.aO cV k!)<|CC<|VV vP<|MM rC<|VV (bO 3 false true .i64 (x_.ax.g i0) 0)<|CC<|k:Pk _ [] ps)
   rcases Bool.eq_false_or_eq_true (decide ((x_.ax.g i0)<0)) with f1 | f1
   · have dQ:=of_decide_eq_true f1
     have c8:AV.same 20 x_.aO x_.aO=true:=(iU.has ay).same 19
     exact aC.ret 7 (by simp only[cY,f1,cond_true,cond_false]) (pk (d+1) _ _ hh _ hh (hI<|BB f1<|BB f1<|BB f1<|BB f1<|BB f1<|BB f1<|BB f1<|BB f1<|BV f1 (xV true f1)<|HH (aI 26 2 x_.aO cV k!)<|HH c8<|HH rC<|HH (show AV.same 20 (Zi (x_.ax.g i0)) (Zi (x_.ax.g i0))=true from aK 19 _ _)<|TT<|CC<|ZZ) k!) (bp.refl aA) k!
   · have dQ:=of_decide_eq_false f1
     obtain ⟨p9,Dm,pI,_⟩:=(iU.has ay).elem (i:=i0) o!
     have HR:bR env (some (.slice 3)) (some x_.aO) (some (Zn i0))=some (AV.ptr p9 Dm):=pI
     have qK:aY env hh 3 (AV.ptr p9 Dm)=some (Zi (x_.ax.g i0)):=(iU.has ay).load o! pI
     have X0:cc (some (.slice 39)) (some j.ao)=some (Zn j.ab.length):=(bb.has ay).len
     have Uf:AV.same 20 x_.aO x_.aO=true:=(iU.has ay).same 19
     have U':AV.same 20 j.ao j.ao=true:=(bb.has ay).same 19
     have mH:=fun {al ps} (k:Pk al _ ps)=>(hI<|BC f1<|BM f1 (aI 26 2 x_.aO cV k!)<|BC f1<|BV f1 HR<|BM f1 qK<|BC f1<|BM f1 (aI 22 0 j.ao bh k!)<|BV f1 X0<|BV f1 (pc 3 false false .i64 (x_.ax.g i0) ((j.ab.length:Nat):Int))<|k:Pk _ [] ps)
     rcases Bool.eq_false_or_eq_true (decide (((j.ab.length:Nat):Int)≤(x_.ax.g i0))) with f2 | f2
     · have jZ:=of_decide_eq_true f2
       exact aC.ret 7 (by simp only[cY,f1,f2,cond_true,cond_false]) (pk (d+1) _ _ hh _ hh (mH<|VV (b8 (a:=some (AV.bool true)) (b:=some (AV.bool (decide (((j.ab.length:Nat):Int)≤(x_.ax.g i0))))) f1)<|HH (aI 26 2 x_.aO cV k!)<|HH Uf<|HH rC<|HH (show AV.same 20 (Zi (x_.ax.g i0)) (Zi (x_.ax.g i0))=true from aK 19 _ _)<|HH (aI 26 2 x_.aO cV k!)<|HH Uf<|HH qK<|HH (show AV.same 20 (Zi (x_.ax.g i0)) (Zi (x_.ax.g i0))=true from aK 19 _ _)<|HH (aI 22 0 j.ao bh k!)<|HH U'<|BC f2<|ZZ) k!) (bp.refl aA) k!
     · have jZ:=of_decide_eq_false f2
       have Y2:=sJ (d:=d) (h:=hh) i0 j x_ a_ cx (bb.has ay) (cf.has ay) dc (iU.has ay) (tJ.has ay) (aG.mono ay fW) (aG.mono ay F8) o! i0 0 o! (fun k_=>(((x 0)::(x 1)::(Pt a_)::(Pt cx)::(x 4)::(Zn i0)::(Zi 0)::rx x 7 7 ((Zn i0)::(AV.ptr cx 2)::x_.aO::(Zn x_.ax.length)::(AV.bool (decide (((i0:Nat):Int)<((x_.ax.length:Nat):Int))))::(x 19)::(x 20)::(AV.ptr cx 2)::x_.aO::(Zn i0)::(AV.ptr p4 q5)::(Zi (x_.ax.g i0))::(AV.bool (decide ((x_.ax.g i0)<0)))::(AV.bool (decide ((x_.ax.g i0)<0)))::(AV.ptr cx 2)::x_.aO::(Zn i0)::(AV.ptr p9 Dm)::(Zi (x_.ax.g i0))::(Pt a_)::j.ao::(Zn j.ab.length)::(AV.bool (decide (((j.ab.length:Nat):Int)≤(x_.ax.g i0))))::(AV.bool (decide (((j.ab.length:Nat):Int)≤(x_.ax.g i0))))::rx x 38 71 [])):List AV).getD k_ AV.undef) hh aA (Has.refl _) bh cV
       cases En:eH i0 x_ i0 0 with
       | none=>
         obtain ⟨ah1,ZY,AI,Bm⟩:=aC.n En Y2
         have I6:=Bm.y
         have adm:hh.nx≤ZY.nx:=Bm.n
         have I7:Has hh ZY:=Bm.a
         have u18:=dZ 3 false true i0 1 o!
         exact aC.round (by simp only[cY,f1,f2,En,cond_true,cond_false]) (pk (d+1) _ _ hh _ ZY (mH<|VV (b8 (a:=some (AV.bool true)) (b:=some (AV.bool (decide (((j.ab.length:Nat):Int)≤(x_.ax.g i0))))) f1)<|HH (aI 26 2 x_.aO cV k!)<|HH Uf<|HH rC<|HH (show AV.same 20 (Zi (x_.ax.g i0)) (Zi (x_.ax.g i0))=true from aK 19 _ _)<|HH (aI 26 2 x_.aO cV k!)<|HH Uf<|HH qK<|HH (show AV.same 20 (Zi (x_.ax.g i0)) (Zi (x_.ax.g i0))=true from aK 19 _ _)<|HH (aI 22 0 j.ao bh k!)<|HH U'<|BC f2<|LL AI<|CC<|VV u18<|CC<|ZZ) k!) (⟨I6,I7,by omega⟩) _ k! (fun x=>sK x_ j a_ cx bb cf dc iU tJ fW F8 cS (i0+1) o! x ZY I6 (ay.trans I7) (Bm.a _ _ bh) (Bm.a _ _ cV))
       | some afY=>
         obtain ⟨ah1,ZY,AI,Bm⟩:=aC.r En Y2
         have I6:=Bm.y
         have adm:hh.nx≤ZY.nx:=Bm.n
         have I7:Has hh ZY:=Bm.a
         exact aC.ret afY (by simp only[cY,f1,f2,En,cond_true,cond_false]) (pk (d+1) _ _ hh _ ZY (mH<|VV (b8 (a:=some (AV.bool true)) (b:=some (AV.bool (decide (((j.ab.length:Nat):Int)≤(x_.ax.g i0))))) f1)<|HH (aI 26 2 x_.aO cV k!)<|HH Uf<|HH rC<|HH (show AV.same 20 (Zi (x_.ax.g i0)) (Zi (x_.ax.g i0))=true from aK 19 _ _)<|HH (aI 26 2 x_.aO cV k!)<|HH Uf<|HH qK<|HH (show AV.same 20 (Zi (x_.ax.g i0)) (Zi (x_.ax.g i0))=true from aK 19 _ _)<|HH (aI 22 0 j.ao bh k!)<|HH U'<|BC f2<|LL AI<|ZZ) k!) (⟨I6,I7,by omega⟩) k!
def eI (i2:Nat) (x_:Task):Nat→Nat→Option (Int)
 | 0,_=>none
 | N'+1,i3=>(bif (decide (((x_.au.g i3).ah)=((x_.au.g i2).ah))) then some 6 else eI i2 x_ N' (i3+1))
theorem sL {d:Nat} {h:aw} (i2:Nat) (j:cG) (x_:Task) (sD:Nat) (A6:Nat) (A7:Nat) (oV:aM h j.ao j.ab) (wk:aM h j.ai j.af) (GK:x_.name.length<2^60) (GM:bS h .i64 3 x_.aO x_.ax) (GN:aM h x_.aS x_.au) (Ln:aG.ok h j) (Ux:aG.ok h x_) (Uy:aG.ok h (x_.au.g i2)) (Y3:i2<x_.au.length):∀(k_ i_:Nat) (_:i_+k_=i2) (x:Nat→AV) (hh:aw) (aA:Tidy hh) (ay:Has h hh) (nK:hh.get sD=some (aH.cells [j.ao,j.ai] 25 false)) (rG:hh.get A6=some (aH.cells [(AV.str x_.name),(Zi x_.takes),x_.aO,x_.aS] 39 false)) (tX:hh.get A7=some (aH.cells [(Zi ((x_.au.g i2).ah)),(Zi ((x_.au.g i2).aB))] 80 false)),aC (cU (d+1)) D3 ⟨((x 0)::(x 1)::(Pt sD)::(Pt A6)::rx x 4 3 ((Zn i2)::(Pt A7)::(Zn i_)::rx x 10 99 [])),hh,[],.no⟩ (.exit 6) hh (fun y=>((y 0)::(y 1)::(Pt sD)::(Pt A6)::rx y 4 3 ((Zn i2)::(Pt A7)::rx y 9 100 []))) (fun r y=>((y 0)::(y 1)::(Pt sD)::(Pt A6)::(Zi r)::(y 5)::(y 6)::(Zn i2)::(Pt A7)::rx y 9 100 [])) (eI i2 x_ k_ i_)
 | 0,i3,gq,x,hh,aA,ay,nK,rG,tX=>by
   have GP:=oV.small
   have GQ:=wk.small
   have QE:=GM.small
   have afZ:=GN.small
   have Yt:=aA _ _ nK
   have afw:=aA _ _ rG
   have afx:=aA _ _ tX
   have q1:(decide (((i3:Nat):Int)<((i2:Nat):Int)))=false:=d!
   exact aC.out rfl (pk (d+1) _ _ hh _ hh (CN 2<|VV (bO 3 false false .i64 ((i3:Nat):Int) ((i2:Nat):Int))<|BB q1<|ZZ) k!) (bp.refl aA) k!
 | N'+1,i3,gq,x,hh,aA,ay,nK,rG,tX=>by
   have GP:=oV.small
   have GQ:=wk.small
   have QE:=GM.small
   have afZ:=GN.small
   have Yt:=aA _ _ nK
   have afw:=aA _ _ rG
   have afx:=aA _ _ tX
   have q1:(decide (((i3:Nat):Int)<((i2:Nat):Int)))=true:=d!
   obtain ⟨p3,q4,cF⟩:=(GN.has ay).elem (i:=i3) o!
   have jL:bR env (some (.slice 80)) (some x_.aS) (some (Zn i3))=some (AV.ptr p3 q4):=cF
   have j9:aY env hh 3 (AV.ptr p3 (q4+0))=some (Zi ((x_.au.g i3).ah)):=(GN.has ay).part (t:=3) (j:=0) o! cF k! rfl
   have c6:AV.same 20 x_.aS x_.aS=true:=(GN.has ay).same 19
   have vc:=fun {al ps} (k:Pk al _ ps)=>(CN 2<|VV (bO 3 false false .i64 ((i3:Nat):Int) ((i2:Nat):Int))<|BC q1<|MM (aI 37 3 x_.aS rG k!)<|CC<|VV jL<|CC<|MM j9<|CC<|MM (aI 3 0 (Zi ((x_.au.g i2).ah)) tX k!)<|VV (xy 3 false false .i64 ((x_.au.g i3).ah) ((x_.au.g i2).ah))<|HH (aI 37 3 x_.aS rG k!)<|HH c6<|HH j9<|HH (show AV.same 20 (Zi ((x_.au.g i3).ah)) (Zi ((x_.au.g i3).ah))=true from aK 19 _ _)<|HH (aI 3 0 (Zi ((x_.au.g i2).ah)) tX k!)<|HH (show AV.same 20 (Zi ((x_.au.g i2).ah)) (Zi ((x_.au.g i2).ah))=true from aK 19 _ _)<|k:Pk _ [] ps)
   rcases Bool.eq_false_or_eq_true (decide (((x_.au.g i3).ah)=((x_.au.g i2).ah))) with f1 | f1
   · have dQ:=of_decide_eq_true f1
     exact aC.ret 6 (by simp only[eI,f1,cond_true,cond_false]) (pk (d+1) _ _ hh _ hh (vc<|BC f1<|ZZ) k!) (bp.refl aA) k!
   · have dQ:=of_decide_eq_false f1
     have u8:=dZ 3 false true i3 1 o!
     exact aC.round (by simp only[eI,f1,cond_true,cond_false]) (pk (d+1) _ _ hh _ hh (vc<|BC f1<|VV u8<|CC<|ZZ) k!) (bp.refl aA) _ k! (fun x=>sL i2 j x_ sD A6 A7 oV wk GK GM GN Ln Ux Uy Y3 N' (i3+1) o! x hh aA ay nK rG tX)
def cD (x_:Task) (j:cG):Nat→Nat→Option (Int)
 | 0,_=>none
 | Cw+1,i2=>(bif (decide (((x_.au.g i2).ah)<0)) then some 7 else (bif (decide (((j.af.length:Nat):Int)≤((x_.au.g i2).ah))) then some 7 else (match (eI i2 x_ i2 0) with | none=>(bif (decide (((x_.au.g i2).aB)<1)) then some 1 else (bif (decide (1000<((x_.au.g i2).aB))) then some 1 else (bif (decide (((j.af.g ((x_.au.g i2).ah).toNat).aB)<((x_.au.g i2).aB))) then some 9 else cD x_ j Cw (i2+1)))) | some QU=>some QU)))
theorem sM {d:Nat} {h:aw} (x_:Task) (j:cG) (kZ:Nat) (xH:Nat) (ky:aM h j.ao j.ab) (mQ:aM h j.ai j.af) (xI:x_.name.length<2^60) (np:bS h .i64 3 x_.aO x_.ax) (DW:aM h x_.aS x_.au) (va:aG.ok h j) (Ys:aG.ok h x_):∀(k_ i_:Nat) (_:i_+k_=x_.au.length) (x:Nat→AV) (hh:aw) (aA:Tidy hh) (ay:Has h hh) (iz:hh.get kZ=some (aH.cells [j.ao,j.ai] 25 false)) (xJ:hh.get xH=some (aH.cells [(AV.str x_.name),(Zi x_.takes),x_.aO,x_.aS] 39 false)),aC (cU (d+1)) D2 ⟨((x 0)::(x 1)::(Pt kZ)::(Pt xH)::rx x 4 3 ((Zn i_)::rx x 8 101 [])),hh,[],.no⟩ (.exit 4) hh (fun y=>((y 0)::(y 1)::(Pt kZ)::(Pt xH)::rx y 4 105 [])) (fun r y=>((y 0)::(y 1)::(Pt kZ)::(Pt xH)::(Zi r)::rx y 5 104 [])) (cD x_ j k_ i_)
 | 0,i2,gq,x,hh,aA,ay,iz,xJ=>by
   have zr:=ky.small
   have zt:=mQ.small
   have GJ:=np.small
   have af0:=DW.small
   have QD:=aA _ _ iz
   have afq:=aA _ _ xJ
   have gL:cc (some (.slice 80)) (some x_.aS)=some (Zn x_.au.length):=(DW.has ay).len
   have q2:(decide (((i2:Nat):Int)<((x_.au.length:Nat):Int)))=false:=d!
   exact aC.out rfl (pk (d+1) _ _ hh _ hh (CN 2<|MM (aI 37 3 x_.aS xJ k!)<|VV gL<|VV (bO 3 false false .i64 ((i2:Nat):Int) ((x_.au.length:Nat):Int))<|BB q2<|ZZ) k!) (bp.refl aA) k!
 | Cw+1,i2,gq,x,hh,aA,ay,iz,xJ=>by
   have zr:=ky.small
   have zt:=mQ.small
   have GJ:=np.small
   have af0:=DW.small
   have QD:=aA _ _ iz
   have afq:=aA _ _ xJ
   have gL:cc (some (.slice 80)) (some x_.aS)=some (Zn x_.au.length):=(DW.has ay).len
   have q2:(decide (((i2:Nat):Int)<((x_.au.length:Nat):Int)))=true:=d!
   obtain ⟨p4,q5,jE⟩:=(DW.has ay).elem (i:=i2) o!
   have vP:bR env (some (.slice 80)) (some x_.aS) (some (Zn i2))=some (AV.ptr p4 q5):=jE
   have rC:aY env hh 80 (AV.ptr p4 q5)=some (AV.agg [(Zi ((x_.au.g i2).ah)),(Zi ((x_.au.g i2).aB))]):=(DW.has ay).load o! jE
   obtain ⟨h7,afW,eO,xA,f_,Bk⟩:=kh aA (aH.cells [(Zi 0),(Zi 0)] 80 false)
   have du:Has hh h7:=Bk
   obtain ⟨h8,afX,ql,aeT,kV,qY⟩:=qi (t:=80) (n:=2) (i:=hh.nx) (L:=[(Zi ((x_.au.g i2).ah)),(Zi ((x_.au.g i2).aB))]) eO f_ k! rfl rfl (by simp only[AV.cells,List.all_cons,List.all_nil,Bool.and_true,Bool.and_self,iE,gd,iF,iG,eP,lF,lG,lH,lI,lJ,iH])
   have oK:Has hh h8:=Has.ei du qY aA o!
   have zI:=fun {al ps} (k:Pk al _ ps)=>(CN 2<|MM (aI 37 3 x_.aS xJ k!)<|VV gL<|VV (bO 3 false false .i64 ((i2:Nat):Int) ((x_.au.length:Nat):Int))<|BC q2<|MM (aI 37 3 x_.aS xJ k!)<|CC<|VV vP<|MM rC<|NN afW (fun i=>(Pt i))<|SS afX<|CC<|MM (aI 3 0 (Zi ((x_.au.g i2).ah)) kV k!)<|VV (bO 3 false true .i64 ((x_.au.g i2).ah) 0)<|CC<|k:Pk _ [] ps)
   rcases Bool.eq_false_or_eq_true (decide (((x_.au.g i2).ah)<0)) with f1 | f1
   · have dQ:=of_decide_eq_true f1
     exact aC.ret 7 (by simp only[cD,f1,cond_true,cond_false]) (pk (d+1) _ _ hh _ h8 (zI<|BB f1<|BB f1<|BB f1<|BB f1<|BB f1<|BV f1 (xV true f1)<|TT<|CC<|ZZ) k!) (⟨ql,oK,by omega⟩) k!
   · have dQ:=of_decide_eq_false f1
     have xK:cc (some (.slice 36)) (some j.ai)=some (Zn j.af.length):=(mQ.has ay).len
     have QF:=fun {al ps} (k:Pk al _ ps)=>(zI<|BC f1<|BM f1 (aI 3 0 (Zi ((x_.au.g i2).ah)) kV k!)<|BC f1<|BM f1 (aI 23 1 j.ai (qY _ _ o! (Bk _ _ iz)) k!)<|BV f1 xK<|BV f1 (pc 3 false false .i64 ((x_.au.g i2).ah) ((j.af.length:Nat):Int))<|k:Pk _ [] ps)
     rcases Bool.eq_false_or_eq_true (decide (((j.af.length:Nat):Int)≤((x_.au.g i2).ah))) with f2 | f2
     · have jZ:=of_decide_eq_true f2
       exact aC.ret 7 (by simp only[cD,f1,f2,cond_true,cond_false]) (pk (d+1) _ _ hh _ h8 (QF<|VV (b8 (a:=some (AV.bool true)) (b:=some (AV.bool (decide (((j.af.length:Nat):Int)≤((x_.au.g i2).ah))))) f1)<|BC f2<|ZZ) k!) (⟨ql,oK,by omega⟩) k!
     · have jZ:=of_decide_eq_false f2
       have Y4:=sL (d:=d) (h:=hh) i2 j x_ kZ xH hh.nx (ky.has ay) (mQ.has ay) xI (np.has ay) (DW.has ay) (aG.mono ay va) (aG.mono ay Ys) ((DW.has ay).ok (i:=i2) o!) o! i2 0 o! (fun k_=>(((x 0)::(x 1)::(Pt kZ)::(Pt xH)::rx x 4 3 ((Zn i2)::(Pt hh.nx)::(Zi 0)::rx x 10 44 ((Zn i2)::(AV.ptr xH 3)::x_.aS::(Zn x_.au.length)::(AV.bool (decide (((i2:Nat):Int)<((x_.au.length:Nat):Int))))::(x 59)::(x 60)::(AV.ptr xH 3)::x_.aS::(Zn i2)::(AV.ptr p4 q5)::(AV.agg [(Zi ((x_.au.g i2).ah)),(Zi ((x_.au.g i2).aB))])::(Pt hh.nx)::(Zi ((x_.au.g i2).ah))::(AV.bool (decide (((x_.au.g i2).ah)<0)))::(AV.bool (decide (((x_.au.g i2).ah)<0)))::(Pt hh.nx)::(Zi ((x_.au.g i2).ah))::(AV.ptr kZ 1)::j.ai::(Zn j.af.length)::(AV.bool (decide (((j.af.length:Nat):Int)≤((x_.au.g i2).ah))))::(AV.bool (decide (((j.af.length:Nat):Int)≤((x_.au.g i2).ah))))::rx x 77 32 []))):List AV).getD k_ AV.undef) h8 ql oK (qY _ _ o! (Bk _ _ iz)) (qY _ _ o! (Bk _ _ xJ)) kV
       cases mm:eI i2 x_ i2 0 with
       | none=>
         obtain ⟨af1,lU,uh,fI⟩:=aC.n mm Y4
         have g7:=fI.y
         have Jy:h8.nx≤lU.nx:=fI.n
         have iB:Has hh lU:=oK.trans fI.a
         have Oa:=fun {al ps} (k:Pk al _ ps)=>(QF<|VV (b8 (a:=some (AV.bool true)) (b:=some (AV.bool (decide (((j.af.length:Nat):Int)≤((x_.au.g i2).ah))))) f1)<|BC f2<|LL uh<|CC<|MM (aI 3 1 (Zi ((x_.au.g i2).aB)) (fI.a _ _ kV) k!)<|VV (bO 3 false true .i64 ((x_.au.g i2).aB) 1)<|CC<|k:Pk _ [] ps)
         rcases Bool.eq_false_or_eq_true (decide (((x_.au.g i2).aB)<1)) with f4 | f4
         · have rE:=of_decide_eq_true f4
           exact aC.ret 1 (by simp only[cD,f1,f2,mm,f4,cond_true,cond_false]) (pk (d+1) _ _ hh _ lU (Oa<|BB f4<|BB f4<|BV f4 (xV true f4)<|TT<|CC<|ZZ) k!) (⟨g7,iB,by omega⟩) k!
         · have rE:=of_decide_eq_false f4
           have Vf:=fun {al ps} (k:Pk al _ ps)=>(Oa<|BC f4<|BM f4 (aI 3 1 (Zi ((x_.au.g i2).aB)) (fI.a _ _ kV) k!)<|BV f4 (dw 3 false true .i64 ((x_.au.g i2).aB) 1000)<|VV (b8 (a:=some (AV.bool true)) (b:=some (AV.bool (decide (1000<((x_.au.g i2).aB))))) f4)<|k:Pk _ [] ps)
           rcases Bool.eq_false_or_eq_true (decide (1000<((x_.au.g i2).aB))) with f5 | f5
           · have Y0:=of_decide_eq_true f5
             exact aC.ret 1 (by simp only[cD,f1,f2,mm,f4,f5,cond_true,cond_false]) (pk (d+1) _ _ hh _ lU (Vf<|BC f5<|ZZ) k!) (⟨g7,iB,by omega⟩) k!
           · have Y0:=of_decide_eq_false f5
             obtain ⟨p17,q18,Dq⟩:=(mQ.has ay).elem (i:=((x_.au.g i2).ah).toNat) o!
             have KP:bR env (some (.slice 36)) (some j.ai) (some (Zi ((x_.au.g i2).ah)))=some (AV.ptr p17 q18):=by rw[show (((x_.au.g i2).ah):Int)=((((x_.au.g i2).ah).toNat:Nat):Int) by omega];exact Dq
             have HO:aY env lU 3 (AV.ptr p17 (q18+1))=some (Zi ((j.af.g ((x_.au.g i2).ah).toNat).aB)):=((mQ.has ay).has iB).part (t:=3) (j:=1) o! Dq k! rfl
             have c20:AV.same 20 j.ai j.ai=true:=(mQ.has ay).same 19
             have Yv:=fun {al ps} (k:Pk al _ ps)=>(Vf<|BC f5<|MM (aI 3 1 (Zi ((x_.au.g i2).aB)) (fI.a _ _ kV) k!)<|CC<|MM (aI 23 1 j.ai (fI.a _ _ (qY _ _ o! (Bk _ _ iz))) k!)<|CC<|MM (aI 3 0 (Zi ((x_.au.g i2).ah)) (fI.a _ _ kV) k!)<|VV KP<|CC<|MM HO<|VV (dw 3 false false .i64 ((x_.au.g i2).aB) ((j.af.g ((x_.au.g i2).ah).toNat).aB))<|HH (aI 3 1 (Zi ((x_.au.g i2).aB)) (fI.a _ _ kV) k!)<|HH (show AV.same 20 (Zi ((x_.au.g i2).aB)) (Zi ((x_.au.g i2).aB))=true from aK 19 _ _)<|HH (aI 23 1 j.ai (fI.a _ _ (qY _ _ o! (Bk _ _ iz))) k!)<|HH c20<|HH (aI 3 0 (Zi ((x_.au.g i2).ah)) (fI.a _ _ kV) k!)<|HH (show AV.same 20 (Zi ((x_.au.g i2).ah)) (Zi ((x_.au.g i2).ah))=true from aK 19 _ _)<|HH HO<|HH (show AV.same 20 (Zi ((j.af.g ((x_.au.g i2).ah).toNat).aB)) (Zi ((j.af.g ((x_.au.g i2).ah).toNat).aB))=true from aK 19 _ _)<|k:Pk _ [] ps)
             rcases Bool.eq_false_or_eq_true (decide (((j.af.g ((x_.au.g i2).ah).toNat).aB)<((x_.au.g i2).aB))) with f6 | f6
             · have alg:=of_decide_eq_true f6
               exact aC.ret 9 (by simp only[cD,f1,f2,mm,f4,f5,f6,cond_true,cond_false]) (pk (d+1) _ _ hh _ lU (Yv<|BC f6<|ZZ) k!) (⟨g7,iB,by omega⟩) k!
             · have alg:=of_decide_eq_false f6
               have Yr:=dZ 3 false true i2 1 o!
               exact aC.round (by simp only[cD,f1,f2,mm,f4,f5,f6,cond_true,cond_false]) (pk (d+1) _ _ hh _ lU (Yv<|BC f6<|VV Yr<|CC<|ZZ) k!) (⟨g7,iB,by omega⟩) _ k! (fun x=>sM x_ j kZ xH ky mQ xI np DW va Ys Cw (i2+1) o! x lU g7 (ay.trans iB) (fI.a _ _ (qY _ _ o! (Bk _ _ iz))) (fI.a _ _ (qY _ _ o! (Bk _ _ xJ))))
       | some QU=>
         obtain ⟨af1,lU,uh,fI⟩:=aC.r mm Y4
         have g7:=fI.y
         have Jy:h8.nx≤lU.nx:=fI.n
         have iB:Has hh lU:=oK.trans fI.a
         exact aC.ret QU (by simp only[cD,f1,f2,mm,cond_true,cond_false]) (pk (d+1) _ _ hh _ lU (QF<|VV (b8 (a:=some (AV.bool true)) (b:=some (AV.bool (decide (((j.af.length:Nat):Int)≤((x_.au.g i2).ah))))) f1)<|BC f2<|LL uh<|ZZ) k!) (⟨g7,iB,by omega⟩) k!
def cR (j:cG) (x_:Task):Int:=(bif (!(dP x_.takes)) then 1 else (match (cY x_ j x_.ax.length 0) with | none=>(match (cD x_ j x_.au.length 0) with | none=>0 | some rr7=>rr7) | some rr5=>rr5))
theorem Ii {d:Nat} {h:aw} (j:cG) (x_:Task) (bZ:aG.ok h j) (n6:aG.ok h x_) (ct:Tidy h):cU (d+2) (.fn 55) [(AV.agg [j.ao,j.ai]),(AV.agg [(AV.str x_.name),(Zi x_.takes),x_.aO,x_.aS])] h= .ret (Zi (cR j x_)) h:=by
 have eT:=bZ.1.small
 have eU:=bZ.2.small
 have GF:=n6.2.2.small
 obtain ⟨h1,dH,cP,kr,bk,bW⟩:=kh ct (aH.cells [j.ao,j.ai] 25 false)
 have bB:Has h h1:=bW
 obtain ⟨h2,P1,vO,abn,pE,rz⟩:=kh cP (aH.cells [(AV.str x_.name),(Zi x_.takes),x_.aO,x_.aS] 39 false)
 have kJ:Has h h2:=bB.trans rz
 have k3:=xp (d:=d) x_.takes vO
 have DY:=fun {al ps} (k:Pk al _ ps)=>(NN dH (fun i=>(Pt i))<|NN P1 (fun i=>(Pt i))<|CN 2<|MM (aI 3 1 (Zi x_.takes) pE k!)<|EE k3<|CC<|k:Pk _ [] ps)
 rcases Bool.eq_false_or_eq_true (!(dP x_.takes)) with f0 | f0
 · have e:cR j x_=1:=by simp only[cR,f0,cond_true,cond_false]
   rw[e]
   exact aE rfl (aZ Tryz.func55 oh rfl (.inr rfl) (pk (d+1) _ _ h _ h2 (DY<|BC f0<|ZZ) k!) k!) kJ rfl
 · have Oc:=sK (d:=d) (h:=h) x_ j h.nx h1.nx bZ.1 bZ.2 n6.1 n6.2.1 n6.2.2 bZ n6 x_.ax.length 0 o! (fun k_=>(((AV.agg [j.ao,j.ai])::(AV.agg [(AV.str x_.name),(Zi x_.takes),x_.aO,x_.aS])::(Pt h.nx)::(Pt h1.nx)::(Zi 0)::(Zi 0)::AV.undef::AV.undef::AV.undef::AV.undef::(AV.ptr h1.nx 1)::(Zi x_.takes)::(AV.bool (dP x_.takes))::(AV.bool (!(dP x_.takes)))::lk 95):List AV).getD k_ AV.undef) h2 vO kJ (rz _ _ bk) pE
   cases G9:cY x_ j x_.ax.length 0 with
   | none=>
     obtain ⟨yl5,h6,v3,Bn⟩:=aC.n G9 Oc
     have kM:=Bn.y
     have abS:h2.nx≤h6.nx:=Bn.n
     have jA:Has h h6:=kJ.trans Bn.a
     have Yw:=sM (d:=d) (h:=h) x_ j h.nx h1.nx bZ.1 bZ.2 n6.1 n6.2.1 n6.2.2 bZ n6 x_.au.length 0 o! (fun k_=>(((yl5 0)::(yl5 1)::(Pt h.nx)::(Pt h1.nx)::rx yl5 4 3 ((Zi 0)::rx yl5 8 101 [])):List AV).getD k_ AV.undef) h6 kM jA (Bn.a _ _ (rz _ _ bk)) (Bn.a _ _ pE)
     cases LJ:cD x_ j x_.au.length 0 with
     | none=>
       obtain ⟨yl7,h8,QV,LK⟩:=aC.n LJ Yw
       have ql:=LK.y
       have aiK:h6.nx≤h8.nx:=LK.n
       have oK:Has h h8:=jA.trans LK.a
       have acy:Has h6 h8:=LK.a
       have e:cR j x_=0:=by simp only[cR,f0,G9,LJ,cond_true,cond_false]
       rw[e]
       exact aE rfl (aZ Tryz.func55 oh rfl (.inr rfl) (pk (d+1) _ _ h _ h8 (DY<|BC f0<|LL v3<|CC<|LL QV<|CC<|ZZ) k!) k!) oK rfl
     | some rr7=>
       obtain ⟨yl7,h8,QV,LK⟩:=aC.r LJ Yw
       have ql:=LK.y
       have aiK:h6.nx≤h8.nx:=LK.n
       have oK:Has h h8:=jA.trans LK.a
       have acy:Has h6 h8:=LK.a
       have e:cR j x_=rr7:=by simp only[cR,f0,G9,LJ,cond_true,cond_false]
       rw[e]
       exact aE rfl (aZ Tryz.func55 oh rfl (.inr rfl) (pk (d+1) _ _ h _ h8 (DY<|BC f0<|LL v3<|CC<|LL QV<|ZZ) k!) k!) oK rfl
   | some rr5=>
     obtain ⟨yl5,h6,v3,Bn⟩:=aC.r G9 Oc
     have kM:=Bn.y
     have abS:h2.nx≤h6.nx:=Bn.n
     have jA:Has h h6:=kJ.trans Bn.a
     have e:cR j x_=rr5:=by simp only[cR,f0,G9,cond_true,cond_false]
     rw[e]
     exact aE rfl (aZ Tryz.func55 oh rfl (.inr rfl) (pk (d+1) _ _ h _ h6 (DY<|BC f0<|LL v3<|ZZ) k!) k!) jA rfl
theorem QW {x:Int} (h:dP x=true):0≤x∧x≤100000:=by
 unfold dP at h
 by_cases q:0≤x
 · rw[decide_eq_true q] at h;exact ⟨q,of_decide_eq_true h⟩
 · rw[decide_eq_false q] at h;cases h
theorem qZ {i0:Nat} {x:Task}:∀{k i:Nat} {r:Int},eH i0 x k i=some r→r≠0
 | 0,i,r,h=>by cases h
 | k+1,i,r,h=>by
   rw[eH] at h
   cases q:decide (x.ax.g i=x.ax.g i0) with
   | true=>rw[q] at h;cases h;decide
   | false=>rw[q] at h;exact qZ (k:=k) h
theorem ra {i0:Nat} {x:Task}:∀{k i:Nat} {r:Int},eI i0 x k i=some r→r≠0
 | 0,i,r,h=>by cases h
 | k+1,i,r,h=>by
   rw[eI] at h
   cases q:decide ((x.au.g i).ah=(x.au.g i0).ah) with
   | true=>rw[q] at h;cases h;decide
   | false=>rw[q] at h;exact ra (k:=k) h
theorem nv {j:cG} {x:Task}:∀{k i:Nat},(cY x j k i=none→∀q,i≤q→q<i+k→0≤x.ax.g q∧x.ax.g q<(j.ab.length:Int))∧(∀r,cY x j k i=some r→r≠0)
 | 0,i=>⟨fun _ q h1 h2=>by omega,fun r h=>by cases h⟩
 | k+1,i=>by
   have ih:=nv (j:=j) (x:=x) (k:=k) (i:=i+1)
   rw[cY]
   by_cases a:x.ax.g i<0
   · rw[decide_eq_true a];exact ⟨(fun h=>by cases h),(fun r h=>by cases h;decide)⟩
   · by_cases b:(j.ab.length:Int)≤x.ax.g i
     · rw[decide_eq_false a,decide_eq_true b];exact ⟨(fun h=>by cases h),(fun r h=>by cases h;decide)⟩
     · rw[decide_eq_false a,decide_eq_false b]
       cases c:eH i x i 0 with
       | some r0=>exact ⟨(fun h=>by cases h),(fun r h=>by cases h;exact qZ c)⟩
       | none=>
         refine ⟨fun h q h1 h2=>?_,ih.2⟩
         by_cases e:q=i
         · rw[e];omega
         · exact ih.1 h q o! o!
theorem ny {j:cG} {x:Task}:∀{k i:Nat},(cD x j k i=none→∀q,i≤q→q<i+k→0≤(x.au.g q).ah∧(x.au.g q).ah<(j.af.length:Int))∧(∀r,cD x j k i=some r→r≠0)
 | 0,i=>⟨fun _ q h1 h2=>by omega,fun r h=>by cases h⟩
 | k+1,i=>by
   have ih:=ny (j:=j) (x:=x) (k:=k) (i:=i+1)
   rw[cD]
   by_cases a:(x.au.g i).ah<0
   · rw[decide_eq_true a];exact ⟨(fun h=>by cases h),(fun r h=>by cases h;decide)⟩
   · by_cases b:(j.af.length:Int)≤(x.au.g i).ah
     · rw[decide_eq_false a,decide_eq_true b];exact ⟨(fun h=>by cases h),(fun r h=>by cases h;decide)⟩
     · rw[decide_eq_false a,decide_eq_false b]
       cases c:eI i x i 0 with
       | some r0=>exact ⟨(fun h=>by cases h),(fun r h=>by cases h;exact ra c)⟩
       | none=>
         cases d1:decide ((x.au.g i).aB<1) with
         | true=>exact ⟨(fun h=>by cases h),(fun r h=>by cases h;decide)⟩
         | false=>
           cases d2:decide (1000<(x.au.g i).aB) with
           | true=>exact ⟨(fun h=>by cases h),(fun r h=>by cases h;decide)⟩
           | false=>
             cases d3:decide ((j.af.g (Int.toNat (x.au.g i).ah)).aB<(x.au.g i).aB) with
             | true=>exact ⟨(fun h=>by cases h),(fun r h=>by cases h;decide)⟩
             | false=>
               refine ⟨fun h q h1 h2=>?_,ih.2⟩
               by_cases e:q=i
               · rw[e];omega
               · exact ih.1 h q o! o!
theorem wD {j:cG} {x:Task} (h:cR j x=0):(0≤x.takes∧x.takes≤100000)∧(∀q,q<x.ax.length→0≤x.ax.g q∧x.ax.g q<(j.ab.length:Int))∧(∀q,q<x.au.length→0≤(x.au.g q).ah∧(x.au.g q).ah<(j.af.length:Int)):=by
 unfold cR at h
 cases t:dP x.takes with
 | false=>rw[t] at h;cases h
 | true=>
   rw[t] at h
   cases a:cY x j x.ax.length 0 with
   | some r=>rw[a] at h;exact absurd h (nv.2 r a)
   | none=>
     rw[a] at h
     cases b:cD x j x.au.length 0 with
     | some r=>rw[b] at h;exact absurd h (ny.2 r b)
     | none=>exact ⟨QW t,fun q hq=>nv.1 a q o! o!,fun q hq=>ny.1 b q o! o!⟩
end Go.Proofs.aJ
