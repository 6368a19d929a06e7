import Derived.Test.YtkffioplnoajdaaGreatW0
import Derived.Test.YtkffioplnoajdaaGreatW1
import Derived.Test.YtkffioplnoajdaaGreatW5
import Derived.Test.YtkffioplnoajdaaGreatW8
namespace Go.Proofs.aP
open Go.Proofs Ab
set_option maxRecDepth 100000
set_option maxHeartbeats 4000000
set_option linter.unusedVariables false
set_option linter.unusedSimpArgs false
noncomputable def B4:Code:=(Tryz.f28.body).getD .skip
theorem rN:Tryz.f28.body=some B4:=by kernel_rfl
noncomputable def Oq:Code:=(bE B4).getD 0 .skip
def di (s:List UInt8):Nat→Nat→Option (Bool)
 | 0,_=>none
 | dz+1,i0=>(bif (decide ((((s.g i0).toNat:Nat):Int)<97)) then (bif (decide ((((s.g i0).toNat:Nat):Int)<48)) then (bif (!decide ((((s.g i0).toNat:Nat):Int)=45)) then some false else di s dz (i0+1)) else (bif (decide (57<(((s.g i0).toNat:Nat):Int))) then (bif (!decide ((((s.g i0).toNat:Nat):Int)=45)) then some false else di s dz (i0+1)) else di s dz (i0+1))) else (bif (decide (122<(((s.g i0).toNat:Nat):Int))) then (bif (decide ((((s.g i0).toNat:Nat):Int)<48)) then (bif (!decide ((((s.g i0).toNat:Nat):Int)=45)) then some false else di s dz (i0+1)) else (bif (decide (57<(((s.g i0).toNat:Nat):Int))) then (bif (!decide ((((s.g i0).toNat:Nat):Int)=45)) then some false else di s dz (i0+1)) else di s dz (i0+1))) else di s dz (i0+1)))
theorem il {d:Nat} {h:au} (s:List UInt8) (bn:s.length<2^60):∀(k_ i_:Nat) (_:i_+k_=(List.length s)) (x:Nat→AV) (hh:au) (aE:Tidy hh) (aB:Has h hh),aA (cR (d)) Oq ⟨((AV.str s)::(x 1)::(x 2)::(Zn i_)::rx x 4 46 []),hh,[],.no⟩ (.exit 0) hh (fun y=>((AV.str s)::rx y 1 49 [])) (fun r y=>((AV.str s)::(y 1)::(AV.bool r)::rx y 3 47 [])) (di s k_ i_)
 | 0,i0,fX,x,hh,aE,aB=>by
   have sn1:s.length<2^60:=bn
   have q2:(decide (((i0:Nat):Int)<((List.length s:Nat):Int)))=false:=d!
   exact aA.out rfl (pk (d) _ _ hh _ hh (CN 3<|VV (ba 3 false false .i64 ((i0:Nat):Int) ((List.length s:Nat):Int))<|BB q2<|ZZ) k!) (bF.refl aE) k!
 | dz+1,i0,fX,x,hh,aE,aB=>by
   have sn1:s.length<2^60:=bn
   have q2:(decide (((i0:Nat):Int)<((List.length s:Nat):Int)))=true:=d!
   have iG:xm env (some .string) (some (AV.str s)) (some (Zn i0))=some (AV.int .u8 (((s.g i0).toNat:Nat):Int)):=o9 (j:=i0) o!
   rcases Bool.eq_false_or_eq_true (decide ((((s.g i0).toNat:Nat):Int)<97)) with f1 | f1
   · have dC:=of_decide_eq_true f1
     rcases Bool.eq_false_or_eq_true (decide ((((s.g i0).toNat:Nat):Int)<48)) with f2 | f2
     · have jw:=of_decide_eq_true f2
       rcases Bool.eq_false_or_eq_true (!decide ((((s.g i0).toNat:Nat):Int)=45)) with f3 | f3
       · have mX:=BI f3
         exact aA.ret false (by simp only[di,f1,f2,f3,cond_true,cond_false]) (pk (d) _ _ hh _ hh (CN 3<|VV (ba 3 false false .i64 ((i0:Nat):Int) ((List.length s:Nat):Int))<|BB q2<|CN 2<|VV iG<|CN 2<|VV (ba 5 false true .u8 (((s.g i0).toNat:Nat):Int) 97)<|CC<|BB f1<|BV f1 (uN true f1)<|CC<|TT<|CC<|TT<|VV (ba 5 false true .u8 (((s.g i0).toNat:Nat):Int) 48)<|TT<|CC<|BB f2<|BB f2<|TT<|VV (uN true f2)<|CN 2<|TT<|CC<|TT<|VV (eu 5 false true .u8 (((s.g i0).toNat:Nat):Int) 45)<|CC<|BC f3<|ZZ) k!) (bF.refl aE) k!
       · have mX:=BJ f3
         have u7:=fe 3 false true i0 1 o!
         exact aA.round (by simp only[di,f1,f2,f3,cond_true,cond_false]) (pk (d) _ _ hh _ hh (CN 3<|VV (ba 3 false false .i64 ((i0:Nat):Int) ((List.length s:Nat):Int))<|BB q2<|CN 2<|VV iG<|CN 2<|VV (ba 5 false true .u8 (((s.g i0).toNat:Nat):Int) 97)<|CC<|BB f1<|BV f1 (uN true f1)<|CC<|TT<|CC<|TT<|VV (ba 5 false true .u8 (((s.g i0).toNat:Nat):Int) 48)<|TT<|CC<|BB f2<|BB f2<|TT<|VV (uN true f2)<|CN 2<|TT<|CC<|TT<|VV (eu 5 false true .u8 (((s.g i0).toNat:Nat):Int) 45)<|CC<|BC f3<|VV u7<|CC<|ZZ) k!) (bF.refl aE) _ k! (fun x=>il s bn dz (i0+1) o! x hh aE aB)
     · have jw:=of_decide_eq_false f2
       rcases Bool.eq_false_or_eq_true (decide (57<(((s.g i0).toNat:Nat):Int))) with f3 | f3
       · have mX:=of_decide_eq_true f3
         rcases Bool.eq_false_or_eq_true (!decide ((((s.g i0).toNat:Nat):Int)=45)) with f4 | f4
         · have sy:=BI f4
           exact aA.ret false (by simp only[di,f1,f2,f3,f4,cond_true,cond_false]) (pk (d) _ _ hh _ hh (CN 3<|VV (ba 3 false false .i64 ((i0:Nat):Int) ((List.length s:Nat):Int))<|BB q2<|CN 2<|VV iG<|CN 2<|VV (ba 5 false true .u8 (((s.g i0).toNat:Nat):Int) 97)<|CC<|BB f1<|BV f1 (uN true f1)<|CC<|TT<|CC<|TT<|VV (ba 5 false true .u8 (((s.g i0).toNat:Nat):Int) 48)<|TT<|CC<|BC f2<|BV f2 (bR 5 false true .u8 (((s.g i0).toNat:Nat):Int) 57)<|TT<|VV (bA (a:=some (AV.bool true)) (b:=some (AV.bool (decide (57<(((s.g i0).toNat:Nat):Int))))) f2)<|CN 2<|BC f3<|BV f3 (eu 5 false true .u8 (((s.g i0).toNat:Nat):Int) 45)<|VV (kI (!decide ((((s.g i0).toNat:Nat):Int)=45)) false f3)<|BC f4<|ZZ) k!) (bF.refl aE) k!
         · have sy:=BJ f4
           have u8:=fe 3 false true i0 1 o!
           exact aA.round (by simp only[di,f1,f2,f3,f4,cond_true,cond_false]) (pk (d) _ _ hh _ hh (CN 3<|VV (ba 3 false false .i64 ((i0:Nat):Int) ((List.length s:Nat):Int))<|BB q2<|CN 2<|VV iG<|CN 2<|VV (ba 5 false true .u8 (((s.g i0).toNat:Nat):Int) 97)<|CC<|BB f1<|BV f1 (uN true f1)<|CC<|TT<|CC<|TT<|VV (ba 5 false true .u8 (((s.g i0).toNat:Nat):Int) 48)<|TT<|CC<|BC f2<|BV f2 (bR 5 false true .u8 (((s.g i0).toNat:Nat):Int) 57)<|TT<|VV (bA (a:=some (AV.bool true)) (b:=some (AV.bool (decide (57<(((s.g i0).toNat:Nat):Int))))) f2)<|CN 2<|BC f3<|BV f3 (eu 5 false true .u8 (((s.g i0).toNat:Nat):Int) 45)<|VV (kI (!decide ((((s.g i0).toNat:Nat):Int)=45)) false f3)<|BC f4<|VV u8<|CC<|ZZ) k!) (bF.refl aE) _ k! (fun x=>il s bn dz (i0+1) o! x hh aE aB)
       · have mX:=of_decide_eq_false f3
         have u7:=fe 3 false true i0 1 o!
         exact aA.round (by simp only[di,f1,f2,f3,cond_true,cond_false]) (pk (d) _ _ hh _ hh (CN 3<|VV (ba 3 false false .i64 ((i0:Nat):Int) ((List.length s:Nat):Int))<|BB q2<|CN 2<|VV iG<|CN 2<|VV (ba 5 false true .u8 (((s.g i0).toNat:Nat):Int) 97)<|CC<|BB f1<|BV f1 (uN true f1)<|CC<|TT<|CC<|TT<|VV (ba 5 false true .u8 (((s.g i0).toNat:Nat):Int) 48)<|TT<|CC<|BC f2<|BV f2 (bR 5 false true .u8 (((s.g i0).toNat:Nat):Int) 57)<|TT<|VV (bA (a:=some (AV.bool true)) (b:=some (AV.bool (decide (57<(((s.g i0).toNat:Nat):Int))))) f2)<|CN 2<|BB f3<|BV f3 (tS false f3)<|FF<|CC<|VV u7<|CC<|ZZ) k!) (bF.refl aE) _ k! (fun x=>il s bn dz (i0+1) o! x hh aE aB)
   · have dC:=of_decide_eq_false f1
     rcases Bool.eq_false_or_eq_true (decide (122<(((s.g i0).toNat:Nat):Int))) with f2 | f2
     · have jw:=of_decide_eq_true f2
       rcases Bool.eq_false_or_eq_true (decide ((((s.g i0).toNat:Nat):Int)<48)) with f3 | f3
       · have mX:=of_decide_eq_true f3
         rcases Bool.eq_false_or_eq_true (!decide ((((s.g i0).toNat:Nat):Int)=45)) with f4 | f4
         · have sy:=BI f4
           exact aA.ret false (by simp only[di,f1,f2,f3,f4,cond_true,cond_false]) (pk (d) _ _ hh _ hh (CN 3<|VV (ba 3 false false .i64 ((i0:Nat):Int) ((List.length s:Nat):Int))<|BB q2<|CN 2<|VV iG<|CN 2<|VV (ba 5 false true .u8 (((s.g i0).toNat:Nat):Int) 97)<|CC<|BC f1<|BV f1 (bR 5 false true .u8 (((s.g i0).toNat:Nat):Int) 122)<|VV (bA (a:=some (AV.bool true)) (b:=some (AV.bool (decide (122<(((s.g i0).toNat:Nat):Int))))) f1)<|CC<|BC f2<|BV f2 (ba 5 false true .u8 (((s.g i0).toNat:Nat):Int) 48)<|BC f2<|BB f3<|BB f3<|BV f2 (uN true f3)<|VV (kI true false f2)<|CC<|TT<|CC<|TT<|VV (eu 5 false true .u8 (((s.g i0).toNat:Nat):Int) 45)<|CC<|BC f4<|ZZ) k!) (bF.refl aE) k!
         · have sy:=BJ f4
           have u8:=fe 3 false true i0 1 o!
           exact aA.round (by simp only[di,f1,f2,f3,f4,cond_true,cond_false]) (pk (d) _ _ hh _ hh (CN 3<|VV (ba 3 false false .i64 ((i0:Nat):Int) ((List.length s:Nat):Int))<|BB q2<|CN 2<|VV iG<|CN 2<|VV (ba 5 false true .u8 (((s.g i0).toNat:Nat):Int) 97)<|CC<|BC f1<|BV f1 (bR 5 false true .u8 (((s.g i0).toNat:Nat):Int) 122)<|VV (bA (a:=some (AV.bool true)) (b:=some (AV.bool (decide (122<(((s.g i0).toNat:Nat):Int))))) f1)<|CC<|BC f2<|BV f2 (ba 5 false true .u8 (((s.g i0).toNat:Nat):Int) 48)<|BC f2<|BB f3<|BB f3<|BV f2 (uN true f3)<|VV (kI true false f2)<|CC<|TT<|CC<|TT<|VV (eu 5 false true .u8 (((s.g i0).toNat:Nat):Int) 45)<|CC<|BC f4<|VV u8<|CC<|ZZ) k!) (bF.refl aE) _ k! (fun x=>il s bn dz (i0+1) o! x hh aE aB)
       · have mX:=of_decide_eq_false f3
         rcases Bool.eq_false_or_eq_true (decide (57<(((s.g i0).toNat:Nat):Int))) with f4 | f4
         · have sy:=of_decide_eq_true f4
           rcases Bool.eq_false_or_eq_true (!decide ((((s.g i0).toNat:Nat):Int)=45)) with f5 | f5
           · have Wd:=BI f5
             exact aA.ret false (by simp only[di,f1,f2,f3,f4,f5,cond_true,cond_false]) (pk (d) _ _ hh _ hh (CN 3<|VV (ba 3 false false .i64 ((i0:Nat):Int) ((List.length s:Nat):Int))<|BB q2<|CN 2<|VV iG<|CN 2<|VV (ba 5 false true .u8 (((s.g i0).toNat:Nat):Int) 97)<|CC<|BC f1<|BV f1 (bR 5 false true .u8 (((s.g i0).toNat:Nat):Int) 122)<|VV (bA (a:=some (AV.bool true)) (b:=some (AV.bool (decide (122<(((s.g i0).toNat:Nat):Int))))) f1)<|CC<|BC f2<|BV f2 (ba 5 false true .u8 (((s.g i0).toNat:Nat):Int) 48)<|BC f2<|BC f3<|BV f3 (bR 5 false true .u8 (((s.g i0).toNat:Nat):Int) 57)<|BV f2 (bA (a:=some (AV.bool true)) (b:=some (AV.bool (decide (57<(((s.g i0).toNat:Nat):Int))))) f3)<|VV (kI (decide (57<(((s.g i0).toNat:Nat):Int))) false f2)<|CC<|BC f4<|BV f4 (eu 5 false true .u8 (((s.g i0).toNat:Nat):Int) 45)<|VV (kI (!decide ((((s.g i0).toNat:Nat):Int)=45)) false f4)<|BC f5<|ZZ) k!) (bF.refl aE) k!
           · have Wd:=BJ f5
             have u9:=fe 3 false true i0 1 o!
             exact aA.round (by simp only[di,f1,f2,f3,f4,f5,cond_true,cond_false]) (pk (d) _ _ hh _ hh (CN 3<|VV (ba 3 false false .i64 ((i0:Nat):Int) ((List.length s:Nat):Int))<|BB q2<|CN 2<|VV iG<|CN 2<|VV (ba 5 false true .u8 (((s.g i0).toNat:Nat):Int) 97)<|CC<|BC f1<|BV f1 (bR 5 false true .u8 (((s.g i0).toNat:Nat):Int) 122)<|VV (bA (a:=some (AV.bool true)) (b:=some (AV.bool (decide (122<(((s.g i0).toNat:Nat):Int))))) f1)<|CC<|BC f2<|BV f2 (ba 5 false true .u8 (((s.g i0).toNat:Nat):Int) 48)<|BC f2<|BC f3<|BV f3 (bR 5 false true .u8 (((s.g i0).toNat:Nat):Int) 57)<|BV f2 (bA (a:=some (AV.bool true)) (b:=some (AV.bool (decide (57<(((s.g i0).toNat:Nat):Int))))) f3)<|VV (kI (decide (57<(((s.g i0).toNat:Nat):Int))) false f2)<|CC<|BC f4<|BV f4 (eu 5 false true .u8 (((s.g i0).toNat:Nat):Int) 45)<|VV (kI (!decide ((((s.g i0).toNat:Nat):Int)=45)) false f4)<|BC f5<|VV u9<|CC<|ZZ) k!) (bF.refl aE) _ k! (fun x=>il s bn dz (i0+1) o! x hh aE aB)
         · have sy:=of_decide_eq_false f4
           have u8:=fe 3 false true i0 1 o!
           exact aA.round (by simp only[di,f1,f2,f3,f4,cond_true,cond_false]) (pk (d) _ _ hh _ hh (CN 3<|VV (ba 3 false false .i64 ((i0:Nat):Int) ((List.length s:Nat):Int))<|BB q2<|CN 2<|VV iG<|CN 2<|VV (ba 5 false true .u8 (((s.g i0).toNat:Nat):Int) 97)<|CC<|BC f1<|BV f1 (bR 5 false true .u8 (((s.g i0).toNat:Nat):Int) 122)<|VV (bA (a:=some (AV.bool true)) (b:=some (AV.bool (decide (122<(((s.g i0).toNat:Nat):Int))))) f1)<|CC<|BC f2<|BV f2 (ba 5 false true .u8 (((s.g i0).toNat:Nat):Int) 48)<|BC f2<|BC f3<|BV f3 (bR 5 false true .u8 (((s.g i0).toNat:Nat):Int) 57)<|BV f2 (bA (a:=some (AV.bool true)) (b:=some (AV.bool (decide (57<(((s.g i0).toNat:Nat):Int))))) f3)<|VV (kI (decide (57<(((s.g i0).toNat:Nat):Int))) false f2)<|CC<|BB f4<|BV f4 (tS false f4)<|FF<|CC<|VV u8<|CC<|ZZ) k!) (bF.refl aE) _ k! (fun x=>il s bn dz (i0+1) o! x hh aE aB)
     · have jw:=of_decide_eq_false f2
       have u6:=fe 3 false true i0 1 o!
       exact aA.round (by simp only[di,f1,f2,cond_true,cond_false]) (pk (d) _ _ hh _ hh (CN 3<|VV (ba 3 false false .i64 ((i0:Nat):Int) ((List.length s:Nat):Int))<|BB q2<|CN 2<|VV iG<|CN 2<|VV (ba 5 false true .u8 (((s.g i0).toNat:Nat):Int) 97)<|CC<|BC f1<|BV f1 (bR 5 false true .u8 (((s.g i0).toNat:Nat):Int) 122)<|VV (bA (a:=some (AV.bool true)) (b:=some (AV.bool (decide (122<(((s.g i0).toNat:Nat):Int))))) f1)<|CC<|BB f2<|BB f2<|BB f2<|BV f2 (tS false f2)<|CC<|FF<|FF<|CC<|FF<|CC<|VV u6<|CC<|ZZ) k!) (bF.refl aE) _ k! (fun x=>il s bn dz (i0+1) o! x hh aE aB)
def ek (s:List UInt8):Bool:=(bif (decide (((List.length s:Nat):Int)=0)) then false else (bif (decide (16<((List.length s:Nat):Int))) then false else (bif (decide ((((s.g 0).toNat:Nat):Int)<97)) then false else (bif (decide (122<(((s.g 0).toNat:Nat):Int))) then false else (match (di s (List.length s) 0) with | none=>true | some VS=>VS)))))
theorem L8 {d:Nat} {h:au} (s:List UInt8) (qd:s.length<2^60) (bW:Tidy h):cR (d+1) (.fn 28) [(AV.str s)] h= .ret (AV.bool (ek s)) h:=by
 have sn1:s.length<2^60:=qd
 rcases Bool.eq_false_or_eq_true (decide (((List.length s:Nat):Int)=0)) with f0 | f0
 · have dO:=of_decide_eq_true f0
   have e:ek s=false:=by simp only[ek,f0,cond_true,cond_false]
   rw[e]
   exact aD rfl (bb Tryz.func28 rN rfl (.inr rfl) (pk (d) _ _ h _ h (CN 3<|VV (lr 3 false true .i64 ((List.length s:Nat):Int) 0)<|CC<|BB f0<|BB f0<|BV f0 (uN true f0)<|CC<|TT<|TT<|TT<|CN 2<|TT<|TT<|TT<|CC<|TT<|CC<|ZZ) k!) k!) (Has.refl _) rfl
 · have dO:=of_decide_eq_false f0
   rcases Bool.eq_false_or_eq_true (decide (16<((List.length s:Nat):Int))) with f1 | f1
   · have dC:=of_decide_eq_true f1
     have e:ek s=false:=by simp only[ek,f0,f1,cond_true,cond_false]
     rw[e]
     exact aD rfl (bb Tryz.func28 rN rfl (.inr rfl) (pk (d) _ _ h _ h (CN 3<|VV (lr 3 false true .i64 ((List.length s:Nat):Int) 0)<|CC<|BC f0<|BC f0<|BV f0 (bR 3 false true .i64 ((List.length s:Nat):Int) 16)<|VV (bA (a:=some (AV.bool true)) (b:=some (AV.bool (decide (16<((List.length s:Nat):Int))))) f0)<|CC<|BB f1<|BB f1<|BV f1 (uN true f1)<|CC<|TT<|TT<|TT<|CC<|TT<|CC<|ZZ) k!) k!) (Has.refl _) rfl
   · have dC:=of_decide_eq_false f1
     have Nf:xm env (some .string) (some (AV.str s)) (some (Zi 0))=some (AV.int .u8 (((s.g 0).toNat:Nat):Int)):=o9 (j:=0) o!
     rcases Bool.eq_false_or_eq_true (decide ((((s.g 0).toNat:Nat):Int)<97)) with f2 | f2
     · have jw:=of_decide_eq_true f2
       have e:ek s=false:=by simp only[ek,f0,f1,f2,cond_true,cond_false]
       rw[e]
       exact aD rfl (bb Tryz.func28 rN rfl (.inr rfl) (pk (d) _ _ h _ h (CN 3<|VV (lr 3 false true .i64 ((List.length s:Nat):Int) 0)<|CC<|BC f0<|BC f0<|BV f0 (bR 3 false true .i64 ((List.length s:Nat):Int) 16)<|VV (bA (a:=some (AV.bool true)) (b:=some (AV.bool (decide (16<((List.length s:Nat):Int))))) f0)<|CC<|BC f1<|BV f1 Nf<|BV f1 (ba 5 false true .u8 (((s.g 0).toNat:Nat):Int) 97)<|VV (bA (a:=some (AV.bool true)) (b:=some (AV.bool (decide ((((s.g 0).toNat:Nat):Int)<97)))) f1)<|CC<|BB f2<|BB f2<|BV f2 (uN true f2)<|TT<|CC<|ZZ) k!) k!) (Has.refl _) rfl
     · have jw:=of_decide_eq_false f2
       have BN:xm env (some .string) (some (AV.str s)) (some (Zi 0))=some (AV.int .u8 (((s.g 0).toNat:Nat):Int)):=o9 (j:=0) o!
       rcases Bool.eq_false_or_eq_true (decide (122<(((s.g 0).toNat:Nat):Int))) with f3 | f3
       · have mX:=of_decide_eq_true f3
         have e:ek s=false:=by simp only[ek,f0,f1,f2,f3,cond_true,cond_false]
         rw[e]
         exact aD rfl (bb Tryz.func28 rN rfl (.inr rfl) (pk (d) _ _ h _ h (CN 3<|VV (lr 3 false true .i64 ((List.length s:Nat):Int) 0)<|CC<|BC f0<|BC f0<|BV f0 (bR 3 false true .i64 ((List.length s:Nat):Int) 16)<|VV (bA (a:=some (AV.bool true)) (b:=some (AV.bool (decide (16<((List.length s:Nat):Int))))) f0)<|CC<|BC f1<|BV f1 Nf<|BV f1 (ba 5 false true .u8 (((s.g 0).toNat:Nat):Int) 97)<|VV (bA (a:=some (AV.bool true)) (b:=some (AV.bool (decide ((((s.g 0).toNat:Nat):Int)<97)))) f1)<|CC<|BC f2<|BV f2 BN<|BV f2 (bR 5 false true .u8 (((s.g 0).toNat:Nat):Int) 122)<|VV (bA (a:=some (AV.bool true)) (b:=some (AV.bool (decide (122<(((s.g 0).toNat:Nat):Int))))) f2)<|BC f3<|ZZ) k!) k!) (Has.refl _) rfl
       · have mX:=of_decide_eq_false f3
         cases mc:di s (List.length s) 0 with
         | none=>
           obtain ⟨yl8,h9,mO,eh⟩:=aA.n mc (il (d:=d) (h:=h) s qd (List.length s) 0 o! (fun k_=>(((AV.str s)::AV.undef::(AV.bool false)::(Zi 0)::AV.undef::(AV.str s)::(Zn (List.length s))::(AV.bool (decide (((List.length s:Nat):Int)=0)))::(AV.bool (decide (((List.length s:Nat):Int)=0)))::(AV.str s)::(Zn (List.length s))::(AV.bool (decide (16<((List.length s:Nat):Int))))::(AV.bool (decide (16<((List.length s:Nat):Int))))::(AV.bool (decide (16<((List.length s:Nat):Int))))::(AV.str s)::(AV.int .u8 (((s.g 0).toNat:Nat):Int))::(AV.bool (decide ((((s.g 0).toNat:Nat):Int)<97)))::(AV.bool (decide ((((s.g 0).toNat:Nat):Int)<97)))::(AV.bool (decide ((((s.g 0).toNat:Nat):Int)<97)))::(AV.str s)::(AV.int .u8 (((s.g 0).toNat:Nat):Int))::(AV.bool (decide (122<(((s.g 0).toNat:Nat):Int))))::(AV.bool (decide (122<(((s.g 0).toNat:Nat):Int))))::g4 27):List AV).getD k_ AV.undef) h bW (Has.refl _))
           have nz:=eh.y
           have FN:h.nx≤h9.nx:=eh.n
           have hZ:Has h h9:=eh.a
           have e:ek s=true:=by simp only[ek,f0,f1,f2,f3,mc,cond_true,cond_false]
           rw[e]
           exact aD rfl (bb Tryz.func28 rN rfl (.inr rfl) (pk (d) _ _ h _ h9 (CN 3<|VV (lr 3 false true .i64 ((List.length s:Nat):Int) 0)<|CC<|BC f0<|BC f0<|BV f0 (bR 3 false true .i64 ((List.length s:Nat):Int) 16)<|VV (bA (a:=some (AV.bool true)) (b:=some (AV.bool (decide (16<((List.length s:Nat):Int))))) f0)<|CC<|BC f1<|BV f1 Nf<|BV f1 (ba 5 false true .u8 (((s.g 0).toNat:Nat):Int) 97)<|VV (bA (a:=some (AV.bool true)) (b:=some (AV.bool (decide ((((s.g 0).toNat:Nat):Int)<97)))) f1)<|CC<|BC f2<|BV f2 BN<|BV f2 (bR 5 false true .u8 (((s.g 0).toNat:Nat):Int) 122)<|VV (bA (a:=some (AV.bool true)) (b:=some (AV.bool (decide (122<(((s.g 0).toNat:Nat):Int))))) f2)<|BC f3<|LL mO<|CC<|ZZ) k!) k!) hZ rfl
         | some VS=>
           obtain ⟨yl8,h9,mO,eh⟩:=aA.r mc (il (d:=d) (h:=h) s qd (List.length s) 0 o! (fun k_=>(((AV.str s)::AV.undef::(AV.bool false)::(Zi 0)::AV.undef::(AV.str s)::(Zn (List.length s))::(AV.bool (decide (((List.length s:Nat):Int)=0)))::(AV.bool (decide (((List.length s:Nat):Int)=0)))::(AV.str s)::(Zn (List.length s))::(AV.bool (decide (16<((List.length s:Nat):Int))))::(AV.bool (decide (16<((List.length s:Nat):Int))))::(AV.bool (decide (16<((List.length s:Nat):Int))))::(AV.str s)::(AV.int .u8 (((s.g 0).toNat:Nat):Int))::(AV.bool (decide ((((s.g 0).toNat:Nat):Int)<97)))::(AV.bool (decide ((((s.g 0).toNat:Nat):Int)<97)))::(AV.bool (decide ((((s.g 0).toNat:Nat):Int)<97)))::(AV.str s)::(AV.int .u8 (((s.g 0).toNat:Nat):Int))::(AV.bool (decide (122<(((s.g 0).toNat:Nat):Int))))::(AV.bool (decide (122<(((s.g 0).toNat:Nat):Int))))::g4 27):List AV).getD k_ AV.undef) h bW (Has.refl _))
           have nz:=eh.y
           have FN:h.nx≤h9.nx:=eh.n
           have hZ:Has h h9:=eh.a
           have e:ek s=VS:=by simp only[ek,f0,f1,f2,f3,mc,cond_true,cond_false]
           rw[e]
           exact aD rfl (bb Tryz.func28 rN rfl (.inr rfl) (pk (d) _ _ h _ h9 (CN 3<|VV (lr 3 false true .i64 ((List.length s:Nat):Int) 0)<|CC<|BC f0<|BC f0<|BV f0 (bR 3 false true .i64 ((List.length s:Nat):Int) 16)<|VV (bA (a:=some (AV.bool true)) (b:=some (AV.bool (decide (16<((List.length s:Nat):Int))))) f0)<|CC<|BC f1<|BV f1 Nf<|BV f1 (ba 5 false true .u8 (((s.g 0).toNat:Nat):Int) 97)<|VV (bA (a:=some (AV.bool true)) (b:=some (AV.bool (decide ((((s.g 0).toNat:Nat):Int)<97)))) f1)<|CC<|BC f2<|BV f2 BN<|BV f2 (bR 5 false true .u8 (((s.g 0).toNat:Nat):Int) 122)<|VV (bA (a:=some (AV.bool true)) (b:=some (AV.bool (decide (122<(((s.g 0).toNat:Nat):Int))))) f2)<|BC f3<|LL mO<|ZZ) k!) k!) hZ rfl
def ya (c:UInt8):Bool:=decide (97≤((c.toNat:Nat):Int))&&decide (((c.toNat:Nat):Int)≤122)
def digit (c:UInt8):Bool:=decide (48≤((c.toNat:Nat):Int))&&decide (((c.toNat:Nat):Int)≤57)
def dash (c:UInt8):Bool:=decide (((c.toNat:Nat):Int)=45)
def zW (f:Nat→Bool):Nat→Nat→Bool
 | 0,_=>true
 | k+1,i=>f i&&zW f k (i+1)
theorem all_congr {f g:Nat→Bool}:∀(k i:Nat),(∀j,i≤j→j<i+k→f j=g j)→zW f k i=zW g k i
 | 0,_,_=>rfl
 | k+1,i,h=>by
   rw[zW,zW,h i (Nat.le_refl _) o!,all_congr k (i+1) fun j h1 h2=>h j o! o!]
theorem Wf (a b:Int):decide (a<b)= !decide (b≤a):=by
 by_cases h:a<b
 · rw[decide_eq_true h,decide_eq_false o!];rfl
 · rw[decide_eq_false h,decide_eq_true o!];rfl
theorem Ho (s:List UInt8):∀(k i:Nat),jk s k i=bif zW (fun j=>ya (s.g j)||(!decide ((j:Int)=0)&&(digit (s.g j)||dash (s.g j)))) k i then none else some false
 | 0,_=>rfl
 | k+1,i=>by
   rw[jk,zW,Ho s k (i+1),ya,digit,dash]
   generalize zW _ k (i+1)=z
   generalize decide (97≤(((s.g i).toNat:Nat):Int))=a
   generalize decide ((((s.g i).toNat:Nat):Int)≤122)=b
   generalize decide (48≤(((s.g i).toNat:Nat):Int))=c
   generalize decide ((((s.g i).toNat:Nat):Int)≤57)=d
   generalize decide ((((s.g i).toNat:Nat):Int)=45)=e
   generalize decide ((i:Int)=0)=f
   cases a<;>cases b<;>cases c<;>cases d<;>cases e<;>cases f<;>rfl
theorem Hp (s:List UInt8):∀(k i:Nat),di s k i=bif zW (fun j=>ya (s.g j)||(digit (s.g j)||dash (s.g j))) k i then none else some false
 | 0,_=>rfl
 | k+1,i=>by
   rw[di,zW,Hp s k (i+1),ya,digit,dash]
   simp only[Wf]
   generalize zW _ k (i+1)=z
   generalize decide (97≤(((s.g i).toNat:Nat):Int))=a
   generalize decide ((((s.g i).toNat:Nat):Int)≤122)=b
   generalize decide (48≤(((s.g i).toNat:Nat):Int))=c
   generalize decide ((((s.g i).toNat:Nat):Int)≤57)=d
   generalize decide ((((s.g i).toNat:Nat):Int)=45)=e
   cases a<;>cases b<;>cases c<;>cases d<;>cases e<;>rfl
theorem Qb (s:List UInt8):gC s=ek s:=by
 unfold gC ek
 cases s with
 | nil=>rfl
 | cons x s=>
   rw[decide_eq_false (show ¬x::s=[] by simp),decide_eq_false (show ¬(((x::s).length:Nat):Int)=0 by simp;omega)]
   cases decide (16<(((x::s).length:Nat):Int)) with
   | true=>rfl
   | false=>
     rw[Ho,Hp,List.length_cons,zW,zW,Wf,Wf]
     rw[all_congr (f:=fun j=>ya ((x::s).g j)||(!decide ((j:Int)=0)&&(digit ((x::s).g j)||dash ((x::s).g j)))) (g:=fun j=>ya ((x::s).g j)||(digit ((x::s).g j)||dash ((x::s).g j))) s.length (0+1) fun j hj _=>by
      simp only[decide_eq_false (show ¬(j:Int)=0 by omega),Bool.not_false,Bool.true_and]]
     simp only[ya]
     rw[show decide (((0:Nat):Int)=0)=true from rfl]
     generalize zW _ s.length (0+1)=z
     generalize decide (97≤((((x::s).g 0).toNat:Nat):Int))=a
     generalize decide (((((x::s).g 0).toNat:Nat):Int)≤122)=b
     generalize digit ((x::s).g 0)=c
     generalize dash ((x::s).g 0)=e
     cases a<;>cases b<;>cases c<;>cases e<;>cases z<;>rfl
noncomputable def oB:Code:=(Tryz.f29.body).getD .skip
theorem im:Tryz.f29.body=some oB:=by kernel_rfl
noncomputable def v8:Code:=(bE oB).getD 0 .skip
def cb (x_:bJ):Nat→Nat→Option (Int)
 | 0,_=>none
 | dz+1,i0=>(bif (!(cD ((x_.off.g i0).a_))) then some 1 else (bif (!(cD ((x_.off.g i0).aN))) then some 1 else (bif (decide (((x_.off.g i0).aN)<((x_.off.g i0).a_))) then some 1 else (bif (decide (0<((i0:Nat):Int))) then (bif (decide (((x_.off.g i0).a_)≤((x_.off.g (i0 - 1)).aN))) then some 1 else cb x_ dz (i0+1)) else cb x_ dz (i0+1)))))
theorem ir {d:Nat} {h:au} (x_:bJ) (br:Nat) (bn:x_.name.length<2^60) (b8:aS h x_.cB x_.off) (gU:aL.ok h x_):∀(k_ i_:Nat) (_:i_+k_=x_.off.length) (x:Nat→AV) (hh:au) (aE:Tidy hh) (aB:Has h hh) (bj:hh.get br=some (aM.cells [(AV.str x_.name),(Zi x_.ay),x_.cB] 41 false)),aA (cR (d+1)) v8 ⟨((x 0)::(Pt br)::(x 2)::(Zn i_)::rx x 4 58 []),hh,[],.no⟩ (.exit 0) hh (fun y=>((y 0)::(Pt br)::rx y 2 60 [])) (fun r y=>((y 0)::(Pt br)::(Zi r)::rx y 3 59 [])) (cb x_ k_ i_)
 | 0,i0,fX,x,hh,aE,aB,bj=>by
   have eJ:=b8.small
   have je:=aE _ _ bj
   have dG:b6 (some (.slice 74)) (some x_.cB)=some (Zn x_.off.length):=(b8.has aB).len
   have q2:(decide (((i0:Nat):Int)<((x_.off.length:Nat):Int)))=false:=d!
   exact aA.out rfl (pk (d+1) _ _ hh _ hh (CN 2<|MM (aw 39 2 x_.cB bj k!)<|VV dG<|VV (ba 3 false false .i64 ((i0:Nat):Int) ((x_.off.length:Nat):Int))<|BB q2<|ZZ) k!) (bF.refl aE) k!
 | dz+1,i0,fX,x,hh,aE,aB,bj=>by
   have eJ:=b8.small
   have je:=aE _ _ bj
   have dG:b6 (some (.slice 74)) (some x_.cB)=some (Zn x_.off.length):=(b8.has aB).len
   have q2:(decide (((i0:Nat):Int)<((x_.off.length:Nat):Int)))=true:=d!
   obtain ⟨p4,q5,iW⟩:=(b8.has aB).elem (i:=i0) o!
   have iG:bS env (some (.slice 74)) (some x_.cB) (some (Zn i0))=some (AV.ptr p4 q5):=iW
   have iV:bh env hh 74 (AV.ptr p4 q5)=some (AV.agg [(Zi ((x_.off.g i0).a_)),(Zi ((x_.off.g i0).aN))]):=(b8.has aB).load o! iW
   obtain ⟨h7,zX,fQ,zl,fD,oU⟩:=j_ aE (aM.cells [(Zi 0),(Zi 0)] 74 false)
   have eL:Has hh h7:=oU
   obtain ⟨h8,zY,qO,aca,dE,jY⟩:=qL (t:=74) (n:=2) (i:=hh.nx) (L:=[(Zi ((x_.off.g i0).a_)),(Zi ((x_.off.g i0).aN))]) fQ fD k! rfl rfl (by simp only[AV.cells,List.all_cons,List.all_nil,Bool.and_true,Bool.and_self,iO,fY,iP,iQ,eS,mg,mh,mi,mj,ml,iR])
   have pc:Has hh h8:=Has.ea eL jY aE o!
   have k9:=vO (d:=d) ((x_.off.g i0).a_) qO
   rcases Bool.eq_false_or_eq_true (!(cD ((x_.off.g i0).a_))) with f1 | f1
   · exact aA.ret 1 (by simp only[cb,f1,cond_true,cond_false]) (pk (d+1) _ _ hh _ h8 (CN 2<|MM (aw 39 2 x_.cB bj k!)<|VV dG<|VV (ba 3 false false .i64 ((i0:Nat):Int) ((x_.off.length:Nat):Int))<|BC q2<|MM (aw 39 2 x_.cB bj k!)<|CC<|VV iG<|MM iV<|NN zX (fun i=>(Pt i))<|SS zY<|CC<|MM (aw 3 0 (Zi ((x_.off.g i0).a_)) dE k!)<|EE k9<|CN 2<|BB f1<|BB f1<|BB f1<|BV f1 (uN true f1)<|CC<|TT<|TT<|TT<|TT<|TT<|CN 2<|TT<|TT<|TT<|TT<|CC<|HH (aw 3 0 (Zi ((x_.off.g i0).a_)) dE k!)<|HH (show AV.same 20 (Zi ((x_.off.g i0).a_)) (Zi ((x_.off.g i0).a_))=true from aJ 19 _ _)<|TT<|CC<|ZZ) k!) (⟨qO,pc,by omega⟩) k!
   · have FJ:=vO (d:=d) ((x_.off.g i0).aN) qO
     rcases Bool.eq_false_or_eq_true (!(cD ((x_.off.g i0).aN))) with f2 | f2
     · exact aA.ret 1 (by simp only[cb,f1,f2,cond_true,cond_false]) (pk (d+1) _ _ hh _ h8 (CN 2<|MM (aw 39 2 x_.cB bj k!)<|VV dG<|VV (ba 3 false false .i64 ((i0:Nat):Int) ((x_.off.length:Nat):Int))<|BC q2<|MM (aw 39 2 x_.cB bj k!)<|CC<|VV iG<|MM iV<|NN zX (fun i=>(Pt i))<|SS zY<|CC<|MM (aw 3 0 (Zi ((x_.off.g i0).a_)) dE k!)<|EE k9<|CN 2<|BC f1<|BM f1 (aw 3 1 (Zi ((x_.off.g i0).aN)) dE k!)<|BB f1<|EE FJ<|BC f1<|VV (bA (a:=some (AV.bool true)) (b:=some (AV.bool (!(cD ((x_.off.g i0).aN))))) f1)<|CC<|BB f2<|BB f2<|BB f2<|BB f2<|BV f2 (uN true f2)<|CC<|TT<|TT<|TT<|TT<|CC<|HH (aw 3 0 (Zi ((x_.off.g i0).a_)) dE k!)<|HH (show AV.same 20 (Zi ((x_.off.g i0).a_)) (Zi ((x_.off.g i0).a_))=true from aJ 19 _ _)<|HH (aw 3 1 (Zi ((x_.off.g i0).aN)) dE k!)<|HH (show AV.same 20 (Zi ((x_.off.g i0).aN)) (Zi ((x_.off.g i0).aN))=true from aJ 19 _ _)<|TT<|CC<|ZZ) k!) (⟨qO,pc,by omega⟩) k!
     · rcases Bool.eq_false_or_eq_true (decide (((x_.off.g i0).aN)<((x_.off.g i0).a_))) with f3 | f3
       · have mX:=of_decide_eq_true f3
         exact aA.ret 1 (by simp only[cb,f1,f2,f3,cond_true,cond_false]) (pk (d+1) _ _ hh _ h8 (CN 2<|MM (aw 39 2 x_.cB bj k!)<|VV dG<|VV (ba 3 false false .i64 ((i0:Nat):Int) ((x_.off.length:Nat):Int))<|BC q2<|MM (aw 39 2 x_.cB bj k!)<|CC<|VV iG<|MM iV<|NN zX (fun i=>(Pt i))<|SS zY<|CC<|MM (aw 3 0 (Zi ((x_.off.g i0).a_)) dE k!)<|EE k9<|CN 2<|BC f1<|BM f1 (aw 3 1 (Zi ((x_.off.g i0).aN)) dE k!)<|BB f1<|EE FJ<|BC f1<|VV (bA (a:=some (AV.bool true)) (b:=some (AV.bool (!(cD ((x_.off.g i0).aN))))) f1)<|CC<|BC f2<|BM f2 (aw 3 0 (Zi ((x_.off.g i0).a_)) dE k!)<|BC f2<|BM f2 (aw 3 1 (Zi ((x_.off.g i0).aN)) dE k!)<|BV f2 (bR 3 false false .i64 ((x_.off.g i0).a_) ((x_.off.g i0).aN))<|VV (bA (a:=some (AV.bool true)) (b:=some (AV.bool (decide (((x_.off.g i0).aN)<((x_.off.g i0).a_))))) f2)<|CC<|BB f3<|BB f3<|BB f3<|BV f3 (uN true f3)<|HH (aw 3 0 (Zi ((x_.off.g i0).a_)) dE k!)<|HH (show AV.same 20 (Zi ((x_.off.g i0).a_)) (Zi ((x_.off.g i0).a_))=true from aJ 19 _ _)<|HH (aw 3 1 (Zi ((x_.off.g i0).aN)) dE k!)<|HH (show AV.same 20 (Zi ((x_.off.g i0).aN)) (Zi ((x_.off.g i0).aN))=true from aJ 19 _ _)<|HH (aw 3 0 (Zi ((x_.off.g i0).a_)) dE k!)<|HH (show AV.same 20 (Zi ((x_.off.g i0).a_)) (Zi ((x_.off.g i0).a_))=true from aJ 19 _ _)<|HH (aw 3 1 (Zi ((x_.off.g i0).aN)) dE k!)<|HH (show AV.same 20 (Zi ((x_.off.g i0).aN)) (Zi ((x_.off.g i0).aN))=true from aJ 19 _ _)<|TT<|CC<|ZZ) k!) (⟨qO,pc,by omega⟩) k!
       · have mX:=of_decide_eq_false f3
         rcases Bool.eq_false_or_eq_true (decide (0<((i0:Nat):Int))) with f4 | f4
         · have sy:=of_decide_eq_true f4
           have u15:=aeL 3 false true i0 1 o! o!
           obtain ⟨p17,q18,B2⟩:=(b8.has aB).elem (i:=(i0 - 1)) o!
           have Cf:bS env (some (.slice 74)) (some x_.cB) (some (Zn (i0 - 1)))=some (AV.ptr p17 q18):=B2
           have vX:bh env h8 3 (AV.ptr p17 (q18+1))=some (Zi ((x_.off.g (i0 - 1)).aN)):=((b8.has aB).has pc).part (t:=3) (j:=1) o! B2 k! rfl
           have Sx:AV.same 20 x_.cB x_.cB=true:=(b8.has aB).same 19
           rcases Bool.eq_false_or_eq_true (decide (((x_.off.g i0).a_)≤((x_.off.g (i0 - 1)).aN))) with f5 | f5
           · have Wd:=of_decide_eq_true f5
             exact aA.ret 1 (by simp only[cb,f1,f2,f3,f4,f5,cond_true,cond_false]) (pk (d+1) _ _ hh _ h8 (CN 2<|MM (aw 39 2 x_.cB bj k!)<|VV dG<|VV (ba 3 false false .i64 ((i0:Nat):Int) ((x_.off.length:Nat):Int))<|BC q2<|MM (aw 39 2 x_.cB bj k!)<|CC<|VV iG<|MM iV<|NN zX (fun i=>(Pt i))<|SS zY<|CC<|MM (aw 3 0 (Zi ((x_.off.g i0).a_)) dE k!)<|EE k9<|CN 2<|BC f1<|BM f1 (aw 3 1 (Zi ((x_.off.g i0).aN)) dE k!)<|BB f1<|EE FJ<|BC f1<|VV (bA (a:=some (AV.bool true)) (b:=some (AV.bool (!(cD ((x_.off.g i0).aN))))) f1)<|CC<|BC f2<|BM f2 (aw 3 0 (Zi ((x_.off.g i0).a_)) dE k!)<|BC f2<|BM f2 (aw 3 1 (Zi ((x_.off.g i0).aN)) dE k!)<|BV f2 (bR 3 false false .i64 ((x_.off.g i0).a_) ((x_.off.g i0).aN))<|VV (bA (a:=some (AV.bool true)) (b:=some (AV.bool (decide (((x_.off.g i0).aN)<((x_.off.g i0).a_))))) f2)<|CC<|BC f3<|BV f3 (bR 3 false true .i64 ((i0:Nat):Int) 0)<|BC f3<|BC f4<|BM f4 (aw 3 0 (Zi ((x_.off.g i0).a_)) dE k!)<|BC f4<|BM f4 (aw 39 2 x_.cB (jY _ _ o! (oU _ _ bj)) k!)<|BC f4<|BV f4 u15<|BV f4 Cf<|BC f4<|BM f4 vX<|BV f4 (pS 3 false false .i64 ((x_.off.g i0).a_) ((x_.off.g (i0 - 1)).aN))<|BV f3 (kI (decide (((x_.off.g i0).a_)≤((x_.off.g (i0 - 1)).aN))) false f4)<|VV (bA (a:=some (AV.bool true)) (b:=some (AV.bool (decide (((x_.off.g i0).a_)≤((x_.off.g (i0 - 1)).aN))))) f3)<|HH (aw 3 0 (Zi ((x_.off.g i0).a_)) dE k!)<|HH (show AV.same 20 (Zi ((x_.off.g i0).a_)) (Zi ((x_.off.g i0).a_))=true from aJ 19 _ _)<|HH (aw 3 1 (Zi ((x_.off.g i0).aN)) dE k!)<|HH (show AV.same 20 (Zi ((x_.off.g i0).aN)) (Zi ((x_.off.g i0).aN))=true from aJ 19 _ _)<|HH (aw 3 0 (Zi ((x_.off.g i0).a_)) dE k!)<|HH (show AV.same 20 (Zi ((x_.off.g i0).a_)) (Zi ((x_.off.g i0).a_))=true from aJ 19 _ _)<|HH (aw 3 1 (Zi ((x_.off.g i0).aN)) dE k!)<|HH (show AV.same 20 (Zi ((x_.off.g i0).aN)) (Zi ((x_.off.g i0).aN))=true from aJ 19 _ _)<|HH (aw 3 0 (Zi ((x_.off.g i0).a_)) dE k!)<|HH (show AV.same 20 (Zi ((x_.off.g i0).a_)) (Zi ((x_.off.g i0).a_))=true from aJ 19 _ _)<|HH (aw 39 2 x_.cB (jY _ _ o! (oU _ _ bj)) k!)<|HH Sx<|HH vX<|HH (show AV.same 20 (Zi ((x_.off.g (i0 - 1)).aN)) (Zi ((x_.off.g (i0 - 1)).aN))=true from aJ 19 _ _)<|BC f5<|ZZ) k!) (⟨qO,pc,by omega⟩) k!
           · have Wd:=of_decide_eq_false f5
             have u22:=fe 3 false true i0 1 o!
             exact aA.round (by simp only[cb,f1,f2,f3,f4,f5,cond_true,cond_false]) (pk (d+1) _ _ hh _ h8 (CN 2<|MM (aw 39 2 x_.cB bj k!)<|VV dG<|VV (ba 3 false false .i64 ((i0:Nat):Int) ((x_.off.length:Nat):Int))<|BC q2<|MM (aw 39 2 x_.cB bj k!)<|CC<|VV iG<|MM iV<|NN zX (fun i=>(Pt i))<|SS zY<|CC<|MM (aw 3 0 (Zi ((x_.off.g i0).a_)) dE k!)<|EE k9<|CN 2<|BC f1<|BM f1 (aw 3 1 (Zi ((x_.off.g i0).aN)) dE k!)<|BB f1<|EE FJ<|BC f1<|VV (bA (a:=some (AV.bool true)) (b:=some (AV.bool (!(cD ((x_.off.g i0).aN))))) f1)<|CC<|BC f2<|BM f2 (aw 3 0 (Zi ((x_.off.g i0).a_)) dE k!)<|BC f2<|BM f2 (aw 3 1 (Zi ((x_.off.g i0).aN)) dE k!)<|BV f2 (bR 3 false false .i64 ((x_.off.g i0).a_) ((x_.off.g i0).aN))<|VV (bA (a:=some (AV.bool true)) (b:=some (AV.bool (decide (((x_.off.g i0).aN)<((x_.off.g i0).a_))))) f2)<|CC<|BC f3<|BV f3 (bR 3 false true .i64 ((i0:Nat):Int) 0)<|BC f3<|BC f4<|BM f4 (aw 3 0 (Zi ((x_.off.g i0).a_)) dE k!)<|BC f4<|BM f4 (aw 39 2 x_.cB (jY _ _ o! (oU _ _ bj)) k!)<|BC f4<|BV f4 u15<|BV f4 Cf<|BC f4<|BM f4 vX<|BV f4 (pS 3 false false .i64 ((x_.off.g i0).a_) ((x_.off.g (i0 - 1)).aN))<|BV f3 (kI (decide (((x_.off.g i0).a_)≤((x_.off.g (i0 - 1)).aN))) false f4)<|VV (bA (a:=some (AV.bool true)) (b:=some (AV.bool (decide (((x_.off.g i0).a_)≤((x_.off.g (i0 - 1)).aN))))) f3)<|HH (aw 3 0 (Zi ((x_.off.g i0).a_)) dE k!)<|HH (show AV.same 20 (Zi ((x_.off.g i0).a_)) (Zi ((x_.off.g i0).a_))=true from aJ 19 _ _)<|HH (aw 3 1 (Zi ((x_.off.g i0).aN)) dE k!)<|HH (show AV.same 20 (Zi ((x_.off.g i0).aN)) (Zi ((x_.off.g i0).aN))=true from aJ 19 _ _)<|HH (aw 3 0 (Zi ((x_.off.g i0).a_)) dE k!)<|HH (show AV.same 20 (Zi ((x_.off.g i0).a_)) (Zi ((x_.off.g i0).a_))=true from aJ 19 _ _)<|HH (aw 3 1 (Zi ((x_.off.g i0).aN)) dE k!)<|HH (show AV.same 20 (Zi ((x_.off.g i0).aN)) (Zi ((x_.off.g i0).aN))=true from aJ 19 _ _)<|HH (aw 3 0 (Zi ((x_.off.g i0).a_)) dE k!)<|HH (show AV.same 20 (Zi ((x_.off.g i0).a_)) (Zi ((x_.off.g i0).a_))=true from aJ 19 _ _)<|HH (aw 39 2 x_.cB (jY _ _ o! (oU _ _ bj)) k!)<|HH Sx<|HH vX<|HH (show AV.same 20 (Zi ((x_.off.g (i0 - 1)).aN)) (Zi ((x_.off.g (i0 - 1)).aN))=true from aJ 19 _ _)<|BC f5<|VV u22<|CC<|ZZ) k!) (⟨qO,pc,by omega⟩) _ k! (fun x=>ir x_ br bn b8 gU dz (i0+1) o! x h8 qO (aB.trans pc) (jY _ _ o! (oU _ _ bj)))
         · have sy:=of_decide_eq_false f4
           have u15:=fe 3 false true i0 1 o!
           exact aA.round (by simp only[cb,f1,f2,f3,f4,cond_true,cond_false]) (pk (d+1) _ _ hh _ h8 (CN 2<|MM (aw 39 2 x_.cB bj k!)<|VV dG<|VV (ba 3 false false .i64 ((i0:Nat):Int) ((x_.off.length:Nat):Int))<|BC q2<|MM (aw 39 2 x_.cB bj k!)<|CC<|VV iG<|MM iV<|NN zX (fun i=>(Pt i))<|SS zY<|CC<|MM (aw 3 0 (Zi ((x_.off.g i0).a_)) dE k!)<|EE k9<|CN 2<|BC f1<|BM f1 (aw 3 1 (Zi ((x_.off.g i0).aN)) dE k!)<|BB f1<|EE FJ<|BC f1<|VV (bA (a:=some (AV.bool true)) (b:=some (AV.bool (!(cD ((x_.off.g i0).aN))))) f1)<|CC<|BC f2<|BM f2 (aw 3 0 (Zi ((x_.off.g i0).a_)) dE k!)<|BC f2<|BM f2 (aw 3 1 (Zi ((x_.off.g i0).aN)) dE k!)<|BV f2 (bR 3 false false .i64 ((x_.off.g i0).a_) ((x_.off.g i0).aN))<|VV (bA (a:=some (AV.bool true)) (b:=some (AV.bool (decide (((x_.off.g i0).aN)<((x_.off.g i0).a_))))) f2)<|CC<|BC f3<|BV f3 (bR 3 false true .i64 ((i0:Nat):Int) 0)<|BC f3<|BB f4<|BB f4<|BB f4<|BB f4<|BB f4<|BB f4<|BB f4<|BB f4<|BB f4<|BB f4<|BV f3 (tS false f4)<|VV (pcf true false f3)<|HH (aw 3 0 (Zi ((x_.off.g i0).a_)) dE k!)<|HH (show AV.same 20 (Zi ((x_.off.g i0).a_)) (Zi ((x_.off.g i0).a_))=true from aJ 19 _ _)<|HH (aw 3 1 (Zi ((x_.off.g i0).aN)) dE k!)<|HH (show AV.same 20 (Zi ((x_.off.g i0).aN)) (Zi ((x_.off.g i0).aN))=true from aJ 19 _ _)<|HH (aw 3 0 (Zi ((x_.off.g i0).a_)) dE k!)<|HH (show AV.same 20 (Zi ((x_.off.g i0).a_)) (Zi ((x_.off.g i0).a_))=true from aJ 19 _ _)<|HH (aw 3 1 (Zi ((x_.off.g i0).aN)) dE k!)<|HH (show AV.same 20 (Zi ((x_.off.g i0).aN)) (Zi ((x_.off.g i0).aN))=true from aJ 19 _ _)<|FF<|CC<|VV u15<|CC<|ZZ) k!) (⟨qO,pc,by omega⟩) _ k! (fun x=>ir x_ br bn b8 gU dz (i0+1) o! x h8 qO (aB.trans pc) (jY _ _ o! (oU _ _ bj)))
def bO (x_:bJ):Int:=(bif (decide (x_.ay<0)) then 1 else (bif (decide (1000<x_.ay)) then 1 else (bif (decide (16<((x_.off.length:Nat):Int))) then 3 else (match (cb x_ x_.off.length 0) with | none=>0 | some rr6=>rr6))))
theorem zZ {d:Nat} {h:au} (x_:bJ) (g8:aL.ok h x_) (bW:Tidy h):cR (d+2) (.fn 29) [(AV.agg [(AV.str x_.name),(Zi x_.ay),x_.cB])] h= .ret (Zi (bO x_)) h:=by
 have af2:=g8.2.small
 obtain ⟨h1,bM,cx,jc,aQ,cA⟩:=j_ bW (aM.cells [(AV.str x_.name),(Zi x_.ay),x_.cB] 41 false)
 have bt:Has h h1:=cA
 rcases Bool.eq_false_or_eq_true (decide (x_.ay<0)) with f0 | f0
 · have dO:=of_decide_eq_true f0
   have e:bO x_=1:=by simp only[bO,f0,cond_true,cond_false]
   rw[e]
   exact aD rfl (bb Tryz.func29 im rfl (.inr rfl) (pk (d+1) _ _ h _ h1 (NN bM (fun i=>(Pt i))<|CN 2<|MM (aw 3 1 (Zi x_.ay) aQ k!)<|VV (ba 3 false true .i64 x_.ay 0)<|CC<|BB f0<|BB f0<|BV f0 (uN true f0)<|TT<|CC<|ZZ) k!) k!) bt rfl
 · have dO:=of_decide_eq_false f0
   rcases Bool.eq_false_or_eq_true (decide (1000<x_.ay)) with f1 | f1
   · have dC:=of_decide_eq_true f1
     have e:bO x_=1:=by simp only[bO,f0,f1,cond_true,cond_false]
     rw[e]
     exact aD rfl (bb Tryz.func29 im rfl (.inr rfl) (pk (d+1) _ _ h _ h1 (NN bM (fun i=>(Pt i))<|CN 2<|MM (aw 3 1 (Zi x_.ay) aQ k!)<|VV (ba 3 false true .i64 x_.ay 0)<|CC<|BC f0<|BM f0 (aw 3 1 (Zi x_.ay) aQ k!)<|BV f0 (bR 3 false true .i64 x_.ay 1000)<|VV (bA (a:=some (AV.bool true)) (b:=some (AV.bool (decide (1000<x_.ay)))) f0)<|BC f1<|ZZ) k!) k!) bt rfl
   · have dC:=of_decide_eq_false f1
     have CP:b6 (some (.slice 74)) (some x_.cB)=some (Zn x_.off.length):=g8.2.len
     rcases Bool.eq_false_or_eq_true (decide (16<((x_.off.length:Nat):Int))) with f2 | f2
     · have jw:=of_decide_eq_true f2
       have e:bO x_=3:=by simp only[bO,f0,f1,f2,cond_true,cond_false]
       rw[e]
       exact aD rfl (bb Tryz.func29 im rfl (.inr rfl) (pk (d+1) _ _ h _ h1 (NN bM (fun i=>(Pt i))<|CN 2<|MM (aw 3 1 (Zi x_.ay) aQ k!)<|VV (ba 3 false true .i64 x_.ay 0)<|CC<|BC f0<|BM f0 (aw 3 1 (Zi x_.ay) aQ k!)<|BV f0 (bR 3 false true .i64 x_.ay 1000)<|VV (bA (a:=some (AV.bool true)) (b:=some (AV.bool (decide (1000<x_.ay)))) f0)<|BC f1<|MM (aw 39 2 x_.cB aQ k!)<|VV CP<|VV (bR 3 false true .i64 ((x_.off.length:Nat):Int) 16)<|BC f2<|ZZ) k!) k!) bt rfl
     · have jw:=of_decide_eq_false f2
       cases Jo:cb x_ x_.off.length 0 with
       | none=>
         obtain ⟨yl6,h7,E0,Cs⟩:=aA.n Jo (ir (d:=d) (h:=h) x_ h.nx g8.1 g8.2 g8 x_.off.length 0 o! (fun k_=>(((AV.agg [(AV.str x_.name),(Zi x_.ay),x_.cB])::(Pt h.nx)::(Zi 0)::(Zi 0)::AV.undef::(AV.ptr h.nx 1)::(Zi x_.ay)::(AV.bool (decide (x_.ay<0)))::(AV.bool (decide (x_.ay<0)))::(AV.ptr h.nx 1)::(Zi x_.ay)::(AV.bool (decide (1000<x_.ay)))::(AV.bool (decide (1000<x_.ay)))::(AV.ptr h.nx 2)::x_.cB::(Zn x_.off.length)::(AV.bool (decide (16<((x_.off.length:Nat):Int))))::g4 45):List AV).getD k_ AV.undef) h1 cx bt aQ)
         have fQ:=Cs.y
         have abV:h1.nx≤h7.nx:=Cs.n
         have eL:Has h h7:=bt.trans Cs.a
         have e:bO x_=0:=by simp only[bO,f0,f1,f2,Jo,cond_true,cond_false]
         rw[e]
         exact aD rfl (bb Tryz.func29 im rfl (.inr rfl) (pk (d+1) _ _ h _ h7 (NN bM (fun i=>(Pt i))<|CN 2<|MM (aw 3 1 (Zi x_.ay) aQ k!)<|VV (ba 3 false true .i64 x_.ay 0)<|CC<|BC f0<|BM f0 (aw 3 1 (Zi x_.ay) aQ k!)<|BV f0 (bR 3 false true .i64 x_.ay 1000)<|VV (bA (a:=some (AV.bool true)) (b:=some (AV.bool (decide (1000<x_.ay)))) f0)<|BC f1<|MM (aw 39 2 x_.cB aQ k!)<|VV CP<|VV (bR 3 false true .i64 ((x_.off.length:Nat):Int) 16)<|BC f2<|LL E0<|CC<|ZZ) k!) k!) eL rfl
       | some rr6=>
         obtain ⟨yl6,h7,E0,Cs⟩:=aA.r Jo (ir (d:=d) (h:=h) x_ h.nx g8.1 g8.2 g8 x_.off.length 0 o! (fun k_=>(((AV.agg [(AV.str x_.name),(Zi x_.ay),x_.cB])::(Pt h.nx)::(Zi 0)::(Zi 0)::AV.undef::(AV.ptr h.nx 1)::(Zi x_.ay)::(AV.bool (decide (x_.ay<0)))::(AV.bool (decide (x_.ay<0)))::(AV.ptr h.nx 1)::(Zi x_.ay)::(AV.bool (decide (1000<x_.ay)))::(AV.bool (decide (1000<x_.ay)))::(AV.ptr h.nx 2)::x_.cB::(Zn x_.off.length)::(AV.bool (decide (16<((x_.off.length:Nat):Int))))::g4 45):List AV).getD k_ AV.undef) h1 cx bt aQ)
         have fQ:=Cs.y
         have abV:h1.nx≤h7.nx:=Cs.n
         have eL:Has h h7:=bt.trans Cs.a
         have e:bO x_=rr6:=by simp only[bO,f0,f1,f2,Jo,cond_true,cond_false]
         rw[e]
         exact aD rfl (bb Tryz.func29 im rfl (.inr rfl) (pk (d+1) _ _ h _ h7 (NN bM (fun i=>(Pt i))<|CN 2<|MM (aw 3 1 (Zi x_.ay) aQ k!)<|VV (ba 3 false true .i64 x_.ay 0)<|CC<|BC f0<|BM f0 (aw 3 1 (Zi x_.ay) aQ k!)<|BV f0 (bR 3 false true .i64 x_.ay 1000)<|VV (bA (a:=some (AV.bool true)) (b:=some (AV.bool (decide (1000<x_.ay)))) f0)<|BC f1<|MM (aw 39 2 x_.cB aQ k!)<|VV CP<|VV (bR 3 false true .i64 ((x_.off.length:Nat):Int) 16)<|BC f2<|LL E0<|ZZ) k!) k!) eL rfl
end Go.Proofs.aP
