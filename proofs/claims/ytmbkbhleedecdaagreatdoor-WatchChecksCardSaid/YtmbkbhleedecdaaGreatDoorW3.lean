import Derived.Test.YtmbkbhleedecdaaGreatDoorW0
namespace Go.Proofs.aM
open Go.Proofs Ab
noncomputable section
set_option maxRecDepth 100000
set_option maxHeartbeats 4000000
set_option linter.unusedVariables false
set_option linter.unusedSimpArgs false
def zO:Code:=(Tryz.f33.body).getD .skip
theorem qt:Tryz.f33.body=some zO:=by kernel_rfl
def Kn:Code:=(b5 zO).getD 0 .skip
def cQ (s:List UInt8):Nat→Nat→Option (Bool)
 | 0,_=>none
 | eC+1,i0=>(bif (decide ((((s.g i0).toNat:Nat):Int)<97)) then (bif (decide ((((s.g i0).toNat:Nat):Int)<48)) then (bif (!decide ((((s.g i0).toNat:Nat):Int)=45)) then some false else cQ s eC (i0+1)) else (bif (decide (57<(((s.g i0).toNat:Nat):Int))) then (bif (!decide ((((s.g i0).toNat:Nat):Int)=45)) then some false else cQ s eC (i0+1)) else cQ s eC (i0+1))) else (bif (decide (122<(((s.g i0).toNat:Nat):Int))) then (bif (decide ((((s.g i0).toNat:Nat):Int)<48)) then (bif (!decide ((((s.g i0).toNat:Nat):Int)=45)) then some false else cQ s eC (i0+1)) else (bif (decide (57<(((s.g i0).toNat:Nat):Int))) then (bif (!decide ((((s.g i0).toNat:Nat):Int)=45)) then some false else cQ s eC (i0+1)) else cQ s eC (i0+1))) else cQ s eC (i0+1)))
theorem gK {d:Nat} {h:ax} (s:List UInt8) (bh:s.length<2^60):∀(k_ i_:Nat) (_:i_+k_=(List.length s)) (x:Nat→AV) (hh:ax) (aF:Tidy hh) (aG:Has h hh),aB (cT (d)) Kn ⟨((AV.str s)::(x 1)::(x 2)::(Zn i_)::rx x 4 46 []),hh,[],.no⟩ (.exit 0) hh (fun y=>((AV.str s)::rx y 1 49 [])) (fun r y=>((AV.str s)::(y 1)::(AV.bool r)::rx y 3 47 [])) (cQ s k_ i_)
 | 0,i0,jh,x,hh,aF,aG=>by
   have sn1:s.length<2^60:=bh
   have q2:(decide (((i0:Nat):Int)<((List.length s:Nat):Int)))=false:=d!
   exact aB.out rfl (pk (d) _ _ hh _ hh (CN 3<|VV (aY 3 false false .i64 ((i0:Nat):Int) ((List.length s:Nat):Int))<|BB q2<|ZZ) k!) (bW.refl aF) k!
 | eC+1,i0,jh,x,hh,aF,aG=>by
   have sn1:s.length<2^60:=bh
   have q2:(decide (((i0:Nat):Int)<((List.length s:Nat):Int)))=true:=d!
   have mU:j9 env (some .string) (some (AV.str s)) (some (Zn i0))=some (AV.int .u8 (((s.g i0).toNat:Nat):Int)):=jO (j:=i0) o!
   rcases Bool.eq_false_or_eq_true (decide ((((s.g i0).toNat:Nat):Int)<97)) with f1 | f1
   · have fK:=of_decide_eq_true f1
     rcases Bool.eq_false_or_eq_true (decide ((((s.g i0).toNat:Nat):Int)<48)) with f2 | f2
     · have mT:=of_decide_eq_true f2
       rcases Bool.eq_false_or_eq_true (!decide ((((s.g i0).toNat:Nat):Int)=45)) with f3 | f3
       · have kM:=rO f3
         exact aB.ret false (by simp only[cQ,f1,f2,f3,ak,ah]) (pk (d) _ _ hh _ hh (CN 3<|VV (aY 3 false false .i64 ((i0:Nat):Int) ((List.length s:Nat):Int))<|BB q2<|CN 2<|VV mU<|CN 2<|VV (aY 5 false true .u8 (((s.g i0).toNat:Nat):Int) 97)<|CC<|BB f1<|BV f1 (ml true f1)<|CC<|TT<|CC<|TT<|VV (aY 5 false true .u8 (((s.g i0).toNat:Nat):Int) 48)<|TT<|CC<|BB f2<|BB f2<|TT<|VV (ml true f2)<|CN 2<|TT<|CC<|TT<|VV (cf 5 false true .u8 (((s.g i0).toNat:Nat):Int) 45)<|CC<|BC f3<|ZZ) k!) (bW.refl aF) k!
       · have kM:=rP f3
         have u7:=eZ 3 false true i0 1 o!
         exact aB.round (by simp only[cQ,f1,f2,f3,ak,ah]) (pk (d) _ _ hh _ hh (CN 3<|VV (aY 3 false false .i64 ((i0:Nat):Int) ((List.length s:Nat):Int))<|BB q2<|CN 2<|VV mU<|CN 2<|VV (aY 5 false true .u8 (((s.g i0).toNat:Nat):Int) 97)<|CC<|BB f1<|BV f1 (ml true f1)<|CC<|TT<|CC<|TT<|VV (aY 5 false true .u8 (((s.g i0).toNat:Nat):Int) 48)<|TT<|CC<|BB f2<|BB f2<|TT<|VV (ml true f2)<|CN 2<|TT<|CC<|TT<|VV (cf 5 false true .u8 (((s.g i0).toNat:Nat):Int) 45)<|CC<|BC f3<|VV u7<|CC<|ZZ) k!) (bW.refl aF) _ k! (fun x=>gK s bh eC (i0+1) o! x hh aF aG)
     · have mT:=of_decide_eq_false f2
       rcases Bool.eq_false_or_eq_true (decide (57<(((s.g i0).toNat:Nat):Int))) with f3 | f3
       · have kM:=of_decide_eq_true f3
         rcases Bool.eq_false_or_eq_true (!decide ((((s.g i0).toNat:Nat):Int)=45)) with f4 | f4
         · have lE:=rO f4
           exact aB.ret false (by simp only[cQ,f1,f2,f3,f4,ak,ah]) (pk (d) _ _ hh _ hh (CN 3<|VV (aY 3 false false .i64 ((i0:Nat):Int) ((List.length s:Nat):Int))<|BB q2<|CN 2<|VV mU<|CN 2<|VV (aY 5 false true .u8 (((s.g i0).toNat:Nat):Int) 97)<|CC<|BB f1<|BV f1 (ml true f1)<|CC<|TT<|CC<|TT<|VV (aY 5 false true .u8 (((s.g i0).toNat:Nat):Int) 48)<|TT<|CC<|BC f2<|BV f2 (b7 5 false true .u8 (((s.g i0).toNat:Nat):Int) 57)<|TT<|VV (aE (a:=some (AV.bool true)) (b:=some (AV.bool (decide (57<(((s.g i0).toNat:Nat):Int))))) f2)<|CN 2<|BC f3<|BV f3 (cf 5 false true .u8 (((s.g i0).toNat:Nat):Int) 45)<|VV (iI (!decide ((((s.g i0).toNat:Nat):Int)=45)) false f3)<|BC f4<|ZZ) k!) (bW.refl aF) k!
         · have lE:=rP f4
           have u8:=eZ 3 false true i0 1 o!
           exact aB.round (by simp only[cQ,f1,f2,f3,f4,ak,ah]) (pk (d) _ _ hh _ hh (CN 3<|VV (aY 3 false false .i64 ((i0:Nat):Int) ((List.length s:Nat):Int))<|BB q2<|CN 2<|VV mU<|CN 2<|VV (aY 5 false true .u8 (((s.g i0).toNat:Nat):Int) 97)<|CC<|BB f1<|BV f1 (ml true f1)<|CC<|TT<|CC<|TT<|VV (aY 5 false true .u8 (((s.g i0).toNat:Nat):Int) 48)<|TT<|CC<|BC f2<|BV f2 (b7 5 false true .u8 (((s.g i0).toNat:Nat):Int) 57)<|TT<|VV (aE (a:=some (AV.bool true)) (b:=some (AV.bool (decide (57<(((s.g i0).toNat:Nat):Int))))) f2)<|CN 2<|BC f3<|BV f3 (cf 5 false true .u8 (((s.g i0).toNat:Nat):Int) 45)<|VV (iI (!decide ((((s.g i0).toNat:Nat):Int)=45)) false f3)<|BC f4<|VV u8<|CC<|ZZ) k!) (bW.refl aF) _ k! (fun x=>gK s bh eC (i0+1) o! x hh aF aG)
       · have kM:=of_decide_eq_false f3
         have u7:=eZ 3 false true i0 1 o!
         exact aB.round (by simp only[cQ,f1,f2,f3,ak,ah]) (pk (d) _ _ hh _ hh (CN 3<|VV (aY 3 false false .i64 ((i0:Nat):Int) ((List.length s:Nat):Int))<|BB q2<|CN 2<|VV mU<|CN 2<|VV (aY 5 false true .u8 (((s.g i0).toNat:Nat):Int) 97)<|CC<|BB f1<|BV f1 (ml true f1)<|CC<|TT<|CC<|TT<|VV (aY 5 false true .u8 (((s.g i0).toNat:Nat):Int) 48)<|TT<|CC<|BC f2<|BV f2 (b7 5 false true .u8 (((s.g i0).toNat:Nat):Int) 57)<|TT<|VV (aE (a:=some (AV.bool true)) (b:=some (AV.bool (decide (57<(((s.g i0).toNat:Nat):Int))))) f2)<|CN 2<|BB f3<|BV f3 (p_ false f3)<|FF<|CC<|VV u7<|CC<|ZZ) k!) (bW.refl aF) _ k! (fun x=>gK s bh eC (i0+1) o! x hh aF aG)
   · have fK:=of_decide_eq_false f1
     rcases Bool.eq_false_or_eq_true (decide (122<(((s.g i0).toNat:Nat):Int))) with f2 | f2
     · have mT:=of_decide_eq_true f2
       rcases Bool.eq_false_or_eq_true (decide ((((s.g i0).toNat:Nat):Int)<48)) with f3 | f3
       · have kM:=of_decide_eq_true f3
         rcases Bool.eq_false_or_eq_true (!decide ((((s.g i0).toNat:Nat):Int)=45)) with f4 | f4
         · have lE:=rO f4
           exact aB.ret false (by simp only[cQ,f1,f2,f3,f4,ak,ah]) (pk (d) _ _ hh _ hh (CN 3<|VV (aY 3 false false .i64 ((i0:Nat):Int) ((List.length s:Nat):Int))<|BB q2<|CN 2<|VV mU<|CN 2<|VV (aY 5 false true .u8 (((s.g i0).toNat:Nat):Int) 97)<|CC<|BC f1<|BV f1 (b7 5 false true .u8 (((s.g i0).toNat:Nat):Int) 122)<|VV (aE (a:=some (AV.bool true)) (b:=some (AV.bool (decide (122<(((s.g i0).toNat:Nat):Int))))) f1)<|CC<|BC f2<|BV f2 (aY 5 false true .u8 (((s.g i0).toNat:Nat):Int) 48)<|BC f2<|BB f3<|BB f3<|BV f2 (ml true f3)<|VV (iI true false f2)<|CC<|TT<|CC<|TT<|VV (cf 5 false true .u8 (((s.g i0).toNat:Nat):Int) 45)<|CC<|BC f4<|ZZ) k!) (bW.refl aF) k!
         · have lE:=rP f4
           have u8:=eZ 3 false true i0 1 o!
           exact aB.round (by simp only[cQ,f1,f2,f3,f4,ak,ah]) (pk (d) _ _ hh _ hh (CN 3<|VV (aY 3 false false .i64 ((i0:Nat):Int) ((List.length s:Nat):Int))<|BB q2<|CN 2<|VV mU<|CN 2<|VV (aY 5 false true .u8 (((s.g i0).toNat:Nat):Int) 97)<|CC<|BC f1<|BV f1 (b7 5 false true .u8 (((s.g i0).toNat:Nat):Int) 122)<|VV (aE (a:=some (AV.bool true)) (b:=some (AV.bool (decide (122<(((s.g i0).toNat:Nat):Int))))) f1)<|CC<|BC f2<|BV f2 (aY 5 false true .u8 (((s.g i0).toNat:Nat):Int) 48)<|BC f2<|BB f3<|BB f3<|BV f2 (ml true f3)<|VV (iI true false f2)<|CC<|TT<|CC<|TT<|VV (cf 5 false true .u8 (((s.g i0).toNat:Nat):Int) 45)<|CC<|BC f4<|VV u8<|CC<|ZZ) k!) (bW.refl aF) _ k! (fun x=>gK s bh eC (i0+1) o! x hh aF aG)
       · have kM:=of_decide_eq_false f3
         rcases Bool.eq_false_or_eq_true (decide (57<(((s.g i0).toNat:Nat):Int))) with f4 | f4
         · have lE:=of_decide_eq_true f4
           rcases Bool.eq_false_or_eq_true (!decide ((((s.g i0).toNat:Nat):Int)=45)) with f5 | f5
           · have yN:=rO f5
             exact aB.ret false (by simp only[cQ,f1,f2,f3,f4,f5,ak,ah]) (pk (d) _ _ hh _ hh (CN 3<|VV (aY 3 false false .i64 ((i0:Nat):Int) ((List.length s:Nat):Int))<|BB q2<|CN 2<|VV mU<|CN 2<|VV (aY 5 false true .u8 (((s.g i0).toNat:Nat):Int) 97)<|CC<|BC f1<|BV f1 (b7 5 false true .u8 (((s.g i0).toNat:Nat):Int) 122)<|VV (aE (a:=some (AV.bool true)) (b:=some (AV.bool (decide (122<(((s.g i0).toNat:Nat):Int))))) f1)<|CC<|BC f2<|BV f2 (aY 5 false true .u8 (((s.g i0).toNat:Nat):Int) 48)<|BC f2<|BC f3<|BV f3 (b7 5 false true .u8 (((s.g i0).toNat:Nat):Int) 57)<|BV f2 (aE (a:=some (AV.bool true)) (b:=some (AV.bool (decide (57<(((s.g i0).toNat:Nat):Int))))) f3)<|VV (iI (decide (57<(((s.g i0).toNat:Nat):Int))) false f2)<|CC<|BC f4<|BV f4 (cf 5 false true .u8 (((s.g i0).toNat:Nat):Int) 45)<|VV (iI (!decide ((((s.g i0).toNat:Nat):Int)=45)) false f4)<|BC f5<|ZZ) k!) (bW.refl aF) k!
           · have yN:=rP f5
             have u9:=eZ 3 false true i0 1 o!
             exact aB.round (by simp only[cQ,f1,f2,f3,f4,f5,ak,ah]) (pk (d) _ _ hh _ hh (CN 3<|VV (aY 3 false false .i64 ((i0:Nat):Int) ((List.length s:Nat):Int))<|BB q2<|CN 2<|VV mU<|CN 2<|VV (aY 5 false true .u8 (((s.g i0).toNat:Nat):Int) 97)<|CC<|BC f1<|BV f1 (b7 5 false true .u8 (((s.g i0).toNat:Nat):Int) 122)<|VV (aE (a:=some (AV.bool true)) (b:=some (AV.bool (decide (122<(((s.g i0).toNat:Nat):Int))))) f1)<|CC<|BC f2<|BV f2 (aY 5 false true .u8 (((s.g i0).toNat:Nat):Int) 48)<|BC f2<|BC f3<|BV f3 (b7 5 false true .u8 (((s.g i0).toNat:Nat):Int) 57)<|BV f2 (aE (a:=some (AV.bool true)) (b:=some (AV.bool (decide (57<(((s.g i0).toNat:Nat):Int))))) f3)<|VV (iI (decide (57<(((s.g i0).toNat:Nat):Int))) false f2)<|CC<|BC f4<|BV f4 (cf 5 false true .u8 (((s.g i0).toNat:Nat):Int) 45)<|VV (iI (!decide ((((s.g i0).toNat:Nat):Int)=45)) false f4)<|BC f5<|VV u9<|CC<|ZZ) k!) (bW.refl aF) _ k! (fun x=>gK s bh eC (i0+1) o! x hh aF aG)
         · have lE:=of_decide_eq_false f4
           have u8:=eZ 3 false true i0 1 o!
           exact aB.round (by simp only[cQ,f1,f2,f3,f4,ak,ah]) (pk (d) _ _ hh _ hh (CN 3<|VV (aY 3 false false .i64 ((i0:Nat):Int) ((List.length s:Nat):Int))<|BB q2<|CN 2<|VV mU<|CN 2<|VV (aY 5 false true .u8 (((s.g i0).toNat:Nat):Int) 97)<|CC<|BC f1<|BV f1 (b7 5 false true .u8 (((s.g i0).toNat:Nat):Int) 122)<|VV (aE (a:=some (AV.bool true)) (b:=some (AV.bool (decide (122<(((s.g i0).toNat:Nat):Int))))) f1)<|CC<|BC f2<|BV f2 (aY 5 false true .u8 (((s.g i0).toNat:Nat):Int) 48)<|BC f2<|BC f3<|BV f3 (b7 5 false true .u8 (((s.g i0).toNat:Nat):Int) 57)<|BV f2 (aE (a:=some (AV.bool true)) (b:=some (AV.bool (decide (57<(((s.g i0).toNat:Nat):Int))))) f3)<|VV (iI (decide (57<(((s.g i0).toNat:Nat):Int))) false f2)<|CC<|BB f4<|BV f4 (p_ false f4)<|FF<|CC<|VV u8<|CC<|ZZ) k!) (bW.refl aF) _ k! (fun x=>gK s bh eC (i0+1) o! x hh aF aG)
     · have mT:=of_decide_eq_false f2
       have u6:=eZ 3 false true i0 1 o!
       exact aB.round (by simp only[cQ,f1,f2,ak,ah]) (pk (d) _ _ hh _ hh (CN 3<|VV (aY 3 false false .i64 ((i0:Nat):Int) ((List.length s:Nat):Int))<|BB q2<|CN 2<|VV mU<|CN 2<|VV (aY 5 false true .u8 (((s.g i0).toNat:Nat):Int) 97)<|CC<|BC f1<|BV f1 (b7 5 false true .u8 (((s.g i0).toNat:Nat):Int) 122)<|VV (aE (a:=some (AV.bool true)) (b:=some (AV.bool (decide (122<(((s.g i0).toNat:Nat):Int))))) f1)<|CC<|BB f2<|BB f2<|BB f2<|BV f2 (p_ false f2)<|CC<|FF<|FF<|CC<|FF<|CC<|VV u6<|CC<|ZZ) k!) (bW.refl aF) _ k! (fun x=>gK s bh eC (i0+1) o! x hh aF aG)
def bM (s:List UInt8):Bool:=(bif (decide (((List.length s:Nat):Int)=0)) then false else (bif (decide (16<((List.length s:Nat):Int))) then false else (bif (decide ((((s.g 0).toNat:Nat):Int)<97)) then false else (bif (decide (122<(((s.g 0).toNat:Nat):Int))) then false else (match (cQ s (List.length s) 0) with | none=>true | some Xv=>Xv)))))
theorem tb {d:Nat} {h:ax} (s:List UInt8) (sP:s.length<2^60) (ca:Tidy h):cT (d+1) (.fn 33) [(AV.str s)] h= .ret (AV.bool (bM s)) h:=by
 have sn1:s.length<2^60:=sP
 rcases Bool.eq_false_or_eq_true (decide (((List.length s:Nat):Int)=0)) with f0 | f0
 · have e_:=of_decide_eq_true f0
   have e:bM s=false:=by simp only[bM,f0,ak,ah]
   rw[e]
   exact aw rfl (aI Tryz.func33 qt rfl (.inr rfl) (pk (d) _ _ h _ h (CN 3<|VV (eA 3 false true .i64 ((List.length s:Nat):Int) 0)<|CC<|BB f0<|BB f0<|BV f0 (ml true f0)<|CC<|TT<|TT<|TT<|CN 2<|TT<|TT<|TT<|CC<|TT<|CC<|ZZ) k!) k!) (Has.refl _) rfl
 · have e_:=of_decide_eq_false f0
   rcases Bool.eq_false_or_eq_true (decide (16<((List.length s:Nat):Int))) with f1 | f1
   · have fK:=of_decide_eq_true f1
     have e:bM s=false:=by simp only[bM,f0,f1,ak,ah]
     rw[e]
     exact aw rfl (aI Tryz.func33 qt rfl (.inr rfl) (pk (d) _ _ h _ h (CN 3<|VV (eA 3 false true .i64 ((List.length s:Nat):Int) 0)<|CC<|BC f0<|BC f0<|BV f0 (b7 3 false true .i64 ((List.length s:Nat):Int) 16)<|VV (aE (a:=some (AV.bool true)) (b:=some (AV.bool (decide (16<((List.length s:Nat):Int))))) f0)<|CC<|BB f1<|BB f1<|BV f1 (ml true f1)<|CC<|TT<|TT<|TT<|CC<|TT<|CC<|ZZ) k!) k!) (Has.refl _) rfl
   · have fK:=of_decide_eq_false f1
     have xr:j9 env (some .string) (some (AV.str s)) (some (Zi 0))=some (AV.int .u8 (((s.g 0).toNat:Nat):Int)):=jO (j:=0) o!
     rcases Bool.eq_false_or_eq_true (decide ((((s.g 0).toNat:Nat):Int)<97)) with f2 | f2
     · have mT:=of_decide_eq_true f2
       have e:bM s=false:=by simp only[bM,f0,f1,f2,ak,ah]
       rw[e]
       exact aw rfl (aI Tryz.func33 qt rfl (.inr rfl) (pk (d) _ _ h _ h (CN 3<|VV (eA 3 false true .i64 ((List.length s:Nat):Int) 0)<|CC<|BC f0<|BC f0<|BV f0 (b7 3 false true .i64 ((List.length s:Nat):Int) 16)<|VV (aE (a:=some (AV.bool true)) (b:=some (AV.bool (decide (16<((List.length s:Nat):Int))))) f0)<|CC<|BC f1<|BV f1 xr<|BV f1 (aY 5 false true .u8 (((s.g 0).toNat:Nat):Int) 97)<|VV (aE (a:=some (AV.bool true)) (b:=some (AV.bool (decide ((((s.g 0).toNat:Nat):Int)<97)))) f1)<|CC<|BB f2<|BB f2<|BV f2 (ml true f2)<|TT<|CC<|ZZ) k!) k!) (Has.refl _) rfl
     · have mT:=of_decide_eq_false f2
       have yf:j9 env (some .string) (some (AV.str s)) (some (Zi 0))=some (AV.int .u8 (((s.g 0).toNat:Nat):Int)):=jO (j:=0) o!
       rcases Bool.eq_false_or_eq_true (decide (122<(((s.g 0).toNat:Nat):Int))) with f3 | f3
       · have kM:=of_decide_eq_true f3
         have e:bM s=false:=by simp only[bM,f0,f1,f2,f3,ak,ah]
         rw[e]
         exact aw rfl (aI Tryz.func33 qt rfl (.inr rfl) (pk (d) _ _ h _ h (CN 3<|VV (eA 3 false true .i64 ((List.length s:Nat):Int) 0)<|CC<|BC f0<|BC f0<|BV f0 (b7 3 false true .i64 ((List.length s:Nat):Int) 16)<|VV (aE (a:=some (AV.bool true)) (b:=some (AV.bool (decide (16<((List.length s:Nat):Int))))) f0)<|CC<|BC f1<|BV f1 xr<|BV f1 (aY 5 false true .u8 (((s.g 0).toNat:Nat):Int) 97)<|VV (aE (a:=some (AV.bool true)) (b:=some (AV.bool (decide ((((s.g 0).toNat:Nat):Int)<97)))) f1)<|CC<|BC f2<|BV f2 yf<|BV f2 (b7 5 false true .u8 (((s.g 0).toNat:Nat):Int) 122)<|VV (aE (a:=some (AV.bool true)) (b:=some (AV.bool (decide (122<(((s.g 0).toNat:Nat):Int))))) f2)<|BC f3<|ZZ) k!) k!) (Has.refl _) rfl
       · have kM:=of_decide_eq_false f3
         cases n9:cQ s (List.length s) 0 with
         | none=>
           obtain ⟨Qz,h9,rq,oV⟩:=aB.n n9 (gK (d:=d) (h:=h) s sP (List.length s) 0 o! (fun k_=>(((AV.str s)::AV.undef::(AV.bool false)::(Zi 0)::AV.undef::(AV.str s)::(Zn (List.length s))::(AV.bool (decide (((List.length s:Nat):Int)=0)))::(AV.bool (decide (((List.length s:Nat):Int)=0)))::(AV.str s)::(Zn (List.length s))::(AV.bool (decide (16<((List.length s:Nat):Int))))::(AV.bool (decide (16<((List.length s:Nat):Int))))::(AV.bool (decide (16<((List.length s:Nat):Int))))::(AV.str s)::(AV.int .u8 (((s.g 0).toNat:Nat):Int))::(AV.bool (decide ((((s.g 0).toNat:Nat):Int)<97)))::(AV.bool (decide ((((s.g 0).toNat:Nat):Int)<97)))::(AV.bool (decide ((((s.g 0).toNat:Nat):Int)<97)))::(AV.str s)::(AV.int .u8 (((s.g 0).toNat:Nat):Int))::(AV.bool (decide (122<(((s.g 0).toNat:Nat):Int))))::(AV.bool (decide (122<(((s.g 0).toNat:Nat):Int))))::jg 27):List AV).getD k_ AV.undef) h ca (Has.refl _))
           have QA:=oV.y
           have Xw:h.nx≤h9.nx:=oV.n
           have BT:Has h h9:=oV.a
           have e:bM s=true:=by simp only[bM,f0,f1,f2,f3,n9,ak,ah]
           rw[e]
           exact aw rfl (aI Tryz.func33 qt rfl (.inr rfl) (pk (d) _ _ h _ h9 (CN 3<|VV (eA 3 false true .i64 ((List.length s:Nat):Int) 0)<|CC<|BC f0<|BC f0<|BV f0 (b7 3 false true .i64 ((List.length s:Nat):Int) 16)<|VV (aE (a:=some (AV.bool true)) (b:=some (AV.bool (decide (16<((List.length s:Nat):Int))))) f0)<|CC<|BC f1<|BV f1 xr<|BV f1 (aY 5 false true .u8 (((s.g 0).toNat:Nat):Int) 97)<|VV (aE (a:=some (AV.bool true)) (b:=some (AV.bool (decide ((((s.g 0).toNat:Nat):Int)<97)))) f1)<|CC<|BC f2<|BV f2 yf<|BV f2 (b7 5 false true .u8 (((s.g 0).toNat:Nat):Int) 122)<|VV (aE (a:=some (AV.bool true)) (b:=some (AV.bool (decide (122<(((s.g 0).toNat:Nat):Int))))) f2)<|BC f3<|LL rq<|CC<|ZZ) k!) k!) BT rfl
         | some Xv=>
           obtain ⟨Qz,h9,rq,oV⟩:=aB.r n9 (gK (d:=d) (h:=h) s sP (List.length s) 0 o! (fun k_=>(((AV.str s)::AV.undef::(AV.bool false)::(Zi 0)::AV.undef::(AV.str s)::(Zn (List.length s))::(AV.bool (decide (((List.length s:Nat):Int)=0)))::(AV.bool (decide (((List.length s:Nat):Int)=0)))::(AV.str s)::(Zn (List.length s))::(AV.bool (decide (16<((List.length s:Nat):Int))))::(AV.bool (decide (16<((List.length s:Nat):Int))))::(AV.bool (decide (16<((List.length s:Nat):Int))))::(AV.str s)::(AV.int .u8 (((s.g 0).toNat:Nat):Int))::(AV.bool (decide ((((s.g 0).toNat:Nat):Int)<97)))::(AV.bool (decide ((((s.g 0).toNat:Nat):Int)<97)))::(AV.bool (decide ((((s.g 0).toNat:Nat):Int)<97)))::(AV.str s)::(AV.int .u8 (((s.g 0).toNat:Nat):Int))::(AV.bool (decide (122<(((s.g 0).toNat:Nat):Int))))::(AV.bool (decide (122<(((s.g 0).toNat:Nat):Int))))::jg 27):List AV).getD k_ AV.undef) h ca (Has.refl _))
           have QA:=oV.y
           have Xw:h.nx≤h9.nx:=oV.n
           have BT:Has h h9:=oV.a
           have e:bM s=Xv:=by simp only[bM,f0,f1,f2,f3,n9,ak,ah]
           rw[e]
           exact aw rfl (aI Tryz.func33 qt rfl (.inr rfl) (pk (d) _ _ h _ h9 (CN 3<|VV (eA 3 false true .i64 ((List.length s:Nat):Int) 0)<|CC<|BC f0<|BC f0<|BV f0 (b7 3 false true .i64 ((List.length s:Nat):Int) 16)<|VV (aE (a:=some (AV.bool true)) (b:=some (AV.bool (decide (16<((List.length s:Nat):Int))))) f0)<|CC<|BC f1<|BV f1 xr<|BV f1 (aY 5 false true .u8 (((s.g 0).toNat:Nat):Int) 97)<|VV (aE (a:=some (AV.bool true)) (b:=some (AV.bool (decide ((((s.g 0).toNat:Nat):Int)<97)))) f1)<|CC<|BC f2<|BV f2 yf<|BV f2 (b7 5 false true .u8 (((s.g 0).toNat:Nat):Int) 122)<|VV (aE (a:=some (AV.bool true)) (b:=some (AV.bool (decide (122<(((s.g 0).toNat:Nat):Int))))) f2)<|BC f3<|LL rq<|ZZ) k!) k!) BT rfl
def FP:Code:=(Tryz.f46.body).getD .skip
theorem D_:Tryz.f46.body=some FP:=by kernel_rfl
def bT (n:Int):Bool:=(bif (decide (0≤n)) then (decide (n≤100000)) else false)
theorem qu {d:Nat} {h:ax} (n:Int) (ca:Tidy h):cT (d+1) (.fn 46) [(Zi n)] h= .ret (AV.bool (bT n)) h:=by
 rcases Bool.eq_false_or_eq_true (decide (0≤n)) with f0 | f0
 · have e_:=of_decide_eq_true f0
   have e:bT n=(decide (n≤100000)):=by simp only[bT,f0,ak,ah]
   rw[e]
   exact aw rfl (aI Tryz.func46 D_ rfl (.inr rfl) (pk (d) _ _ h _ h (CN 2<|VV (b9 3 false true .i64 n 0)<|CC<|BC f0<|BV f0 (lg 3 false true .i64 n 100000)<|VV (iI (decide (n≤100000)) false f0)<|CC<|ZZ) k!) k!) (Has.refl _) rfl
 · have e_:=of_decide_eq_false f0
   have e:bT n=false:=by simp only[bT,f0,ak,ah]
   rw[e]
   exact aw rfl (aI Tryz.func46 D_ rfl (.inr rfl) (pk (d) _ _ h _ h (CN 2<|VV (b9 3 false true .i64 n 0)<|CC<|BB f0<|BV f0 (p_ false f0)<|CC<|ZZ) k!) k!) (Has.refl _) rfl
def xB:Code:=(Tryz.f45.body).getD .skip
theorem hZ:Tryz.f45.body=some xB:=by kernel_rfl
def bj (g:bn):Int:=(bif (decide (g.acc<0)) then 1 else (bif (decide (1000000000<g.acc)) then 1 else (bif (decide (g.aW<0)) then 1 else (bif (decide (1000000000<g.aW)) then 1 else (bif (!(bT g.since)) then 1 else 0)))))
theorem tc {d:Nat} {h:ax} (g:bn) (Jh:aH.ok h g) (ca:Tidy h):cT (d+2) (.fn 45) [(AV.agg [(AV.str g.name),(Zi g.acc),(Zi g.aW),(Zi g.since)])] h= .ret (Zi (bj g)) h:=by
 obtain ⟨h1,br,cD,lh,aA,dC⟩:=lk ca (aK.cells [(AV.str g.name),(Zi g.acc),(Zi g.aW),(Zi g.since)] 28 false)
 have bB:Has h h1:=dC
 rcases Bool.eq_false_or_eq_true (decide (g.acc<0)) with f0 | f0
 · have e_:=of_decide_eq_true f0
   have e:bj g=1:=by simp only[bj,f0,ak,ah]
   rw[e]
   exact aw rfl (aI Tryz.func45 hZ rfl (.inr rfl) (pk (d+1) _ _ h _ h1 (NN br (fun i=>(Pt i))<|CN 2<|MM (ao 3 1 (Zi g.acc) aA k!)<|VV (aY 3 false true .i64 g.acc 0)<|CC<|BB f0<|BB f0<|BV f0 (ml true f0)<|CC<|TT<|TT<|TT<|CN 2<|TT<|TT<|TT<|CN 2<|TT<|TT<|TT<|TT<|CC<|TT<|CC<|ZZ) k!) k!) bB rfl
 · have e_:=of_decide_eq_false f0
   rcases Bool.eq_false_or_eq_true (decide (1000000000<g.acc)) with f1 | f1
   · have fK:=of_decide_eq_true f1
     have e:bj g=1:=by simp only[bj,f0,f1,ak,ah]
     rw[e]
     exact aw rfl (aI Tryz.func45 hZ rfl (.inr rfl) (pk (d+1) _ _ h _ h1 (NN br (fun i=>(Pt i))<|CN 2<|MM (ao 3 1 (Zi g.acc) aA k!)<|VV (aY 3 false true .i64 g.acc 0)<|CC<|BC f0<|BM f0 (ao 3 1 (Zi g.acc) aA k!)<|BV f0 (b7 3 false true .i64 g.acc 1000000000)<|VV (aE (a:=some (AV.bool true)) (b:=some (AV.bool (decide (1000000000<g.acc)))) f0)<|CC<|BB f1<|BB f1<|BV f1 (ml true f1)<|CC<|TT<|TT<|TT<|CN 2<|TT<|TT<|TT<|TT<|CC<|TT<|CC<|ZZ) k!) k!) bB rfl
   · have fK:=of_decide_eq_false f1
     rcases Bool.eq_false_or_eq_true (decide (g.aW<0)) with f2 | f2
     · have mT:=of_decide_eq_true f2
       have e:bj g=1:=by simp only[bj,f0,f1,f2,ak,ah]
       rw[e]
       exact aw rfl (aI Tryz.func45 hZ rfl (.inr rfl) (pk (d+1) _ _ h _ h1 (NN br (fun i=>(Pt i))<|CN 2<|MM (ao 3 1 (Zi g.acc) aA k!)<|VV (aY 3 false true .i64 g.acc 0)<|CC<|BC f0<|BM f0 (ao 3 1 (Zi g.acc) aA k!)<|BV f0 (b7 3 false true .i64 g.acc 1000000000)<|VV (aE (a:=some (AV.bool true)) (b:=some (AV.bool (decide (1000000000<g.acc)))) f0)<|CC<|BC f1<|BM f1 (ao 3 2 (Zi g.aW) aA k!)<|BV f1 (aY 3 false true .i64 g.aW 0)<|VV (aE (a:=some (AV.bool true)) (b:=some (AV.bool (decide (g.aW<0)))) f1)<|CC<|BB f2<|BB f2<|BV f2 (ml true f2)<|CC<|TT<|TT<|TT<|TT<|CC<|TT<|CC<|ZZ) k!) k!) bB rfl
     · have mT:=of_decide_eq_false f2
       rcases Bool.eq_false_or_eq_true (decide (1000000000<g.aW)) with f3 | f3
       · have kM:=of_decide_eq_true f3
         have e:bj g=1:=by simp only[bj,f0,f1,f2,f3,ak,ah]
         rw[e]
         exact aw rfl (aI Tryz.func45 hZ rfl (.inr rfl) (pk (d+1) _ _ h _ h1 (NN br (fun i=>(Pt i))<|CN 2<|MM (ao 3 1 (Zi g.acc) aA k!)<|VV (aY 3 false true .i64 g.acc 0)<|CC<|BC f0<|BM f0 (ao 3 1 (Zi g.acc) aA k!)<|BV f0 (b7 3 false true .i64 g.acc 1000000000)<|VV (aE (a:=some (AV.bool true)) (b:=some (AV.bool (decide (1000000000<g.acc)))) f0)<|CC<|BC f1<|BM f1 (ao 3 2 (Zi g.aW) aA k!)<|BV f1 (aY 3 false true .i64 g.aW 0)<|VV (aE (a:=some (AV.bool true)) (b:=some (AV.bool (decide (g.aW<0)))) f1)<|CC<|BC f2<|BM f2 (ao 3 2 (Zi g.aW) aA k!)<|BV f2 (b7 3 false true .i64 g.aW 1000000000)<|VV (aE (a:=some (AV.bool true)) (b:=some (AV.bool (decide (1000000000<g.aW)))) f2)<|CC<|BB f3<|BB f3<|BB f3<|BV f3 (ml true f3)<|TT<|CC<|ZZ) k!) k!) bB rfl
       · have kM:=of_decide_eq_false f3
         have k6:=qu (d:=d) g.since cD
         rcases Bool.eq_false_or_eq_true (!(bT g.since)) with f4 | f4
         · have e:bj g=1:=by simp only[bj,f0,f1,f2,f3,f4,ak,ah]
           rw[e]
           exact aw rfl (aI Tryz.func45 hZ rfl (.inr rfl) (pk (d+1) _ _ h _ h1 (NN br (fun i=>(Pt i))<|CN 2<|MM (ao 3 1 (Zi g.acc) aA k!)<|VV (aY 3 false true .i64 g.acc 0)<|CC<|BC f0<|BM f0 (ao 3 1 (Zi g.acc) aA k!)<|BV f0 (b7 3 false true .i64 g.acc 1000000000)<|VV (aE (a:=some (AV.bool true)) (b:=some (AV.bool (decide (1000000000<g.acc)))) f0)<|CC<|BC f1<|BM f1 (ao 3 2 (Zi g.aW) aA k!)<|BV f1 (aY 3 false true .i64 g.aW 0)<|VV (aE (a:=some (AV.bool true)) (b:=some (AV.bool (decide (g.aW<0)))) f1)<|CC<|BC f2<|BM f2 (ao 3 2 (Zi g.aW) aA k!)<|BV f2 (b7 3 false true .i64 g.aW 1000000000)<|VV (aE (a:=some (AV.bool true)) (b:=some (AV.bool (decide (1000000000<g.aW)))) f2)<|CC<|BC f3<|BM f3 (ao 3 3 (Zi g.since) aA k!)<|BB f3<|EE k6<|BC f3<|VV (aE (a:=some (AV.bool true)) (b:=some (AV.bool (!(bT g.since)))) f3)<|BC f4<|ZZ) k!) k!) bB rfl
         · have e:bj g=0:=by simp only[bj,f0,f1,f2,f3,f4,ak,ah]
           rw[e]
           exact aw rfl (aI Tryz.func45 hZ rfl (.inr rfl) (pk (d+1) _ _ h _ h1 (NN br (fun i=>(Pt i))<|CN 2<|MM (ao 3 1 (Zi g.acc) aA k!)<|VV (aY 3 false true .i64 g.acc 0)<|CC<|BC f0<|BM f0 (ao 3 1 (Zi g.acc) aA k!)<|BV f0 (b7 3 false true .i64 g.acc 1000000000)<|VV (aE (a:=some (AV.bool true)) (b:=some (AV.bool (decide (1000000000<g.acc)))) f0)<|CC<|BC f1<|BM f1 (ao 3 2 (Zi g.aW) aA k!)<|BV f1 (aY 3 false true .i64 g.aW 0)<|VV (aE (a:=some (AV.bool true)) (b:=some (AV.bool (decide (g.aW<0)))) f1)<|CC<|BC f2<|BM f2 (ao 3 2 (Zi g.aW) aA k!)<|BV f2 (b7 3 false true .i64 g.aW 1000000000)<|VV (aE (a:=some (AV.bool true)) (b:=some (AV.bool (decide (1000000000<g.aW)))) f2)<|CC<|BC f3<|BM f3 (ao 3 3 (Zi g.since) aA k!)<|BB f3<|EE k6<|BC f3<|VV (aE (a:=some (AV.bool true)) (b:=some (AV.bool (!(bT g.since)))) f3)<|BC f4<|ZZ) k!) k!) bB rfl
def FQ:Code:=(Tryz.f70.body).getD .skip
theorem D':Tryz.f70.body=some FQ:=by kernel_rfl
def bD (n:Int):Bool:=(bif (decide ((-1000000000)≤n)) then (decide (n≤1000000000)) else false)
theorem uw {d:Nat} {h:ax} (n:Int) (ca:Tidy h):cT (d+1) (.fn 70) [(Zi n)] h= .ret (AV.bool (bD n)) h:=by
 rcases Bool.eq_false_or_eq_true (decide ((-1000000000)≤n)) with f0 | f0
 · have e_:=of_decide_eq_true f0
   have e:bD n=(decide (n≤1000000000)):=by simp only[bD,f0,ak,ah]
   rw[e]
   exact aw rfl (aI Tryz.func70 D' rfl (.inr rfl) (pk (d) _ _ h _ h (CN 2<|VV (b9 3 false true .i64 n (-1000000000))<|CC<|BC f0<|BV f0 (lg 3 false true .i64 n 1000000000)<|VV (iI (decide (n≤1000000000)) false f0)<|CC<|ZZ) k!) k!) (Has.refl _) rfl
 · have e_:=of_decide_eq_false f0
   have e:bD n=false:=by simp only[bD,f0,ak,ah]
   rw[e]
   exact aw rfl (aI Tryz.func70 D' rfl (.inr rfl) (pk (d) _ _ h _ h (CN 2<|VV (b9 3 false true .i64 n (-1000000000))<|CC<|BB f0<|BV f0 (p_ false f0)<|CC<|ZZ) k!) k!) (Has.refl _) rfl
def jv:Code:=(Tryz.f34.body).getD .skip
theorem cb:Tryz.f34.body=some jv:=by kernel_rfl
def uN:Code:=(b5 jv).getD 0 .skip
def uO:Code:=(b5 jv).getD 1 .skip
def ck (i0:Nat) (q:aQ):Nat→Nat→Option (Int)
 | 0,_=>none
 | xC+1,i1=>(bif (decide ((q.ar.g i1).name=((q.ar.g i0).name))) then some 6 else ck i0 q xC (i1+1))
theorem jw {d:Nat} {h:ax} (i0:Nat) (q:aQ) (f_:Nat) (iW:q.name.length<2^60) (f':aJ h q.aD q.ar) (xD:aH.ok h q) (BW:i0<q.ar.length):∀(k_ i_:Nat) (_:i_+k_=i0) (x:Nat→AV) (hh:ax) (aF:Tidy hh) (aG:Has h hh) (cI:hh.get f_=some (aK.cells [(AV.str q.name),(Zi q.aq),(Zi q.aj),(Zi q.aO),(Zi q.aR),(Zi q.bad),q.aD] 43 false)),aB (cT (d+2)) uO ⟨((x 0)::(Pt f_)::(x 2)::(Zn i0)::(Zn i_)::rx x 5 106 []),hh,[],.no⟩ (.exit 3) hh (fun y=>((y 0)::(Pt f_)::(y 2)::(Zn i0)::rx y 4 107 [])) (fun r y=>((y 0)::(Pt f_)::(Zi r)::(Zn i0)::rx y 4 107 [])) (ck i0 q k_ i_)
 | 0,i1,jh,x,hh,aF,aG,cI=>by
   have n_:=f'.small
   have yR:=aF _ _ cI
   have q1:(decide (((i1:Nat):Int)<((i0:Nat):Int)))=false:=d!
   exact aB.out rfl (pk (d+2) _ _ hh _ hh (CN 2<|VV (aY 3 false false .i64 ((i1:Nat):Int) ((i0:Nat):Int))<|BB q1<|ZZ) k!) (bW.refl aF) k!
 | xC+1,i1,jh,x,hh,aF,aG,cI=>by
   have n_:=f'.small
   have yR:=aF _ _ cI
   have q1:(decide (((i1:Nat):Int)<((i0:Nat):Int)))=true:=d!
   obtain ⟨p3,q4,eD⟩:=(f'.has aG).elem (i:=i1) o!
   have ik:b8 env (some (.slice 28)) (some q.aD) (some (Zn i1))=some (AV.ptr p3 q4):=eD
   have ji:bS env hh 9 (AV.ptr p3 (q4+0))=some (AV.str (q.ar.g i1).name):=(f'.has aG).part (t:=9) (j:=0) o! eD k! rfl
   obtain ⟨p7,q8,xE⟩:=(f'.has aG).elem (i:=i0) o!
   have yf:b8 env (some (.slice 28)) (some q.aD) (some (Zn i0))=some (AV.ptr p7 q8):=xE
   have Au:bS env hh 9 (AV.ptr p7 (q8+0))=some (AV.str (q.ar.g i0).name):=(f'.has aG).part (t:=9) (j:=0) o! xE k! rfl
   have Un:AV.same 20 q.aD q.aD=true:=(f'.has aG).same 19
   rcases Bool.eq_false_or_eq_true (decide ((q.ar.g i1).name=((q.ar.g i0).name))) with f1 | f1
   · have fK:=of_decide_eq_true f1
     exact aB.ret 6 (by simp only[ck,f1,ak,ah]) (pk (d+2) _ _ hh _ hh (CN 2<|VV (aY 3 false false .i64 ((i1:Nat):Int) ((i0:Nat):Int))<|BC q1<|MM (ao 41 6 q.aD cI k!)<|CC<|VV ik<|CC<|MM ji<|CC<|MM (ao 41 6 q.aD cI k!)<|CC<|VV yf<|CC<|MM Au<|VV (ni 9 false false (q.ar.g i1).name (q.ar.g i0).name)<|HH (ao 41 6 q.aD cI k!)<|HH Un<|HH ji<|HH (show AV.same 20 (AV.str (q.ar.g i1).name) (AV.str (q.ar.g i1).name)=true from aP 19 _)<|HH (ao 41 6 q.aD cI k!)<|HH Un<|HH Au<|HH (show AV.same 20 (AV.str (q.ar.g i0).name) (AV.str (q.ar.g i0).name)=true from aP 19 _)<|BC f1<|ZZ) k!) (bW.refl aF) k!
   · have fK:=of_decide_eq_false f1
     have Uo:=eZ 3 false true i1 1 o!
     exact aB.round (by simp only[ck,f1,ak,ah]) (pk (d+2) _ _ hh _ hh (CN 2<|VV (aY 3 false false .i64 ((i1:Nat):Int) ((i0:Nat):Int))<|BC q1<|MM (ao 41 6 q.aD cI k!)<|CC<|VV ik<|CC<|MM ji<|CC<|MM (ao 41 6 q.aD cI k!)<|CC<|VV yf<|CC<|MM Au<|VV (ni 9 false false (q.ar.g i1).name (q.ar.g i0).name)<|HH (ao 41 6 q.aD cI k!)<|HH Un<|HH ji<|HH (show AV.same 20 (AV.str (q.ar.g i1).name) (AV.str (q.ar.g i1).name)=true from aP 19 _)<|HH (ao 41 6 q.aD cI k!)<|HH Un<|HH Au<|HH (show AV.same 20 (AV.str (q.ar.g i0).name) (AV.str (q.ar.g i0).name)=true from aP 19 _)<|BC f1<|VV Uo<|CC<|ZZ) k!) (bW.refl aF) _ k! (fun x=>jw i0 q f_ iW f' xD BW xC (i1+1) o! x hh aF aG cI)
def cF (q:aQ):Nat→Nat→Option (Int)
 | 0,_=>none
 | eC+1,i0=>(bif (!(bM (q.ar.g i0).name)) then some 5 else (match (ck i0 q i0 0) with | none=>(bif (!decide ((bj (q.ar.g i0))=0)) then some (bj (q.ar.g i0)) else cF q eC (i0+1)) | some Xx=>some Xx))
theorem jy {d:Nat} {h:ax} (q:aQ) (da:Nat) (bh:q.name.length<2^60) (di:aJ h q.aD q.ar) (oa:aH.ok h q):∀(k_ i_:Nat) (_:i_+k_=q.ar.length) (x:Nat→AV) (hh:ax) (aF:Tidy hh) (aG:Has h hh) (b6:hh.get da=some (aK.cells [(AV.str q.name),(Zi q.aq),(Zi q.aj),(Zi q.aO),(Zi q.aR),(Zi q.bad),q.aD] 43 false)),aB (cT (d+2)) uN ⟨((x 0)::(Pt da)::(x 2)::(Zn i_)::rx x 4 107 []),hh,[],.no⟩ (.exit 1) hh (fun y=>((y 0)::(Pt da)::rx y 2 109 [])) (fun r y=>((y 0)::(Pt da)::(Zi r)::rx y 3 108 [])) (cF q k_ i_)
 | 0,i0,jh,x,hh,aF,aG,b6=>by
   have gd:=di.small
   have te:=aF _ _ b6
   have eb:cg (some (.slice 28)) (some q.aD)=some (Zn q.ar.length):=(di.has aG).len
   have q2:(decide (((i0:Nat):Int)<((q.ar.length:Nat):Int)))=false:=d!
   exact aB.out rfl (pk (d+2) _ _ hh _ hh (CN 2<|MM (ao 41 6 q.aD b6 k!)<|VV eb<|VV (aY 3 false false .i64 ((i0:Nat):Int) ((q.ar.length:Nat):Int))<|BB q2<|ZZ) k!) (bW.refl aF) k!
 | eC+1,i0,jh,x,hh,aF,aG,b6=>by
   have gd:=di.small
   have te:=aF _ _ b6
   have eb:cg (some (.slice 28)) (some q.aD)=some (Zn q.ar.length):=(di.has aG).len
   have q2:(decide (((i0:Nat):Int)<((q.ar.length:Nat):Int)))=true:=d!
   obtain ⟨p4,q5,iM⟩:=(di.has aG).elem (i:=i0) o!
   have mU:b8 env (some (.slice 28)) (some q.aD) (some (Zn i0))=some (AV.ptr p4 q5):=iM
   have mn:bS env hh 9 (AV.ptr p4 (q5+0))=some (AV.str (q.ar.g i0).name):=(di.has aG).part (t:=9) (j:=0) o! iM k! rfl
   have k7:=tb (d:=d+1) (q.ar.g i0).name ((di.has aG).ok (i:=i0) o!) aF
   rcases Bool.eq_false_or_eq_true (!(bM (q.ar.g i0).name)) with f1 | f1
   · exact aB.ret 5 (by simp only[cF,f1,ak,ah]) (pk (d+2) _ _ hh _ hh (CN 2<|MM (ao 41 6 q.aD b6 k!)<|VV eb<|VV (aY 3 false false .i64 ((i0:Nat):Int) ((q.ar.length:Nat):Int))<|BC q2<|MM (ao 41 6 q.aD b6 k!)<|CC<|VV mU<|CC<|MM mn<|EE k7<|CC<|BC f1<|ZZ) k!) (bW.refl aF) k!
   · cases oc:ck i0 q i0 0 with
     | none=>
       obtain ⟨yl9,zP,od,im⟩:=aB.n oc (jw (d:=d) (h:=hh) i0 q da bh (di.has aG) (aH.mono aG oa) o! i0 0 o! (fun k_=>(((x 0)::(Pt da)::(x 2)::(Zn i0)::(Zi 0)::rx x 5 64 ((Zn i0)::(AV.ptr da 6)::q.aD::(Zn q.ar.length)::(AV.bool (decide (((i0:Nat):Int)<((q.ar.length:Nat):Int))))::(x 74)::(x 75)::(AV.ptr da 6)::q.aD::(Zn i0)::(AV.ptr p4 q5)::(AV.ptr p4 (q5+0))::(AV.str (q.ar.g i0).name)::(AV.bool (bM (q.ar.g i0).name))::(AV.bool (!(bM (q.ar.g i0).name)))::rx x 84 27 [])):List AV).getD k_ AV.undef) hh aF (Has.refl _) b6)
       have pw:=im.y
       have L_:hh.nx≤zP.nx:=im.n
       have mH:Has hh zP:=im.a
       obtain ⟨p12,q13,Im⟩:=(di.has aG).elem (i:=i0) o!
       have FR:b8 env (some (.slice 28)) (some q.aD) (some (Zn i0))=some (AV.ptr p12 q13):=Im
       have QB:bS env zP 28 (AV.ptr p12 q13)=some (AV.agg [(AV.str (q.ar.g i0).name),(Zi (q.ar.g i0).acc),(Zi (q.ar.g i0).aW),(Zi (q.ar.g i0).since)]):=((di.has aG).has mH).load o! Im
       have J':=tc (d:=d) (q.ar.g i0) (aH.mono mH ((di.has aG).ok (i:=i0) o!)) pw
       rcases Bool.eq_false_or_eq_true (!decide ((bj (q.ar.g i0))=0)) with f3 | f3
       · have kM:=rO f3
         exact aB.ret (bj (q.ar.g i0)) (by simp only[cF,f1,oc,f3,ak,ah]) (pk (d+2) _ _ hh _ zP (CN 2<|MM (ao 41 6 q.aD b6 k!)<|VV eb<|VV (aY 3 false false .i64 ((i0:Nat):Int) ((q.ar.length:Nat):Int))<|BC q2<|MM (ao 41 6 q.aD b6 k!)<|CC<|VV mU<|CC<|MM mn<|EE k7<|CC<|BC f1<|LL od<|CC<|MM (ao 41 6 q.aD (im.a _ _ b6) k!)<|CC<|VV FR<|MM QB<|EE J'<|CN 2<|VV (cf 31 false true .i64 (bj (q.ar.g i0)) 0)<|BB f3<|CN 2<|ZZ) k!) (⟨pw,mH,by omega⟩) k!
       · have kM:=rP f3
         have Kp:=eZ 3 false true i0 1 o!
         exact aB.round (by simp only[cF,f1,oc,f3,ak,ah]) (pk (d+2) _ _ hh _ zP (CN 2<|MM (ao 41 6 q.aD b6 k!)<|VV eb<|VV (aY 3 false false .i64 ((i0:Nat):Int) ((q.ar.length:Nat):Int))<|BC q2<|MM (ao 41 6 q.aD b6 k!)<|CC<|VV mU<|CC<|MM mn<|EE k7<|CC<|BC f1<|LL od<|CC<|MM (ao 41 6 q.aD (im.a _ _ b6) k!)<|CC<|VV FR<|MM QB<|EE J'<|CN 2<|VV (cf 31 false true .i64 (bj (q.ar.g i0)) 0)<|BC f3<|VV Kp<|CC<|ZZ) k!) (⟨pw,mH,by omega⟩) _ k! (fun x=>jy q da bh di oa eC (i0+1) o! x zP pw (aG.trans mH) (im.a _ _ b6))
     | some Xx=>
       obtain ⟨yl9,zP,od,im⟩:=aB.r oc (jw (d:=d) (h:=hh) i0 q da bh (di.has aG) (aH.mono aG oa) o! i0 0 o! (fun k_=>(((x 0)::(Pt da)::(x 2)::(Zn i0)::(Zi 0)::rx x 5 64 ((Zn i0)::(AV.ptr da 6)::q.aD::(Zn q.ar.length)::(AV.bool (decide (((i0:Nat):Int)<((q.ar.length:Nat):Int))))::(x 74)::(x 75)::(AV.ptr da 6)::q.aD::(Zn i0)::(AV.ptr p4 q5)::(AV.ptr p4 (q5+0))::(AV.str (q.ar.g i0).name)::(AV.bool (bM (q.ar.g i0).name))::(AV.bool (!(bM (q.ar.g i0).name)))::rx x 84 27 [])):List AV).getD k_ AV.undef) hh aF (Has.refl _) b6)
       have pw:=im.y
       have L_:hh.nx≤zP.nx:=im.n
       have mH:Has hh zP:=im.a
       exact aB.ret Xx (by simp only[cF,f1,oc,ak,ah]) (pk (d+2) _ _ hh _ zP (CN 2<|MM (ao 41 6 q.aD b6 k!)<|VV eb<|VV (aY 3 false false .i64 ((i0:Nat):Int) ((q.ar.length:Nat):Int))<|BC q2<|MM (ao 41 6 q.aD b6 k!)<|CC<|VV mU<|CC<|MM mn<|EE k7<|CC<|BC f1<|LL od<|ZZ) k!) (⟨pw,mH,by omega⟩) k!
def aS (q:aQ):Int:=(bif (!(bM q.name)) then 5 else (bif (!(bD q.aq)) then 1 else (bif (!(bD q.aj)) then 1 else (bif (decide (q.aj<q.aq)) then 1 else (bif (decide (q.aO<0)) then 1 else (bif (decide (10000<q.aO)) then 1 else (bif (decide (q.aR<0)) then 1 else (bif (decide (10000<q.aR)) then 1 else (bif (decide (8<((q.ar.length:Nat):Int))) then 3 else (bif (decide (q.bad<0)) then 1 else (bif (decide (((q.ar.length:Nat):Int)<q.bad)) then 1 else (match (cF q q.ar.length 0) with | none=>0 | some Kq=>Kq))))))))))))
theorem xF {d:Nat} {h:ax} (q:aQ) (Gy:aH.ok h q) (ca:Tidy h):cT (d+3) (.fn 34) [(AV.agg [(AV.str q.name),(Zi q.aq),(Zi q.aj),(Zi q.aO),(Zi q.aR),(Zi q.bad),q.aD])] h= .ret (Zi (aS q)) h:=by
 have Um:=Gy.2.small
 obtain ⟨h1,br,cD,lh,aA,dC⟩:=lk ca (aK.cells [(AV.str q.name),(Zi q.aq),(Zi q.aj),(Zi q.aO),(Zi q.aR),(Zi q.bad),q.aD] 43 false)
 have bB:Has h h1:=dC
 have k2:=tb (d:=d+1) q.name Gy.1 cD
 rcases Bool.eq_false_or_eq_true (!(bM q.name)) with f0 | f0
 · have e:aS q=5:=by simp only[aS,f0,ak,ah]
   rw[e]
   exact aw rfl (aI Tryz.func34 cb rfl (.inr rfl) (pk (d+2) _ _ h _ h1 (NN br (fun i=>(Pt i))<|CN 2<|MM (ao 9 0 (AV.str q.name) aA k!)<|EE k2<|CN 2<|BC f0<|ZZ) k!) k!) bB rfl
 · have k4:=uw (d:=d+1) q.aq cD
   rcases Bool.eq_false_or_eq_true (!(bD q.aq)) with f1 | f1
   · have e:aS q=1:=by simp only[aS,f0,f1,ak,ah]
     rw[e]
     exact aw rfl (aI Tryz.func34 cb rfl (.inr rfl) (pk (d+2) _ _ h _ h1 (NN br (fun i=>(Pt i))<|CN 2<|MM (ao 9 0 (AV.str q.name) aA k!)<|EE k2<|CN 2<|BB f0<|CN 2<|MM (ao 3 1 (Zi q.aq) aA k!)<|EE k4<|CN 2<|BB f1<|BB f1<|BB f1<|BB f1<|BV f1 (ml true f1)<|CC<|TT<|TT<|TT<|TT<|TT<|TT<|TT<|CN 2<|TT<|CC<|ZZ) k!) k!) bB rfl
   · have k6:=uw (d:=d+1) q.aj cD
     rcases Bool.eq_false_or_eq_true (!(bD q.aj)) with f2 | f2
     · have e:aS q=1:=by simp only[aS,f0,f1,f2,ak,ah]
       rw[e]
       exact aw rfl (aI Tryz.func34 cb rfl (.inr rfl) (pk (d+2) _ _ h _ h1 (NN br (fun i=>(Pt i))<|CN 2<|MM (ao 9 0 (AV.str q.name) aA k!)<|EE k2<|CN 2<|BB f0<|CN 2<|MM (ao 3 1 (Zi q.aq) aA k!)<|EE k4<|CN 2<|BC f1<|BC f1<|BM f1 (ao 3 2 (Zi q.aj) aA k!)<|BB f1<|EE k6<|BC f1<|VV (aE (a:=some (AV.bool true)) (b:=some (AV.bool (!(bD q.aj)))) f1)<|CC<|BB f2<|BB f2<|BB f2<|BB f2<|BB f2<|BB f2<|BV f2 (ml true f2)<|CC<|TT<|CC<|ZZ) k!) k!) bB rfl
     · rcases Bool.eq_false_or_eq_true (decide (q.aj<q.aq)) with f3 | f3
       · have kM:=of_decide_eq_true f3
         have e:aS q=1:=by simp only[aS,f0,f1,f2,f3,ak,ah]
         rw[e]
         exact aw rfl (aI Tryz.func34 cb rfl (.inr rfl) (pk (d+2) _ _ h _ h1 (NN br (fun i=>(Pt i))<|CN 2<|MM (ao 9 0 (AV.str q.name) aA k!)<|EE k2<|CN 2<|BB f0<|CN 2<|MM (ao 3 1 (Zi q.aq) aA k!)<|EE k4<|CN 2<|BC f1<|BC f1<|BM f1 (ao 3 2 (Zi q.aj) aA k!)<|BB f1<|EE k6<|BC f1<|VV (aE (a:=some (AV.bool true)) (b:=some (AV.bool (!(bD q.aj)))) f1)<|CC<|BC f2<|BC f2<|BM f2 (ao 3 1 (Zi q.aq) aA k!)<|BC f2<|BC f2<|BM f2 (ao 3 2 (Zi q.aj) aA k!)<|BV f2 (b7 3 false false .i64 q.aq q.aj)<|VV (aE (a:=some (AV.bool true)) (b:=some (AV.bool (decide (q.aj<q.aq)))) f2)<|CC<|BC f3<|ZZ) k!) k!) bB rfl
       · have kM:=of_decide_eq_false f3
         rcases Bool.eq_false_or_eq_true (decide (q.aO<0)) with f4 | f4
         · have lE:=of_decide_eq_true f4
           have e:aS q=1:=by simp only[aS,f0,f1,f2,f3,f4,ak,ah]
           rw[e]
           exact aw rfl (aI Tryz.func34 cb rfl (.inr rfl) (pk (d+2) _ _ h _ h1 (NN br (fun i=>(Pt i))<|CN 2<|MM (ao 9 0 (AV.str q.name) aA k!)<|EE k2<|CN 2<|BB f0<|CN 2<|MM (ao 3 1 (Zi q.aq) aA k!)<|EE k4<|CN 2<|BC f1<|BC f1<|BM f1 (ao 3 2 (Zi q.aj) aA k!)<|BB f1<|EE k6<|BC f1<|VV (aE (a:=some (AV.bool true)) (b:=some (AV.bool (!(bD q.aj)))) f1)<|CC<|BC f2<|BC f2<|BM f2 (ao 3 1 (Zi q.aq) aA k!)<|BC f2<|BC f2<|BM f2 (ao 3 2 (Zi q.aj) aA k!)<|BV f2 (b7 3 false false .i64 q.aq q.aj)<|VV (aE (a:=some (AV.bool true)) (b:=some (AV.bool (decide (q.aj<q.aq)))) f2)<|CC<|BC f3<|MM (ao 3 3 (Zi q.aO) aA k!)<|VV (aY 3 false true .i64 q.aO 0)<|CC<|BB f4<|BB f4<|BV f4 (ml true f4)<|CC<|TT<|TT<|TT<|CN 2<|TT<|TT<|TT<|CN 2<|TT<|CC<|ZZ) k!) k!) bB rfl
         · have lE:=of_decide_eq_false f4
           rcases Bool.eq_false_or_eq_true (decide (10000<q.aO)) with f5 | f5
           · have yN:=of_decide_eq_true f5
             have e:aS q=1:=by simp only[aS,f0,f1,f2,f3,f4,f5,ak,ah]
             rw[e]
             exact aw rfl (aI Tryz.func34 cb rfl (.inr rfl) (pk (d+2) _ _ h _ h1 (NN br (fun i=>(Pt i))<|CN 2<|MM (ao 9 0 (AV.str q.name) aA k!)<|EE k2<|CN 2<|BB f0<|CN 2<|MM (ao 3 1 (Zi q.aq) aA k!)<|EE k4<|CN 2<|BC f1<|BC f1<|BM f1 (ao 3 2 (Zi q.aj) aA k!)<|BB f1<|EE k6<|BC f1<|VV (aE (a:=some (AV.bool true)) (b:=some (AV.bool (!(bD q.aj)))) f1)<|CC<|BC f2<|BC f2<|BM f2 (ao 3 1 (Zi q.aq) aA k!)<|BC f2<|BC f2<|BM f2 (ao 3 2 (Zi q.aj) aA k!)<|BV f2 (b7 3 false false .i64 q.aq q.aj)<|VV (aE (a:=some (AV.bool true)) (b:=some (AV.bool (decide (q.aj<q.aq)))) f2)<|CC<|BC f3<|MM (ao 3 3 (Zi q.aO) aA k!)<|VV (aY 3 false true .i64 q.aO 0)<|CC<|BC f4<|BM f4 (ao 3 3 (Zi q.aO) aA k!)<|BV f4 (b7 3 false true .i64 q.aO 10000)<|VV (aE (a:=some (AV.bool true)) (b:=some (AV.bool (decide (10000<q.aO)))) f4)<|CC<|BB f5<|BB f5<|BV f5 (ml true f5)<|CC<|TT<|TT<|TT<|CN 2<|TT<|CC<|ZZ) k!) k!) bB rfl
           · have yN:=of_decide_eq_false f5
             rcases Bool.eq_false_or_eq_true (decide (q.aR<0)) with f6 | f6
             · have Xu:=of_decide_eq_true f6
               have e:aS q=1:=by simp only[aS,f0,f1,f2,f3,f4,f5,f6,ak,ah]
               rw[e]
               exact aw rfl (aI Tryz.func34 cb rfl (.inr rfl) (pk (d+2) _ _ h _ h1 (NN br (fun i=>(Pt i))<|CN 2<|MM (ao 9 0 (AV.str q.name) aA k!)<|EE k2<|CN 2<|BB f0<|CN 2<|MM (ao 3 1 (Zi q.aq) aA k!)<|EE k4<|CN 2<|BC f1<|BC f1<|BM f1 (ao 3 2 (Zi q.aj) aA k!)<|BB f1<|EE k6<|BC f1<|VV (aE (a:=some (AV.bool true)) (b:=some (AV.bool (!(bD q.aj)))) f1)<|CC<|BC f2<|BC f2<|BM f2 (ao 3 1 (Zi q.aq) aA k!)<|BC f2<|BC f2<|BM f2 (ao 3 2 (Zi q.aj) aA k!)<|BV f2 (b7 3 false false .i64 q.aq q.aj)<|VV (aE (a:=some (AV.bool true)) (b:=some (AV.bool (decide (q.aj<q.aq)))) f2)<|CC<|BC f3<|MM (ao 3 3 (Zi q.aO) aA k!)<|VV (aY 3 false true .i64 q.aO 0)<|CC<|BC f4<|BM f4 (ao 3 3 (Zi q.aO) aA k!)<|BV f4 (b7 3 false true .i64 q.aO 10000)<|VV (aE (a:=some (AV.bool true)) (b:=some (AV.bool (decide (10000<q.aO)))) f4)<|CC<|BC f5<|BM f5 (ao 3 4 (Zi q.aR) aA k!)<|BV f5 (aY 3 false true .i64 q.aR 0)<|VV (aE (a:=some (AV.bool true)) (b:=some (AV.bool (decide (q.aR<0)))) f5)<|CC<|BB f6<|BB f6<|BV f6 (ml true f6)<|CC<|TT<|CC<|ZZ) k!) k!) bB rfl
             · have Xu:=of_decide_eq_false f6
               rcases Bool.eq_false_or_eq_true (decide (10000<q.aR)) with f7 | f7
               · have Qy:=of_decide_eq_true f7
                 have e:aS q=1:=by simp only[aS,f0,f1,f2,f3,f4,f5,f6,f7,ak,ah]
                 rw[e]
                 exact aw rfl (aI Tryz.func34 cb rfl (.inr rfl) (pk (d+2) _ _ h _ h1 (NN br (fun i=>(Pt i))<|CN 2<|MM (ao 9 0 (AV.str q.name) aA k!)<|EE k2<|CN 2<|BB f0<|CN 2<|MM (ao 3 1 (Zi q.aq) aA k!)<|EE k4<|CN 2<|BC f1<|BC f1<|BM f1 (ao 3 2 (Zi q.aj) aA k!)<|BB f1<|EE k6<|BC f1<|VV (aE (a:=some (AV.bool true)) (b:=some (AV.bool (!(bD q.aj)))) f1)<|CC<|BC f2<|BC f2<|BM f2 (ao 3 1 (Zi q.aq) aA k!)<|BC f2<|BC f2<|BM f2 (ao 3 2 (Zi q.aj) aA k!)<|BV f2 (b7 3 false false .i64 q.aq q.aj)<|VV (aE (a:=some (AV.bool true)) (b:=some (AV.bool (decide (q.aj<q.aq)))) f2)<|CC<|BC f3<|MM (ao 3 3 (Zi q.aO) aA k!)<|VV (aY 3 false true .i64 q.aO 0)<|CC<|BC f4<|BM f4 (ao 3 3 (Zi q.aO) aA k!)<|BV f4 (b7 3 false true .i64 q.aO 10000)<|VV (aE (a:=some (AV.bool true)) (b:=some (AV.bool (decide (10000<q.aO)))) f4)<|CC<|BC f5<|BM f5 (ao 3 4 (Zi q.aR) aA k!)<|BV f5 (aY 3 false true .i64 q.aR 0)<|VV (aE (a:=some (AV.bool true)) (b:=some (AV.bool (decide (q.aR<0)))) f5)<|CC<|BC f6<|BM f6 (ao 3 4 (Zi q.aR) aA k!)<|BV f6 (b7 3 false true .i64 q.aR 10000)<|VV (aE (a:=some (AV.bool true)) (b:=some (AV.bool (decide (10000<q.aR)))) f6)<|CC<|BC f7<|ZZ) k!) k!) bB rfl
               · have Qy:=of_decide_eq_false f7
                 have QC:cg (some (.slice 28)) (some q.aD)=some (Zn q.ar.length):=Gy.2.len
                 rcases Bool.eq_false_or_eq_true (decide (8<((q.ar.length:Nat):Int))) with f8 | f8
                 · have Xy:=of_decide_eq_true f8
                   have e:aS q=3:=by simp only[aS,f0,f1,f2,f3,f4,f5,f6,f7,f8,ak,ah]
                   rw[e]
                   exact aw rfl (aI Tryz.func34 cb rfl (.inr rfl) (pk (d+2) _ _ h _ h1 (NN br (fun i=>(Pt i))<|CN 2<|MM (ao 9 0 (AV.str q.name) aA k!)<|EE k2<|CN 2<|BB f0<|CN 2<|MM (ao 3 1 (Zi q.aq) aA k!)<|EE k4<|CN 2<|BC f1<|BC f1<|BM f1 (ao 3 2 (Zi q.aj) aA k!)<|BB f1<|EE k6<|BC f1<|VV (aE (a:=some (AV.bool true)) (b:=some (AV.bool (!(bD q.aj)))) f1)<|CC<|BC f2<|BC f2<|BM f2 (ao 3 1 (Zi q.aq) aA k!)<|BC f2<|BC f2<|BM f2 (ao 3 2 (Zi q.aj) aA k!)<|BV f2 (b7 3 false false .i64 q.aq q.aj)<|VV (aE (a:=some (AV.bool true)) (b:=some (AV.bool (decide (q.aj<q.aq)))) f2)<|CC<|BC f3<|MM (ao 3 3 (Zi q.aO) aA k!)<|VV (aY 3 false true .i64 q.aO 0)<|CC<|BC f4<|BM f4 (ao 3 3 (Zi q.aO) aA k!)<|BV f4 (b7 3 false true .i64 q.aO 10000)<|VV (aE (a:=some (AV.bool true)) (b:=some (AV.bool (decide (10000<q.aO)))) f4)<|CC<|BC f5<|BM f5 (ao 3 4 (Zi q.aR) aA k!)<|BV f5 (aY 3 false true .i64 q.aR 0)<|VV (aE (a:=some (AV.bool true)) (b:=some (AV.bool (decide (q.aR<0)))) f5)<|CC<|BC f6<|BM f6 (ao 3 4 (Zi q.aR) aA k!)<|BV f6 (b7 3 false true .i64 q.aR 10000)<|VV (aE (a:=some (AV.bool true)) (b:=some (AV.bool (decide (10000<q.aR)))) f6)<|CC<|BC f7<|MM (ao 41 6 q.aD aA k!)<|VV QC<|VV (b7 3 false true .i64 ((q.ar.length:Nat):Int) 8)<|CC<|BC f8<|ZZ) k!) k!) bB rfl
                 · have Xy:=of_decide_eq_false f8
                   rcases Bool.eq_false_or_eq_true (decide (q.bad<0)) with f9 | f9
                   · have acv:=of_decide_eq_true f9
                     have e:aS q=1:=by simp only[aS,f0,f1,f2,f3,f4,f5,f6,f7,f8,f9,ak,ah]
                     rw[e]
                     exact aw rfl (aI Tryz.func34 cb rfl (.inr rfl) (pk (d+2) _ _ h _ h1 (NN br (fun i=>(Pt i))<|CN 2<|MM (ao 9 0 (AV.str q.name) aA k!)<|EE k2<|CN 2<|BB f0<|CN 2<|MM (ao 3 1 (Zi q.aq) aA k!)<|EE k4<|CN 2<|BC f1<|BC f1<|BM f1 (ao 3 2 (Zi q.aj) aA k!)<|BB f1<|EE k6<|BC f1<|VV (aE (a:=some (AV.bool true)) (b:=some (AV.bool (!(bD q.aj)))) f1)<|CC<|BC f2<|BC f2<|BM f2 (ao 3 1 (Zi q.aq) aA k!)<|BC f2<|BC f2<|BM f2 (ao 3 2 (Zi q.aj) aA k!)<|BV f2 (b7 3 false false .i64 q.aq q.aj)<|VV (aE (a:=some (AV.bool true)) (b:=some (AV.bool (decide (q.aj<q.aq)))) f2)<|CC<|BC f3<|MM (ao 3 3 (Zi q.aO) aA k!)<|VV (aY 3 false true .i64 q.aO 0)<|CC<|BC f4<|BM f4 (ao 3 3 (Zi q.aO) aA k!)<|BV f4 (b7 3 false true .i64 q.aO 10000)<|VV (aE (a:=some (AV.bool true)) (b:=some (AV.bool (decide (10000<q.aO)))) f4)<|CC<|BC f5<|BM f5 (ao 3 4 (Zi q.aR) aA k!)<|BV f5 (aY 3 false true .i64 q.aR 0)<|VV (aE (a:=some (AV.bool true)) (b:=some (AV.bool (decide (q.aR<0)))) f5)<|CC<|BC f6<|BM f6 (ao 3 4 (Zi q.aR) aA k!)<|BV f6 (b7 3 false true .i64 q.aR 10000)<|VV (aE (a:=some (AV.bool true)) (b:=some (AV.bool (decide (10000<q.aR)))) f6)<|CC<|BC f7<|MM (ao 41 6 q.aD aA k!)<|VV QC<|VV (b7 3 false true .i64 ((q.ar.length:Nat):Int) 8)<|CC<|BC f8<|MM (ao 3 5 (Zi q.bad) aA k!)<|VV (aY 3 false true .i64 q.bad 0)<|CC<|BB f9<|BB f9<|BB f9<|BB f9<|BB f9<|BV f9 (ml true f9)<|CC<|TT<|CC<|ZZ) k!) k!) bB rfl
                   · have acv:=of_decide_eq_false f9
                     have Xz:cg (some (.slice 28)) (some q.aD)=some (Zn q.ar.length):=Gy.2.len
                     rcases Bool.eq_false_or_eq_true (decide (((q.ar.length:Nat):Int)<q.bad)) with f10 | f10
                     · have aal:=of_decide_eq_true f10
                       have e:aS q=1:=by simp only[aS,f0,f1,f2,f3,f4,f5,f6,f7,f8,f9,f10,ak,ah]
                       rw[e]
                       exact aw rfl (aI Tryz.func34 cb rfl (.inr rfl) (pk (d+2) _ _ h _ h1 (NN br (fun i=>(Pt i))<|CN 2<|MM (ao 9 0 (AV.str q.name) aA k!)<|EE k2<|CN 2<|BB f0<|CN 2<|MM (ao 3 1 (Zi q.aq) aA k!)<|EE k4<|CN 2<|BC f1<|BC f1<|BM f1 (ao 3 2 (Zi q.aj) aA k!)<|BB f1<|EE k6<|BC f1<|VV (aE (a:=some (AV.bool true)) (b:=some (AV.bool (!(bD q.aj)))) f1)<|CC<|BC f2<|BC f2<|BM f2 (ao 3 1 (Zi q.aq) aA k!)<|BC f2<|BC f2<|BM f2 (ao 3 2 (Zi q.aj) aA k!)<|BV f2 (b7 3 false false .i64 q.aq q.aj)<|VV (aE (a:=some (AV.bool true)) (b:=some (AV.bool (decide (q.aj<q.aq)))) f2)<|CC<|BC f3<|MM (ao 3 3 (Zi q.aO) aA k!)<|VV (aY 3 false true .i64 q.aO 0)<|CC<|BC f4<|BM f4 (ao 3 3 (Zi q.aO) aA k!)<|BV f4 (b7 3 false true .i64 q.aO 10000)<|VV (aE (a:=some (AV.bool true)) (b:=some (AV.bool (decide (10000<q.aO)))) f4)<|CC<|BC f5<|BM f5 (ao 3 4 (Zi q.aR) aA k!)<|BV f5 (aY 3 false true .i64 q.aR 0)<|VV (aE (a:=some (AV.bool true)) (b:=some (AV.bool (decide (q.aR<0)))) f5)<|CC<|BC f6<|BM f6 (ao 3 4 (Zi q.aR) aA k!)<|BV f6 (b7 3 false true .i64 q.aR 10000)<|VV (aE (a:=some (AV.bool true)) (b:=some (AV.bool (decide (10000<q.aR)))) f6)<|CC<|BC f7<|MM (ao 41 6 q.aD aA k!)<|VV QC<|VV (b7 3 false true .i64 ((q.ar.length:Nat):Int) 8)<|CC<|BC f8<|MM (ao 3 5 (Zi q.bad) aA k!)<|VV (aY 3 false true .i64 q.bad 0)<|CC<|BC f9<|BM f9 (ao 3 5 (Zi q.bad) aA k!)<|BC f9<|BM f9 (ao 41 6 q.aD aA k!)<|BV f9 Xz<|BV f9 (b7 3 false false .i64 q.bad ((q.ar.length:Nat):Int))<|VV (aE (a:=some (AV.bool true)) (b:=some (AV.bool (decide (((q.ar.length:Nat):Int)<q.bad)))) f9)<|CC<|BC f10<|ZZ) k!) k!) bB rfl
                     · have aal:=of_decide_eq_false f10
                       cases nk:cF q q.ar.length 0 with
                       | none=>
                         obtain ⟨XA,FT,ru,oe⟩:=aB.n nk (jy (d:=d) (h:=h) q h.nx Gy.1 Gy.2 Gy q.ar.length 0 o! (fun k_=>(((AV.agg [(AV.str q.name),(Zi q.aq),(Zi q.aj),(Zi q.aO),(Zi q.aR),(Zi q.bad),q.aD])::(Pt h.nx)::(Zi 0)::(Zi 0)::AV.undef::AV.undef::(AV.bool (!(bM q.name)))::(Pt h.nx)::(AV.str q.name)::(AV.bool (bM q.name))::(AV.bool (!(bM q.name)))::(AV.bool (decide (q.aj<q.aq)))::(AV.ptr h.nx 1)::(AV.ptr h.nx 1)::(Zi q.aq)::(AV.bool (bD q.aq))::(AV.bool (!(bD q.aq)))::(AV.bool (!(bD q.aq)))::(AV.ptr h.nx 1)::(AV.ptr h.nx 2)::(Zi q.aj)::(AV.bool (bD q.aj))::(AV.bool (!(bD q.aj)))::(AV.bool (!(bD q.aj)))::(AV.bool (!(bD q.aj)))::(AV.ptr h.nx 1)::(AV.ptr h.nx 1)::(Zi q.aq)::(AV.ptr h.nx 1)::(AV.ptr h.nx 2)::(Zi q.aj)::(AV.bool (decide (q.aj<q.aq)))::(AV.bool (decide (q.aj<q.aq)))::(AV.bool (decide (10000<q.aR)))::(AV.ptr h.nx 3)::(Zi q.aO)::(AV.bool (decide (q.aO<0)))::(AV.bool (decide (q.aO<0)))::(AV.ptr h.nx 3)::(Zi q.aO)::(AV.bool (decide (10000<q.aO)))::(AV.bool (decide (10000<q.aO)))::(AV.bool (decide (10000<q.aO)))::(AV.ptr h.nx 4)::(Zi q.aR)::(AV.bool (decide (q.aR<0)))::(AV.bool (decide (q.aR<0)))::(AV.bool (decide (q.aR<0)))::(AV.ptr h.nx 4)::(Zi q.aR)::(AV.bool (decide (10000<q.aR)))::(AV.bool (decide (10000<q.aR)))::(AV.bool (decide (8<((q.ar.length:Nat):Int))))::(AV.ptr h.nx 6)::q.aD::(Zn q.ar.length)::(AV.bool (decide (8<((q.ar.length:Nat):Int))))::(AV.bool (decide (((q.ar.length:Nat):Int)<q.bad)))::(AV.ptr h.nx 5)::(Zi q.bad)::(AV.bool (decide (q.bad<0)))::(AV.bool (decide (q.bad<0)))::(AV.ptr h.nx 5)::(Zi q.bad)::(AV.ptr h.nx 6)::q.aD::(Zn q.ar.length)::(AV.bool (decide (((q.ar.length:Nat):Int)<q.bad)))::(AV.bool (decide (((q.ar.length:Nat):Int)<q.bad)))::jg 42):List AV).getD k_ AV.undef) h1 cD bB aA)
                         have Io:=oe.y
                         have Ma:h1.nx≤FT.nx:=oe.n
                         have xG:Has h FT:=bB.trans oe.a
                         have e:aS q=0:=by simp only[aS,f0,f1,f2,f3,f4,f5,f6,f7,f8,f9,f10,nk,ak,ah]
                         rw[e]
                         exact aw rfl (aI Tryz.func34 cb rfl (.inr rfl) (pk (d+2) _ _ h _ FT (NN br (fun i=>(Pt i))<|CN 2<|MM (ao 9 0 (AV.str q.name) aA k!)<|EE k2<|CN 2<|BB f0<|CN 2<|MM (ao 3 1 (Zi q.aq) aA k!)<|EE k4<|CN 2<|BC f1<|BC f1<|BM f1 (ao 3 2 (Zi q.aj) aA k!)<|BB f1<|EE k6<|BC f1<|VV (aE (a:=some (AV.bool true)) (b:=some (AV.bool (!(bD q.aj)))) f1)<|CC<|BC f2<|BC f2<|BM f2 (ao 3 1 (Zi q.aq) aA k!)<|BC f2<|BC f2<|BM f2 (ao 3 2 (Zi q.aj) aA k!)<|BV f2 (b7 3 false false .i64 q.aq q.aj)<|VV (aE (a:=some (AV.bool true)) (b:=some (AV.bool (decide (q.aj<q.aq)))) f2)<|CC<|BC f3<|MM (ao 3 3 (Zi q.aO) aA k!)<|VV (aY 3 false true .i64 q.aO 0)<|CC<|BC f4<|BM f4 (ao 3 3 (Zi q.aO) aA k!)<|BV f4 (b7 3 false true .i64 q.aO 10000)<|VV (aE (a:=some (AV.bool true)) (b:=some (AV.bool (decide (10000<q.aO)))) f4)<|CC<|BC f5<|BM f5 (ao 3 4 (Zi q.aR) aA k!)<|BV f5 (aY 3 false true .i64 q.aR 0)<|VV (aE (a:=some (AV.bool true)) (b:=some (AV.bool (decide (q.aR<0)))) f5)<|CC<|BC f6<|BM f6 (ao 3 4 (Zi q.aR) aA k!)<|BV f6 (b7 3 false true .i64 q.aR 10000)<|VV (aE (a:=some (AV.bool true)) (b:=some (AV.bool (decide (10000<q.aR)))) f6)<|CC<|BC f7<|MM (ao 41 6 q.aD aA k!)<|VV QC<|VV (b7 3 false true .i64 ((q.ar.length:Nat):Int) 8)<|CC<|BC f8<|MM (ao 3 5 (Zi q.bad) aA k!)<|VV (aY 3 false true .i64 q.bad 0)<|CC<|BC f9<|BM f9 (ao 3 5 (Zi q.bad) aA k!)<|BC f9<|BM f9 (ao 41 6 q.aD aA k!)<|BV f9 Xz<|BV f9 (b7 3 false false .i64 q.bad ((q.ar.length:Nat):Int))<|VV (aE (a:=some (AV.bool true)) (b:=some (AV.bool (decide (((q.ar.length:Nat):Int)<q.bad)))) f9)<|CC<|BC f10<|LL ru<|CC<|ZZ) k!) k!) xG rfl
                       | some Kq=>
                         obtain ⟨XA,FT,ru,oe⟩:=aB.r nk (jy (d:=d) (h:=h) q h.nx Gy.1 Gy.2 Gy q.ar.length 0 o! (fun k_=>(((AV.agg [(AV.str q.name),(Zi q.aq),(Zi q.aj),(Zi q.aO),(Zi q.aR),(Zi q.bad),q.aD])::(Pt h.nx)::(Zi 0)::(Zi 0)::AV.undef::AV.undef::(AV.bool (!(bM q.name)))::(Pt h.nx)::(AV.str q.name)::(AV.bool (bM q.name))::(AV.bool (!(bM q.name)))::(AV.bool (decide (q.aj<q.aq)))::(AV.ptr h.nx 1)::(AV.ptr h.nx 1)::(Zi q.aq)::(AV.bool (bD q.aq))::(AV.bool (!(bD q.aq)))::(AV.bool (!(bD q.aq)))::(AV.ptr h.nx 1)::(AV.ptr h.nx 2)::(Zi q.aj)::(AV.bool (bD q.aj))::(AV.bool (!(bD q.aj)))::(AV.bool (!(bD q.aj)))::(AV.bool (!(bD q.aj)))::(AV.ptr h.nx 1)::(AV.ptr h.nx 1)::(Zi q.aq)::(AV.ptr h.nx 1)::(AV.ptr h.nx 2)::(Zi q.aj)::(AV.bool (decide (q.aj<q.aq)))::(AV.bool (decide (q.aj<q.aq)))::(AV.bool (decide (10000<q.aR)))::(AV.ptr h.nx 3)::(Zi q.aO)::(AV.bool (decide (q.aO<0)))::(AV.bool (decide (q.aO<0)))::(AV.ptr h.nx 3)::(Zi q.aO)::(AV.bool (decide (10000<q.aO)))::(AV.bool (decide (10000<q.aO)))::(AV.bool (decide (10000<q.aO)))::(AV.ptr h.nx 4)::(Zi q.aR)::(AV.bool (decide (q.aR<0)))::(AV.bool (decide (q.aR<0)))::(AV.bool (decide (q.aR<0)))::(AV.ptr h.nx 4)::(Zi q.aR)::(AV.bool (decide (10000<q.aR)))::(AV.bool (decide (10000<q.aR)))::(AV.bool (decide (8<((q.ar.length:Nat):Int))))::(AV.ptr h.nx 6)::q.aD::(Zn q.ar.length)::(AV.bool (decide (8<((q.ar.length:Nat):Int))))::(AV.bool (decide (((q.ar.length:Nat):Int)<q.bad)))::(AV.ptr h.nx 5)::(Zi q.bad)::(AV.bool (decide (q.bad<0)))::(AV.bool (decide (q.bad<0)))::(AV.ptr h.nx 5)::(Zi q.bad)::(AV.ptr h.nx 6)::q.aD::(Zn q.ar.length)::(AV.bool (decide (((q.ar.length:Nat):Int)<q.bad)))::(AV.bool (decide (((q.ar.length:Nat):Int)<q.bad)))::jg 42):List AV).getD k_ AV.undef) h1 cD bB aA)
                         have Io:=oe.y
                         have Ma:h1.nx≤FT.nx:=oe.n
                         have xG:Has h FT:=bB.trans oe.a
                         have e:aS q=Kq:=by simp only[aS,f0,f1,f2,f3,f4,f5,f6,f7,f8,f9,f10,nk,ak,ah]
                         rw[e]
                         exact aw rfl (aI Tryz.func34 cb rfl (.inr rfl) (pk (d+2) _ _ h _ FT (NN br (fun i=>(Pt i))<|CN 2<|MM (ao 9 0 (AV.str q.name) aA k!)<|EE k2<|CN 2<|BB f0<|CN 2<|MM (ao 3 1 (Zi q.aq) aA k!)<|EE k4<|CN 2<|BC f1<|BC f1<|BM f1 (ao 3 2 (Zi q.aj) aA k!)<|BB f1<|EE k6<|BC f1<|VV (aE (a:=some (AV.bool true)) (b:=some (AV.bool (!(bD q.aj)))) f1)<|CC<|BC f2<|BC f2<|BM f2 (ao 3 1 (Zi q.aq) aA k!)<|BC f2<|BC f2<|BM f2 (ao 3 2 (Zi q.aj) aA k!)<|BV f2 (b7 3 false false .i64 q.aq q.aj)<|VV (aE (a:=some (AV.bool true)) (b:=some (AV.bool (decide (q.aj<q.aq)))) f2)<|CC<|BC f3<|MM (ao 3 3 (Zi q.aO) aA k!)<|VV (aY 3 false true .i64 q.aO 0)<|CC<|BC f4<|BM f4 (ao 3 3 (Zi q.aO) aA k!)<|BV f4 (b7 3 false true .i64 q.aO 10000)<|VV (aE (a:=some (AV.bool true)) (b:=some (AV.bool (decide (10000<q.aO)))) f4)<|CC<|BC f5<|BM f5 (ao 3 4 (Zi q.aR) aA k!)<|BV f5 (aY 3 false true .i64 q.aR 0)<|VV (aE (a:=some (AV.bool true)) (b:=some (AV.bool (decide (q.aR<0)))) f5)<|CC<|BC f6<|BM f6 (ao 3 4 (Zi q.aR) aA k!)<|BV f6 (b7 3 false true .i64 q.aR 10000)<|VV (aE (a:=some (AV.bool true)) (b:=some (AV.bool (decide (10000<q.aR)))) f6)<|CC<|BC f7<|MM (ao 41 6 q.aD aA k!)<|VV QC<|VV (b7 3 false true .i64 ((q.ar.length:Nat):Int) 8)<|CC<|BC f8<|MM (ao 3 5 (Zi q.bad) aA k!)<|VV (aY 3 false true .i64 q.bad 0)<|CC<|BC f9<|BM f9 (ao 3 5 (Zi q.bad) aA k!)<|BC f9<|BM f9 (ao 41 6 q.aD aA k!)<|BV f9 Xz<|BV f9 (b7 3 false false .i64 q.bad ((q.ar.length:Nat):Int))<|VV (aE (a:=some (AV.bool true)) (b:=some (AV.bool (decide (((q.ar.length:Nat):Int)<q.bad)))) f9)<|CC<|BC f10<|LL ru<|ZZ) k!) k!) xG rfl
end
end Go.Proofs.aM
