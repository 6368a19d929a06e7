import Derived.Test.YtfllahfbmaafcaaW0
set_option linter.unusedVariables false
set_option linter.unusedSimpArgs false
namespace Go.Proofs.aG
open Go.Proofs Ab
noncomputable section
set_option maxRecDepth 100000
set_option maxHeartbeats 4000000
def z_:Code:=(Try.f36.body).getD .skip
theorem qt:Try.f36.body=some z_:=by kernel_rfl
def Lv:Code:=(cc z_).getD 0 .skip
def cU (s:List UInt8):Nat→Nat→Option (Bool)
 | 0,_=>none
 | dQ+1,i0=>(bif (decide ((((s.g i0).toNat:Nat):Int)<97)) then (bif (decide ((((s.g i0).toNat:Nat):Int)<48)) then (bif (!decide ((((s.g i0).toNat:Nat):Int)=45)) then some false else cU s dQ (i0+1)) else (bif (decide (57<(((s.g i0).toNat:Nat):Int))) then (bif (!decide ((((s.g i0).toNat:Nat):Int)=45)) then some false else cU s dQ (i0+1)) else cU s dQ (i0+1))) else (bif (decide (122<(((s.g i0).toNat:Nat):Int))) then (bif (decide ((((s.g i0).toNat:Nat):Int)<48)) then (bif (!decide ((((s.g i0).toNat:Nat):Int)=45)) then some false else cU s dQ (i0+1)) else (bif (decide (57<(((s.g i0).toNat:Nat):Int))) then (bif (!decide ((((s.g i0).toNat:Nat):Int)=45)) then some false else cU s dQ (i0+1)) else cU s dQ (i0+1))) else cU s dQ (i0+1)))
theorem iZ {d:Nat} {h:aA} (s:List UInt8) (bF:s.length<2^60):∀(k_ i_:Nat) (_:i_+k_=(List.length s)) (x:Nat→AV) (hh:aA) (aQ:Tidy hh) (aW:Has h hh),aU (cz (d)) Lv ⟨((AV.str s)::(x 1)::(x 2)::(Zn i_)::rx x 4 46 []),hh,[],.no⟩ (.exit 0) hh (fun y=>((AV.str s)::rx y 1 49 [])) (fun r y=>((AV.str s)::(y 1)::(AV.bool r)::rx y 3 47 [])) (cU s k_ i_)
 | 0,i0,kY,x,hh,aQ,aW=>by
   have sn1:s.length<2^60:=bF
   have q2:(decide (((i0:Nat):Int)<((List.length s:Nat):Int)))=false:=d!
   exact aU.out rfl (pk (d) _ _ hh _ hh (CN 3<|VV (bK 3 false false .i64 ((i0:Nat):Int) ((List.length s:Nat):Int))<|BB q2<|ZZ) k!) (Grow.refl aQ) k!
 | dQ+1,i0,kY,x,hh,aQ,aW=>by
   have sn1:s.length<2^60:=bF
   have q2:(decide (((i0:Nat):Int)<((List.length s:Nat):Int)))=true:=d!
   have tb:rq env (some .string) (some (AV.str s)) (some (Zn i0))=some (AV.int .u8 (((s.g i0).toNat:Nat):Int)):=ko (j:=i0) o!
   have mV:=fun {al ps} (k:Pk al _ ps)=>(CN 3<|VV (bK 3 false false .i64 ((i0:Nat):Int) ((List.length s:Nat):Int))<|BB q2<|CN 2<|VV tb<|CN 2<|k:Pk _ [] ps)
   rcases bZq (decide ((((s.g i0).toNat:Nat):Int)<97)) with f1 | f1
   · have ic:=of_decide_eq_true f1
     rcases bZq (decide ((((s.g i0).toNat:Nat):Int)<48)) with f2 | f2
     · have my:=of_decide_eq_true f2
       have yC:=fun {al ps} (k:Pk al _ ps)=>(mV<|VV (bK 5 false true .u8 (((s.g i0).toNat:Nat):Int) 97)<|CC<|BB f1<|BV f1 (ow true f1)<|CC<|TT<|CC<|TT<|VV (bK 5 false true .u8 (((s.g i0).toNat:Nat):Int) 48)<|TT<|CC<|BB f2<|BB f2<|TT<|VV (ow true f2)<|CN 2<|TT<|CC<|TT<|VV (kF 5 false true .u8 (((s.g i0).toNat:Nat):Int) 45)<|CC<|k:Pk _ [] ps)
       rcases bZq (!decide ((((s.g i0).toNat:Nat):Int)=45)) with f3 | f3
       · have lr:=DS f3
         exact aU.ret false (by simp only[cU,f1,f2,f3,ak,aj]) (pk (d) _ _ hh _ hh (yC<|BC f3<|ZZ) k!) (Grow.refl aQ) k!
       · have lr:=DT f3
         have u7:=fu 3 false true i0 1 o!
         exact aU.round (by simp only[cU,f1,f2,f3,ak,aj]) (pk (d) _ _ hh _ hh (yC<|BC f3<|VV u7<|CC<|ZZ) k!) (Grow.refl aQ) _ k! (fun x=>iZ s bF dQ (i0+1) o! x hh aQ aW)
     · have my:=of_decide_eq_false f2
       rcases bZq (decide (57<(((s.g i0).toNat:Nat):Int))) with f3 | f3
       · have lr:=of_decide_eq_true f3
         rcases bZq (!decide ((((s.g i0).toNat:Nat):Int)=45)) with f4 | f4
         · have jV:=DS f4
           exact aU.ret false (by simp only[cU,f1,f2,f3,f4,ak,aj]) (pk (d) _ _ hh _ hh (mV<|VV (bK 5 false true .u8 (((s.g i0).toNat:Nat):Int) 97)<|CC<|BB f1<|BV f1 (ow true f1)<|CC<|TT<|CC<|TT<|VV (bK 5 false true .u8 (((s.g i0).toNat:Nat):Int) 48)<|TT<|CC<|BC f2<|BV f2 (cI 5 false true .u8 (((s.g i0).toNat:Nat):Int) 57)<|TT<|VV (aZ (a:=some (AV.bool true)) (b:=some (AV.bool (decide (57<(((s.g i0).toNat:Nat):Int))))) f2)<|CN 2<|BC f3<|BV f3 (kF 5 false true .u8 (((s.g i0).toNat:Nat):Int) 45)<|VV (ov (!decide ((((s.g i0).toNat:Nat):Int)=45)) false f3)<|BC f4<|ZZ) k!) (Grow.refl aQ) k!
         · have jV:=DT f4
           have u8:=fu 3 false true i0 1 o!
           exact aU.round (by simp only[cU,f1,f2,f3,f4,ak,aj]) (pk (d) _ _ hh _ hh (mV<|VV (bK 5 false true .u8 (((s.g i0).toNat:Nat):Int) 97)<|CC<|BB f1<|BV f1 (ow true f1)<|CC<|TT<|CC<|TT<|VV (bK 5 false true .u8 (((s.g i0).toNat:Nat):Int) 48)<|TT<|CC<|BC f2<|BV f2 (cI 5 false true .u8 (((s.g i0).toNat:Nat):Int) 57)<|TT<|VV (aZ (a:=some (AV.bool true)) (b:=some (AV.bool (decide (57<(((s.g i0).toNat:Nat):Int))))) f2)<|CN 2<|BC f3<|BV f3 (kF 5 false true .u8 (((s.g i0).toNat:Nat):Int) 45)<|VV (ov (!decide ((((s.g i0).toNat:Nat):Int)=45)) false f3)<|BC f4<|VV u8<|CC<|ZZ) k!) (Grow.refl aQ) _ k! (fun x=>iZ s bF dQ (i0+1) o! x hh aQ aW)
       · have lr:=of_decide_eq_false f3
         have u7:=fu 3 false true i0 1 o!
         exact aU.round (by simp only[cU,f1,f2,f3,ak,aj]) (pk (d) _ _ hh _ hh (mV<|VV (bK 5 false true .u8 (((s.g i0).toNat:Nat):Int) 97)<|CC<|BB f1<|BV f1 (ow true f1)<|CC<|TT<|CC<|TT<|VV (bK 5 false true .u8 (((s.g i0).toNat:Nat):Int) 48)<|TT<|CC<|BC f2<|BV f2 (cI 5 false true .u8 (((s.g i0).toNat:Nat):Int) 57)<|TT<|VV (aZ (a:=some (AV.bool true)) (b:=some (AV.bool (decide (57<(((s.g i0).toNat:Nat):Int))))) f2)<|CN 2<|BB f3<|BV f3 (uL false f3)<|FF<|CC<|VV u7<|CC<|ZZ) k!) (Grow.refl aQ) _ k! (fun x=>iZ s bF dQ (i0+1) o! x hh aQ aW)
   · have ic:=of_decide_eq_false f1
     rcases bZq (decide (122<(((s.g i0).toNat:Nat):Int))) with f2 | f2
     · have my:=of_decide_eq_true f2
       rcases bZq (decide ((((s.g i0).toNat:Nat):Int)<48)) with f3 | f3
       · have lr:=of_decide_eq_true f3
         rcases bZq (!decide ((((s.g i0).toNat:Nat):Int)=45)) with f4 | f4
         · have jV:=DS f4
           exact aU.ret false (by simp only[cU,f1,f2,f3,f4,ak,aj]) (pk (d) _ _ hh _ hh (mV<|VV (bK 5 false true .u8 (((s.g i0).toNat:Nat):Int) 97)<|CC<|BC f1<|BV f1 (cI 5 false true .u8 (((s.g i0).toNat:Nat):Int) 122)<|VV (aZ (a:=some (AV.bool true)) (b:=some (AV.bool (decide (122<(((s.g i0).toNat:Nat):Int))))) f1)<|CC<|BC f2<|BV f2 (bK 5 false true .u8 (((s.g i0).toNat:Nat):Int) 48)<|BC f2<|BB f3<|BB f3<|BV f2 (ow true f3)<|VV (ov true false f2)<|CC<|TT<|CC<|TT<|VV (kF 5 false true .u8 (((s.g i0).toNat:Nat):Int) 45)<|CC<|BC f4<|ZZ) k!) (Grow.refl aQ) k!
         · have jV:=DT f4
           have u8:=fu 3 false true i0 1 o!
           exact aU.round (by simp only[cU,f1,f2,f3,f4,ak,aj]) (pk (d) _ _ hh _ hh (mV<|VV (bK 5 false true .u8 (((s.g i0).toNat:Nat):Int) 97)<|CC<|BC f1<|BV f1 (cI 5 false true .u8 (((s.g i0).toNat:Nat):Int) 122)<|VV (aZ (a:=some (AV.bool true)) (b:=some (AV.bool (decide (122<(((s.g i0).toNat:Nat):Int))))) f1)<|CC<|BC f2<|BV f2 (bK 5 false true .u8 (((s.g i0).toNat:Nat):Int) 48)<|BC f2<|BB f3<|BB f3<|BV f2 (ow true f3)<|VV (ov true false f2)<|CC<|TT<|CC<|TT<|VV (kF 5 false true .u8 (((s.g i0).toNat:Nat):Int) 45)<|CC<|BC f4<|VV u8<|CC<|ZZ) k!) (Grow.refl aQ) _ k! (fun x=>iZ s bF dQ (i0+1) o! x hh aQ aW)
       · have lr:=of_decide_eq_false f3
         rcases bZq (decide (57<(((s.g i0).toNat:Nat):Int))) with f4 | f4
         · have jV:=of_decide_eq_true f4
           have EP:=fun {al ps} (k:Pk al _ ps)=>(mV<|VV (bK 5 false true .u8 (((s.g i0).toNat:Nat):Int) 97)<|CC<|BC f1<|BV f1 (cI 5 false true .u8 (((s.g i0).toNat:Nat):Int) 122)<|VV (aZ (a:=some (AV.bool true)) (b:=some (AV.bool (decide (122<(((s.g i0).toNat:Nat):Int))))) f1)<|CC<|BC f2<|BV f2 (bK 5 false true .u8 (((s.g i0).toNat:Nat):Int) 48)<|BC f2<|BC f3<|BV f3 (cI 5 false true .u8 (((s.g i0).toNat:Nat):Int) 57)<|BV f2 (aZ (a:=some (AV.bool true)) (b:=some (AV.bool (decide (57<(((s.g i0).toNat:Nat):Int))))) f3)<|VV (ov (decide (57<(((s.g i0).toNat:Nat):Int))) false f2)<|CC<|BC f4<|BV f4 (kF 5 false true .u8 (((s.g i0).toNat:Nat):Int) 45)<|VV (ov (!decide ((((s.g i0).toNat:Nat):Int)=45)) false f4)<|k:Pk _ [] ps)
           rcases bZq (!decide ((((s.g i0).toNat:Nat):Int)=45)) with f5 | f5
           · have tc:=DS f5
             exact aU.ret false (by simp only[cU,f1,f2,f3,f4,f5,ak,aj]) (pk (d) _ _ hh _ hh (EP<|BC f5<|ZZ) k!) (Grow.refl aQ) k!
           · have tc:=DT f5
             have u9:=fu 3 false true i0 1 o!
             exact aU.round (by simp only[cU,f1,f2,f3,f4,f5,ak,aj]) (pk (d) _ _ hh _ hh (EP<|BC f5<|VV u9<|CC<|ZZ) k!) (Grow.refl aQ) _ k! (fun x=>iZ s bF dQ (i0+1) o! x hh aQ aW)
         · have jV:=of_decide_eq_false f4
           have u8:=fu 3 false true i0 1 o!
           exact aU.round (by simp only[cU,f1,f2,f3,f4,ak,aj]) (pk (d) _ _ hh _ hh (mV<|VV (bK 5 false true .u8 (((s.g i0).toNat:Nat):Int) 97)<|CC<|BC f1<|BV f1 (cI 5 false true .u8 (((s.g i0).toNat:Nat):Int) 122)<|VV (aZ (a:=some (AV.bool true)) (b:=some (AV.bool (decide (122<(((s.g i0).toNat:Nat):Int))))) f1)<|CC<|BC f2<|BV f2 (bK 5 false true .u8 (((s.g i0).toNat:Nat):Int) 48)<|BC f2<|BC f3<|BV f3 (cI 5 false true .u8 (((s.g i0).toNat:Nat):Int) 57)<|BV f2 (aZ (a:=some (AV.bool true)) (b:=some (AV.bool (decide (57<(((s.g i0).toNat:Nat):Int))))) f3)<|VV (ov (decide (57<(((s.g i0).toNat:Nat):Int))) false f2)<|CC<|BB f4<|BV f4 (uL false f4)<|FF<|CC<|VV u8<|CC<|ZZ) k!) (Grow.refl aQ) _ k! (fun x=>iZ s bF dQ (i0+1) o! x hh aQ aW)
     · have my:=of_decide_eq_false f2
       have u6:=fu 3 false true i0 1 o!
       exact aU.round (by simp only[cU,f1,f2,ak,aj]) (pk (d) _ _ hh _ hh (mV<|VV (bK 5 false true .u8 (((s.g i0).toNat:Nat):Int) 97)<|CC<|BC f1<|BV f1 (cI 5 false true .u8 (((s.g i0).toNat:Nat):Int) 122)<|VV (aZ (a:=some (AV.bool true)) (b:=some (AV.bool (decide (122<(((s.g i0).toNat:Nat):Int))))) f1)<|CC<|BB f2<|BB f2<|BB f2<|BV f2 (uL false f2)<|CC<|FF<|FF<|CC<|FF<|CC<|VV u6<|CC<|ZZ) k!) (Grow.refl aQ) _ k! (fun x=>iZ s bF dQ (i0+1) o! x hh aQ aW)
def dO (s:List UInt8):Bool:=(bif (decide (((List.length s:Nat):Int)=0)) then false else (bif (decide (16<((List.length s:Nat):Int))) then false else (bif (decide ((((s.g 0).toNat:Nat):Int)<97)) then false else (bif (decide (122<(((s.g 0).toNat:Nat):Int))) then false else (match (cU s (List.length s) 0) with | none=>true | some rr8=>rr8)))))
theorem Jr {d:Nat} {h:aA} (s:List UInt8) (Ca:s.length<2^60) (bS:Tidy h):cz (d+1) (.fn 36) [(AV.str s)] h= .ret (AV.bool (dO s)) h:=by
 have sn1:s.length<2^60:=Ca
 have ES:=fun {al ps} (k:Pk al _ ps)=>(CN 3<|VV (lV 3 false true .i64 ((List.length s:Nat):Int) 0)<|CC<|k:Pk _ [] ps)
 rcases bZq (decide (((List.length s:Nat):Int)=0)) with f0 | f0
 · have jW:=of_decide_eq_true f0
   have e:dO s=false:=by simp only[dO,f0,ak,aj]
   rw[e]
   exact aE rfl (ba Try.func36 qt rfl (.inr rfl) (pk (d) _ _ h _ h (ES<|BB f0<|BB f0<|BV f0 (ow true f0)<|CC<|TT<|TT<|TT<|CN 2<|TT<|TT<|TT<|CC<|TT<|CC<|ZZ) k!) k!) (Has.refl _) rfl
 · have jW:=of_decide_eq_false f0
   have Cb:=fun {al ps} (k:Pk al _ ps)=>(ES<|BC f0<|BC f0<|BV f0 (cI 3 false true .i64 ((List.length s:Nat):Int) 16)<|k:Pk _ [] ps)
   rcases bZq (decide (16<((List.length s:Nat):Int))) with f1 | f1
   · have ic:=of_decide_eq_true f1
     have e:dO s=false:=by simp only[dO,f0,f1,ak,aj]
     rw[e]
     exact aE rfl (ba Try.func36 qt rfl (.inr rfl) (pk (d) _ _ h _ h (Cb<|VV (aZ (a:=some (AV.bool true)) (b:=some (AV.bool (decide (16<((List.length s:Nat):Int))))) f0)<|CC<|BB f1<|BB f1<|BV f1 (ow true f1)<|CC<|TT<|TT<|TT<|CC<|TT<|CC<|ZZ) k!) k!) (Has.refl _) rfl
   · have ic:=of_decide_eq_false f1
     have Qo:rq env (some .string) (some (AV.str s)) (some (Zi 0))=some (AV.int .u8 (((s.g 0).toNat:Nat):Int)):=ko (j:=0) o!
     rcases bZq (decide ((((s.g 0).toNat:Nat):Int)<97)) with f2 | f2
     · have my:=of_decide_eq_true f2
       have e:dO s=false:=by simp only[dO,f0,f1,f2,ak,aj]
       rw[e]
       exact aE rfl (ba Try.func36 qt rfl (.inr rfl) (pk (d) _ _ h _ h (Cb<|VV (aZ (a:=some (AV.bool true)) (b:=some (AV.bool (decide (16<((List.length s:Nat):Int))))) f0)<|CC<|BC f1<|BV f1 Qo<|BV f1 (bK 5 false true .u8 (((s.g 0).toNat:Nat):Int) 97)<|VV (aZ (a:=some (AV.bool true)) (b:=some (AV.bool (decide ((((s.g 0).toNat:Nat):Int)<97)))) f1)<|CC<|BB f2<|BB f2<|BV f2 (ow true f2)<|TT<|CC<|ZZ) k!) k!) (Has.refl _) rfl
     · have my:=of_decide_eq_false f2
       have Po:rq env (some .string) (some (AV.str s)) (some (Zi 0))=some (AV.int .u8 (((s.g 0).toNat:Nat):Int)):=ko (j:=0) o!
       rcases bZq (decide (122<(((s.g 0).toNat:Nat):Int))) with f3 | f3
       · have lr:=of_decide_eq_true f3
         have e:dO s=false:=by simp only[dO,f0,f1,f2,f3,ak,aj]
         rw[e]
         exact aE rfl (ba Try.func36 qt rfl (.inr rfl) (pk (d) _ _ h _ h (Cb<|VV (aZ (a:=some (AV.bool true)) (b:=some (AV.bool (decide (16<((List.length s:Nat):Int))))) f0)<|CC<|BC f1<|BV f1 Qo<|BV f1 (bK 5 false true .u8 (((s.g 0).toNat:Nat):Int) 97)<|VV (aZ (a:=some (AV.bool true)) (b:=some (AV.bool (decide ((((s.g 0).toNat:Nat):Int)<97)))) f1)<|CC<|BC f2<|BV f2 Po<|BV f2 (cI 5 false true .u8 (((s.g 0).toNat:Nat):Int) 122)<|VV (aZ (a:=some (AV.bool true)) (b:=some (AV.bool (decide (122<(((s.g 0).toNat:Nat):Int))))) f2)<|BC f3<|ZZ) k!) k!) (Has.refl _) rfl
       · have lr:=of_decide_eq_false f3
         have lp6:=iZ (d:=d) (h:=h) s Ca (List.length s) 0 o! (fun k_=>(((AV.str s)::AV.undef::(AV.bool false)::(Zi 0)::AV.undef::(AV.str s)::(Zn (List.length s))::(AV.bool (decide (((List.length s:Nat):Int)=0)))::(AV.bool (decide (((List.length s:Nat):Int)=0)))::(AV.str s)::(Zn (List.length s))::(AV.bool (decide (16<((List.length s:Nat):Int))))::(AV.bool (decide (16<((List.length s:Nat):Int))))::(AV.bool (decide (16<((List.length s:Nat):Int))))::(AV.str s)::(AV.int .u8 (((s.g 0).toNat:Nat):Int))::(AV.bool (decide ((((s.g 0).toNat:Nat):Int)<97)))::(AV.bool (decide ((((s.g 0).toNat:Nat):Int)<97)))::(AV.bool (decide ((((s.g 0).toNat:Nat):Int)<97)))::(AV.str s)::(AV.int .u8 (((s.g 0).toNat:Nat):Int))::(AV.bool (decide (122<(((s.g 0).toNat:Nat):Int))))::(AV.bool (decide (122<(((s.g 0).toNat:Nat):Int))))::iL 27):List AV).getD k_ AV.undef) h bS (Has.refl _)
         cases GP:cU s (List.length s) 0 with
         | none=>
           obtain ⟨yl8,h9,Lw,qu⟩:=aU.n GP lp6
           have nM:=qu.y
           have Z1:h.nx≤h9.nx:=qu.n
           have jM:Has h h9:=qu.a
           have e:dO s=true:=by simp only[dO,f0,f1,f2,f3,GP,ak,aj]
           rw[e]
           exact aE rfl (ba Try.func36 qt rfl (.inr rfl) (pk (d) _ _ h _ h9 (Cb<|VV (aZ (a:=some (AV.bool true)) (b:=some (AV.bool (decide (16<((List.length s:Nat):Int))))) f0)<|CC<|BC f1<|BV f1 Qo<|BV f1 (bK 5 false true .u8 (((s.g 0).toNat:Nat):Int) 97)<|VV (aZ (a:=some (AV.bool true)) (b:=some (AV.bool (decide ((((s.g 0).toNat:Nat):Int)<97)))) f1)<|CC<|BC f2<|BV f2 Po<|BV f2 (cI 5 false true .u8 (((s.g 0).toNat:Nat):Int) 122)<|VV (aZ (a:=some (AV.bool true)) (b:=some (AV.bool (decide (122<(((s.g 0).toNat:Nat):Int))))) f2)<|BC f3<|LL Lw<|CC<|ZZ) k!) k!) jM rfl
         | some rr8=>
           obtain ⟨yl8,h9,Lw,qu⟩:=aU.r GP lp6
           have nM:=qu.y
           have Z1:h.nx≤h9.nx:=qu.n
           have jM:Has h h9:=qu.a
           have e:dO s=rr8:=by simp only[dO,f0,f1,f2,f3,GP,ak,aj]
           rw[e]
           exact aE rfl (ba Try.func36 qt rfl (.inr rfl) (pk (d) _ _ h _ h9 (Cb<|VV (aZ (a:=some (AV.bool true)) (b:=some (AV.bool (decide (16<((List.length s:Nat):Int))))) f0)<|CC<|BC f1<|BV f1 Qo<|BV f1 (bK 5 false true .u8 (((s.g 0).toNat:Nat):Int) 97)<|VV (aZ (a:=some (AV.bool true)) (b:=some (AV.bool (decide ((((s.g 0).toNat:Nat):Int)<97)))) f1)<|CC<|BC f2<|BV f2 Po<|BV f2 (cI 5 false true .u8 (((s.g 0).toNat:Nat):Int) 122)<|VV (aZ (a:=some (AV.bool true)) (b:=some (AV.bool (decide (122<(((s.g 0).toNat:Nat):Int))))) f2)<|BC f3<|LL Lw<|ZZ) k!) k!) jM rfl
def GQ:Code:=(Try.f30.body).getD .skip
theorem ET:Try.f30.body=some GQ:=by kernel_rfl
def fJ (n:Int):Bool:=(bif (decide (0≤n)) then (decide (n≤100000)) else false)
theorem zh {d:Nat} {h:aA} (n:Int) (bS:Tidy h):cz (d+1) (.fn 30) [(Zi n)] h= .ret (AV.bool (fJ n)) h:=by
 rcases bZq (decide (0≤n)) with f0 | f0
 · have jW:=of_decide_eq_true f0
   have e:fJ n=(decide (n≤100000)):=by simp only[fJ,f0,ak,aj]
   rw[e]
   exact aE rfl (ba Try.func30 ET rfl (.inr rfl) (pk (d) _ _ h _ h (CN 2<|VV (oe 3 false true .i64 n 0)<|CC<|BC f0<|BV f0 (sf 3 false true .i64 n 100000)<|VV (ov (decide (n≤100000)) false f0)<|CC<|ZZ) k!) k!) (Has.refl _) rfl
 · have jW:=of_decide_eq_false f0
   have e:fJ n=false:=by simp only[fJ,f0,ak,aj]
   rw[e]
   exact aE rfl (ba Try.func30 ET rfl (.inr rfl) (pk (d) _ _ h _ h (CN 2<|VV (oe 3 false true .i64 n 0)<|CC<|BB f0<|BV f0 (uL false f0)<|CC<|ZZ) k!) k!) (Has.refl _) rfl
def xE:Code:=(Try.f38.body).getD .skip
theorem iM:Try.f38.body=some xE:=by kernel_rfl
def bN (g:bV):Int:=(bif (decide (g.acc<0)) then 1 else (bif (decide (1000000000<g.acc)) then 1 else (bif (decide (g.bQ<0)) then 1 else (bif (decide (1000000000<g.bQ)) then 1 else (bif (!(fJ g.since)) then 1 else 0)))))
theorem Cc {d:Nat} {h:aA} (g:bV) (Z2:aF.ok h g) (bS:Tidy h):cz (d+2) (.fn 38) [(AV.agg [(AV.str g.name),(Zi g.acc),(Zi g.bQ),(Zi g.since)])] h= .ret (Zi (bN g)) h:=by
 obtain ⟨h1,cj,cg,iu,bf,cf⟩:=fY bS (aX.cells [(AV.str g.name),(Zi g.acc),(Zi g.bQ),(Zi g.since)] 45 false)
 have bA:Has h h1:=cf
 rcases bZq (decide (g.acc<0)) with f0 | f0
 · have jW:=of_decide_eq_true f0
   have e:bN g=1:=by simp only[bN,f0,ak,aj]
   rw[e]
   exact aE rfl (ba Try.func38 iM rfl (.inr rfl) (pk (d+1) _ _ h _ h1 (NN cj (fun i=>(Pt i))<|CN 2<|MM (aO 3 1 (Zi g.acc) bf k!)<|VV (bK 3 false true .i64 g.acc 0)<|CC<|BB f0<|BB f0<|BV f0 (ow true f0)<|CC<|TT<|TT<|TT<|CN 2<|TT<|TT<|TT<|CN 2<|TT<|TT<|TT<|TT<|CC<|TT<|CC<|ZZ) k!) k!) bA rfl
 · have jW:=of_decide_eq_false f0
   rcases bZq (decide (1000000000<g.acc)) with f1 | f1
   · have ic:=of_decide_eq_true f1
     have e:bN g=1:=by simp only[bN,f0,f1,ak,aj]
     rw[e]
     exact aE rfl (ba Try.func38 iM rfl (.inr rfl) (pk (d+1) _ _ h _ h1 (NN cj (fun i=>(Pt i))<|CN 2<|MM (aO 3 1 (Zi g.acc) bf k!)<|VV (bK 3 false true .i64 g.acc 0)<|CC<|BC f0<|BM f0 (aO 3 1 (Zi g.acc) bf k!)<|BV f0 (cI 3 false true .i64 g.acc 1000000000)<|VV (aZ (a:=some (AV.bool true)) (b:=some (AV.bool (decide (1000000000<g.acc)))) f0)<|CC<|BB f1<|BB f1<|BV f1 (ow true f1)<|CC<|TT<|TT<|TT<|CN 2<|TT<|TT<|TT<|TT<|CC<|TT<|CC<|ZZ) k!) k!) bA rfl
   · have ic:=of_decide_eq_false f1
     rcases bZq (decide (g.bQ<0)) with f2 | f2
     · have my:=of_decide_eq_true f2
       have e:bN g=1:=by simp only[bN,f0,f1,f2,ak,aj]
       rw[e]
       exact aE rfl (ba Try.func38 iM rfl (.inr rfl) (pk (d+1) _ _ h _ h1 (NN cj (fun i=>(Pt i))<|CN 2<|MM (aO 3 1 (Zi g.acc) bf k!)<|VV (bK 3 false true .i64 g.acc 0)<|CC<|BC f0<|BM f0 (aO 3 1 (Zi g.acc) bf k!)<|BV f0 (cI 3 false true .i64 g.acc 1000000000)<|VV (aZ (a:=some (AV.bool true)) (b:=some (AV.bool (decide (1000000000<g.acc)))) f0)<|CC<|BC f1<|BM f1 (aO 3 2 (Zi g.bQ) bf k!)<|BV f1 (bK 3 false true .i64 g.bQ 0)<|VV (aZ (a:=some (AV.bool true)) (b:=some (AV.bool (decide (g.bQ<0)))) f1)<|CC<|BB f2<|BB f2<|BV f2 (ow true f2)<|CC<|TT<|TT<|TT<|TT<|CC<|TT<|CC<|ZZ) k!) k!) bA rfl
     · have my:=of_decide_eq_false f2
       rcases bZq (decide (1000000000<g.bQ)) with f3 | f3
       · have lr:=of_decide_eq_true f3
         have e:bN g=1:=by simp only[bN,f0,f1,f2,f3,ak,aj]
         rw[e]
         exact aE rfl (ba Try.func38 iM rfl (.inr rfl) (pk (d+1) _ _ h _ h1 (NN cj (fun i=>(Pt i))<|CN 2<|MM (aO 3 1 (Zi g.acc) bf k!)<|VV (bK 3 false true .i64 g.acc 0)<|CC<|BC f0<|BM f0 (aO 3 1 (Zi g.acc) bf k!)<|BV f0 (cI 3 false true .i64 g.acc 1000000000)<|VV (aZ (a:=some (AV.bool true)) (b:=some (AV.bool (decide (1000000000<g.acc)))) f0)<|CC<|BC f1<|BM f1 (aO 3 2 (Zi g.bQ) bf k!)<|BV f1 (bK 3 false true .i64 g.bQ 0)<|VV (aZ (a:=some (AV.bool true)) (b:=some (AV.bool (decide (g.bQ<0)))) f1)<|CC<|BC f2<|BM f2 (aO 3 2 (Zi g.bQ) bf k!)<|BV f2 (cI 3 false true .i64 g.bQ 1000000000)<|VV (aZ (a:=some (AV.bool true)) (b:=some (AV.bool (decide (1000000000<g.bQ)))) f2)<|CC<|BB f3<|BB f3<|BB f3<|BV f3 (ow true f3)<|TT<|CC<|ZZ) k!) k!) bA rfl
       · have lr:=of_decide_eq_false f3
         have k6:=zh (d:=d) g.since cg
         rcases bZq (!(fJ g.since)) with f4 | f4
         · have e:bN g=1:=by simp only[bN,f0,f1,f2,f3,f4,ak,aj]
           rw[e]
           exact aE rfl (ba Try.func38 iM rfl (.inr rfl) (pk (d+1) _ _ h _ h1 (NN cj (fun i=>(Pt i))<|CN 2<|MM (aO 3 1 (Zi g.acc) bf k!)<|VV (bK 3 false true .i64 g.acc 0)<|CC<|BC f0<|BM f0 (aO 3 1 (Zi g.acc) bf k!)<|BV f0 (cI 3 false true .i64 g.acc 1000000000)<|VV (aZ (a:=some (AV.bool true)) (b:=some (AV.bool (decide (1000000000<g.acc)))) f0)<|CC<|BC f1<|BM f1 (aO 3 2 (Zi g.bQ) bf k!)<|BV f1 (bK 3 false true .i64 g.bQ 0)<|VV (aZ (a:=some (AV.bool true)) (b:=some (AV.bool (decide (g.bQ<0)))) f1)<|CC<|BC f2<|BM f2 (aO 3 2 (Zi g.bQ) bf k!)<|BV f2 (cI 3 false true .i64 g.bQ 1000000000)<|VV (aZ (a:=some (AV.bool true)) (b:=some (AV.bool (decide (1000000000<g.bQ)))) f2)<|CC<|BC f3<|BM f3 (aO 3 3 (Zi g.since) bf k!)<|BB f3<|EE k6<|BC f3<|VV (aZ (a:=some (AV.bool true)) (b:=some (AV.bool (!(fJ g.since)))) f3)<|BC f4<|ZZ) k!) k!) bA rfl
         · have e:bN g=0:=by simp only[bN,f0,f1,f2,f3,f4,ak,aj]
           rw[e]
           exact aE rfl (ba Try.func38 iM rfl (.inr rfl) (pk (d+1) _ _ h _ h1 (NN cj (fun i=>(Pt i))<|CN 2<|MM (aO 3 1 (Zi g.acc) bf k!)<|VV (bK 3 false true .i64 g.acc 0)<|CC<|BC f0<|BM f0 (aO 3 1 (Zi g.acc) bf k!)<|BV f0 (cI 3 false true .i64 g.acc 1000000000)<|VV (aZ (a:=some (AV.bool true)) (b:=some (AV.bool (decide (1000000000<g.acc)))) f0)<|CC<|BC f1<|BM f1 (aO 3 2 (Zi g.bQ) bf k!)<|BV f1 (bK 3 false true .i64 g.bQ 0)<|VV (aZ (a:=some (AV.bool true)) (b:=some (AV.bool (decide (g.bQ<0)))) f1)<|CC<|BC f2<|BM f2 (aO 3 2 (Zi g.bQ) bf k!)<|BV f2 (cI 3 false true .i64 g.bQ 1000000000)<|VV (aZ (a:=some (AV.bool true)) (b:=some (AV.bool (decide (1000000000<g.bQ)))) f2)<|CC<|BC f3<|BM f3 (aO 3 3 (Zi g.since) bf k!)<|BB f3<|EE k6<|BC f3<|VV (aZ (a:=some (AV.bool true)) (b:=some (AV.bool (!(fJ g.since)))) f3)<|BC f4<|ZZ) k!) k!) bA rfl
def GR:Code:=(Try.f37.body).getD .skip
theorem EU:Try.f37.body=some GR:=by kernel_rfl
def cF (n:Int):Bool:=(bif (decide ((-1000000000)≤n)) then (decide (n≤1000000000)) else false)
theorem zi {d:Nat} {h:aA} (n:Int) (bS:Tidy h):cz (d+1) (.fn 37) [(Zi n)] h= .ret (AV.bool (cF n)) h:=by
 rcases bZq (decide ((-1000000000)≤n)) with f0 | f0
 · have jW:=of_decide_eq_true f0
   have e:cF n=(decide (n≤1000000000)):=by simp only[cF,f0,ak,aj]
   rw[e]
   exact aE rfl (ba Try.func37 EU rfl (.inr rfl) (pk (d) _ _ h _ h (CN 2<|VV (oe 3 false true .i64 n (-1000000000))<|CC<|BC f0<|BV f0 (sf 3 false true .i64 n 1000000000)<|VV (ov (decide (n≤1000000000)) false f0)<|CC<|ZZ) k!) k!) (Has.refl _) rfl
 · have jW:=of_decide_eq_false f0
   have e:cF n=false:=by simp only[cF,f0,ak,aj]
   rw[e]
   exact aE rfl (ba Try.func37 EU rfl (.inr rfl) (pk (d) _ _ h _ h (CN 2<|VV (oe 3 false true .i64 n (-1000000000))<|CC<|BB f0<|BV f0 (uL false f0)<|CC<|ZZ) k!) k!) (Has.refl _) rfl
def jX:Code:=(Try.f15.body).getD .skip
theorem cm:Try.f15.body=some jX:=by kernel_rfl
def uM:Code:=(cc jX).getD 0 .skip
def uN:Code:=(cc jX).getD 1 .skip
def bW (i0:Nat) (q:aD):Nat→Nat→Option (Int)
 | 0,_=>none
 | bD+1,i1=>(bif (decide ((q.aC.g i1).name=((q.aC.g i0).name))) then some 6 else bW i0 q bD (i1+1))
theorem nq {d:Nat} {h:aA} (i0:Nat) (q:aD) (dz:Nat) (iv:q.name.length<2^60) (oX:aY h q.az q.aC) (AG:aF.ok h q) (Js:i0<q.aC.length):∀(k_ i_:Nat) (_:i_+k_=i0) (x:Nat→AV) (hh:aA) (aQ:Tidy hh) (aW:Has h hh) (dP:hh.get dz=some (aX.cells [(AV.str q.name),(Zi q.ai),(Zi q.af),(Zi q.aH),(Zi q.aI),(Zi q.bad),q.az] 26 false)),aU (cz (d+2)) uN ⟨((x 0)::(Pt dz)::(x 2)::(Zn i0)::(Zn i_)::rx x 5 106 []),hh,[],.no⟩ (.exit 3) hh (fun y=>((y 0)::(Pt dz)::(y 2)::(Zn i0)::rx y 4 107 [])) (fun r y=>((y 0)::(Pt dz)::(Zi r)::(Zn i0)::rx y 4 107 [])) (bW i0 q k_ i_)
 | 0,i1,kY,x,hh,aQ,aW,dP=>by
   have Cd:=oX.small
   have Ce:=aQ _ _ dP
   have q1:(decide (((i1:Nat):Int)<((i0:Nat):Int)))=false:=d!
   exact aU.out rfl (pk (d+2) _ _ hh _ hh (CN 2<|VV (bK 3 false false .i64 ((i1:Nat):Int) ((i0:Nat):Int))<|BB q1<|ZZ) k!) (Grow.refl aQ) k!
 | bD+1,i1,kY,x,hh,aQ,aW,dP=>by
   have Cd:=oX.small
   have Ce:=aQ _ _ dP
   have q1:(decide (((i1:Nat):Int)<((i0:Nat):Int)))=true:=d!
   obtain ⟨p3,q4,oY⟩:=(oX.has aW).elem (i:=i1) o!
   have A1:cK env (some (.slice 45)) (some q.az) (some (Zn i1))=some (AV.ptr p3 q4):=oY
   have DV:bk env hh 9 (AV.ptr p3 (q4+0))=some (AV.str (q.aC.g i1).name):=(oX.has aW).part (t:=9) (j:=0) o! oY k! rfl
   obtain ⟨p7,q8,SD⟩:=(oX.has aW).elem (i:=i0) o!
   have Po:cK env (some (.slice 45)) (some q.az) (some (Zn i0))=some (AV.ptr p7 q8):=SD
   have WN:bk env hh 9 (AV.ptr p7 (q8+0))=some (AV.str (q.aC.g i0).name):=(oX.has aW).part (t:=9) (j:=0) o! SD k! rfl
   have zj:AV.same 20 q.az q.az=true:=(oX.has aW).same 19
   have mV:=fun {al ps} (k:Pk al _ ps)=>(CN 2<|VV (bK 3 false false .i64 ((i1:Nat):Int) ((i0:Nat):Int))<|BC q1<|MM (aO 24 6 q.az dP k!)<|CC<|VV A1<|CC<|MM DV<|CC<|MM (aO 24 6 q.az dP k!)<|CC<|VV Po<|CC<|MM WN<|VV (WK 9 false false (q.aC.g i1).name (q.aC.g i0).name)<|HH (aO 24 6 q.az dP k!)<|HH zj<|HH DV<|HH (show AV.same 20 (AV.str (q.aC.g i1).name) (AV.str (q.aC.g i1).name)=true from jS 19 _)<|HH (aO 24 6 q.az dP k!)<|HH zj<|HH WN<|HH (show AV.same 20 (AV.str (q.aC.g i0).name) (AV.str (q.aC.g i0).name)=true from jS 19 _)<|k:Pk _ [] ps)
   rcases bZq (decide ((q.aC.g i1).name=((q.aC.g i0).name))) with f1 | f1
   · have ic:=of_decide_eq_true f1
     exact aU.ret 6 (by simp only[bW,f1,ak,aj]) (pk (d+2) _ _ hh _ hh (mV<|BC f1<|ZZ) k!) (Grow.refl aQ) k!
   · have ic:=of_decide_eq_false f1
     have u12:=fu 3 false true i1 1 o!
     exact aU.round (by simp only[bW,f1,ak,aj]) (pk (d+2) _ _ hh _ hh (mV<|BC f1<|VV u12<|CC<|ZZ) k!) (Grow.refl aQ) _ k! (fun x=>nq i0 q dz iv oX AG Js bD (i1+1) o! x hh aQ aW dP)
def bO (q:aD):Nat→Nat→Option (Int)
 | 0,_=>none
 | dQ+1,i0=>(bif (!(dO (q.aC.g i0).name)) then some 5 else (match (bW i0 q i0 0) with | none=>(bif (!decide ((bN (q.aC.g i0))=0)) then some (bN (q.aC.g i0)) else bO q dQ (i0+1)) | some rr9=>some rr9))
theorem nr {d:Nat} {h:aA} (q:aD) (bL:Nat) (bF:q.name.length<2^60) (eZ:aY h q.az q.aC) (kG:aF.ok h q):∀(k_ i_:Nat) (_:i_+k_=q.aC.length) (x:Nat→AV) (hh:aA) (aQ:Tidy hh) (aW:Has h hh) (bG:hh.get bL=some (aX.cells [(AV.str q.name),(Zi q.ai),(Zi q.af),(Zi q.aH),(Zi q.aI),(Zi q.bad),q.az] 26 false)),aU (cz (d+2)) uM ⟨((x 0)::(Pt bL)::(x 2)::(Zn i_)::rx x 4 107 []),hh,[],.no⟩ (.exit 1) hh (fun y=>((y 0)::(Pt bL)::rx y 2 109 [])) (fun r y=>((y 0)::(Pt bL)::(Zi r)::rx y 3 108 [])) (bO q k_ i_)
 | 0,i0,kY,x,hh,aQ,aW,bG=>by
   have vP:=eZ.small
   have pS:=aQ _ _ bG
   have ja:dy (some (.slice 45)) (some q.az)=some (Zn q.aC.length):=(eZ.has aW).len
   have q2:(decide (((i0:Nat):Int)<((q.aC.length:Nat):Int)))=false:=d!
   exact aU.out rfl (pk (d+2) _ _ hh _ hh (CN 2<|MM (aO 24 6 q.az bG k!)<|VV ja<|VV (bK 3 false false .i64 ((i0:Nat):Int) ((q.aC.length:Nat):Int))<|BB q2<|ZZ) k!) (Grow.refl aQ) k!
 | dQ+1,i0,kY,x,hh,aQ,aW,bG=>by
   have vP:=eZ.small
   have pS:=aQ _ _ bG
   have ja:dy (some (.slice 45)) (some q.az)=some (Zn q.aC.length):=(eZ.has aW).len
   have q2:(decide (((i0:Nat):Int)<((q.aC.length:Nat):Int)))=true:=d!
   obtain ⟨p4,q5,jD⟩:=(eZ.has aW).elem (i:=i0) o!
   have tb:cK env (some (.slice 45)) (some q.az) (some (Zn i0))=some (AV.ptr p4 q5):=jD
   have qv:bk env hh 9 (AV.ptr p4 (q5+0))=some (AV.str (q.aC.g i0).name):=(eZ.has aW).part (t:=9) (j:=0) o! jD k! rfl
   have k7:=Jr (d:=d+1) (q.aC.g i0).name ((eZ.has aW).ok (i:=i0) o!) aQ
   have yC:=fun {al ps} (k:Pk al _ ps)=>(CN 2<|MM (aO 24 6 q.az bG k!)<|VV ja<|VV (bK 3 false false .i64 ((i0:Nat):Int) ((q.aC.length:Nat):Int))<|BC q2<|MM (aO 24 6 q.az bG k!)<|CC<|VV tb<|CC<|MM qv<|EE k7<|CC<|k:Pk _ [] ps)
   rcases bZq (!(dO (q.aC.g i0).name)) with f1 | f1
   · exact aU.ret 5 (by simp only[bO,f1,ak,aj]) (pk (d+2) _ _ hh _ hh (yC<|BC f1<|ZZ) k!) (Grow.refl aQ) k!
   · have lp7:=nq (d:=d) (h:=hh) i0 q bL bF (eZ.has aW) (aF.mono aW kG) o! i0 0 o! (fun k_=>(((x 0)::(Pt bL)::(x 2)::(Zn i0)::(Zi 0)::rx x 5 64 ((Zn i0)::(AV.ptr bL 6)::q.az::(Zn q.aC.length)::(AV.bool (decide (((i0:Nat):Int)<((q.aC.length:Nat):Int))))::(x 74)::(x 75)::(AV.ptr bL 6)::q.az::(Zn i0)::(AV.ptr p4 q5)::(AV.ptr p4 (q5+0))::(AV.str (q.aC.g i0).name)::(AV.bool (dO (q.aC.g i0).name))::(AV.bool (!(dO (q.aC.g i0).name)))::rx x 84 27 [])):List AV).getD k_ AV.undef) hh aQ (Has.refl _) bG
     cases Cf:bW i0 q i0 0 with
     | none=>
       obtain ⟨yl9,mA,Ly,xG⟩:=aU.n Cf lp7
       have fZ:=xG.y
       have Cg:hh.nx≤mA.nx:=xG.n
       have ik:Has hh mA:=xG.a
       obtain ⟨p12,Qp,Jt⟩:=(eZ.has aW).elem (i:=i0) o!
       have WO:cK env (some (.slice 45)) (some q.az) (some (Zn i0))=some (AV.ptr p12 Qp):=Jt
       have xH:bk env mA 45 (AV.ptr p12 Qp)=some (AV.agg [(AV.str (q.aC.g i0).name),(Zi (q.aC.g i0).acc),(Zi (q.aC.g i0).bQ),(Zi (q.aC.g i0).since)]):=((eZ.has aW).has ik).load o! Jt
       have Kv:=Cc (d:=d) (q.aC.g i0) (aF.mono ik ((eZ.has aW).ok (i:=i0) o!)) fZ
       have EP:=fun {al ps} (k:Pk al _ ps)=>(yC<|BC f1<|LL Ly<|CC<|MM (aO 24 6 q.az (xG.a _ _ bG) k!)<|CC<|VV WO<|MM xH<|EE Kv<|CN 2<|VV (kF 31 false true .i64 (bN (q.aC.g i0)) 0)<|k:Pk _ [] ps)
       rcases bZq (!decide ((bN (q.aC.g i0))=0)) with f3 | f3
       · have lr:=DS f3
         exact aU.ret (bN (q.aC.g i0)) (by simp only[bO,f1,Cf,f3,ak,aj]) (pk (d+2) _ _ hh _ mA (EP<|BB f3<|CN 2<|ZZ) k!) (⟨fZ,ik,by omega⟩) k!
       · have lr:=DT f3
         have u17:=fu 3 false true i0 1 o!
         exact aU.round (by simp only[bO,f1,Cf,f3,ak,aj]) (pk (d+2) _ _ hh _ mA (EP<|BC f3<|VV u17<|CC<|ZZ) k!) (⟨fZ,ik,by omega⟩) _ k! (fun x=>nr q bL bF eZ kG dQ (i0+1) o! x mA fZ (aW.trans ik) (xG.a _ _ bG))
     | some rr9=>
       obtain ⟨yl9,mA,Ly,xG⟩:=aU.r Cf lp7
       have fZ:=xG.y
       have Cg:hh.nx≤mA.nx:=xG.n
       have ik:Has hh mA:=xG.a
       exact aU.ret rr9 (by simp only[bO,f1,Cf,ak,aj]) (pk (d+2) _ _ hh _ mA (yC<|BC f1<|LL Ly<|ZZ) k!) (⟨fZ,ik,by omega⟩) k!
def aM (q:aD):Int:=(bif (!(dO q.name)) then 5 else (bif (!(cF q.ai)) then 1 else (bif (!(cF q.af)) then 1 else (bif (decide (q.af<q.ai)) then 1 else (bif (decide (q.aH<0)) then 1 else (bif (decide (10000<q.aH)) then 1 else (bif (decide (q.aI<0)) then 1 else (bif (decide (10000<q.aI)) then 1 else (bif (decide (8<((q.aC.length:Nat):Int))) then 3 else (bif (decide (q.bad<0)) then 1 else (bif (decide (((q.aC.length:Nat):Int)<q.bad)) then 1 else (match (bO q q.aC.length 0) with | none=>0 | some Z3=>Z3))))))))))))
theorem xI {d:Nat} {h:aA} (q:aD) (fB:aF.ok h q) (bS:Tidy h):cz (d+3) (.fn 15) [(AV.agg [(AV.str q.name),(Zi q.ai),(Zi q.af),(Zi q.aH),(Zi q.aI),(Zi q.bad),q.az])] h= .ret (Zi (aM q)) h:=by
 have hU:=fB.2.small
 obtain ⟨h1,cj,cg,iu,bf,cf⟩:=fY bS (aX.cells [(AV.str q.name),(Zi q.ai),(Zi q.af),(Zi q.aH),(Zi q.aI),(Zi q.bad),q.az] 26 false)
 have bA:Has h h1:=cf
 have k2:=Jr (d:=d+1) q.name fB.1 cg
 have ES:=fun {al ps} (k:Pk al _ ps)=>(NN cj (fun i=>(Pt i))<|CN 2<|MM (aO 9 0 (AV.str q.name) bf k!)<|EE k2<|CN 2<|k:Pk _ [] ps)
 rcases bZq (!(dO q.name)) with f0 | f0
 · have e:aM q=5:=by simp only[aM,f0,ak,aj]
   rw[e]
   exact aE rfl (ba Try.func15 cm rfl (.inr rfl) (pk (d+2) _ _ h _ h1 (ES<|BC f0<|ZZ) k!) k!) bA rfl
 · have k4:=zi (d:=d+1) q.ai cg
   have Cb:=fun {al ps} (k:Pk al _ ps)=>(ES<|BB f0<|CN 2<|MM (aO 3 1 (Zi q.ai) bf k!)<|EE k4<|CN 2<|k:Pk _ [] ps)
   rcases bZq (!(cF q.ai)) with f1 | f1
   · have e:aM q=1:=by simp only[aM,f0,f1,ak,aj]
     rw[e]
     exact aE rfl (ba Try.func15 cm rfl (.inr rfl) (pk (d+2) _ _ h _ h1 (Cb<|BB f1<|BB f1<|BB f1<|BB f1<|BV f1 (ow true f1)<|CC<|TT<|TT<|TT<|TT<|TT<|TT<|TT<|CN 2<|TT<|CC<|ZZ) k!) k!) bA rfl
   · have k6:=zi (d:=d+1) q.af cg
     have Aa:=fun {al ps} (k:Pk al _ ps)=>(Cb<|BC f1<|BC f1<|BM f1 (aO 3 2 (Zi q.af) bf k!)<|BB f1<|EE k6<|BC f1<|k:Pk _ [] ps)
     rcases bZq (!(cF q.af)) with f2 | f2
     · have e:aM q=1:=by simp only[aM,f0,f1,f2,ak,aj]
       rw[e]
       exact aE rfl (ba Try.func15 cm rfl (.inr rfl) (pk (d+2) _ _ h _ h1 (Aa<|VV (aZ (a:=some (AV.bool true)) (b:=some (AV.bool (!(cF q.af)))) f1)<|CC<|BB f2<|BB f2<|BB f2<|BB f2<|BB f2<|BB f2<|BV f2 (ow true f2)<|CC<|TT<|CC<|ZZ) k!) k!) bA rfl
     · rcases bZq (decide (q.af<q.ai)) with f3 | f3
       · have lr:=of_decide_eq_true f3
         have e:aM q=1:=by simp only[aM,f0,f1,f2,f3,ak,aj]
         rw[e]
         exact aE rfl (ba Try.func15 cm rfl (.inr rfl) (pk (d+2) _ _ h _ h1 (Aa<|VV (aZ (a:=some (AV.bool true)) (b:=some (AV.bool (!(cF q.af)))) f1)<|CC<|BC f2<|BC f2<|BM f2 (aO 3 1 (Zi q.ai) bf k!)<|BC f2<|BC f2<|BM f2 (aO 3 2 (Zi q.af) bf k!)<|BV f2 (cI 3 false false .i64 q.ai q.af)<|VV (aZ (a:=some (AV.bool true)) (b:=some (AV.bool (decide (q.af<q.ai)))) f2)<|CC<|BC f3<|ZZ) k!) k!) bA rfl
       · have lr:=of_decide_eq_false f3
         rcases bZq (decide (q.aH<0)) with f4 | f4
         · have jV:=of_decide_eq_true f4
           have e:aM q=1:=by simp only[aM,f0,f1,f2,f3,f4,ak,aj]
           rw[e]
           exact aE rfl (ba Try.func15 cm rfl (.inr rfl) (pk (d+2) _ _ h _ h1 (Aa<|VV (aZ (a:=some (AV.bool true)) (b:=some (AV.bool (!(cF q.af)))) f1)<|CC<|BC f2<|BC f2<|BM f2 (aO 3 1 (Zi q.ai) bf k!)<|BC f2<|BC f2<|BM f2 (aO 3 2 (Zi q.af) bf k!)<|BV f2 (cI 3 false false .i64 q.ai q.af)<|VV (aZ (a:=some (AV.bool true)) (b:=some (AV.bool (decide (q.af<q.ai)))) f2)<|CC<|BC f3<|MM (aO 3 3 (Zi q.aH) bf k!)<|VV (bK 3 false true .i64 q.aH 0)<|CC<|BB f4<|BB f4<|BV f4 (ow true f4)<|CC<|TT<|TT<|TT<|CN 2<|TT<|TT<|TT<|CN 2<|TT<|CC<|ZZ) k!) k!) bA rfl
         · have jV:=of_decide_eq_false f4
           rcases bZq (decide (10000<q.aH)) with f5 | f5
           · have tc:=of_decide_eq_true f5
             have e:aM q=1:=by simp only[aM,f0,f1,f2,f3,f4,f5,ak,aj]
             rw[e]
             exact aE rfl (ba Try.func15 cm rfl (.inr rfl) (pk (d+2) _ _ h _ h1 (Aa<|VV (aZ (a:=some (AV.bool true)) (b:=some (AV.bool (!(cF q.af)))) f1)<|CC<|BC f2<|BC f2<|BM f2 (aO 3 1 (Zi q.ai) bf k!)<|BC f2<|BC f2<|BM f2 (aO 3 2 (Zi q.af) bf k!)<|BV f2 (cI 3 false false .i64 q.ai q.af)<|VV (aZ (a:=some (AV.bool true)) (b:=some (AV.bool (decide (q.af<q.ai)))) f2)<|CC<|BC f3<|MM (aO 3 3 (Zi q.aH) bf k!)<|VV (bK 3 false true .i64 q.aH 0)<|CC<|BC f4<|BM f4 (aO 3 3 (Zi q.aH) bf k!)<|BV f4 (cI 3 false true .i64 q.aH 10000)<|VV (aZ (a:=some (AV.bool true)) (b:=some (AV.bool (decide (10000<q.aH)))) f4)<|CC<|BB f5<|BB f5<|BV f5 (ow true f5)<|CC<|TT<|TT<|TT<|CN 2<|TT<|CC<|ZZ) k!) k!) bA rfl
           · have tc:=of_decide_eq_false f5
             rcases bZq (decide (q.aI<0)) with f6 | f6
             · have Z4:=of_decide_eq_true f6
               have e:aM q=1:=by simp only[aM,f0,f1,f2,f3,f4,f5,f6,ak,aj]
               rw[e]
               exact aE rfl (ba Try.func15 cm rfl (.inr rfl) (pk (d+2) _ _ h _ h1 (Aa<|VV (aZ (a:=some (AV.bool true)) (b:=some (AV.bool (!(cF q.af)))) f1)<|CC<|BC f2<|BC f2<|BM f2 (aO 3 1 (Zi q.ai) bf k!)<|BC f2<|BC f2<|BM f2 (aO 3 2 (Zi q.af) bf k!)<|BV f2 (cI 3 false false .i64 q.ai q.af)<|VV (aZ (a:=some (AV.bool true)) (b:=some (AV.bool (decide (q.af<q.ai)))) f2)<|CC<|BC f3<|MM (aO 3 3 (Zi q.aH) bf k!)<|VV (bK 3 false true .i64 q.aH 0)<|CC<|BC f4<|BM f4 (aO 3 3 (Zi q.aH) bf k!)<|BV f4 (cI 3 false true .i64 q.aH 10000)<|VV (aZ (a:=some (AV.bool true)) (b:=some (AV.bool (decide (10000<q.aH)))) f4)<|CC<|BC f5<|BM f5 (aO 3 4 (Zi q.aI) bf k!)<|BV f5 (bK 3 false true .i64 q.aI 0)<|VV (aZ (a:=some (AV.bool true)) (b:=some (AV.bool (decide (q.aI<0)))) f5)<|CC<|BB f6<|BB f6<|BV f6 (ow true f6)<|CC<|TT<|CC<|ZZ) k!) k!) bA rfl
             · have Z4:=of_decide_eq_false f6
               rcases bZq (decide (10000<q.aI)) with f7 | f7
               · have Z5:=of_decide_eq_true f7
                 have e:aM q=1:=by simp only[aM,f0,f1,f2,f3,f4,f5,f6,f7,ak,aj]
                 rw[e]
                 exact aE rfl (ba Try.func15 cm rfl (.inr rfl) (pk (d+2) _ _ h _ h1 (Aa<|VV (aZ (a:=some (AV.bool true)) (b:=some (AV.bool (!(cF q.af)))) f1)<|CC<|BC f2<|BC f2<|BM f2 (aO 3 1 (Zi q.ai) bf k!)<|BC f2<|BC f2<|BM f2 (aO 3 2 (Zi q.af) bf k!)<|BV f2 (cI 3 false false .i64 q.ai q.af)<|VV (aZ (a:=some (AV.bool true)) (b:=some (AV.bool (decide (q.af<q.ai)))) f2)<|CC<|BC f3<|MM (aO 3 3 (Zi q.aH) bf k!)<|VV (bK 3 false true .i64 q.aH 0)<|CC<|BC f4<|BM f4 (aO 3 3 (Zi q.aH) bf k!)<|BV f4 (cI 3 false true .i64 q.aH 10000)<|VV (aZ (a:=some (AV.bool true)) (b:=some (AV.bool (decide (10000<q.aH)))) f4)<|CC<|BC f5<|BM f5 (aO 3 4 (Zi q.aI) bf k!)<|BV f5 (bK 3 false true .i64 q.aI 0)<|VV (aZ (a:=some (AV.bool true)) (b:=some (AV.bool (decide (q.aI<0)))) f5)<|CC<|BC f6<|BM f6 (aO 3 4 (Zi q.aI) bf k!)<|BV f6 (cI 3 false true .i64 q.aI 10000)<|VV (aZ (a:=some (AV.bool true)) (b:=some (AV.bool (decide (10000<q.aI)))) f6)<|CC<|BC f7<|ZZ) k!) k!) bA rfl
               · have Z5:=of_decide_eq_false f7
                 have Lz:dy (some (.slice 45)) (some q.az)=some (Zn q.aC.length):=fB.2.len
                 rcases bZq (decide (8<((q.aC.length:Nat):Int))) with f8 | f8
                 · have afE:=of_decide_eq_true f8
                   have e:aM q=3:=by simp only[aM,f0,f1,f2,f3,f4,f5,f6,f7,f8,ak,aj]
                   rw[e]
                   exact aE rfl (ba Try.func15 cm rfl (.inr rfl) (pk (d+2) _ _ h _ h1 (Aa<|VV (aZ (a:=some (AV.bool true)) (b:=some (AV.bool (!(cF q.af)))) f1)<|CC<|BC f2<|BC f2<|BM f2 (aO 3 1 (Zi q.ai) bf k!)<|BC f2<|BC f2<|BM f2 (aO 3 2 (Zi q.af) bf k!)<|BV f2 (cI 3 false false .i64 q.ai q.af)<|VV (aZ (a:=some (AV.bool true)) (b:=some (AV.bool (decide (q.af<q.ai)))) f2)<|CC<|BC f3<|MM (aO 3 3 (Zi q.aH) bf k!)<|VV (bK 3 false true .i64 q.aH 0)<|CC<|BC f4<|BM f4 (aO 3 3 (Zi q.aH) bf k!)<|BV f4 (cI 3 false true .i64 q.aH 10000)<|VV (aZ (a:=some (AV.bool true)) (b:=some (AV.bool (decide (10000<q.aH)))) f4)<|CC<|BC f5<|BM f5 (aO 3 4 (Zi q.aI) bf k!)<|BV f5 (bK 3 false true .i64 q.aI 0)<|VV (aZ (a:=some (AV.bool true)) (b:=some (AV.bool (decide (q.aI<0)))) f5)<|CC<|BC f6<|BM f6 (aO 3 4 (Zi q.aI) bf k!)<|BV f6 (cI 3 false true .i64 q.aI 10000)<|VV (aZ (a:=some (AV.bool true)) (b:=some (AV.bool (decide (10000<q.aI)))) f6)<|CC<|BC f7<|MM (aO 24 6 q.az bf k!)<|VV Lz<|VV (cI 3 false true .i64 ((q.aC.length:Nat):Int) 8)<|CC<|BC f8<|ZZ) k!) k!) bA rfl
                 · have afE:=of_decide_eq_false f8
                   rcases bZq (decide (q.bad<0)) with f9 | f9
                   · have afF:=of_decide_eq_true f9
                     have e:aM q=1:=by simp only[aM,f0,f1,f2,f3,f4,f5,f6,f7,f8,f9,ak,aj]
                     rw[e]
                     exact aE rfl (ba Try.func15 cm rfl (.inr rfl) (pk (d+2) _ _ h _ h1 (Aa<|VV (aZ (a:=some (AV.bool true)) (b:=some (AV.bool (!(cF q.af)))) f1)<|CC<|BC f2<|BC f2<|BM f2 (aO 3 1 (Zi q.ai) bf k!)<|BC f2<|BC f2<|BM f2 (aO 3 2 (Zi q.af) bf k!)<|BV f2 (cI 3 false false .i64 q.ai q.af)<|VV (aZ (a:=some (AV.bool true)) (b:=some (AV.bool (decide (q.af<q.ai)))) f2)<|CC<|BC f3<|MM (aO 3 3 (Zi q.aH) bf k!)<|VV (bK 3 false true .i64 q.aH 0)<|CC<|BC f4<|BM f4 (aO 3 3 (Zi q.aH) bf k!)<|BV f4 (cI 3 false true .i64 q.aH 10000)<|VV (aZ (a:=some (AV.bool true)) (b:=some (AV.bool (decide (10000<q.aH)))) f4)<|CC<|BC f5<|BM f5 (aO 3 4 (Zi q.aI) bf k!)<|BV f5 (bK 3 false true .i64 q.aI 0)<|VV (aZ (a:=some (AV.bool true)) (b:=some (AV.bool (decide (q.aI<0)))) f5)<|CC<|BC f6<|BM f6 (aO 3 4 (Zi q.aI) bf k!)<|BV f6 (cI 3 false true .i64 q.aI 10000)<|VV (aZ (a:=some (AV.bool true)) (b:=some (AV.bool (decide (10000<q.aI)))) f6)<|CC<|BC f7<|MM (aO 24 6 q.az bf k!)<|VV Lz<|VV (cI 3 false true .i64 ((q.aC.length:Nat):Int) 8)<|CC<|BC f8<|MM (aO 3 5 (Zi q.bad) bf k!)<|VV (bK 3 false true .i64 q.bad 0)<|CC<|BB f9<|BB f9<|BB f9<|BB f9<|BB f9<|BV f9 (ow true f9)<|CC<|TT<|CC<|ZZ) k!) k!) bA rfl
                   · have afF:=of_decide_eq_false f9
                     have Z6:dy (some (.slice 45)) (some q.az)=some (Zn q.aC.length):=fB.2.len
                     rcases bZq (decide (((q.aC.length:Nat):Int)<q.bad)) with f10 | f10
                     · have acS:=of_decide_eq_true f10
                       have e:aM q=1:=by simp only[aM,f0,f1,f2,f3,f4,f5,f6,f7,f8,f9,f10,ak,aj]
                       rw[e]
                       exact aE rfl (ba Try.func15 cm rfl (.inr rfl) (pk (d+2) _ _ h _ h1 (Aa<|VV (aZ (a:=some (AV.bool true)) (b:=some (AV.bool (!(cF q.af)))) f1)<|CC<|BC f2<|BC f2<|BM f2 (aO 3 1 (Zi q.ai) bf k!)<|BC f2<|BC f2<|BM f2 (aO 3 2 (Zi q.af) bf k!)<|BV f2 (cI 3 false false .i64 q.ai q.af)<|VV (aZ (a:=some (AV.bool true)) (b:=some (AV.bool (decide (q.af<q.ai)))) f2)<|CC<|BC f3<|MM (aO 3 3 (Zi q.aH) bf k!)<|VV (bK 3 false true .i64 q.aH 0)<|CC<|BC f4<|BM f4 (aO 3 3 (Zi q.aH) bf k!)<|BV f4 (cI 3 false true .i64 q.aH 10000)<|VV (aZ (a:=some (AV.bool true)) (b:=some (AV.bool (decide (10000<q.aH)))) f4)<|CC<|BC f5<|BM f5 (aO 3 4 (Zi q.aI) bf k!)<|BV f5 (bK 3 false true .i64 q.aI 0)<|VV (aZ (a:=some (AV.bool true)) (b:=some (AV.bool (decide (q.aI<0)))) f5)<|CC<|BC f6<|BM f6 (aO 3 4 (Zi q.aI) bf k!)<|BV f6 (cI 3 false true .i64 q.aI 10000)<|VV (aZ (a:=some (AV.bool true)) (b:=some (AV.bool (decide (10000<q.aI)))) f6)<|CC<|BC f7<|MM (aO 24 6 q.az bf k!)<|VV Lz<|VV (cI 3 false true .i64 ((q.aC.length:Nat):Int) 8)<|CC<|BC f8<|MM (aO 3 5 (Zi q.bad) bf k!)<|VV (bK 3 false true .i64 q.bad 0)<|CC<|BC f9<|BM f9 (aO 3 5 (Zi q.bad) bf k!)<|BC f9<|BM f9 (aO 24 6 q.az bf k!)<|BV f9 Z6<|BV f9 (cI 3 false false .i64 q.bad ((q.aC.length:Nat):Int))<|VV (aZ (a:=some (AV.bool true)) (b:=some (AV.bool (decide (((q.aC.length:Nat):Int)<q.bad)))) f9)<|CC<|BC f10<|ZZ) k!) k!) bA rfl
                     · have acS:=of_decide_eq_false f10
                       have lp8:=nr (d:=d) (h:=h) q h.nx fB.1 fB.2 fB q.aC.length 0 o! (fun k_=>(((AV.agg [(AV.str q.name),(Zi q.ai),(Zi q.af),(Zi q.aH),(Zi q.aI),(Zi q.bad),q.az])::(Pt h.nx)::(Zi 0)::(Zi 0)::AV.undef::AV.undef::(AV.bool (!(dO q.name)))::(Pt h.nx)::(AV.str q.name)::(AV.bool (dO q.name))::(AV.bool (!(dO q.name)))::(AV.bool (decide (q.af<q.ai)))::(AV.ptr h.nx 1)::(AV.ptr h.nx 1)::(Zi q.ai)::(AV.bool (cF q.ai))::(AV.bool (!(cF q.ai)))::(AV.bool (!(cF q.ai)))::(AV.ptr h.nx 1)::(AV.ptr h.nx 2)::(Zi q.af)::(AV.bool (cF q.af))::(AV.bool (!(cF q.af)))::(AV.bool (!(cF q.af)))::(AV.bool (!(cF q.af)))::(AV.ptr h.nx 1)::(AV.ptr h.nx 1)::(Zi q.ai)::(AV.ptr h.nx 1)::(AV.ptr h.nx 2)::(Zi q.af)::(AV.bool (decide (q.af<q.ai)))::(AV.bool (decide (q.af<q.ai)))::(AV.bool (decide (10000<q.aI)))::(AV.ptr h.nx 3)::(Zi q.aH)::(AV.bool (decide (q.aH<0)))::(AV.bool (decide (q.aH<0)))::(AV.ptr h.nx 3)::(Zi q.aH)::(AV.bool (decide (10000<q.aH)))::(AV.bool (decide (10000<q.aH)))::(AV.bool (decide (10000<q.aH)))::(AV.ptr h.nx 4)::(Zi q.aI)::(AV.bool (decide (q.aI<0)))::(AV.bool (decide (q.aI<0)))::(AV.bool (decide (q.aI<0)))::(AV.ptr h.nx 4)::(Zi q.aI)::(AV.bool (decide (10000<q.aI)))::(AV.bool (decide (10000<q.aI)))::(AV.bool (decide (8<((q.aC.length:Nat):Int))))::(AV.ptr h.nx 6)::q.az::(Zn q.aC.length)::(AV.bool (decide (8<((q.aC.length:Nat):Int))))::(AV.bool (decide (((q.aC.length:Nat):Int)<q.bad)))::(AV.ptr h.nx 5)::(Zi q.bad)::(AV.bool (decide (q.bad<0)))::(AV.bool (decide (q.bad<0)))::(AV.ptr h.nx 5)::(Zi q.bad)::(AV.ptr h.nx 6)::q.az::(Zn q.aC.length)::(AV.bool (decide (((q.aC.length:Nat):Int)<q.bad)))::(AV.bool (decide (((q.aC.length:Nat):Int)<q.bad)))::iL 42):List AV).getD k_ AV.undef) h1 cg bA bf
                       cases A2:bO q q.aC.length 0 with
                       | none=>
                         obtain ⟨afG,H5,GS,Ch⟩:=aU.n A2 lp8
                         have EV:=Ch.y
                         have Ye:h1.nx≤H5.nx:=Ch.n
                         have Ci:Has h H5:=bA.trans Ch.a
                         have e:aM q=0:=by simp only[aM,f0,f1,f2,f3,f4,f5,f6,f7,f8,f9,f10,A2,ak,aj]
                         rw[e]
                         exact aE rfl (ba Try.func15 cm rfl (.inr rfl) (pk (d+2) _ _ h _ H5 (Aa<|VV (aZ (a:=some (AV.bool true)) (b:=some (AV.bool (!(cF q.af)))) f1)<|CC<|BC f2<|BC f2<|BM f2 (aO 3 1 (Zi q.ai) bf k!)<|BC f2<|BC f2<|BM f2 (aO 3 2 (Zi q.af) bf k!)<|BV f2 (cI 3 false false .i64 q.ai q.af)<|VV (aZ (a:=some (AV.bool true)) (b:=some (AV.bool (decide (q.af<q.ai)))) f2)<|CC<|BC f3<|MM (aO 3 3 (Zi q.aH) bf k!)<|VV (bK 3 false true .i64 q.aH 0)<|CC<|BC f4<|BM f4 (aO 3 3 (Zi q.aH) bf k!)<|BV f4 (cI 3 false true .i64 q.aH 10000)<|VV (aZ (a:=some (AV.bool true)) (b:=some (AV.bool (decide (10000<q.aH)))) f4)<|CC<|BC f5<|BM f5 (aO 3 4 (Zi q.aI) bf k!)<|BV f5 (bK 3 false true .i64 q.aI 0)<|VV (aZ (a:=some (AV.bool true)) (b:=some (AV.bool (decide (q.aI<0)))) f5)<|CC<|BC f6<|BM f6 (aO 3 4 (Zi q.aI) bf k!)<|BV f6 (cI 3 false true .i64 q.aI 10000)<|VV (aZ (a:=some (AV.bool true)) (b:=some (AV.bool (decide (10000<q.aI)))) f6)<|CC<|BC f7<|MM (aO 24 6 q.az bf k!)<|VV Lz<|VV (cI 3 false true .i64 ((q.aC.length:Nat):Int) 8)<|CC<|BC f8<|MM (aO 3 5 (Zi q.bad) bf k!)<|VV (bK 3 false true .i64 q.bad 0)<|CC<|BC f9<|BM f9 (aO 3 5 (Zi q.bad) bf k!)<|BC f9<|BM f9 (aO 24 6 q.az bf k!)<|BV f9 Z6<|BV f9 (cI 3 false false .i64 q.bad ((q.aC.length:Nat):Int))<|VV (aZ (a:=some (AV.bool true)) (b:=some (AV.bool (decide (((q.aC.length:Nat):Int)<q.bad)))) f9)<|CC<|BC f10<|LL GS<|CC<|ZZ) k!) k!) Ci rfl
                       | some Z3=>
                         obtain ⟨afG,H5,GS,Ch⟩:=aU.r A2 lp8
                         have EV:=Ch.y
                         have Ye:h1.nx≤H5.nx:=Ch.n
                         have Ci:Has h H5:=bA.trans Ch.a
                         have e:aM q=Z3:=by simp only[aM,f0,f1,f2,f3,f4,f5,f6,f7,f8,f9,f10,A2,ak,aj]
                         rw[e]
                         exact aE rfl (ba Try.func15 cm rfl (.inr rfl) (pk (d+2) _ _ h _ H5 (Aa<|VV (aZ (a:=some (AV.bool true)) (b:=some (AV.bool (!(cF q.af)))) f1)<|CC<|BC f2<|BC f2<|BM f2 (aO 3 1 (Zi q.ai) bf k!)<|BC f2<|BC f2<|BM f2 (aO 3 2 (Zi q.af) bf k!)<|BV f2 (cI 3 false false .i64 q.ai q.af)<|VV (aZ (a:=some (AV.bool true)) (b:=some (AV.bool (decide (q.af<q.ai)))) f2)<|CC<|BC f3<|MM (aO 3 3 (Zi q.aH) bf k!)<|VV (bK 3 false true .i64 q.aH 0)<|CC<|BC f4<|BM f4 (aO 3 3 (Zi q.aH) bf k!)<|BV f4 (cI 3 false true .i64 q.aH 10000)<|VV (aZ (a:=some (AV.bool true)) (b:=some (AV.bool (decide (10000<q.aH)))) f4)<|CC<|BC f5<|BM f5 (aO 3 4 (Zi q.aI) bf k!)<|BV f5 (bK 3 false true .i64 q.aI 0)<|VV (aZ (a:=some (AV.bool true)) (b:=some (AV.bool (decide (q.aI<0)))) f5)<|CC<|BC f6<|BM f6 (aO 3 4 (Zi q.aI) bf k!)<|BV f6 (cI 3 false true .i64 q.aI 10000)<|VV (aZ (a:=some (AV.bool true)) (b:=some (AV.bool (decide (10000<q.aI)))) f6)<|CC<|BC f7<|MM (aO 24 6 q.az bf k!)<|VV Lz<|VV (cI 3 false true .i64 ((q.aC.length:Nat):Int) 8)<|CC<|BC f8<|MM (aO 3 5 (Zi q.bad) bf k!)<|VV (bK 3 false true .i64 q.bad 0)<|CC<|BC f9<|BM f9 (aO 3 5 (Zi q.bad) bf k!)<|BC f9<|BM f9 (aO 24 6 q.az bf k!)<|BV f9 Z6<|BV f9 (cI 3 false false .i64 q.bad ((q.aC.length:Nat):Int))<|VV (aZ (a:=some (AV.bool true)) (b:=some (AV.bool (decide (((q.aC.length:Nat):Int)<q.bad)))) f9)<|CC<|BC f10<|LL GS<|ZZ) k!) k!) Ci rfl
def uO:Code:=(Try.f50.body).getD .skip
theorem iO:Try.f50.body=some uO:=by kernel_rfl
def b_ (q:aD) (r:aK):Int:=(bif (decide (r.aL<0)) then 7 else (bif (decide (((q.aC.length:Nat):Int)≤r.aL)) then 7 else (bif (!(fJ r.time)) then 1 else (bif (!(cF r.value)) then 1 else 0))))
theorem zk {d:Nat} {h:aA} (q:aD) (r:aK) (fB:aF.ok h q) (h_r:aF.ok h r) (bS:Tidy h):cz (d+2) (.fn 50) [(AV.agg [(AV.str q.name),(Zi q.ai),(Zi q.af),(Zi q.aH),(Zi q.aI),(Zi q.bad),q.az]),(AV.agg [(Zi r.aL),(Zi r.time),(Zi r.value)])] h= .ret (Zi (b_ q r)) h:=by
 have hU:=fB.2.small
 obtain ⟨h1,cj,cg,iu,bf,cf⟩:=fY bS (aX.cells [(AV.str q.name),(Zi q.ai),(Zi q.af),(Zi q.aH),(Zi q.aI),(Zi q.bad),q.az] 26 false)
 have bA:Has h h1:=cf
 obtain ⟨h2,iw,eQ,te,cO,dg⟩:=fY cg (aX.cells [(Zi r.aL),(Zi r.time),(Zi r.value)] 43 false)
 have dZ:Has h h2:=bA.trans dg
 rcases bZq (decide (r.aL<0)) with f0 | f0
 · have jW:=of_decide_eq_true f0
   have e:b_ q r=7:=by simp only[b_,f0,ak,aj]
   rw[e]
   exact aE rfl (ba Try.func50 iO rfl (.inr rfl) (pk (d+1) _ _ h _ h2 (NN cj (fun i=>(Pt i))<|NN iw (fun i=>(Pt i))<|CN 2<|MM (aO 3 0 (Zi r.aL) cO k!)<|VV (bK 3 false true .i64 r.aL 0)<|CC<|BB f0<|BB f0<|BB f0<|BB f0<|BB f0<|BV f0 (ow true f0)<|TT<|CC<|ZZ) k!) k!) dZ rfl
 · have jW:=of_decide_eq_false f0
   have SE:dy (some (.slice 45)) (some q.az)=some (Zn q.aC.length):=fB.2.len
   rcases bZq (decide (((q.aC.length:Nat):Int)≤r.aL)) with f1 | f1
   · have ic:=of_decide_eq_true f1
     have e:b_ q r=7:=by simp only[b_,f0,f1,ak,aj]
     rw[e]
     exact aE rfl (ba Try.func50 iO rfl (.inr rfl) (pk (d+1) _ _ h _ h2 (NN cj (fun i=>(Pt i))<|NN iw (fun i=>(Pt i))<|CN 2<|MM (aO 3 0 (Zi r.aL) cO k!)<|VV (bK 3 false true .i64 r.aL 0)<|CC<|BC f0<|BM f0 (aO 3 0 (Zi r.aL) cO k!)<|BC f0<|BM f0 (aO 24 6 q.az (dg _ _ bf) k!)<|BV f0 SE<|BV f0 (oe 3 false false .i64 r.aL ((q.aC.length:Nat):Int))<|VV (aZ (a:=some (AV.bool true)) (b:=some (AV.bool (decide (((q.aC.length:Nat):Int)≤r.aL)))) f0)<|BC f1<|ZZ) k!) k!) dZ rfl
   · have ic:=of_decide_eq_false f1
     have k6:=zh (d:=d) r.time eQ
     rcases bZq (!(fJ r.time)) with f2 | f2
     · have e:b_ q r=1:=by simp only[b_,f0,f1,f2,ak,aj]
       rw[e]
       exact aE rfl (ba Try.func50 iO rfl (.inr rfl) (pk (d+1) _ _ h _ h2 (NN cj (fun i=>(Pt i))<|NN iw (fun i=>(Pt i))<|CN 2<|MM (aO 3 0 (Zi r.aL) cO k!)<|VV (bK 3 false true .i64 r.aL 0)<|CC<|BC f0<|BM f0 (aO 3 0 (Zi r.aL) cO k!)<|BC f0<|BM f0 (aO 24 6 q.az (dg _ _ bf) k!)<|BV f0 SE<|BV f0 (oe 3 false false .i64 r.aL ((q.aC.length:Nat):Int))<|VV (aZ (a:=some (AV.bool true)) (b:=some (AV.bool (decide (((q.aC.length:Nat):Int)≤r.aL)))) f0)<|BC f1<|MM (aO 3 1 (Zi r.time) cO k!)<|EE k6<|CN 2<|BB f2<|BB f2<|BB f2<|BV f2 (ow true f2)<|TT<|CC<|ZZ) k!) k!) dZ rfl
     · have k8:=zi (d:=d) r.value eQ
       rcases bZq (!(cF r.value)) with f3 | f3
       · have e:b_ q r=1:=by simp only[b_,f0,f1,f2,f3,ak,aj]
         rw[e]
         exact aE rfl (ba Try.func50 iO rfl (.inr rfl) (pk (d+1) _ _ h _ h2 (NN cj (fun i=>(Pt i))<|NN iw (fun i=>(Pt i))<|CN 2<|MM (aO 3 0 (Zi r.aL) cO k!)<|VV (bK 3 false true .i64 r.aL 0)<|CC<|BC f0<|BM f0 (aO 3 0 (Zi r.aL) cO k!)<|BC f0<|BM f0 (aO 24 6 q.az (dg _ _ bf) k!)<|BV f0 SE<|BV f0 (oe 3 false false .i64 r.aL ((q.aC.length:Nat):Int))<|VV (aZ (a:=some (AV.bool true)) (b:=some (AV.bool (decide (((q.aC.length:Nat):Int)≤r.aL)))) f0)<|BC f1<|MM (aO 3 1 (Zi r.time) cO k!)<|EE k6<|CN 2<|BC f2<|BM f2 (aO 3 2 (Zi r.value) cO k!)<|BB f2<|EE k8<|BC f2<|VV (aZ (a:=some (AV.bool true)) (b:=some (AV.bool (!(cF r.value)))) f2)<|BC f3<|ZZ) k!) k!) dZ rfl
       · have e:b_ q r=0:=by simp only[b_,f0,f1,f2,f3,ak,aj]
         rw[e]
         exact aE rfl (ba Try.func50 iO rfl (.inr rfl) (pk (d+1) _ _ h _ h2 (NN cj (fun i=>(Pt i))<|NN iw (fun i=>(Pt i))<|CN 2<|MM (aO 3 0 (Zi r.aL) cO k!)<|VV (bK 3 false true .i64 r.aL 0)<|CC<|BC f0<|BM f0 (aO 3 0 (Zi r.aL) cO k!)<|BC f0<|BM f0 (aO 24 6 q.az (dg _ _ bf) k!)<|BV f0 SE<|BV f0 (oe 3 false false .i64 r.aL ((q.aC.length:Nat):Int))<|VV (aZ (a:=some (AV.bool true)) (b:=some (AV.bool (decide (((q.aC.length:Nat):Int)≤r.aL)))) f0)<|BC f1<|MM (aO 3 1 (Zi r.time) cO k!)<|EE k6<|CN 2<|BC f2<|BM f2 (aO 3 2 (Zi r.value) cO k!)<|BB f2<|EE k8<|BC f2<|VV (aZ (a:=some (AV.bool true)) (b:=some (AV.bool (!(cF r.value)))) f2)<|BC f3<|ZZ) k!) k!) dZ rfl
end
end Go.Proofs.aG
