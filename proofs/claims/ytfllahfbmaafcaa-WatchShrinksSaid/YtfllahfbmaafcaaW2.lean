import Derived.Test.YtfllahfbmaafcaaW0
namespace Go.Proofs.aK
open Go.Proofs Ab
noncomputable section
set_option maxRecDepth 100000
set_option maxHeartbeats 4000000
set_option linter.unusedVariables false
set_option linter.unusedSimpArgs false
def zL:Code:=(Try.f43.body).getD .skip
theorem FN:Try.f43.body=some zL:=by kernel_rfl
def f_ (g:aE) (t:Int):Int:=(IntKind.i64.wrap (g.acc+(IntKind.i64.wrap (g.b6*(IntKind.i64.wrap (Int.tdiv (IntKind.i64.wrap ((IntKind.i64.wrap ((imax (IntKind.i64.wrap (t - g.since)) 0)+1000)) - 1)) 1000))))))
theorem FP {d:Nat} {h:au} (g:aE) (t:Int) (h_g:az.ok h g) (cj:Tidy h):dw (d+1) (.fn 43) [(AV.agg [(AV.str g.name),(Zi g.acc),(Zi g.b6),(Zi g.since)]),(Zi t)] h= .ret (Zi (f_ g t)) h:=by
 obtain ⟨h1,b9,cL,kt,aO,cz⟩:=jS cj (aR.cells [(AV.str g.name),(Zi g.acc),(Zi g.b6),(Zi g.since)] 45 false)
 have bQ:Has h h1:=cz
 have e:f_ g t=(IntKind.i64.wrap (g.acc+(IntKind.i64.wrap (g.b6*(IntKind.i64.wrap (Int.tdiv (IntKind.i64.wrap ((IntKind.i64.wrap ((imax (IntKind.i64.wrap (t - g.since)) 0)+1000)) - 1)) 1000)))))):=by simp only[f_,ax,ar]
 rw[e]
 exact aF rfl (bu Try.func43 FN rfl (.inr rfl) (pk (d) _ _ h _ h1 (NN b9 (fun i=>(Pt i))<|CN 3<|MM (aL 3 3 (Zi g.since) aO k!)<|CN 7<|MM (aL 3 1 (Zi g.acc) aO k!)<|CC<|MM (aL 3 2 (Zi g.b6) aO k!)<|CN 4<|ZZ) k!) k!) bQ rfl
def tj:Code:=(Try.f83.body).getD .skip
theorem xH:Try.f83.body=some tj:=by kernel_rfl
def fR (o:aE) (c:aE):Bool:=(decide (o.name=c.name))
theorem xI {d:Nat} {h:au} (o:aE) (c:aE) (cB:Nat) (h_o:az.ok h o) (Vo:az.ok h c) (g_c:h.get cB=some (.cells (az.c c) 45 false)) (cj:Tidy h):dw (d+1) (.fn 83) [(AV.agg [(AV.str o.name),(Zi o.acc),(Zi o.b6),(Zi o.since)]),(Pt cB)] h= .ret (AV.bool (fR o c)) h:=by
 obtain ⟨h1,b9,cL,kt,aO,cz⟩:=jS cj (aR.cells [(AV.str o.name),(Zi o.acc),(Zi o.b6),(Zi o.since)] 45 false)
 have bQ:Has h h1:=cz
 have e:fR o c=(decide (o.name=c.name)):=by simp only[fR,ax,ar]
 rw[e]
 exact aF rfl (bu Try.func83 xH rfl (.inr rfl) (pk (d) _ _ h _ h1 (NN b9 (fun i=>(Pt i))<|CN 2<|MM (aL 9 0 (AV.str o.name) aO k!)<|CC<|MM (aL 9 0 (AV.str c.name) (cz _ _ g_c) k!)<|VV (Lb 9 false false o.name c.name)<|CC<|ZZ) k!) k!) bQ rfl
def nq:Code:=(Try.f91.body).getD .skip
theorem qI:Try.f91.body=some nq:=by kernel_rfl
def vT:Code:=(cX nq).getD 0 .skip
def dr (s:List aE) (P:aE→Bool):Nat→Nat→Option (Int)
 | 0,_=>none
 | gB+1,i0=>(bif (P (s.g i0)) then some ((i0:Nat):Int) else dr s P gB (i0+1))
theorem jW {d:Nat} {h:au} (sV:AV) (g:FuncId) (cap:List AV) (s:List aE) (P:aE→Bool) (eH:aQ h sV s) (hP:∀y∈s,∀hh,Tidy hh→Has h hh→dw d (.fn g) (.agg (az.c y)::cap) hh= .ret (.bool (P y)) hh):∀(k_ i_:Nat) (_:i_+k_=s.length) (x:Nat→AV) (hh:au) (a_:Tidy hh) (bN:Has h hh),bh (dw (d)) vT ⟨(sV::(AV.func g [] cap)::rx x 2 5 ((Zn s.length)::(Zn i_)::rx x 9 10 [])),hh,[],.no⟩ (.exit 0) hh (fun y=>(sV::(AV.func g [] cap)::rx y 2 5 ((Zn s.length)::rx y 8 11 []))) (fun r y=>(sV::(AV.func g [] cap)::(y 2)::(y 3)::(Zi r)::(y 5)::(y 6)::(Zn s.length)::rx y 8 11 [])) (dr s P k_ i_)
 | 0,i0,rR,x,hh,a_,bN=>by
   have mD:=eH.small
   have q1:(decide (((i0:Nat):Int)<((s.length:Nat):Int)))=false:=d!
   exact bh.out rfl (pk (d) _ _ hh _ hh (VV (cS 3 false false .i64 ((i0:Nat):Int) ((s.length:Nat):Int))<|BB q1<|ZZ) k!) (Grow.refl a_) k!
 | gB+1,i0,rR,x,hh,a_,bN=>by
   have mD:=eH.small
   have q1:(decide (((i0:Nat):Int)<((s.length:Nat):Int)))=true:=d!
   obtain ⟨p3,q4,kY⟩:=(eH.has bN).elem (i:=i0) o!
   have mU:dL env (some (.slice 45)) (some sV) (some (Zn i0))=some (AV.ptr p3 q4):=kY
   have AJ:bw env hh 45 (AV.ptr p3 q4)=some (AV.agg [(AV.str (s.g i0).name),(Zi (s.g i0).acc),(Zi (s.g i0).b6),(Zi (s.g i0).since)]):=(eH.has bN).load o! kY
   have k6:=hP (s.g i0) (jT o!) hh a_ bN
   rcases Bool.eq_false_or_eq_true (P (s.g i0)) with f1 | f1
   · exact bh.ret ((i0:Nat):Int) (by simp only[dr,f1,ax,ar]) (pk (d) _ _ hh _ hh (VV (cS 3 false false .i64 ((i0:Nat):Int) ((s.length:Nat):Int))<|BB q1<|CN 5<|VV mU<|MM AJ<|EE k6<|BB f1<|CN 2<|ZZ) k!) (Grow.refl a_) k!
   · have u8:=ks 3 false true i0 1 o!
     exact bh.round (by simp only[dr,f1,ax,ar]) (pk (d) _ _ hh _ hh (VV (cS 3 false false .i64 ((i0:Nat):Int) ((s.length:Nat):Int))<|BB q1<|CN 5<|VV mU<|MM AJ<|EE k6<|BV f1 u8<|CC<|ZZ) k!) (Grow.refl a_) _ k! (fun x=>jW sV g cap s P eH hP gB (i0+1) o! x hh a_ bN)
def eN (s:List aE) (P:aE→Bool):Int:=(match (dr s P s.length 0) with | none=>(-1) | some Lf=>Lf)
theorem zM {d:Nat} {h:au} {sV:AV} {g:FuncId} {cap:List AV} (s:List aE) (P:aE→Bool) (BX:aQ h sV s) (hP:∀y∈s,∀hh,Tidy hh→Has h hh→dw d (.fn g) (.agg (az.c y)::cap) hh= .ret (.bool (P y)) hh) (cj:Tidy h):dw (d+1) (.fn 91) [sV,(AV.func g [] cap)] h= .ret (Zi (eN s P)) h:=by
 have JI:=BX.small
 have vU:eF (some (.slice 45)) (some sV)=some (Zn s.length):=BX.len
 cases jX:dr s P s.length 0 with
 | none=>
   obtain ⟨Xc,h3,jo,mE⟩:=bh.n jX (jW (d:=d) (h:=h) sV g cap s P BX hP s.length 0 o! (fun k_=>((sV::(AV.func g [] cap)::AV.undef::AV.undef::(Zi 0)::AV.undef::sV::(Zn s.length)::(Zi 0)::ka 10):List AV).getD k_ AV.undef) h cj (Has.refl _))
   have hQ:=mE.y
   have uJ:h.nx≤h3.nx:=mE.n
   have jq:Has h h3:=mE.a
   have e:eN s P=(-1):=by simp only[eN,jX,ax,ar]
   rw[e]
   exact aF rfl (bu Try.func91 qI rfl (.inr rfl) (pk (d) _ _ h _ h3 (CN 2<|VV vU<|CC<|LL jo<|CC<|ZZ) k!) k!) jq rfl
 | some Lf=>
   obtain ⟨Xc,h3,jo,mE⟩:=bh.r jX (jW (d:=d) (h:=h) sV g cap s P BX hP s.length 0 o! (fun k_=>((sV::(AV.func g [] cap)::AV.undef::AV.undef::(Zi 0)::AV.undef::sV::(Zn s.length)::(Zi 0)::ka 10):List AV).getD k_ AV.undef) h cj (Has.refl _))
   have hQ:=mE.y
   have uJ:h.nx≤h3.nx:=mE.n
   have jq:Has h h3:=mE.a
   have e:eN s P=Lf:=by simp only[eN,jX,ax,ar]
   rw[e]
   exact aF rfl (bu Try.func91 qI rfl (.inr rfl) (pk (d) _ _ h _ h3 (CN 2<|VV vU<|CC<|LL jo<|ZZ) k!) k!) jq rfl
def qJ:Code:=(Try.f82.body).getD .skip
theorem uK:Try.f82.body=some qJ:=by kernel_rfl
def dN (s:List aE) (P:aE→Bool):Bool:=(decide (0≤(eN s P)))
theorem uL {d:Nat} {h:au} {sV:AV} {g:FuncId} {cap:List AV} (s:List aE) (P:aE→Bool) (BX:aQ h sV s) (hP:∀y∈s,∀hh,Tidy hh→Has h hh→dw d (.fn g) (.agg (az.c y)::cap) hh= .ret (.bool (P y)) hh) (cj:Tidy h):dw (d+2) (.fn 82) [sV,(AV.func g [] cap)] h= .ret (AV.bool (dN s P)) h:=by
 have JI:=BX.small
 have k1:=zM (d:=d) s P BX hP cj
 have e:dN s P=(decide (0≤(eN s P))):=by simp only[dN,ax,ar]
 rw[e]
 exact aF rfl (bu Try.func82 uK rfl (.inr rfl) (pk (d+1) _ _ h _ h (CN 3<|EE k1<|VV (eG 3 false true .i64 (eN s P) 0)<|CC<|ZZ) k!) k!) (Has.refl _) rfl
def A1:Code:=(Try.f67.body).getD .skip
theorem zN:Try.f67.body=some A1:=by kernel_rfl
def dk (x_:Int) (eO:Int):Bool:=(bif (decide (0≤x_)) then (decide (x_≤eO)) else false)
theorem ku {d:Nat} {h:au} (x_:Int) (eO:Int) (cj:Tidy h):dw (d+1) (.fn 67) [(Zi x_),(Zi eO)] h= .ret (AV.bool (dk x_ eO)) h:=by
 rcases Bool.eq_false_or_eq_true (decide (0≤x_)) with f0 | f0
 · have pn:=of_decide_eq_true f0
   have e:dk x_ eO=(decide (x_≤eO)):=by simp only[dk,f0,ax,ar]
   rw[e]
   exact aF rfl (bu Try.func67 zN rfl (.inr rfl) (pk (d) _ _ h _ h (CN 2<|VV (eG 3 false true .i64 x_ 0)<|CC<|BC f0<|BC f0<|BV f0 (gA 3 false false .i64 x_ eO)<|VV (jG (decide (x_≤eO)) false f0)<|CC<|ZZ) k!) k!) (Has.refl _) rfl
 · have pn:=of_decide_eq_false f0
   have e:dk x_ eO=false:=by simp only[dk,f0,ax,ar]
   rw[e]
   exact aF rfl (bu Try.func67 zN rfl (.inr rfl) (pk (d) _ _ h _ h (CN 2<|VV (eG 3 false true .i64 x_ 0)<|CC<|BB f0<|BB f0<|BV f0 (pH false f0)<|CC<|ZZ) k!) k!) (Has.refl _) rfl
def A2:Code:=(Try.f42.body).getD .skip
theorem HZ:Try.f42.body=some A2:=by kernel_rfl
def eI (t:Int):Bool:=(dk t 100000)
theorem tk {d:Nat} {h:au} (t:Int) (cj:Tidy h):dw (d+2) (.fn 42) [(Zi t)] h= .ret (AV.bool (eI t)) h:=by
 have k1:=ku (d:=d) t 100000 cj
 have e:eI t=(dk t 100000):=by simp only[eI,ax,ar]
 rw[e]
 exact aF rfl (bu Try.func42 HZ rfl (.inr rfl) (pk (d+1) _ _ h _ h (CN 2<|EE k1<|CC<|ZZ) k!) k!) (Has.refl _) rfl
def zO:Code:=(Try.f84.body).getD .skip
theorem qK:Try.f84.body=some zO:=by kernel_rfl
def fG (g:aE):Bool:=(bif (dk g.acc 1000000000) then (bif (dk g.b6 1000000000) then (eI g.since) else false) else false)
theorem FQ {d:Nat} {h:au} (g:aE) (h_g:az.ok h g) (cj:Tidy h):dw (d+3) (.fn 84) [(AV.agg [(AV.str g.name),(Zi g.acc),(Zi g.b6),(Zi g.since)])] h= .ret (AV.bool (fG g)) h:=by
 obtain ⟨h1,b9,cL,kt,aO,cz⟩:=jS cj (aR.cells [(AV.str g.name),(Zi g.acc),(Zi g.b6),(Zi g.since)] 45 false)
 have bQ:Has h h1:=cz
 have k2:=ku (d:=d+1) g.acc 1000000000 cL
 rcases Bool.eq_false_or_eq_true (dk g.acc 1000000000) with f0 | f0
 · have k4:=ku (d:=d+1) g.b6 1000000000 cL
   rcases Bool.eq_false_or_eq_true (dk g.b6 1000000000) with f1 | f1
   · have k6:=tk (d:=d) g.since cL
     have e:fG g=(eI g.since):=by simp only[fG,f0,f1,ax,ar]
     rw[e]
     exact aF rfl (bu Try.func84 qK rfl (.inr rfl) (pk (d+2) _ _ h _ h1 (NN b9 (fun i=>(Pt i))<|CN 2<|MM (aL 3 1 (Zi g.acc) aO k!)<|EE k2<|CC<|BC f0<|BM f0 (aL 3 2 (Zi g.b6) aO k!)<|BB f0<|EE k4<|VV (jG (dk g.b6 1000000000) false f0)<|CC<|BC f1<|BM f1 (aL 3 3 (Zi g.since) aO k!)<|BB f1<|EE k6<|VV (jG (eI g.since) false f1)<|CC<|ZZ) k!) k!) bQ rfl
   · have e:fG g=false:=by simp only[fG,f0,f1,ax,ar]
     rw[e]
     exact aF rfl (bu Try.func84 qK rfl (.inr rfl) (pk (d+2) _ _ h _ h1 (NN b9 (fun i=>(Pt i))<|CN 2<|MM (aL 3 1 (Zi g.acc) aO k!)<|EE k2<|CC<|BC f0<|BM f0 (aL 3 2 (Zi g.b6) aO k!)<|BB f0<|EE k4<|VV (jG (dk g.b6 1000000000) false f0)<|CC<|BB f1<|BB f1<|BV f1 (pH false f1)<|CC<|ZZ) k!) k!) bQ rfl
 · have e:fG g=false:=by simp only[fG,f0,ax,ar]
   rw[e]
   exact aF rfl (bu Try.func84 qK rfl (.inr rfl) (pk (d+2) _ _ h _ h1 (NN b9 (fun i=>(Pt i))<|CN 2<|MM (aL 3 1 (Zi g.acc) aO k!)<|EE k2<|CC<|BB f0<|BB f0<|BV f0 (pH false f0)<|CC<|FF<|FF<|FF<|CN 2<|ZZ) k!) k!) bQ rfl
def sy:Code:=(Try.f63.body).getD .skip
theorem po:Try.f63.body=some sy:=by kernel_rfl
def Ds:Code:=(cX sy).getD 0 .skip
def bx (bI:List UInt8):Nat→Nat→Option (Bool)
 | 0,_=>none
 | gB+1,i0=>(bif (decide (97≤(((bI.g i0).toNat:Nat):Int))) then (bif (decide (48≤(((bI.g i0).toNat:Nat):Int))) then (bif (decide ((((bI.g i0).toNat:Nat):Int)≤57)) then (bif (!(decide ((((bI.g i0).toNat:Nat):Int)≤122))) then (bif (decide (((i0:Nat):Int)=0)) then some false else bx bI gB (i0+1)) else bx bI gB (i0+1)) else (bif (!(decide ((((bI.g i0).toNat:Nat):Int)≤122))) then (bif (decide (((i0:Nat):Int)=0)) then some false else (bif (!(decide ((((bI.g i0).toNat:Nat):Int)=45))) then some false else bx bI gB (i0+1))) else bx bI gB (i0+1))) else (bif (!(decide ((((bI.g i0).toNat:Nat):Int)≤122))) then (bif (decide (((i0:Nat):Int)=0)) then some false else (bif (!(decide ((((bI.g i0).toNat:Nat):Int)=45))) then some false else bx bI gB (i0+1))) else bx bI gB (i0+1))) else (bif (decide (48≤(((bI.g i0).toNat:Nat):Int))) then (bif (decide ((((bI.g i0).toNat:Nat):Int)≤57)) then (bif (decide (((i0:Nat):Int)=0)) then some false else bx bI gB (i0+1)) else (bif (decide (((i0:Nat):Int)=0)) then some false else (bif (!(decide ((((bI.g i0).toNat:Nat):Int)=45))) then some false else bx bI gB (i0+1)))) else (bif (decide (((i0:Nat):Int)=0)) then some false else (bif (!(decide ((((bI.g i0).toNat:Nat):Int)=45))) then some false else bx bI gB (i0+1)))))
theorem dm {d:Nat} {h:au} (bI:List UInt8) (eH:bI.length<2^60):∀(k_ i_:Nat) (_:i_+k_=(List.length bI)) (x:Nat→AV) (hh:au) (a_:Tidy hh) (bN:Has h hh),bh (dw (d)) Ds ⟨((AV.str bI)::rx x 1 13 ((Zn (List.length bI))::(Zn i_)::rx x 16 39 [])),hh,[],.no⟩ (.exit 0) hh (fun y=>((AV.str bI)::rx y 1 13 ((Zn (List.length bI))::rx y 15 40 []))) (fun r y=>((AV.str bI)::(y 1)::(AV.bool r)::rx y 3 11 ((Zn (List.length bI))::rx y 15 40 []))) (bx bI k_ i_)
 | 0,i0,rR,x,hh,a_,bN=>by
   have q1:(decide (((i0:Nat):Int)<((List.length bI:Nat):Int)))=false:=d!
   exact bh.out rfl (pk (d) _ _ hh _ hh (VV (cS 3 false false .i64 ((i0:Nat):Int) ((List.length bI:Nat):Int))<|BB q1<|ZZ) k!) (Grow.refl a_) k!
 | gB+1,i0,rR,x,hh,a_,bN=>by
   have q1:(decide (((i0:Nat):Int)<((List.length bI:Nat):Int)))=true:=d!
   have mU:r6 env (some .string) (some (AV.str bI)) (some (Zn i0))=some (AV.int .u8 (((bI.g i0).toNat:Nat):Int)):=kE (j:=i0) o!
   rcases Bool.eq_false_or_eq_true (decide (97≤(((bI.g i0).toNat:Nat):Int))) with f1 | f1
   · have tp:=of_decide_eq_true f1
     have xJ:r6 env (some .string) (some (AV.str bI)) (some (Zn i0))=some (AV.int .u8 (((bI.g i0).toNat:Nat):Int)):=kE (j:=i0) o!
     have FR:r6 env (some .string) (some (AV.str bI)) (some (Zn i0))=some (AV.int .u8 (((bI.g i0).toNat:Nat):Int)):=kE (j:=i0) o!
     rcases Bool.eq_false_or_eq_true (decide (48≤(((bI.g i0).toNat:Nat):Int))) with f2 | f2
     · have uM:=of_decide_eq_true f2
       have MZ:r6 env (some .string) (some (AV.str bI)) (some (Zn i0))=some (AV.int .u8 (((bI.g i0).toNat:Nat):Int)):=kE (j:=i0) o!
       rcases Bool.eq_false_or_eq_true (decide ((((bI.g i0).toNat:Nat):Int)≤57)) with f3 | f3
       · have qL:=of_decide_eq_true f3
         rcases Bool.eq_false_or_eq_true (!(decide ((((bI.g i0).toNat:Nat):Int)≤122))) with f4 | f4
         · have qM:=HI f4
           rcases Bool.eq_false_or_eq_true (decide (((i0:Nat):Int)=0)) with f5 | f5
           · have zP:=of_decide_eq_true f5
             exact bh.ret false (by simp only[bx,f1,f2,f3,f4,f5,ax,ar]) (pk (d) _ _ hh _ hh (VV (cS 3 false false .i64 ((i0:Nat):Int) ((List.length bI:Nat):Int))<|BB q1<|CN 4<|VV mU<|VV (eG 5 false true .u8 (((bI.g i0).toNat:Nat):Int) 97)<|CC<|BC f1<|BC f1<|BV f1 xJ<|BV f1 (gA 5 false true .u8 (((bI.g i0).toNat:Nat):Int) 122)<|VV (jG (decide ((((bI.g i0).toNat:Nat):Int)≤122)) false f1)<|CN 3<|VV FR<|VV (eG 5 false true .u8 (((bI.g i0).toNat:Nat):Int) 48)<|CC<|BC f2<|BC f2<|BV f2 MZ<|BV f2 (gA 5 false true .u8 (((bI.g i0).toNat:Nat):Int) 57)<|VV (jG (decide ((((bI.g i0).toNat:Nat):Int)≤57)) false f2)<|CC<|BB f3<|BB f3<|BB f3<|BV f3 (AI true f3)<|CN 4<|BC f4<|BV f4 (dZ 3 false true .i64 ((i0:Nat):Int) 0)<|BC f4<|BB f5<|BB f5<|BV f4 (AI true f5)<|VV (jG true false f4)<|TT<|CC<|ZZ) k!) (Grow.refl a_) k!
           · have zP:=of_decide_eq_false f5
             have Po:=ks 3 false true i0 1 o!
             exact bh.round (by simp only[bx,f1,f2,f3,f4,f5,ax,ar]) (pk (d) _ _ hh _ hh (VV (cS 3 false false .i64 ((i0:Nat):Int) ((List.length bI:Nat):Int))<|BB q1<|CN 4<|VV mU<|VV (eG 5 false true .u8 (((bI.g i0).toNat:Nat):Int) 97)<|CC<|BC f1<|BC f1<|BV f1 xJ<|BV f1 (gA 5 false true .u8 (((bI.g i0).toNat:Nat):Int) 122)<|VV (jG (decide ((((bI.g i0).toNat:Nat):Int)≤122)) false f1)<|CN 3<|VV FR<|VV (eG 5 false true .u8 (((bI.g i0).toNat:Nat):Int) 48)<|CC<|BC f2<|BC f2<|BV f2 MZ<|BV f2 (gA 5 false true .u8 (((bI.g i0).toNat:Nat):Int) 57)<|VV (jG (decide ((((bI.g i0).toNat:Nat):Int)≤57)) false f2)<|CC<|BB f3<|BB f3<|BB f3<|BV f3 (AI true f3)<|CN 4<|BC f4<|BV f4 (dZ 3 false true .i64 ((i0:Nat):Int) 0)<|BC f4<|BC f5<|BC f5<|BV f4 (Tr true false f5)<|VV (jG false false f4)<|FF<|VV Po<|CC<|ZZ) k!) (Grow.refl a_) _ k! (fun x=>dm bI eH gB (i0+1) o! x hh a_ bN)
         · have qM:=HJ f4
           have u10:=ks 3 false true i0 1 o!
           exact bh.round (by simp only[bx,f1,f2,f3,f4,ax,ar]) (pk (d) _ _ hh _ hh (VV (cS 3 false false .i64 ((i0:Nat):Int) ((List.length bI:Nat):Int))<|BB q1<|CN 4<|VV mU<|VV (eG 5 false true .u8 (((bI.g i0).toNat:Nat):Int) 97)<|CC<|BC f1<|BC f1<|BV f1 xJ<|BV f1 (gA 5 false true .u8 (((bI.g i0).toNat:Nat):Int) 122)<|VV (jG (decide ((((bI.g i0).toNat:Nat):Int)≤122)) false f1)<|CN 3<|VV FR<|VV (eG 5 false true .u8 (((bI.g i0).toNat:Nat):Int) 48)<|CC<|BC f2<|BC f2<|BV f2 MZ<|BV f2 (gA 5 false true .u8 (((bI.g i0).toNat:Nat):Int) 57)<|VV (jG (decide ((((bI.g i0).toNat:Nat):Int)≤57)) false f2)<|CC<|BB f3<|BB f3<|BB f3<|BV f3 (AI true f3)<|CN 4<|BB f4<|BB f4<|BB f4<|BV f4 (pH false f4)<|FF<|VV u10<|CC<|ZZ) k!) (Grow.refl a_) _ k! (fun x=>dm bI eH gB (i0+1) o! x hh a_ bN)
       · have qL:=of_decide_eq_false f3
         have ix9:r6 env (some .string) (some (AV.str bI)) (some (Zn i0))=some (AV.int .u8 (((bI.g i0).toNat:Nat):Int)):=kE (j:=i0) o!
         rcases Bool.eq_false_or_eq_true (!(decide ((((bI.g i0).toNat:Nat):Int)≤122))) with f4 | f4
         · have qM:=HI f4
           rcases Bool.eq_false_or_eq_true (decide (((i0:Nat):Int)=0)) with f5 | f5
           · have zP:=of_decide_eq_true f5
             exact bh.ret false (by simp only[bx,f1,f2,f3,f4,f5,ax,ar]) (pk (d) _ _ hh _ hh (VV (cS 3 false false .i64 ((i0:Nat):Int) ((List.length bI:Nat):Int))<|BB q1<|CN 4<|VV mU<|VV (eG 5 false true .u8 (((bI.g i0).toNat:Nat):Int) 97)<|CC<|BC f1<|BC f1<|BV f1 xJ<|BV f1 (gA 5 false true .u8 (((bI.g i0).toNat:Nat):Int) 122)<|VV (jG (decide ((((bI.g i0).toNat:Nat):Int)≤122)) false f1)<|CN 3<|VV FR<|VV (eG 5 false true .u8 (((bI.g i0).toNat:Nat):Int) 48)<|CC<|BC f2<|BC f2<|BV f2 MZ<|BV f2 (gA 5 false true .u8 (((bI.g i0).toNat:Nat):Int) 57)<|VV (jG (decide ((((bI.g i0).toNat:Nat):Int)≤57)) false f2)<|CC<|BC f3<|BC f3<|BV f3 ix9<|BV f3 (dZ 5 false true .u8 (((bI.g i0).toNat:Nat):Int) 45)<|VV (bJ (a:=some (AV.bool true)) (b:=some (AV.bool (decide ((((bI.g i0).toNat:Nat):Int)=45)))) f3)<|CN 4<|BC f4<|BV f4 (dZ 3 false true .i64 ((i0:Nat):Int) 0)<|BC f4<|BB f5<|BB f5<|BV f4 (AI true f5)<|VV (jG true false f4)<|TT<|CC<|ZZ) k!) (Grow.refl a_) k!
           · have zP:=of_decide_eq_false f5
             rcases Bool.eq_false_or_eq_true (!(decide ((((bI.g i0).toNat:Nat):Int)=45))) with f6 | f6
             · have Pp:=HI f6
               exact bh.ret false (by simp only[bx,f1,f2,f3,f4,f5,f6,ax,ar]) (pk (d) _ _ hh _ hh (VV (cS 3 false false .i64 ((i0:Nat):Int) ((List.length bI:Nat):Int))<|BB q1<|CN 4<|VV mU<|VV (eG 5 false true .u8 (((bI.g i0).toNat:Nat):Int) 97)<|CC<|BC f1<|BC f1<|BV f1 xJ<|BV f1 (gA 5 false true .u8 (((bI.g i0).toNat:Nat):Int) 122)<|VV (jG (decide ((((bI.g i0).toNat:Nat):Int)≤122)) false f1)<|CN 3<|VV FR<|VV (eG 5 false true .u8 (((bI.g i0).toNat:Nat):Int) 48)<|CC<|BC f2<|BC f2<|BV f2 MZ<|BV f2 (gA 5 false true .u8 (((bI.g i0).toNat:Nat):Int) 57)<|VV (jG (decide ((((bI.g i0).toNat:Nat):Int)≤57)) false f2)<|CC<|BC f3<|BC f3<|BV f3 ix9<|BV f3 (dZ 5 false true .u8 (((bI.g i0).toNat:Nat):Int) 45)<|VV (bJ (a:=some (AV.bool true)) (b:=some (AV.bool (decide ((((bI.g i0).toNat:Nat):Int)=45)))) f3)<|CN 4<|BC f4<|BV f4 (dZ 3 false true .i64 ((i0:Nat):Int) 0)<|BC f4<|BC f5<|BC f5<|BV f4 (bJ (a:=some (AV.bool true)) (b:=some (AV.bool (!(decide ((((bI.g i0).toNat:Nat):Int)=45))))) f5)<|VV (jG (!(decide ((((bI.g i0).toNat:Nat):Int)=45))) false f4)<|BC f6<|ZZ) k!) (Grow.refl a_) k!
             · have Pp:=HJ f6
               have Xd:=ks 3 false true i0 1 o!
               exact bh.round (by simp only[bx,f1,f2,f3,f4,f5,f6,ax,ar]) (pk (d) _ _ hh _ hh (VV (cS 3 false false .i64 ((i0:Nat):Int) ((List.length bI:Nat):Int))<|BB q1<|CN 4<|VV mU<|VV (eG 5 false true .u8 (((bI.g i0).toNat:Nat):Int) 97)<|CC<|BC f1<|BC f1<|BV f1 xJ<|BV f1 (gA 5 false true .u8 (((bI.g i0).toNat:Nat):Int) 122)<|VV (jG (decide ((((bI.g i0).toNat:Nat):Int)≤122)) false f1)<|CN 3<|VV FR<|VV (eG 5 false true .u8 (((bI.g i0).toNat:Nat):Int) 48)<|CC<|BC f2<|BC f2<|BV f2 MZ<|BV f2 (gA 5 false true .u8 (((bI.g i0).toNat:Nat):Int) 57)<|VV (jG (decide ((((bI.g i0).toNat:Nat):Int)≤57)) false f2)<|CC<|BC f3<|BC f3<|BV f3 ix9<|BV f3 (dZ 5 false true .u8 (((bI.g i0).toNat:Nat):Int) 45)<|VV (bJ (a:=some (AV.bool true)) (b:=some (AV.bool (decide ((((bI.g i0).toNat:Nat):Int)=45)))) f3)<|CN 4<|BC f4<|BV f4 (dZ 3 false true .i64 ((i0:Nat):Int) 0)<|BC f4<|BC f5<|BC f5<|BV f4 (bJ (a:=some (AV.bool true)) (b:=some (AV.bool (!(decide ((((bI.g i0).toNat:Nat):Int)=45))))) f5)<|VV (jG (!(decide ((((bI.g i0).toNat:Nat):Int)=45))) false f4)<|BV f6 Xd<|CC<|ZZ) k!) (Grow.refl a_) _ k! (fun x=>dm bI eH gB (i0+1) o! x hh a_ bN)
         · have qM:=HJ f4
           have Po:=ks 3 false true i0 1 o!
           exact bh.round (by simp only[bx,f1,f2,f3,f4,ax,ar]) (pk (d) _ _ hh _ hh (VV (cS 3 false false .i64 ((i0:Nat):Int) ((List.length bI:Nat):Int))<|BB q1<|CN 4<|VV mU<|VV (eG 5 false true .u8 (((bI.g i0).toNat:Nat):Int) 97)<|CC<|BC f1<|BC f1<|BV f1 xJ<|BV f1 (gA 5 false true .u8 (((bI.g i0).toNat:Nat):Int) 122)<|VV (jG (decide ((((bI.g i0).toNat:Nat):Int)≤122)) false f1)<|CN 3<|VV FR<|VV (eG 5 false true .u8 (((bI.g i0).toNat:Nat):Int) 48)<|CC<|BC f2<|BC f2<|BV f2 MZ<|BV f2 (gA 5 false true .u8 (((bI.g i0).toNat:Nat):Int) 57)<|VV (jG (decide ((((bI.g i0).toNat:Nat):Int)≤57)) false f2)<|CC<|BC f3<|BC f3<|BV f3 ix9<|BV f3 (dZ 5 false true .u8 (((bI.g i0).toNat:Nat):Int) 45)<|VV (bJ (a:=some (AV.bool true)) (b:=some (AV.bool (decide ((((bI.g i0).toNat:Nat):Int)=45)))) f3)<|CN 4<|BB f4<|BB f4<|BB f4<|BV f4 (pH false f4)<|FF<|VV Po<|CC<|ZZ) k!) (Grow.refl a_) _ k! (fun x=>dm bI eH gB (i0+1) o! x hh a_ bN)
     · have uM:=of_decide_eq_false f2
       have MZ:r6 env (some .string) (some (AV.str bI)) (some (Zn i0))=some (AV.int .u8 (((bI.g i0).toNat:Nat):Int)):=kE (j:=i0) o!
       rcases Bool.eq_false_or_eq_true (!(decide ((((bI.g i0).toNat:Nat):Int)≤122))) with f3 | f3
       · have qL:=HI f3
         rcases Bool.eq_false_or_eq_true (decide (((i0:Nat):Int)=0)) with f4 | f4
         · have qM:=of_decide_eq_true f4
           exact bh.ret false (by simp only[bx,f1,f2,f3,f4,ax,ar]) (pk (d) _ _ hh _ hh (VV (cS 3 false false .i64 ((i0:Nat):Int) ((List.length bI:Nat):Int))<|BB q1<|CN 4<|VV mU<|VV (eG 5 false true .u8 (((bI.g i0).toNat:Nat):Int) 97)<|CC<|BC f1<|BC f1<|BV f1 xJ<|BV f1 (gA 5 false true .u8 (((bI.g i0).toNat:Nat):Int) 122)<|VV (jG (decide ((((bI.g i0).toNat:Nat):Int)≤122)) false f1)<|CN 3<|VV FR<|VV (eG 5 false true .u8 (((bI.g i0).toNat:Nat):Int) 48)<|CC<|BB f2<|BB f2<|BB f2<|BV f2 (pH false f2)<|CC<|FF<|CC<|FF<|CC<|FF<|VV MZ<|FF<|VV (dZ 5 false true .u8 (((bI.g i0).toNat:Nat):Int) 45)<|CN 5<|BC f3<|BV f3 (dZ 3 false true .i64 ((i0:Nat):Int) 0)<|BC f3<|BB f4<|BB f4<|BV f3 (AI true f4)<|VV (jG true false f3)<|TT<|CC<|ZZ) k!) (Grow.refl a_) k!
         · have qM:=of_decide_eq_false f4
           rcases Bool.eq_false_or_eq_true (!(decide ((((bI.g i0).toNat:Nat):Int)=45))) with f5 | f5
           · have zP:=HI f5
             exact bh.ret false (by simp only[bx,f1,f2,f3,f4,f5,ax,ar]) (pk (d) _ _ hh _ hh (VV (cS 3 false false .i64 ((i0:Nat):Int) ((List.length bI:Nat):Int))<|BB q1<|CN 4<|VV mU<|VV (eG 5 false true .u8 (((bI.g i0).toNat:Nat):Int) 97)<|CC<|BC f1<|BC f1<|BV f1 xJ<|BV f1 (gA 5 false true .u8 (((bI.g i0).toNat:Nat):Int) 122)<|VV (jG (decide ((((bI.g i0).toNat:Nat):Int)≤122)) false f1)<|CN 3<|VV FR<|VV (eG 5 false true .u8 (((bI.g i0).toNat:Nat):Int) 48)<|CC<|BB f2<|BB f2<|BB f2<|BV f2 (pH false f2)<|CC<|FF<|CC<|FF<|CC<|FF<|VV MZ<|FF<|VV (dZ 5 false true .u8 (((bI.g i0).toNat:Nat):Int) 45)<|CN 5<|BC f3<|BV f3 (dZ 3 false true .i64 ((i0:Nat):Int) 0)<|BC f3<|BC f4<|BC f4<|BV f3 (bJ (a:=some (AV.bool true)) (b:=some (AV.bool (!(decide ((((bI.g i0).toNat:Nat):Int)=45))))) f4)<|VV (jG (!(decide ((((bI.g i0).toNat:Nat):Int)=45))) false f3)<|BC f5<|ZZ) k!) (Grow.refl a_) k!
           · have zP:=HJ f5
             have Po:=ks 3 false true i0 1 o!
             exact bh.round (by simp only[bx,f1,f2,f3,f4,f5,ax,ar]) (pk (d) _ _ hh _ hh (VV (cS 3 false false .i64 ((i0:Nat):Int) ((List.length bI:Nat):Int))<|BB q1<|CN 4<|VV mU<|VV (eG 5 false true .u8 (((bI.g i0).toNat:Nat):Int) 97)<|CC<|BC f1<|BC f1<|BV f1 xJ<|BV f1 (gA 5 false true .u8 (((bI.g i0).toNat:Nat):Int) 122)<|VV (jG (decide ((((bI.g i0).toNat:Nat):Int)≤122)) false f1)<|CN 3<|VV FR<|VV (eG 5 false true .u8 (((bI.g i0).toNat:Nat):Int) 48)<|CC<|BB f2<|BB f2<|BB f2<|BV f2 (pH false f2)<|CC<|FF<|CC<|FF<|CC<|FF<|VV MZ<|FF<|VV (dZ 5 false true .u8 (((bI.g i0).toNat:Nat):Int) 45)<|CN 5<|BC f3<|BV f3 (dZ 3 false true .i64 ((i0:Nat):Int) 0)<|BC f3<|BC f4<|BC f4<|BV f3 (bJ (a:=some (AV.bool true)) (b:=some (AV.bool (!(decide ((((bI.g i0).toNat:Nat):Int)=45))))) f4)<|VV (jG (!(decide ((((bI.g i0).toNat:Nat):Int)=45))) false f3)<|BV f5 Po<|CC<|ZZ) k!) (Grow.refl a_) _ k! (fun x=>dm bI eH gB (i0+1) o! x hh a_ bN)
       · have qL:=HJ f3
         have u9:=ks 3 false true i0 1 o!
         exact bh.round (by simp only[bx,f1,f2,f3,ax,ar]) (pk (d) _ _ hh _ hh (VV (cS 3 false false .i64 ((i0:Nat):Int) ((List.length bI:Nat):Int))<|BB q1<|CN 4<|VV mU<|VV (eG 5 false true .u8 (((bI.g i0).toNat:Nat):Int) 97)<|CC<|BC f1<|BC f1<|BV f1 xJ<|BV f1 (gA 5 false true .u8 (((bI.g i0).toNat:Nat):Int) 122)<|VV (jG (decide ((((bI.g i0).toNat:Nat):Int)≤122)) false f1)<|CN 3<|VV FR<|VV (eG 5 false true .u8 (((bI.g i0).toNat:Nat):Int) 48)<|CC<|BB f2<|BB f2<|BB f2<|BV f2 (pH false f2)<|CC<|FF<|CC<|FF<|CC<|FF<|VV MZ<|FF<|VV (dZ 5 false true .u8 (((bI.g i0).toNat:Nat):Int) 45)<|CN 5<|BB f3<|BB f3<|BB f3<|BV f3 (pH false f3)<|FF<|VV u9<|CC<|ZZ) k!) (Grow.refl a_) _ k! (fun x=>dm bI eH gB (i0+1) o! x hh a_ bN)
   · have tp:=of_decide_eq_false f1
     have xJ:r6 env (some .string) (some (AV.str bI)) (some (Zn i0))=some (AV.int .u8 (((bI.g i0).toNat:Nat):Int)):=kE (j:=i0) o!
     rcases Bool.eq_false_or_eq_true (decide (48≤(((bI.g i0).toNat:Nat):Int))) with f2 | f2
     · have uM:=of_decide_eq_true f2
       have Lk:r6 env (some .string) (some (AV.str bI)) (some (Zn i0))=some (AV.int .u8 (((bI.g i0).toNat:Nat):Int)):=kE (j:=i0) o!
       rcases Bool.eq_false_or_eq_true (decide ((((bI.g i0).toNat:Nat):Int)≤57)) with f3 | f3
       · have qL:=of_decide_eq_true f3
         rcases Bool.eq_false_or_eq_true (decide (((i0:Nat):Int)=0)) with f4 | f4
         · have qM:=of_decide_eq_true f4
           exact bh.ret false (by simp only[bx,f1,f2,f3,f4,ax,ar]) (pk (d) _ _ hh _ hh (VV (cS 3 false false .i64 ((i0:Nat):Int) ((List.length bI:Nat):Int))<|BB q1<|CN 4<|VV mU<|VV (eG 5 false true .u8 (((bI.g i0).toNat:Nat):Int) 97)<|CC<|BB f1<|BB f1<|BB f1<|BV f1 (pH false f1)<|CN 3<|VV xJ<|VV (eG 5 false true .u8 (((bI.g i0).toNat:Nat):Int) 48)<|CC<|BC f2<|BC f2<|BV f2 Lk<|BV f2 (gA 5 false true .u8 (((bI.g i0).toNat:Nat):Int) 57)<|VV (jG (decide ((((bI.g i0).toNat:Nat):Int)≤57)) false f2)<|CC<|BB f3<|BB f3<|BB f3<|BV f3 (AI true f3)<|CN 4<|TT<|CC<|TT<|VV (dZ 3 false true .i64 ((i0:Nat):Int) 0)<|TT<|CC<|BB f4<|BB f4<|TT<|VV (AI true f4)<|CC<|TT<|CC<|ZZ) k!) (Grow.refl a_) k!
         · have qM:=of_decide_eq_false f4
           have u9:=ks 3 false true i0 1 o!
           exact bh.round (by simp only[bx,f1,f2,f3,f4,ax,ar]) (pk (d) _ _ hh _ hh (VV (cS 3 false false .i64 ((i0:Nat):Int) ((List.length bI:Nat):Int))<|BB q1<|CN 4<|VV mU<|VV (eG 5 false true .u8 (((bI.g i0).toNat:Nat):Int) 97)<|CC<|BB f1<|BB f1<|BB f1<|BV f1 (pH false f1)<|CN 3<|VV xJ<|VV (eG 5 false true .u8 (((bI.g i0).toNat:Nat):Int) 48)<|CC<|BC f2<|BC f2<|BV f2 Lk<|BV f2 (gA 5 false true .u8 (((bI.g i0).toNat:Nat):Int) 57)<|VV (jG (decide ((((bI.g i0).toNat:Nat):Int)≤57)) false f2)<|CC<|BB f3<|BB f3<|BB f3<|BV f3 (AI true f3)<|CN 4<|TT<|CC<|TT<|VV (dZ 3 false true .i64 ((i0:Nat):Int) 0)<|TT<|CC<|BC f4<|BC f4<|TT<|VV (Tr true false f4)<|CC<|FF<|VV u9<|CC<|ZZ) k!) (Grow.refl a_) _ k! (fun x=>dm bI eH gB (i0+1) o! x hh a_ bN)
       · have qL:=of_decide_eq_false f3
         have Pq:r6 env (some .string) (some (AV.str bI)) (some (Zn i0))=some (AV.int .u8 (((bI.g i0).toNat:Nat):Int)):=kE (j:=i0) o!
         rcases Bool.eq_false_or_eq_true (decide (((i0:Nat):Int)=0)) with f4 | f4
         · have qM:=of_decide_eq_true f4
           exact bh.ret false (by simp only[bx,f1,f2,f3,f4,ax,ar]) (pk (d) _ _ hh _ hh (VV (cS 3 false false .i64 ((i0:Nat):Int) ((List.length bI:Nat):Int))<|BB q1<|CN 4<|VV mU<|VV (eG 5 false true .u8 (((bI.g i0).toNat:Nat):Int) 97)<|CC<|BB f1<|BB f1<|BB f1<|BV f1 (pH false f1)<|CN 3<|VV xJ<|VV (eG 5 false true .u8 (((bI.g i0).toNat:Nat):Int) 48)<|CC<|BC f2<|BC f2<|BV f2 Lk<|BV f2 (gA 5 false true .u8 (((bI.g i0).toNat:Nat):Int) 57)<|VV (jG (decide ((((bI.g i0).toNat:Nat):Int)≤57)) false f2)<|CC<|BC f3<|BC f3<|BV f3 Pq<|BV f3 (dZ 5 false true .u8 (((bI.g i0).toNat:Nat):Int) 45)<|VV (bJ (a:=some (AV.bool true)) (b:=some (AV.bool (decide ((((bI.g i0).toNat:Nat):Int)=45)))) f3)<|CN 4<|TT<|CC<|TT<|VV (dZ 3 false true .i64 ((i0:Nat):Int) 0)<|TT<|CC<|BB f4<|BB f4<|TT<|VV (AI true f4)<|CC<|TT<|CC<|ZZ) k!) (Grow.refl a_) k!
         · have qM:=of_decide_eq_false f4
           rcases Bool.eq_false_or_eq_true (!(decide ((((bI.g i0).toNat:Nat):Int)=45))) with f5 | f5
           · have zP:=HI f5
             exact bh.ret false (by simp only[bx,f1,f2,f3,f4,f5,ax,ar]) (pk (d) _ _ hh _ hh (VV (cS 3 false false .i64 ((i0:Nat):Int) ((List.length bI:Nat):Int))<|BB q1<|CN 4<|VV mU<|VV (eG 5 false true .u8 (((bI.g i0).toNat:Nat):Int) 97)<|CC<|BB f1<|BB f1<|BB f1<|BV f1 (pH false f1)<|CN 3<|VV xJ<|VV (eG 5 false true .u8 (((bI.g i0).toNat:Nat):Int) 48)<|CC<|BC f2<|BC f2<|BV f2 Lk<|BV f2 (gA 5 false true .u8 (((bI.g i0).toNat:Nat):Int) 57)<|VV (jG (decide ((((bI.g i0).toNat:Nat):Int)≤57)) false f2)<|CC<|BC f3<|BC f3<|BV f3 Pq<|BV f3 (dZ 5 false true .u8 (((bI.g i0).toNat:Nat):Int) 45)<|VV (bJ (a:=some (AV.bool true)) (b:=some (AV.bool (decide ((((bI.g i0).toNat:Nat):Int)=45)))) f3)<|CN 4<|TT<|CC<|TT<|VV (dZ 3 false true .i64 ((i0:Nat):Int) 0)<|TT<|CC<|BC f4<|BC f4<|TT<|VV (bJ (a:=some (AV.bool true)) (b:=some (AV.bool (!(decide ((((bI.g i0).toNat:Nat):Int)=45))))) f4)<|CC<|BC f5<|ZZ) k!) (Grow.refl a_) k!
           · have zP:=HJ f5
             have Po:=ks 3 false true i0 1 o!
             exact bh.round (by simp only[bx,f1,f2,f3,f4,f5,ax,ar]) (pk (d) _ _ hh _ hh (VV (cS 3 false false .i64 ((i0:Nat):Int) ((List.length bI:Nat):Int))<|BB q1<|CN 4<|VV mU<|VV (eG 5 false true .u8 (((bI.g i0).toNat:Nat):Int) 97)<|CC<|BB f1<|BB f1<|BB f1<|BV f1 (pH false f1)<|CN 3<|VV xJ<|VV (eG 5 false true .u8 (((bI.g i0).toNat:Nat):Int) 48)<|CC<|BC f2<|BC f2<|BV f2 Lk<|BV f2 (gA 5 false true .u8 (((bI.g i0).toNat:Nat):Int) 57)<|VV (jG (decide ((((bI.g i0).toNat:Nat):Int)≤57)) false f2)<|CC<|BC f3<|BC f3<|BV f3 Pq<|BV f3 (dZ 5 false true .u8 (((bI.g i0).toNat:Nat):Int) 45)<|VV (bJ (a:=some (AV.bool true)) (b:=some (AV.bool (decide ((((bI.g i0).toNat:Nat):Int)=45)))) f3)<|CN 4<|TT<|CC<|TT<|VV (dZ 3 false true .i64 ((i0:Nat):Int) 0)<|TT<|CC<|BC f4<|BC f4<|TT<|VV (bJ (a:=some (AV.bool true)) (b:=some (AV.bool (!(decide ((((bI.g i0).toNat:Nat):Int)=45))))) f4)<|CC<|BV f5 Po<|CC<|ZZ) k!) (Grow.refl a_) _ k! (fun x=>dm bI eH gB (i0+1) o! x hh a_ bN)
     · have uM:=of_decide_eq_false f2
       have Lk:r6 env (some .string) (some (AV.str bI)) (some (Zn i0))=some (AV.int .u8 (((bI.g i0).toNat:Nat):Int)):=kE (j:=i0) o!
       rcases Bool.eq_false_or_eq_true (decide (((i0:Nat):Int)=0)) with f3 | f3
       · have qL:=of_decide_eq_true f3
         exact bh.ret false (by simp only[bx,f1,f2,f3,ax,ar]) (pk (d) _ _ hh _ hh (VV (cS 3 false false .i64 ((i0:Nat):Int) ((List.length bI:Nat):Int))<|BB q1<|CN 4<|VV mU<|VV (eG 5 false true .u8 (((bI.g i0).toNat:Nat):Int) 97)<|CC<|BB f1<|BB f1<|BB f1<|BV f1 (pH false f1)<|CN 3<|VV xJ<|VV (eG 5 false true .u8 (((bI.g i0).toNat:Nat):Int) 48)<|CC<|BB f2<|BB f2<|BB f2<|BV f2 (pH false f2)<|CC<|FF<|CC<|FF<|CC<|FF<|VV Lk<|FF<|VV (dZ 5 false true .u8 (((bI.g i0).toNat:Nat):Int) 45)<|CN 5<|TT<|CC<|TT<|VV (dZ 3 false true .i64 ((i0:Nat):Int) 0)<|TT<|CC<|BB f3<|BB f3<|TT<|VV (AI true f3)<|CC<|TT<|CC<|ZZ) k!) (Grow.refl a_) k!
       · have qL:=of_decide_eq_false f3
         rcases Bool.eq_false_or_eq_true (!(decide ((((bI.g i0).toNat:Nat):Int)=45))) with f4 | f4
         · have qM:=HI f4
           exact bh.ret false (by simp only[bx,f1,f2,f3,f4,ax,ar]) (pk (d) _ _ hh _ hh (VV (cS 3 false false .i64 ((i0:Nat):Int) ((List.length bI:Nat):Int))<|BB q1<|CN 4<|VV mU<|VV (eG 5 false true .u8 (((bI.g i0).toNat:Nat):Int) 97)<|CC<|BB f1<|BB f1<|BB f1<|BV f1 (pH false f1)<|CN 3<|VV xJ<|VV (eG 5 false true .u8 (((bI.g i0).toNat:Nat):Int) 48)<|CC<|BB f2<|BB f2<|BB f2<|BV f2 (pH false f2)<|CC<|FF<|CC<|FF<|CC<|FF<|VV Lk<|FF<|VV (dZ 5 false true .u8 (((bI.g i0).toNat:Nat):Int) 45)<|CN 5<|TT<|CC<|TT<|VV (dZ 3 false true .i64 ((i0:Nat):Int) 0)<|TT<|CC<|BC f3<|BC f3<|TT<|VV (bJ (a:=some (AV.bool true)) (b:=some (AV.bool (!(decide ((((bI.g i0).toNat:Nat):Int)=45))))) f3)<|CC<|BC f4<|ZZ) k!) (Grow.refl a_) k!
         · have qM:=HJ f4
           have u9:=ks 3 false true i0 1 o!
           exact bh.round (by simp only[bx,f1,f2,f3,f4,ax,ar]) (pk (d) _ _ hh _ hh (VV (cS 3 false false .i64 ((i0:Nat):Int) ((List.length bI:Nat):Int))<|BB q1<|CN 4<|VV mU<|VV (eG 5 false true .u8 (((bI.g i0).toNat:Nat):Int) 97)<|CC<|BB f1<|BB f1<|BB f1<|BV f1 (pH false f1)<|CN 3<|VV xJ<|VV (eG 5 false true .u8 (((bI.g i0).toNat:Nat):Int) 48)<|CC<|BB f2<|BB f2<|BB f2<|BV f2 (pH false f2)<|CC<|FF<|CC<|FF<|CC<|FF<|VV Lk<|FF<|VV (dZ 5 false true .u8 (((bI.g i0).toNat:Nat):Int) 45)<|CN 5<|TT<|CC<|TT<|VV (dZ 3 false true .i64 ((i0:Nat):Int) 0)<|TT<|CC<|BC f3<|BC f3<|TT<|VV (bJ (a:=some (AV.bool true)) (b:=some (AV.bool (!(decide ((((bI.g i0).toNat:Nat):Int)=45))))) f3)<|CC<|BV f4 u9<|CC<|ZZ) k!) (Grow.refl a_) _ k! (fun x=>dm bI eH gB (i0+1) o! x hh a_ bN)
def e_ (bI:List UInt8):Bool:=(bif (decide (bI=[])) then false else (bif (decide (16<((List.length bI:Nat):Int))) then false else (match (bx bI (List.length bI) 0) with | none=>true | some Pr=>Pr)))
theorem zQ {d:Nat} {h:au} (bI:List UInt8) (H0:bI.length<2^60) (cj:Tidy h):dw (d+1) (.fn 63) [(AV.str bI)] h= .ret (AV.bool (e_ bI)) h:=by
 rcases Bool.eq_false_or_eq_true (decide (bI=[])) with f0 | f0
 · have pn:=of_decide_eq_true f0
   have e:e_ bI=false:=by simp only[e_,f0,ax,ar]
   rw[e]
   exact aF rfl (bu Try.func63 po rfl (.inr rfl) (pk (d) _ _ h _ h (CN 2<|VV (Lb 9 false true bI [])<|CC<|BB f0<|BB f0<|BV f0 (AI true f0)<|TT<|CC<|ZZ) k!) k!) (Has.refl _) rfl
 · have pn:=of_decide_eq_false f0
   have sn2:bI.length<2^60:=H0
   rcases Bool.eq_false_or_eq_true (decide (16<((List.length bI:Nat):Int))) with f1 | f1
   · have tp:=of_decide_eq_true f1
     have e:e_ bI=false:=by simp only[e_,f0,f1,ax,ar]
     rw[e]
     exact aF rfl (bu Try.func63 po rfl (.inr rfl) (pk (d) _ _ h _ h (CN 2<|VV (Lb 9 false true bI [])<|CC<|BC f0<|BC f0<|BV f0 (dx 3 false true .i64 ((List.length bI:Nat):Int) 16)<|VV (bJ (a:=some (AV.bool true)) (b:=some (AV.bool (decide (16<((List.length bI:Nat):Int))))) f0)<|BC f1<|ZZ) k!) k!) (Has.refl _) rfl
   · have tp:=of_decide_eq_false f1
     cases jY:bx bI (List.length bI) 0 with
     | none=>
       obtain ⟨YJ,h5,ky,mF⟩:=bh.n jY (dm (d:=d) (h:=h) bI H0 (List.length bI) 0 o! (fun k_=>(((AV.str bI)::AV.undef::(AV.bool false)::AV.undef::AV.undef::AV.undef::(AV.str bI)::(AV.bool (decide (bI=[])))::(AV.bool (decide (bI=[])))::(AV.str bI)::(Zn (List.length bI))::(AV.bool (decide (16<((List.length bI:Nat):Int))))::(AV.bool (decide (16<((List.length bI:Nat):Int))))::(AV.str bI)::(Zn (List.length bI))::(Zi 0)::ka 39):List AV).getD k_ AV.undef) h cj (Has.refl _))
       have FT:=mF.y
       have Ps:h.nx≤h5.nx:=mF.n
       have tq:Has h h5:=mF.a
       have e:e_ bI=true:=by simp only[e_,f0,f1,jY,ax,ar]
       rw[e]
       exact aF rfl (bu Try.func63 po rfl (.inr rfl) (pk (d) _ _ h _ h5 (CN 2<|VV (Lb 9 false true bI [])<|CC<|BC f0<|BC f0<|BV f0 (dx 3 false true .i64 ((List.length bI:Nat):Int) 16)<|VV (bJ (a:=some (AV.bool true)) (b:=some (AV.bool (decide (16<((List.length bI:Nat):Int))))) f0)<|BB f1<|CN 3<|LL ky<|CC<|ZZ) k!) k!) tq rfl
     | some Pr=>
       obtain ⟨YJ,h5,ky,mF⟩:=bh.r jY (dm (d:=d) (h:=h) bI H0 (List.length bI) 0 o! (fun k_=>(((AV.str bI)::AV.undef::(AV.bool false)::AV.undef::AV.undef::AV.undef::(AV.str bI)::(AV.bool (decide (bI=[])))::(AV.bool (decide (bI=[])))::(AV.str bI)::(Zn (List.length bI))::(AV.bool (decide (16<((List.length bI:Nat):Int))))::(AV.bool (decide (16<((List.length bI:Nat):Int))))::(AV.str bI)::(Zn (List.length bI))::(Zi 0)::ka 39):List AV).getD k_ AV.undef) h cj (Has.refl _))
       have FT:=mF.y
       have Ps:h.nx≤h5.nx:=mF.n
       have tq:Has h h5:=mF.a
       have e:e_ bI=Pr:=by simp only[e_,f0,f1,jY,ax,ar]
       rw[e]
       exact aF rfl (bu Try.func63 po rfl (.inr rfl) (pk (d) _ _ h _ h5 (CN 2<|VV (Lb 9 false true bI [])<|CC<|BC f0<|BC f0<|BV f0 (dx 3 false true .i64 ((List.length bI:Nat):Int) 16)<|VV (bJ (a:=some (AV.bool true)) (b:=some (AV.bool (decide (16<((List.length bI:Nat):Int))))) f0)<|BB f1<|CN 3<|LL ky<|ZZ) k!) k!) tq rfl
def uN:Code:=(Try.f69.body).getD .skip
theorem jZ:Try.f69.body=some uN:=by kernel_rfl
def cQ (pW:List aE) (g:aE):Int:=(bif (!(e_ g.name)) then 5 else (bif (dN pW (fun y=>fR y g)) then 6 else (bif (!(fG g)) then 1 else 0)))
theorem zR {d:Nat} {h:au} {qN:AV} (pW:List aE) (g:aE) (lN:aQ h qN pW) (h_g:az.ok h g) (cj:Tidy h):dw (d+6) (.fn 69) [qN,(AV.agg [(AV.str g.name),(Zi g.acc),(Zi g.b6),(Zi g.since)])] h= .ret (Zi (cQ pW g)) h:=by
 have BY:=lN.small
 obtain ⟨h1,b9,cL,kt,aO,cz⟩:=jS cj (aR.cells [(AV.str g.name),(Zi g.acc),(Zi g.b6),(Zi g.since)] 45 false)
 have bQ:Has h h1:=cz
 have k2:=zQ (d:=d+4) g.name h_g cL
 rcases Bool.eq_false_or_eq_true (!(e_ g.name)) with f0 | f0
 · have e:cQ pW g=5:=by simp only[cQ,f0,ax,ar]
   rw[e]
   exact aF rfl (bu Try.func69 jZ rfl (.inr rfl) (pk (d+5) _ _ h _ h1 (NN b9 (fun i=>(Pt i))<|CN 2<|MM (aL 9 0 (AV.str g.name) aO k!)<|EE k2<|CN 2<|BC f0<|ZZ) k!) k!) bQ rfl
 · have k4:=uL (d:=d+3) pW (fun y=>fR y g) (lN.has bQ) (fun y hy hh yy aa=>xI (d:=d+2) y g h.nx (az.mono aa ((lN.has bQ).Dp y hy)) (az.mono aa (az.mono bQ h_g)) (aa _ _ aO) yy) cL
   rcases Bool.eq_false_or_eq_true (dN pW (fun y=>fR y g)) with f1 | f1
   · have e:cQ pW g=6:=by simp only[cQ,f0,f1,ax,ar]
     rw[e]
     exact aF rfl (bu Try.func69 jZ rfl (.inr rfl) (pk (d+5) _ _ h _ h1 (NN b9 (fun i=>(Pt i))<|CN 2<|MM (aL 9 0 (AV.str g.name) aO k!)<|EE k2<|CN 2<|BB f0<|CN 2<|EE k4<|CC<|BC f1<|ZZ) k!) k!) bQ rfl
   · have k6:=FQ (d:=d+2) g (az.mono bQ h_g) cL
     rcases Bool.eq_false_or_eq_true (!(fG g)) with f2 | f2
     · have e:cQ pW g=1:=by simp only[cQ,f0,f1,f2,ax,ar]
       rw[e]
       exact aF rfl (bu Try.func69 jZ rfl (.inr rfl) (pk (d+5) _ _ h _ h1 (NN b9 (fun i=>(Pt i))<|CN 2<|MM (aL 9 0 (AV.str g.name) aO k!)<|EE k2<|CN 2<|BB f0<|CN 2<|EE k4<|CC<|BM f1 (aL 45 0 (AV.agg [(AV.str g.name),(Zi g.acc),(Zi g.b6),(Zi g.since)]) aO k!)<|EE k6<|CN 2<|BC f2<|ZZ) k!) k!) bQ rfl
     · have e:cQ pW g=0:=by simp only[cQ,f0,f1,f2,ax,ar]
       rw[e]
       exact aF rfl (bu Try.func69 jZ rfl (.inr rfl) (pk (d+5) _ _ h _ h1 (NN b9 (fun i=>(Pt i))<|CN 2<|MM (aL 9 0 (AV.str g.name) aO k!)<|EE k2<|CN 2<|BB f0<|CN 2<|EE k4<|CC<|BM f1 (aL 45 0 (AV.agg [(AV.str g.name),(Zi g.acc),(Zi g.b6),(Zi g.since)]) aO k!)<|EE k6<|CN 2<|BC f2<|ZZ) k!) k!) bQ rfl
def kf:Code:=(Try.f68.body).getD .skip
theorem jr:Try.f68.body=some kf:=by kernel_rfl
def qO:Code:=(cX kf).getD 0 .skip
def cN (P:Nat→Int) (cM:List aE):Nat→Nat→Option (Int)
 | 0,_=>none
 | gB+1,i0=>(bif (!decide ((P i0)=0)) then some (P i0) else cN P cM gB (i0+1))
theorem g_ {d:Nat} {h:au} (cT:AV) (g:FuncId) (cap:List AV) (cM:List aE) (P:Nat→Int) (eH:aQ h cT cM) (hP:∀j,j<cM.length→∀aV hh,Tidy hh→Has h hh→aQ hh aV (cM.take j)→dw d (.fn g) (aV:: .agg (az.c (cM.g j))::cap) hh= .ret (.int .i64 (P j)) hh):∀(k_ i_:Nat) (_:i_+k_=cM.length) (x:Nat→AV) (hh:au) (a_:Tidy hh) (bN:Has h hh),bh (dw (d)) qO ⟨(cT::(x 1)::(AV.func g [] cap)::rx x 3 11 (cT::(Zn cM.length)::(Zn i_)::rx x 17 14 [])),hh,[],.no⟩ (.exit 0) hh (fun y=>(cT::(y 1)::(AV.func g [] cap)::rx y 3 11 (cT::(Zn cM.length)::rx y 16 15 []))) (fun r y=>(cT::(y 1)::(AV.func g [] cap)::rx y 3 3 ((Zi r)::rx y 7 7 (cT::(Zn cM.length)::rx y 16 15 [])))) (cN P cM k_ i_)
 | 0,i0,rR,x,hh,a_,bN=>by
   have mD:=eH.small
   have q1:(decide (((i0:Nat):Int)<((cM.length:Nat):Int)))=false:=d!
   exact bh.out rfl (pk (d) _ _ hh _ hh (VV (cS 3 false false .i64 ((i0:Nat):Int) ((cM.length:Nat):Int))<|BB q1<|ZZ) k!) (Grow.refl a_) k!
 | gB+1,i0,rR,x,hh,a_,bN=>by
   have mD:=eH.small
   have q1:(decide (((i0:Nat):Int)<((cM.length:Nat):Int)))=true:=d!
   obtain ⟨p3,q4,kY⟩:=(eH.has bN).elem (i:=i0) o!
   have mU:dL env (some (.slice 45)) (some cT) (some (Zn i0))=some (AV.ptr p3 q4):=kY
   have AJ:bw env hh 45 (AV.ptr p3 q4)=some (AV.agg [(AV.str (cM.g i0).name),(Zi (cM.g i0).acc),(Zi (cM.g i0).b6),(Zi (cM.g i0).since)]):=(eH.has bN).load o! kY
   obtain ⟨h6,vV,js,Lm,vW,j0⟩:=jS a_ (aR.cells [(AV.str []),(Zi 0),(Zi 0),(Zi 0)] 45 false)
   have mV:Has hh h6:=j0
   obtain ⟨h7,tu,mG,Ln,lO,fA⟩:=sa (t:=45) (n:=4) (i:=hh.nx) (L:=[(AV.str (cM.g i0).name),(Zi (cM.g i0).acc),(Zi (cM.g i0).b6),(Zi (cM.g i0).since)]) js vW k! rfl rfl (by simp only[AV.cells,List.all_cons,List.all_nil,Bool.and_true,Bool.and_self,ib,fL,ic,ie,ei,kR,kS,kT,kU,kV,ig])
   have mH:Has hh h7:=Has.bG mV fA a_ o!
   obtain ⟨r8,Xe,Xf⟩:=(eH.has bN).pre (t:=24) k! (i:=i0) o!
   have sl9:dW env 24 cT (none) (some (Zn i0)) (none)=some r8:=Xe
   have HG:=hP i0 o! r8 h7 mG (bN.trans mH) (Xf.has mH)
   have M1:AV.same 20 (AV.agg [(AV.str (cM.g i0).name),(Zi (cM.g i0).acc),(Zi (cM.g i0).b6),(Zi (cM.g i0).since)]) (AV.agg [(AV.str (cM.g i0).name),(Zi (cM.g i0).acc),(Zi (cM.g i0).b6),(Zi (cM.g i0).since)])=true:=ja 18 (sx (fun n=>zi n _) (sx (fun n=>aN n _ _) (sx (fun n=>aN n _ _) (sx (fun n=>aN n _ _) RR))))
   rcases Bool.eq_false_or_eq_true (!decide ((P i0)=0)) with f1 | f1
   · have tp:=HI f1
     exact bh.ret (P i0) (by simp only[cN,f1,ax,ar]) (pk (d) _ _ hh _ h7 (VV (cS 3 false false .i64 ((i0:Nat):Int) ((cM.length:Nat):Int))<|BC q1<|VV mU<|MM AJ<|NN vV (fun i=>(Pt i))<|CC<|SS tu<|CN 3<|QQ sl9<|MM (aL 45 0 (AV.agg [(AV.str (cM.g i0).name),(Zi (cM.g i0).acc),(Zi (cM.g i0).b6),(Zi (cM.g i0).since)]) lO k!)<|EE HG<|CC<|HH (aL 45 0 (AV.agg [(AV.str (cM.g i0).name),(Zi (cM.g i0).acc),(Zi (cM.g i0).b6),(Zi (cM.g i0).since)]) lO k!)<|HH M1<|CC<|VV (gL 31 false true .i64 (P i0) 0)<|BB f1<|CN 2<|ZZ) k!) (⟨mG,mH,by omega⟩) k!
   · have tp:=HJ f1
     have u14:=ks 3 false true i0 1 o!
     exact bh.round (by simp only[cN,f1,ax,ar]) (pk (d) _ _ hh _ h7 (VV (cS 3 false false .i64 ((i0:Nat):Int) ((cM.length:Nat):Int))<|BC q1<|VV mU<|MM AJ<|NN vV (fun i=>(Pt i))<|CC<|SS tu<|CN 3<|QQ sl9<|MM (aL 45 0 (AV.agg [(AV.str (cM.g i0).name),(Zi (cM.g i0).acc),(Zi (cM.g i0).b6),(Zi (cM.g i0).since)]) lO k!)<|EE HG<|CC<|HH (aL 45 0 (AV.agg [(AV.str (cM.g i0).name),(Zi (cM.g i0).acc),(Zi (cM.g i0).b6),(Zi (cM.g i0).since)]) lO k!)<|HH M1<|CC<|VV (gL 31 false true .i64 (P i0) 0)<|BV f1 u14<|CC<|ZZ) k!) (⟨mG,mH,by omega⟩) _ k! (fun x=>g_ cT g cap cM P eH hP gB (i0+1) o! x h7 mG (bN.trans mH))
def cA (cM:List aE) (eO:Int) (P:Nat→Int):Int:=(bif (decide (eO<((cM.length:Nat):Int))) then 3 else (match (cN P cM cM.length 0) with | none=>0 | some Pr=>Pr))
theorem tv {d:Nat} {h:au} {cT:AV} {g:FuncId} {cap:List AV} (cM:List aE) (eO:Int) (P:Nat→Int) (mI:aQ h cT cM) (hP:∀j,j<cM.length→∀aV hh,Tidy hh→Has h hh→aQ hh aV (cM.take j)→dw d (.fn g) (aV:: .agg (az.c (cM.g j))::cap) hh= .ret (.int .i64 (P j)) hh) (cj:Tidy h):dw (d+1) (.fn 68) [cT,(Zi eO),(AV.func g [] cap)] h= .ret (Zi (cA cM eO P)) h:=by
 have Pu:=mI.small
 have vU:eF (some (.slice 45)) (some cT)=some (Zn cM.length):=mI.len
 rcases Bool.eq_false_or_eq_true (decide (eO<((cM.length:Nat):Int))) with f0 | f0
 · have pn:=of_decide_eq_true f0
   have e:cA cM eO P=3:=by simp only[cA,f0,ax,ar]
   rw[e]
   exact aF rfl (bu Try.func68 jr rfl (.inr rfl) (pk (d) _ _ h _ h (CN 2<|VV vU<|CC<|VV (dx 3 false false .i64 ((cM.length:Nat):Int) eO)<|BC f0<|ZZ) k!) k!) (Has.refl _) rfl
 · have pn:=of_decide_eq_false f0
   have RS:eF (some (.slice 45)) (some cT)=some (Zn cM.length):=mI.len
   cases jY:cN P cM cM.length 0 with
   | none=>
     obtain ⟨YJ,h5,ky,mF⟩:=bh.n jY (g_ (d:=d) (h:=h) cT g cap cM P mI hP cM.length 0 o! (fun k_=>((cT::(Zi eO)::(AV.func g [] cap)::AV.undef::AV.undef::AV.undef::(Zi 0)::AV.undef::AV.undef::AV.undef::cT::(Zn cM.length)::(Zi eO)::(AV.bool (decide (eO<((cM.length:Nat):Int))))::cT::(Zn cM.length)::(Zi 0)::ka 14):List AV).getD k_ AV.undef) h cj (Has.refl _))
     have FT:=mF.y
     have Ps:h.nx≤h5.nx:=mF.n
     have tq:Has h h5:=mF.a
     have e:cA cM eO P=0:=by simp only[cA,f0,jY,ax,ar]
     rw[e]
     exact aF rfl (bu Try.func68 jr rfl (.inr rfl) (pk (d) _ _ h _ h5 (CN 2<|VV vU<|CC<|VV (dx 3 false false .i64 ((cM.length:Nat):Int) eO)<|BC f0<|VV RS<|CC<|LL ky<|CC<|ZZ) k!) k!) tq rfl
   | some Pr=>
     obtain ⟨YJ,h5,ky,mF⟩:=bh.r jY (g_ (d:=d) (h:=h) cT g cap cM P mI hP cM.length 0 o! (fun k_=>((cT::(Zi eO)::(AV.func g [] cap)::AV.undef::AV.undef::AV.undef::(Zi 0)::AV.undef::AV.undef::AV.undef::cT::(Zn cM.length)::(Zi eO)::(AV.bool (decide (eO<((cM.length:Nat):Int))))::cT::(Zn cM.length)::(Zi 0)::ka 14):List AV).getD k_ AV.undef) h cj (Has.refl _))
     have FT:=mF.y
     have Ps:h.nx≤h5.nx:=mF.n
     have tq:Has h h5:=mF.a
     have e:cA cM eO P=Pr:=by simp only[cA,f0,jY,ax,ar]
     rw[e]
     exact aF rfl (bu Try.func68 jr rfl (.inr rfl) (pk (d) _ _ h _ h5 (CN 2<|VV vU<|CC<|VV (dx 3 false false .i64 ((cM.length:Nat):Int) eO)<|BC f0<|VV RS<|CC<|LL ky<|ZZ) k!) k!) tq rfl
def pR:Code:=(Try.f65.body).getD .skip
theorem tw:Try.f65.body=some pR:=by kernel_rfl
def cY (o:aw) (c:aw):Bool:=(decide (o.name=c.name))
theorem tx {d:Nat} {h:au} (o:aw) (c:aw) (cB:Nat) (h_o:az.ok h o) (Vo:az.ok h c) (g_c:h.get cB=some (.cells (az.c c) 26 false)) (cj:Tidy h):dw (d+1) (.fn 65) [(AV.agg [(AV.str o.name),(Zi o.ai),(Zi o.af),(Zi o.aH),(Zi o.aJ),(Zi o.bad),o.aA]),(Pt cB)] h= .ret (AV.bool (cY o c)) h:=by
 have acs:=h_o.2.small
 have acu:=Vo.2.small
 obtain ⟨h1,b9,cL,kt,aO,cz⟩:=jS cj (aR.cells [(AV.str o.name),(Zi o.ai),(Zi o.af),(Zi o.aH),(Zi o.aJ),(Zi o.bad),o.aA] 26 false)
 have bQ:Has h h1:=cz
 have e:cY o c=(decide (o.name=c.name)):=by simp only[cY,ax,ar]
 rw[e]
 exact aF rfl (bu Try.func65 tw rfl (.inr rfl) (pk (d) _ _ h _ h1 (NN b9 (fun i=>(Pt i))<|CN 2<|MM (aL 9 0 (AV.str o.name) aO k!)<|CC<|MM (aL 9 0 (AV.str c.name) (cz _ _ g_c) k!)<|VV (Lb 9 false false o.name c.name)<|CC<|ZZ) k!) k!) bQ rfl
def kZ:Code:=(Try.f81.body).getD .skip
theorem nr:Try.f81.body=some kZ:=by kernel_rfl
def sb:Code:=(cX kZ).getD 0 .skip
def cH (s:List aw) (P:aw→Bool):Nat→Nat→Option (Int)
 | 0,_=>none
 | gB+1,i0=>(bif (P (s.g i0)) then some ((i0:Nat):Int) else cH s P gB (i0+1))
theorem ij {d:Nat} {h:au} (sV:AV) (g:FuncId) (cap:List AV) (s:List aw) (P:aw→Bool) (eH:aQ h sV s) (hP:∀y∈s,∀hh,Tidy hh→Has h hh→dw d (.fn g) (.agg (az.c y)::cap) hh= .ret (.bool (P y)) hh):∀(k_ i_:Nat) (_:i_+k_=s.length) (x:Nat→AV) (hh:au) (a_:Tidy hh) (bN:Has h hh),bh (dw (d)) sb ⟨(sV::(AV.func g [] cap)::rx x 2 5 ((Zn s.length)::(Zn i_)::rx x 9 10 [])),hh,[],.no⟩ (.exit 0) hh (fun y=>(sV::(AV.func g [] cap)::rx y 2 5 ((Zn s.length)::rx y 8 11 []))) (fun r y=>(sV::(AV.func g [] cap)::(y 2)::(y 3)::(Zi r)::(y 5)::(y 6)::(Zn s.length)::rx y 8 11 [])) (cH s P k_ i_)
 | 0,i0,rR,x,hh,a_,bN=>by
   have mD:=eH.small
   have q1:(decide (((i0:Nat):Int)<((s.length:Nat):Int)))=false:=d!
   exact bh.out rfl (pk (d) _ _ hh _ hh (VV (cS 3 false false .i64 ((i0:Nat):Int) ((s.length:Nat):Int))<|BB q1<|ZZ) k!) (Grow.refl a_) k!
 | gB+1,i0,rR,x,hh,a_,bN=>by
   have mD:=eH.small
   have q1:(decide (((i0:Nat):Int)<((s.length:Nat):Int)))=true:=d!
   obtain ⟨p3,q4,kY⟩:=(eH.has bN).elem (i:=i0) o!
   have mU:dL env (some (.slice 26)) (some sV) (some (Zn i0))=some (AV.ptr p3 q4):=kY
   have AJ:bw env hh 26 (AV.ptr p3 q4)=some (AV.agg [(AV.str (s.g i0).name),(Zi (s.g i0).ai),(Zi (s.g i0).af),(Zi (s.g i0).aH),(Zi (s.g i0).aJ),(Zi (s.g i0).bad),(s.g i0).aA]):=(eH.has bN).load o! kY
   have k6:=hP (s.g i0) (jT o!) hh a_ bN
   rcases Bool.eq_false_or_eq_true (P (s.g i0)) with f1 | f1
   · exact bh.ret ((i0:Nat):Int) (by simp only[cH,f1,ax,ar]) (pk (d) _ _ hh _ hh (VV (cS 3 false false .i64 ((i0:Nat):Int) ((s.length:Nat):Int))<|BB q1<|CN 5<|VV mU<|MM AJ<|EE k6<|BB f1<|CN 2<|ZZ) k!) (Grow.refl a_) k!
   · have u8:=ks 3 false true i0 1 o!
     exact bh.round (by simp only[cH,f1,ax,ar]) (pk (d) _ _ hh _ hh (VV (cS 3 false false .i64 ((i0:Nat):Int) ((s.length:Nat):Int))<|BB q1<|CN 5<|VV mU<|MM AJ<|EE k6<|BV f1 u8<|CC<|ZZ) k!) (Grow.refl a_) _ k! (fun x=>ij sV g cap s P eH hP gB (i0+1) o! x hh a_ bN)
def dt (s:List aw) (P:aw→Bool):Int:=(match (cH s P s.length 0) with | none=>(-1) | some Lf=>Lf)
theorem uO {d:Nat} {h:au} {sV:AV} {g:FuncId} {cap:List AV} (s:List aw) (P:aw→Bool) (BX:aQ h sV s) (hP:∀y∈s,∀hh,Tidy hh→Has h hh→dw d (.fn g) (.agg (az.c y)::cap) hh= .ret (.bool (P y)) hh) (cj:Tidy h):dw (d+1) (.fn 81) [sV,(AV.func g [] cap)] h= .ret (Zi (dt s P)) h:=by
 have JI:=BX.small
 have vU:eF (some (.slice 26)) (some sV)=some (Zn s.length):=BX.len
 cases jX:cH s P s.length 0 with
 | none=>
   obtain ⟨Xc,h3,jo,mE⟩:=bh.n jX (ij (d:=d) (h:=h) sV g cap s P BX hP s.length 0 o! (fun k_=>((sV::(AV.func g [] cap)::AV.undef::AV.undef::(Zi 0)::AV.undef::sV::(Zn s.length)::(Zi 0)::ka 10):List AV).getD k_ AV.undef) h cj (Has.refl _))
   have hQ:=mE.y
   have uJ:h.nx≤h3.nx:=mE.n
   have jq:Has h h3:=mE.a
   have e:dt s P=(-1):=by simp only[dt,jX,ax,ar]
   rw[e]
   exact aF rfl (bu Try.func81 nr rfl (.inr rfl) (pk (d) _ _ h _ h3 (CN 2<|VV vU<|CC<|LL jo<|CC<|ZZ) k!) k!) jq rfl
 | some Lf=>
   obtain ⟨Xc,h3,jo,mE⟩:=bh.r jX (ij (d:=d) (h:=h) sV g cap s P BX hP s.length 0 o! (fun k_=>((sV::(AV.func g [] cap)::AV.undef::AV.undef::(Zi 0)::AV.undef::sV::(Zn s.length)::(Zi 0)::ka 10):List AV).getD k_ AV.undef) h cj (Has.refl _))
   have hQ:=mE.y
   have uJ:h.nx≤h3.nx:=mE.n
   have jq:Has h h3:=mE.a
   have e:dt s P=Lf:=by simp only[dt,jX,ax,ar]
   rw[e]
   exact aF rfl (bu Try.func81 nr rfl (.inr rfl) (pk (d) _ _ h _ h3 (CN 2<|VV vU<|CC<|LL jo<|ZZ) k!) k!) jq rfl
def ou:Code:=(Try.f64.body).getD .skip
theorem qP:Try.f64.body=some ou:=by kernel_rfl
def ck (s:List aw) (P:aw→Bool):Bool:=(decide (0≤(dt s P)))
theorem qQ {d:Nat} {h:au} {sV:AV} {g:FuncId} {cap:List AV} (s:List aw) (P:aw→Bool) (BX:aQ h sV s) (hP:∀y∈s,∀hh,Tidy hh→Has h hh→dw d (.fn g) (.agg (az.c y)::cap) hh= .ret (.bool (P y)) hh) (cj:Tidy h):dw (d+2) (.fn 64) [sV,(AV.func g [] cap)] h= .ret (AV.bool (ck s P)) h:=by
 have JI:=BX.small
 have k1:=uO (d:=d) s P BX hP cj
 have e:ck s P=(decide (0≤(dt s P))):=by simp only[ck,ax,ar]
 rw[e]
 exact aF rfl (bu Try.func64 qP rfl (.inr rfl) (pk (d+1) _ _ h _ h (CN 3<|EE k1<|VV (eG 3 false true .i64 (dt s P) 0)<|CC<|ZZ) k!) k!) (Has.refl _) rfl
def zS:Code:=(Try.f66.body).getD .skip
theorem xf:Try.f66.body=some zS:=by kernel_rfl
def fH (x_:Int):Bool:=(bif (decide ((-1000000000)≤x_)) then (decide (x_≤1000000000)) else false)
theorem qR {d:Nat} {h:au} (x_:Int) (cj:Tidy h):dw (d+1) (.fn 66) [(Zi x_)] h= .ret (AV.bool (fH x_)) h:=by
 rcases Bool.eq_false_or_eq_true (decide ((-1000000000)≤x_)) with f0 | f0
 · have pn:=of_decide_eq_true f0
   have e:fH x_=(decide (x_≤1000000000)):=by simp only[fH,f0,ax,ar]
   rw[e]
   exact aF rfl (bu Try.func66 xf rfl (.inr rfl) (pk (d) _ _ h _ h (CN 2<|VV (eG 3 false true .i64 x_ (-1000000000))<|CC<|BC f0<|BV f0 (gA 3 false true .i64 x_ 1000000000)<|VV (jG (decide (x_≤1000000000)) false f0)<|CC<|ZZ) k!) k!) (Has.refl _) rfl
 · have pn:=of_decide_eq_false f0
   have e:fH x_=false:=by simp only[fH,f0,ax,ar]
   rw[e]
   exact aF rfl (bu Try.func66 xf rfl (.inr rfl) (pk (d) _ _ h _ h (CN 2<|VV (eG 3 false true .i64 x_ (-1000000000))<|CC<|BB f0<|BV f0 (pH false f0)<|CC<|ZZ) k!) k!) (Has.refl _) rfl
end
end Go.Proofs.aK
