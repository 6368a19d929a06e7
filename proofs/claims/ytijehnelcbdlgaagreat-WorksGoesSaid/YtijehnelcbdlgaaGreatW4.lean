import Derived.Test.YtijehnelcbdlgaaGreatW0
import Derived.Test.YtijehnelcbdlgaaGreatW1
import Derived.Test.YtijehnelcbdlgaaGreatW3
namespace Go.Proofs.aM
open Go.Proofs Ab
noncomputable section
set_option maxRecDepth 100000
set_option maxHeartbeats 4000000
set_option linter.unusedVariables false
set_option linter.unusedSimpArgs false
def An:Code:=(Tryz.f122.body).getD .skip
theorem Fj:Tryz.f122.body=some An:=by kernel_rfl
def dt (s:List Task) (P:Task→Bool):Bool:=(decide (0≤(ik s P)))
theorem Fl {d:Nat} {h:az} {sV:AV} {g:FuncId} {cap:List AV} (s:List Task) (P:Task→Bool) (Cg:aO h sV s) (hP:∀y∈s,∀hh,Tidy hh→Has h hh→cA d (.fn g) (.agg (aK.c y)::cap) hh= .ret (.bool (P y)) hh) (bM:Tidy h):cA (d+2) (.fn 122) [sV,(AV.func g [] cap)] h= .ret (AV.bool (dt s P)) h:=by
 have k1:=LA (d:=d) s P Cg hP bM
 have e:dt s P=(decide (0≤(ik s P))):=by simp only[dt,ao,ai]
 rw[e]
 exact aG rfl (aY Tryz.func122 Fj rfl (.inr rfl) (pk (d+1) _ _ h _ h (CN 3<|EE k1<|VV (tA 3 false true .i64 (ik s P) 0)<|CC<|ZZ) k!) k!) (Has.refl _) rfl
def lT:Code:=(Tryz.f109.body).getD .skip
theorem BE:Tryz.f109.body=some lT:=by kernel_rfl
def OH:Code:=(bl lT).getD 0 .skip
def OI:Code:=(kT lT).getD 1 .skip
def OJ:Code:=(kT lT).getD 6 .skip
def OL:Code:=(kT lT).getD 7 .skip
def OM:Code:=(kT lT).getD 8 .skip
def lB (fj:List UInt8):Nat→Nat→Option (Bool)
 | 0,_=>none
 | dx+1,i0=>(bif (bif (!(bif (decide (97≤(((fj.g i0).toNat:Nat):Int))) then (decide ((((fj.g i0).toNat:Nat):Int)≤122)) else false)) then (bif (decide (((i0:Nat):Int)=0)) then true else (!(bif (decide (48≤(((fj.g i0).toNat:Nat):Int))) then (bif (decide ((((fj.g i0).toNat:Nat):Int)≤57)) then true else (decide ((((fj.g i0).toNat:Nat):Int)=45))) else (decide ((((fj.g i0).toNat:Nat):Int)=45))))) else false) then some false else lB fj dx (i0+1))
theorem AL {d:Nat} {h:az} (fj:List UInt8) (bp:fj.length<2^60):∀(k_ i_:Nat) (_:i_+k_=(List.length fj)) (x:Nat→AV) (hh:az) (aF:Tidy hh) (aA:Has h hh),aC (cA (d)) OH ⟨((AV.str fj)::rx x 1 13 ((Zn (List.length fj))::(Zn i_)::rx x 16 39 [])),hh,[],.no⟩ (.exit 0) hh (fun y=>((AV.str fj)::rx y 1 13 ((Zn (List.length fj))::rx y 15 40 []))) (fun r y=>((AV.str fj)::(y 1)::(AV.bool r)::rx y 3 11 ((Zn (List.length fj))::rx y 15 40 []))) (lB fj k_ i_)
 | 0,i0,eZ,x,hh,aF,aA=>by
  have q1:(decide (((i0:Nat):Int)<((List.length fj:Nat):Int)))=false:=d!
  exact aC.out rfl (pk (d) _ _ hh _ hh (VV (bE 3 false false .i64 ((i0:Nat):Int) ((List.length fj:Nat):Int))<|BB q1<|ZZ) k!) (Grow.refl aF) k!
 | dx+1,i0,eZ,x,hh,aF,aA=>by
  have q1:(decide (((i0:Nat):Int)<((List.length fj:Nat):Int)))=true:=d!
  obtain ⟨Qg,yS⟩:∃Qg:Nat→AV,Ev env (cA (d)) OJ ⟨((AV.str fj)::(x 1)::(x 2)::(Zn i0)::rx x 4 10 ((Zn (List.length fj))::(Zn i0)::(AV.bool (decide (((i0:Nat):Int)<((List.length fj:Nat):Int))))::(Zn i0)::rx x 18 37 [])),hh,[],.no⟩ .normal ⟨((AV.str fj)::(x 1)::(x 2)::(Zn i0)::(AV.bool (bif (decide (97≤(((fj.g i0).toNat:Nat):Int))) then (decide ((((fj.g i0).toNat:Nat):Int)≤122)) else false))::rx x 5 9 ((Zn (List.length fj))::(Zn i0)::(AV.bool (decide (((i0:Nat):Int)<((List.length fj:Nat):Int))))::(Zn i0)::rx Qg 18 10 (rx x 28 27 []))),hh,[],.no⟩:=by
   have gh:Bk env (some .string) (some (AV.str fj)) (some (Zn i0))=some (AV.int .u8 (((fj.g i0).toNat:Nat):Int)):=rZ (j:=i0) o!
   have ei:=fun {al ps} (k:Pk al _ ps)=>(CN 2<|VV gh<|VV (tA 5 false true .u8 (((fj.g i0).toNat:Nat):Int) 97)<|CC<|k:Pk _ [] ps)
   rcases bu (decide (97≤(((fj.g i0).toNat:Nat):Int))) with f0 | f0
   · have T5:Bk env (some .string) (some (AV.str fj)) (some (Zn i0))=some (AV.int .u8 (((fj.g i0).toNat:Nat):Int)):=rZ (j:=i0) o!
     rw[EX f0]
     exact j9 (pk (d) _ _ hh _ hh (ei<|BC f0<|BC f0<|BV f0 T5<|BV f0 (tx 5 false true .u8 (((fj.g i0).toNat:Nat):Int) 122)<|VV (tp (decide ((((fj.g i0).toNat:Nat):Int)≤122)) false f0)<|CC<|ZZ) k!) k!
   · rw[Et f0]
     exact j9 (pk (d) _ _ hh _ hh (ei<|BB f0<|BB f0<|BB f0<|BV f0 (vd false f0)<|CC<|ZZ) k!) k!
  obtain ⟨yj3,Us⟩:∃yj3:Nat→AV,Ev env (cA (d)) OL ⟨((AV.str fj)::(x 1)::(x 2)::(Zn i0)::(AV.bool (bif (decide (97≤(((fj.g i0).toNat:Nat):Int))) then (decide ((((fj.g i0).toNat:Nat):Int)≤122)) else false))::rx x 5 9 ((Zn (List.length fj))::(Zn i0)::(AV.bool (decide (((i0:Nat):Int)<((List.length fj:Nat):Int))))::(Zn i0)::rx Qg 18 10 (rx x 28 27 []))),hh,[],.no⟩ .normal ⟨((AV.str fj)::(x 1)::(x 2)::(Zn i0)::(AV.bool (bif (decide (97≤(((fj.g i0).toNat:Nat):Int))) then (decide ((((fj.g i0).toNat:Nat):Int)≤122)) else false))::(AV.bool (bif (decide (48≤(((fj.g i0).toNat:Nat):Int))) then (bif (decide ((((fj.g i0).toNat:Nat):Int)≤57)) then true else (decide ((((fj.g i0).toNat:Nat):Int)=45))) else (decide ((((fj.g i0).toNat:Nat):Int)=45))))::rx x 6 8 ((Zn (List.length fj))::(Zn i0)::(AV.bool (decide (((i0:Nat):Int)<((List.length fj:Nat):Int))))::(Zn i0)::rx Qg 18 10 (rx yj3 28 16 (rx x 44 11 [])))),hh,[],.no⟩:=by
   have oH:Bk env (some .string) (some (AV.str fj)) (some (Zn i0))=some (AV.int .u8 (((fj.g i0).toNat:Nat):Int)):=rZ (j:=i0) o!
   have gK:=fun {al ps} (k:Pk al _ ps)=>(CN 2<|VV oH<|VV (tA 5 false true .u8 (((fj.g i0).toNat:Nat):Int) 48)<|CC<|k:Pk _ [] ps)
   rcases bu (decide (48≤(((fj.g i0).toNat:Nat):Int))) with f0 | f0
   · have Rz:Bk env (some .string) (some (AV.str fj)) (some (Zn i0))=some (AV.int .u8 (((fj.g i0).toNat:Nat):Int)):=rZ (j:=i0) o!
     have n9:=fun {al ps} (k:Pk al _ ps)=>(gK<|BC f0<|BC f0<|BV f0 Rz<|BV f0 (tx 5 false true .u8 (((fj.g i0).toNat:Nat):Int) 57)<|VV (tp (decide ((((fj.g i0).toNat:Nat):Int)≤57)) false f0)<|CC<|k:Pk _ [] ps)
     rcases bu (decide ((((fj.g i0).toNat:Nat):Int)≤57)) with f1 | f1
     · rw[EX f0,EX f1]
       exact j9 (pk (d) _ _ hh _ hh (n9<|BB f1<|BB f1<|BB f1<|BV f1 (tR true f1)<|CC<|ZZ) k!) k!
     · have GC:Bk env (some .string) (some (AV.str fj)) (some (Zn i0))=some (AV.int .u8 (((fj.g i0).toNat:Nat):Int)):=rZ (j:=i0) o!
       rw[EX f0,Et f1]
       exact j9 (pk (d) _ _ hh _ hh (n9<|BC f1<|BC f1<|BV f1 GC<|BV f1 (Bo 5 false true .u8 (((fj.g i0).toNat:Nat):Int) 45)<|VV (dD (a:=some (AV.bool true)) (b:=some (AV.bool (decide ((((fj.g i0).toNat:Nat):Int)=45)))) f1)<|CC<|ZZ) k!) k!
   · have Rz:Bk env (some .string) (some (AV.str fj)) (some (Zn i0))=some (AV.int .u8 (((fj.g i0).toNat:Nat):Int)):=rZ (j:=i0) o!
     rw[Et f0]
     exact j9 (pk (d) _ _ hh _ hh (gK<|BB f0<|BB f0<|BB f0<|BV f0 (vd false f0)<|CC<|FF<|CC<|FF<|CC<|FF<|VV Rz<|FF<|VV (Bo 5 false true .u8 (((fj.g i0).toNat:Nat):Int) 45)<|CN 2<|ZZ) k!) k!
  obtain ⟨yj4,I6⟩:∃yj4:Nat→AV,Ev env (cA (d)) OM ⟨((AV.str fj)::(x 1)::(x 2)::(Zn i0)::(AV.bool (bif (decide (97≤(((fj.g i0).toNat:Nat):Int))) then (decide ((((fj.g i0).toNat:Nat):Int)≤122)) else false))::(AV.bool (bif (decide (48≤(((fj.g i0).toNat:Nat):Int))) then (bif (decide ((((fj.g i0).toNat:Nat):Int)≤57)) then true else (decide ((((fj.g i0).toNat:Nat):Int)=45))) else (decide ((((fj.g i0).toNat:Nat):Int)=45))))::rx x 6 8 ((Zn (List.length fj))::(Zn i0)::(AV.bool (decide (((i0:Nat):Int)<((List.length fj:Nat):Int))))::(Zn i0)::rx Qg 18 10 (rx yj3 28 16 (rx x 44 11 [])))),hh,[],.no⟩ .normal ⟨((AV.str fj)::(x 1)::(x 2)::(Zn i0)::(AV.bool (bif (decide (97≤(((fj.g i0).toNat:Nat):Int))) then (decide ((((fj.g i0).toNat:Nat):Int)≤122)) else false))::(AV.bool (bif (decide (48≤(((fj.g i0).toNat:Nat):Int))) then (bif (decide ((((fj.g i0).toNat:Nat):Int)≤57)) then true else (decide ((((fj.g i0).toNat:Nat):Int)=45))) else (decide ((((fj.g i0).toNat:Nat):Int)=45))))::rx x 6 8 ((Zn (List.length fj))::(Zn i0)::(AV.bool (decide (((i0:Nat):Int)<((List.length fj:Nat):Int))))::(Zn i0)::rx Qg 18 10 (rx yj3 28 16 (rx yj4 44 9 ((AV.bool (bif (!(bif (decide (97≤(((fj.g i0).toNat:Nat):Int))) then (decide ((((fj.g i0).toNat:Nat):Int)≤122)) else false)) then (bif (decide (((i0:Nat):Int)=0)) then true else (!(bif (decide (48≤(((fj.g i0).toNat:Nat):Int))) then (bif (decide ((((fj.g i0).toNat:Nat):Int)≤57)) then true else (decide ((((fj.g i0).toNat:Nat):Int)=45))) else (decide ((((fj.g i0).toNat:Nat):Int)=45))))) else false))::(x 54)::[]))))),hh,[],.no⟩:=by
   rcases bu (!(bif (decide (97≤(((fj.g i0).toNat:Nat):Int))) then (decide ((((fj.g i0).toNat:Nat):Int)≤122)) else false)) with f0 | f0
   · have s5:=fun {al ps} (k:Pk al _ ps)=>(CN 3<|BC f0<|BV f0 (Bo 3 false true .i64 ((i0:Nat):Int) 0)<|BC f0<|k:Pk _ [] ps)
     rcases bu (decide (((i0:Nat):Int)=0)) with f1 | f1
     · rw[EX f0,EX f1]
       exact j9 (pk (d) _ _ hh _ hh (s5<|BB f1<|BB f1<|BV f0 (tR true f1)<|VV (tp true false f0)<|ZZ) k!) k!
     · rw[EX f0,Et f1]
       exact j9 (pk (d) _ _ hh _ hh (s5<|BC f1<|BC f1<|BV f0 (dD (a:=some (AV.bool true)) (b:=some (AV.bool (!(bif (decide (48≤(((fj.g i0).toNat:Nat):Int))) then (bif (decide ((((fj.g i0).toNat:Nat):Int)≤57)) then true else (decide ((((fj.g i0).toNat:Nat):Int)=45))) else (decide ((((fj.g i0).toNat:Nat):Int)=45)))))) f1)<|VV (tp (!(bif (decide (48≤(((fj.g i0).toNat:Nat):Int))) then (bif (decide ((((fj.g i0).toNat:Nat):Int)≤57)) then true else (decide ((((fj.g i0).toNat:Nat):Int)=45))) else (decide ((((fj.g i0).toNat:Nat):Int)=45)))) false f0)<|ZZ) k!) k!
   · rw[Et f0]
     exact j9 (pk (d) _ _ hh _ hh (CN 3<|BB f0<|BB f0<|BB f0<|BV f0 (vd false f0)<|ZZ) k!) k!
  have vR:=fun {al ps} (k:Pk al _ ps)=>(VV (bE 3 false false .i64 ((i0:Nat):Int) ((List.length fj:Nat):Int))<|BB q1<|CN 2<|LL yS<|LL Us<|LL I6<|k:Pk _ [] ps)
  rcases bu (bif (!(bif (decide (97≤(((fj.g i0).toNat:Nat):Int))) then (decide ((((fj.g i0).toNat:Nat):Int)≤122)) else false)) then (bif (decide (((i0:Nat):Int)=0)) then true else (!(bif (decide (48≤(((fj.g i0).toNat:Nat):Int))) then (bif (decide ((((fj.g i0).toNat:Nat):Int)≤57)) then true else (decide ((((fj.g i0).toNat:Nat):Int)=45))) else (decide ((((fj.g i0).toNat:Nat):Int)=45))))) else false) with f1 | f1
  · exact aC.ret false (by simp only[lB,f1,ao,ai]) (pk (d) _ _ hh _ hh (vR<|BC f1<|ZZ) k!) (Grow.refl aF) k!
  · have u6:=eA 3 false true i0 1 o!
    exact aC.round (by simp only[lB,f1,ao,ai]) (pk (d) _ _ hh _ hh (vR<|BV f1 u6<|CC<|ZZ) k!) (Grow.refl aF) _ k! (fun x=>AL fj bp dx (i0+1) o! x hh aF aA)
def il (fj:List UInt8):Bool:=(bif (bif (decide (fj=[])) then true else (decide (16<((List.length fj:Nat):Int)))) then false else (match (lB fj (List.length fj) 0) with | none=>true | some Bz=>Bz))
theorem JN {d:Nat} {h:az} (fj:List UInt8) (akd:fj.length<2^60) (bM:Tidy h):cA (d+1) (.fn 109) [(AV.str fj)] h= .ret (AV.bool (il fj)) h:=by
 obtain ⟨yj1,Ut⟩:∃yj1:Nat→AV,Ev env (cA (d)) OI ⟨((AV.str fj)::aL::(AV.bool false)::iW 52),h,[],.no⟩ .normal ⟨((AV.str fj)::aL::(AV.bool false)::aL::aL::aL::rx yj1 6 6 ((AV.bool (bif (decide (fj=[])) then true else (decide (16<((List.length fj:Nat):Int)))))::iW 42)),h,[],.no⟩:=by
  rcases bu (decide (fj=[])) with f0 | f0
  · rw[EX f0]
    exact j9 (pk (d) _ _ h _ h (CC<|VV (YK 9 false true fj [])<|CC<|BB f0<|BB f0<|BV f0 (tR true f0)<|ZZ) k!) k!
  · rw[Et f0]
    exact j9 (pk (d) _ _ h _ h (CC<|VV (YK 9 false true fj [])<|CC<|BC f0<|BC f0<|BV f0 (gz 3 false true .i64 ((List.length fj:Nat):Int) 16)<|VV (dD (a:=some (AV.bool true)) (b:=some (AV.bool (decide (16<((List.length fj:Nat):Int))))) f0)<|ZZ) k!) k!
 rcases bu (bif (decide (fj=[])) then true else (decide (16<((List.length fj:Nat):Int)))) with f0 | f0
 · have e:il fj=false:=by simp only[il,f0,ao,ai]
   rw[e]
   exact aG rfl (aY Tryz.func109 BE rfl (.inr rfl) (pk (d) _ _ h _ h (CC<|LL Ut<|BC f0<|ZZ) k!) k!) (Has.refl _) rfl
 · have lp6:=AL (d:=d) (h:=h) fj akd (List.length fj) 0 o! (dr ((AV.str fj)::aL::(AV.bool false)::aL::aL::aL::rx yj1 6 6 ((AV.bool (bif (decide (fj=[])) then true else (decide (16<((List.length fj:Nat):Int)))))::(AV.str fj)::(Zn (List.length fj))::(Zi 0)::iW 39))) h bM (Has.refl _)
   cases dX:lB fj (List.length fj) 0 with
   | none=>
    obtain ⟨Dl,h5,ep,jf⟩:=aC.n dX lp6
    have fO:=jf.a
    have e:il fj=true:=by simp only[il,f0,dX,ao,ai]
    rw[e]
    exact aG rfl (aY Tryz.func109 BE rfl (.inr rfl) (pk (d) _ _ h _ h5 (CC<|LL Ut<|BB f0<|CN 3<|LL ep<|CC<|ZZ) k!) k!) fO rfl
   | some Bz=>
    obtain ⟨Dl,h5,ep,jf⟩:=aC.r dX lp6
    have fO:=jf.a
    have e:il fj=Bz:=by simp only[il,f0,dX,ao,ai]
    rw[e]
    exact aG rfl (aY Tryz.func109 BE rfl (.inr rfl) (pk (d) _ _ h _ h5 (CC<|LL Ut<|BB f0<|CN 3<|LL ep<|ZZ) k!) k!) fO rfl
def LB:Code:=(Tryz.f117.body).getD .skip
theorem JO:Tryz.f117.body=some LB:=by kernel_rfl
def im (x_:Int) (eD:Int):Bool:=(bif (decide (0≤x_)) then (decide (x_≤eD)) else false)
theorem JP {d:Nat} {h:az} (x_:Int) (eD:Int) (bM:Tidy h):cA (d+1) (.fn 117) [(Zi x_),(Zi eD)] h= .ret (AV.bool (im x_ eD)) h:=by
 rcases bu (decide (0≤x_)) with f0 | f0
 · have e:im x_ eD=(decide (x_≤eD)):=by simp only[im,f0,ao,ai]
   rw[e]
   exact aG rfl (aY Tryz.func117 JO rfl (.inr rfl) (pk (d) _ _ h _ h (CN 2<|VV (tA 3 false true .i64 x_ 0)<|CC<|BC f0<|BC f0<|BV f0 (tx 3 false false .i64 x_ eD)<|VV (tp (decide (x_≤eD)) false f0)<|CC<|ZZ) k!) k!) (Has.refl _) rfl
 · have e:im x_ eD=false:=by simp only[im,f0,ao,ai]
   rw[e]
   exact aG rfl (aY Tryz.func117 JO rfl (.inr rfl) (pk (d) _ _ h _ h (CN 2<|VV (tA 3 false true .i64 x_ 0)<|CC<|BB f0<|BB f0<|BV f0 (vd false f0)<|CC<|ZZ) k!) k!) (Has.refl _) rfl
def LC:Code:=(Tryz.f59.body).getD .skip
theorem Uu:Tryz.f59.body=some LC:=by kernel_rfl
def da (t:Int):Bool:=(im t 100000)
theorem ou {d:Nat} {h:az} (t:Int) (bM:Tidy h):cA (d+2) (.fn 59) [(Zi t)] h= .ret (AV.bool (da t)) h:=by
 have k1:=JP (d:=d) t 100000 bM
 have e:da t=(im t 100000):=by simp only[da,ao,ai]
 rw[e]
 exact aG rfl (aY Tryz.func59 Uu rfl (.inr rfl) (pk (d+1) _ _ h _ h (CN 2<|EE k1<|CC<|ZZ) k!) k!) (Has.refl _) rfl
def Fm:Code:=(Tryz.f64.body).getD .skip
theorem nM:Tryz.f64.body=some Fm:=by kernel_rfl
def dB (j:bP) (pM:List Task) (t:Task):Int:=(bif (!(il t.name)) then 5 else (bif (dt pM (fun y=>fp y t)) then 6 else (bif (!(da t.takes)) then 1 else (bif (!decide ((cP t.aD ((t.aD.length:Nat):Int) (fun jx=>cI (List.take jx t.aD) (List.g t.aD jx) j))=0)) then (cP t.aD ((t.aD.length:Nat):Int) (fun jx=>cI (List.take jx t.aD) (List.g t.aD jx) j)) else (eM t.aB ((t.aB.length:Nat):Int) (fun jx=>eU (List.take jx t.aB) (List.g t.aB jx) j))))))
theorem LD {d:Nat} {h:az} {s6:AV} (j:bP) (pM:List Task) (t:Task) (b7:aK.ok h j) (mT:aO h s6 pM) (h_t:aK.ok h t) (bM:Tidy h):cA (d+8) (.fn 64) [(AV.agg [j.au,j.ar]),s6,(AV.agg [(AV.str t.name),(Zi t.takes),t.bh,t.bo])] h= .ret (Zi (dB j pM t)) h:=by
 obtain ⟨h1,dw,de,jW,bx,ca⟩:=gQ bM (aN.cells [j.au,j.ar] 25 false)
 have bD:=ca
 obtain ⟨h2,r7,mN,I4,ka,iM⟩:=gQ de (aN.cells [(AV.str t.name),(Zi t.takes),t.bh,t.bo] 48 false)
 have gm:=bD.trans iM
 have k3:=JN (d:=d+6) t.name h_t.1 mN
 have ei:=fun {al ps} (k:Pk al _ ps)=>(NN dw (fun i=>(Pt i))<|NN r7 (fun i=>(Pt i))<|CN 2<|MM (aP 9 0 (AV.str t.name) ka k!)<|EE k3<|CN 2<|k:Pk _ [] ps)
 rcases bu (!(il t.name)) with f0 | f0
 · have e:dB j pM t=5:=by simp only[dB,f0,ao,ai]
   rw[e]
   exact aG rfl (aY Tryz.func64 nM rfl (.inr rfl) (pk (d+7) _ _ h _ h2 (ei<|BC f0<|ZZ) k!) k!) gm rfl
 · have k5:=Fl (d:=d+5) pM (fun y=>fp y t) (mT.has gm) (fun y hy hh yy aa=>JE (d:=d+4) y t h1.nx (aK.mono aa ((mT.has gm).Te y hy)) (aK.mono aa (aK.mono gm h_t)) (aa _ _ ka) yy) mN
   have gK:=fun {al ps} (k:Pk al _ ps)=>(ei<|BB f0<|CN 2<|EE k5<|CC<|k:Pk _ [] ps)
   rcases bu (dt pM (fun y=>fp y t)) with f1 | f1
   · have e:dB j pM t=6:=by simp only[dB,f0,f1,ao,ai]
     rw[e]
     exact aG rfl (aY Tryz.func64 nM rfl (.inr rfl) (pk (d+7) _ _ h _ h2 (gK<|BC f1<|ZZ) k!) k!) gm rfl
   · have k7:=ou (d:=d+5) t.takes mN
     have n9:=fun {al ps} (k:Pk al _ ps)=>(gK<|BC f1<|MM (aP 3 1 (Zi t.takes) ka k!)<|EE k7<|CN 2<|k:Pk _ [] ps)
     rcases bu (!(da t.takes)) with f2 | f2
     · have e:dB j pM t=1:=by simp only[dB,f0,f1,f2,ao,ai]
       rw[e]
       exact aG rfl (aY Tryz.func64 nM rfl (.inr rfl) (pk (d+7) _ _ h _ h2 (n9<|BC f2<|ZZ) k!) k!) gm rfl
     · have ln9:=h_t.2.1.len
       have YJ:=E_ (d:=d+6) t.aD ((t.aD.length:Nat):Int) (fun jx=>cI (List.take jx t.aD) (List.g t.aD jx) j) (h_t.2.1.has gm) (fun jx hj aV hh yy aa fa=>JJ (d:=d+2) (List.take jx t.aD) (List.g t.aD jx) j h.nx fa (aK.mono aa (aK.mono gm b7)) (aa _ _ (iM _ _ bx)) yy) mN
       have s5:=fun {al ps} (k:Pk al _ ps)=>(n9<|BC f2<|MM (aP 26 2 t.bh ka k!)<|CC<|MM (aP 26 2 t.bh ka k!)<|VV ln9<|CC<|EE YJ<|CN 2<|VV (kt 31 false true .i64 (cP t.aD ((t.aD.length:Nat):Int) (fun jx=>cI (List.take jx t.aD) (List.g t.aD jx) j)) 0)<|k:Pk _ [] ps)
       rcases bu (!decide ((cP t.aD ((t.aD.length:Nat):Int) (fun jx=>cI (List.take jx t.aD) (List.g t.aD jx) j))=0)) with f3 | f3
       · have e:dB j pM t=(cP t.aD ((t.aD.length:Nat):Int) (fun jx=>cI (List.take jx t.aD) (List.g t.aD jx) j)):=by simp only[dB,f0,f1,f2,f3,ao,ai]
         rw[e]
         exact aG rfl (aY Tryz.func64 nM rfl (.inr rfl) (pk (d+7) _ _ h _ h2 (s5<|BB f3<|CN 2<|ZZ) k!) k!) gm rfl
       · have Uv:=h_t.2.2.len
         have k13:=E' (d:=d+6) t.aB ((t.aB.length:Nat):Int) (fun jx=>eU (List.take jx t.aB) (List.g t.aB jx) j) (h_t.2.2.has gm) (fun jx hj aV hh yy aa fa=>JM (d:=d+1) (List.take jx t.aB) (List.g t.aB jx) j h.nx fa (aK.mono aa ((h_t.2.2.has gm).ok hj)) (aK.mono aa (aK.mono gm b7)) (aa _ _ (iM _ _ bx)) yy) mN
         have e:dB j pM t=(eM t.aB ((t.aB.length:Nat):Int) (fun jx=>eU (List.take jx t.aB) (List.g t.aB jx) j)):=by simp only[dB,f0,f1,f2,f3,ao,ai]
         rw[e]
         exact aG rfl (aY Tryz.func64 nM rfl (.inr rfl) (pk (d+7) _ _ h _ h2 (s5<|BC f3<|MM (aP 46 3 t.bo ka k!)<|CC<|MM (aP 46 3 t.bo ka k!)<|VV Uv<|CC<|EE k13<|CC<|ZZ) k!) k!) gm rfl
def LF:Code:=(Tryz.f63.body).getD .skip
theorem Uw:Tryz.f63.body=some LF:=by kernel_rfl
def eE (pM:List Task) (t:Task) (j:bP):Int:=(dB j pM t)
theorem Ux {d:Nat} {h:az} {s6:AV} (pM:List Task) (t:Task) (j:bP) (jB:Nat) (mT:aO h s6 pM) (h_t:aK.ok h t) (b7:aK.ok h j) (g_j:h.get jB=some (.cells (aK.c j) 25 false)) (bM:Tidy h):cA (d+9) (.fn 63) [s6,(AV.agg [(AV.str t.name),(Zi t.takes),t.bh,t.bo]),(Pt jB)] h= .ret (Zi (eE pM t j)) h:=by
 obtain ⟨h1,dw,de,jW,bx,ca⟩:=gQ bM (aN.cells [(AV.str t.name),(Zi t.takes),t.bh,t.bo] 48 false)
 have bD:=ca
 have k2:=LD (d:=d) j pM t (aK.mono bD b7) (mT.has bD) (aK.mono bD h_t) de
 have e:eE pM t j=(dB j pM t):=by simp only[eE,ao,ai]
 rw[e]
 exact aG rfl (aY Tryz.func63 Uw rfl (.inr rfl) (pk (d+8) _ _ h _ h1 (NN dw (fun i=>(Pt i))<|CC<|MM (aP 25 0 (AV.agg [j.au,j.ar]) (ca _ _ g_j) k!)<|CC<|MM (aP 48 0 (AV.agg [(AV.str t.name),(Zi t.takes),t.bh,t.bo]) bx k!)<|EE k2<|CC<|ZZ) k!) k!) bD rfl
def LG:Code:=(Tryz.f139.body).getD .skip
theorem Uy:Tryz.f139.body=some LG:=by kernel_rfl
def cy (s:List Bool):List Bool:=s
theorem Uz {d:Nat} {h:az} (s:List Bool) (sB:Nat) (sN:Nat) (sF:Bool) (g_s:h.get sB=some (aN.cells (bs s) 4 false)) (l_s:s.length=sN) (t_s:sB<h.nx) (mf:s.length≤1000000000) (bM:Tidy h):∃z n op hk,cA (d+1) (.fn 139) [(AV.slice sB 0 sN sN sF)] h= .ret (.slice z 0 n n op) hk∧Grow h hk∧hk.get z=some (aN.cells (bs (cy s)) 4 false)∧(cy s).length=n∧h.nx≤z:=by
 obtain ⟨h1,dw,de,jW,bx,ca⟩:=gQ bM (aN.cells [] 4 false)
 have bD:=ca
 obtain ⟨qb3,qf4,h2,aob,mN,arK,arL,aoc,auU⟩:=OC (tys:= #[96,96]) (n:=sN) (b:=sB) (f:=sF) de bx (ca _ _ g_s) (by first | (rw[T3];omega) | (rw[fS];omega)) (by first | exact Y_ _ | exact zR _) o! rfl rfl k! k! k! (bytes:=1) k! (z0:=AV.bool false) k! rfl (by decide)
 have gm:=bD.trans arL
 have e:cy s=s:=by simp only[cy,ao,ai]
 rw[e]
 exact ⟨qb3,sN,qf4,pS rfl (aY Tryz.func139 Uy rfl (.inr rfl) (pk (d) _ _ h _ h2 (CN 3<|FF<|NN dw (fun i=>(AV.slice i 0 0 0 false))<|CC<|PP (show cb env h1 #[96,96] (AV.slice h.nx 0 0 0 false) (AV.slice sB 0 sN sN sF)=some ((AV.slice qb3 0 sN sN qf4),h2) from aob)<|CC<|ZZ) k!) k!) bM ⟨mN,gm,by omega⟩ (P:=fun hh=>hh.get qb3=some (aN.cells (bs s) 4 false)∧(s).length=sN∧h.nx≤qb3) ⟨aoc,(by first | omega | (simp only[List.length_set,List.length_replicate,dQ]<;>omega) | exact hJ _ | exact ku a!),by omega⟩ fun v=>(zQ v o!).elim⟩
def xB:Code:=(Tryz.f187.body).getD .skip
theorem Dr:Tryz.f187.body=some xB:=by kernel_rfl
def JQ:Code:=(bl xB).getD 0 .skip
def hU (s:List Int) (P:Nat→Bool):Nat→Nat→Option (Int)
 | 0,_=>none
 | dx+1,i0=>(bif (P i0) then some ((i0:Nat):Int) else hU s P dx (i0+1))
theorem xC {d:Nat} {h:az} (sV:AV) (g:FuncId) (cap:List AV) (s:List Int) (P:Nat→Bool) (bp:bT h .i64 3 sV s) (hP:∀i hh,i<s.length→Tidy hh→Has h hh→cA d (.fn g) (.int .i64 (List.g s i)::cap) hh= .ret (.bool (P i)) hh):∀(k_ i_:Nat) (_:i_+k_=s.length) (x:Nat→AV) (hh:az) (aF:Tidy hh) (aA:Has h hh),aC (cA (d)) JQ ⟨(sV::(AV.func g [] cap)::rx x 2 5 ((Zn s.length)::(Zn i_)::rx x 9 10 [])),hh,[],.no⟩ (.exit 0) hh (fun y=>(sV::(AV.func g [] cap)::rx y 2 5 ((Zn s.length)::rx y 8 11 []))) (fun r y=>(sV::(AV.func g [] cap)::(y 2)::(y 3)::(Zi r)::(y 5)::(y 6)::(Zn s.length)::rx y 8 11 [])) (hU s P k_ i_)
 | 0,i0,eZ,x,hh,aF,aA=>by
  have q1:(decide (((i0:Nat):Int)<((s.length:Nat):Int)))=false:=d!
  exact aC.out rfl (pk (d) _ _ hh _ hh (VV (bE 3 false false .i64 ((i0:Nat):Int) ((s.length:Nat):Int))<|BB q1<|ZZ) k!) (Grow.refl aF) k!
 | dx+1,i0,eZ,x,hh,aF,aA=>by
  have gN:=bp.small
  have q1:(decide (((i0:Nat):Int)<((s.length:Nat):Int)))=true:=d!
  obtain ⟨p3,q4,gh,_⟩:=(bp.has aA).elem (i:=i0) o!
  have kN:=(bp.has aA).load o! gh
  have k6:=hP i0 hh o! aF aA
  have ei:=fun {al ps} (k:Pk al _ ps)=>(VV (bE 3 false false .i64 ((i0:Nat):Int) ((s.length:Nat):Int))<|BB q1<|CN 5<|VV gh<|MM kN<|EE k6<|k:Pk _ [] ps)
  rcases bu (P i0) with f1 | f1
  · exact aC.ret ((i0:Nat):Int) (by simp only[hU,f1,ao,ai]) (pk (d) _ _ hh _ hh (ei<|BB f1<|CN 2<|ZZ) k!) (Grow.refl aF) k!
  · have u8:=eA 3 false true i0 1 o!
    exact aC.round (by simp only[hU,f1,ao,ai]) (pk (d) _ _ hh _ hh (ei<|BV f1 u8<|CC<|ZZ) k!) (Grow.refl aF) _ k! (fun x=>xC sV g cap s P bp hP dx (i0+1) o! x hh aF aA)
def lJ (s:List Int) (P:Nat→Bool):Int:=(match (hU s P s.length 0) with | none=>(-1) | some Am=>Am)
theorem ON {d:Nat} {h:az} {sV:AV} {g:FuncId} {cap:List AV} (s:List Int) (P:Nat→Bool) (Cg:bT h .i64 3 sV s) (hP:∀i hh,i<s.length→Tidy hh→Has h hh→cA d (.fn g) (.int .i64 (List.g s i)::cap) hh= .ret (.bool (P i)) hh) (bM:Tidy h):cA (d+1) (.fn 187) [sV,(AV.func g [] cap)] h= .ret (Zi (lJ s P)) h:=by
 have gd:=Cg.len
 have JG:=xC (d:=d) (h:=h) sV g cap s P Cg hP s.length 0 o! (dr (sV::(AV.func g [] cap)::aL::aL::(Zi 0)::aL::sV::(Zn s.length)::(Zi 0)::iW 10)) h bM (Has.refl _)
 cases eu:hU s P s.length 0 with
 | none=>
  obtain ⟨HN,h3,dV,iC⟩:=aC.n eu JG
  have fl:=iC.a
  have e:lJ s P=(-1):=by simp only[lJ,eu,ao,ai]
  rw[e]
  exact aG rfl (aY Tryz.func187 Dr rfl (.inr rfl) (pk (d) _ _ h _ h3 (CN 2<|VV gd<|CC<|LL dV<|CC<|ZZ) k!) k!) fl rfl
 | some Am=>
  obtain ⟨HN,h3,dV,iC⟩:=aC.r eu JG
  have fl:=iC.a
  have e:lJ s P=Am:=by simp only[lJ,eu,ao,ai]
  rw[e]
  exact aG rfl (aY Tryz.func187 Dr rfl (.inr rfl) (pk (d) _ _ h _ h3 (CN 2<|VV gd<|CC<|LL dV<|ZZ) k!) k!) fl rfl
def BF:Code:=(Tryz.f164.body).getD .skip
theorem Hg:Tryz.f164.body=some BF:=by kernel_rfl
def jj (s:List Int) (P:Nat→Bool):Bool:=(decide (0≤(lJ s P)))
theorem Hh {d:Nat} {h:az} {sV:AV} {g:FuncId} {cap:List AV} (s:List Int) (P:Nat→Bool) (Cg:bT h .i64 3 sV s) (hP:∀i hh,i<s.length→Tidy hh→Has h hh→cA d (.fn g) (.int .i64 (List.g s i)::cap) hh= .ret (.bool (P i)) hh) (bM:Tidy h):cA (d+2) (.fn 164) [sV,(AV.func g [] cap)] h= .ret (AV.bool (jj s P)) h:=by
 have k1:=ON (d:=d) s P Cg hP bM
 have e:jj s P=(decide (0≤(lJ s P))):=by simp only[jj,ao,ai]
 rw[e]
 exact aG rfl (aY Tryz.func164 Hg rfl (.inr rfl) (pk (d+1) _ _ h _ h (CN 3<|EE k1<|VV (tA 3 false true .i64 (lJ s P) 0)<|CC<|ZZ) k!) k!) (Has.refl _) rfl
def JR:Code:=(Tryz.f165.body).getD .skip
theorem RK:Tryz.f165.body=some JR:=by kernel_rfl
def qa (oS:Int) (jz:List Bool):Bool:=(!(jz.g oS.toNat))
theorem RL {d:Nat} {h:az} {pt:AV} (oS:Int) (jz:List Bool) (WZ:Nat) (s7:pT h 4 pt jz) (aco:h.get WZ=some (aN.cells [pt] 96 false)) (mf:0≤oS) (oQ:oS<(jz.length:Int)) (bM:Tidy h):cA (d+1) (.fn 165) [(Zi oS),(Pt WZ)] h= .ret (AV.bool (qa oS jz)) h:=by
 obtain ⟨p2,q3,acp,_⟩:=s7.elem (i:=oS.toNat) o!
 have ix1:=xn acp o!
 have ld4:=s7.load o! acp
 have e:qa oS jz=(!(jz.g oS.toNat)):=by simp only[qa,ao,ai]
 rw[e]
 exact aG rfl (aY Tryz.func165 RK rfl (.inr rfl) (pk (d) _ _ h _ h (CC<|MM (aP 96 0 pt aco k!)<|CC<|VV ix1<|MM ld4<|CN 2<|ZZ) k!) k!) (Has.refl _) rfl
def LH:Code:=(Tryz.f140.body).getD .skip
theorem JS:Tryz.f140.body=some LH:=by kernel_rfl
def jA (ab:List Task) (jz:List Bool) (tqk:Int):Bool:=(bif (!(jz.g tqk.toNat)) then (!(jj (ab.g tqk.toNat).aD (fun i=>qa (List.g (ab.g tqk.toNat).aD i) jz))) else false)
theorem UA {d:Nat} {h:az} {au pt:AV} (ab:List Task) (jz:List Bool) (tqk:Int) (oa:aO h au ab) (s7:pT h 4 pt jz) (mf:0≤tqk) (oQ:tqk<(jz.length:Int)) (xU:jz.length=ab.length) (Ak:∀i,i<(ab.g tqk.toNat).aD.length→0≤(ab.g tqk.toNat).aD.g i∧(ab.g tqk.toNat).aD.g i<(jz.length:Int)) (bM:Tidy h):cA (d+4) (.fn 140) [au,pt,(Zi tqk)] h= .ret (AV.bool (jA ab jz tqk)) h:=by
 obtain ⟨h1,dw,de,jW,bx,ca⟩:=gQ bM (aN.cells [pt] 96 false)
 have bD:=ca
 obtain ⟨p3,q4,mu,_⟩:=s7.elem (i:=tqk.toNat) o!
 have gh:=xn mu o!
 have kN:=(s7.has bD).load o! mu
 have ei:=fun {al ps} (k:Pk al _ ps)=>(AA (.a (aN.cells [pt] 96 false) (Pt h.nx) h1)<|HH dw<|HH (show ∃mk:Nat→AV,some (aN.cells (AV.cells pt) 96 false,fun i=>AV.ptr i 0)=some (aN.cells [pt] 96 false,mk)∧mk h.nx=(Pt h.nx) from ⟨_,(by rw[CO s7.scalar]),rfl⟩)<|CC<|MM (aP 96 0 pt bx k!)<|CC<|VV gh<|MM kN<|CN 2<|k:Pk _ [] ps)
 rcases bu (!(jz.g tqk.toNat)) with f0 | f0
 · obtain ⟨p8,q9,RN⟩:=oa.elem (i:=tqk.toNat) o!
   have GC:=xn RN o!
   have vn:=(oa.has bD).part (t:=26) (j:=2) o! RN k! rfl
   have k11:=Hh (d:=d+1) (ab.g tqk.toNat).aD (fun i=>qa (List.g (ab.g tqk.toNat).aD i) jz) ((oa.ok (i:=tqk.toNat) o!).2.1.has bD) (fun i hh hi yy aa=>by have q_:=Ak i hi;exact RL (d:=d) (List.g (ab.g tqk.toNat).aD i) jz h.nx ((s7.has bD).has aa) (aa _ _ bx) o! o! yy) de
   have e:jA ab jz tqk=(!(jj (ab.g tqk.toNat).aD (fun i=>qa (List.g (ab.g tqk.toNat).aD i) jz))):=by simp only[jA,f0,ao,ai]
   rw[e]
   exact aG rfl (aY Tryz.func140 JS rfl (.inr rfl) (pk (d+3) _ _ h _ h1 (ei<|BC f0<|BC f0<|BV f0 GC<|BC f0<|BM f0 vn<|BC f0<|BB f0<|EE k11<|BC f0<|VV (tp (!(jj (ab.g tqk.toNat).aD (fun i=>qa (List.g (ab.g tqk.toNat).aD i) jz))) false f0)<|CC<|ZZ) k!) k!) bD rfl
 · have e:jA ab jz tqk=false:=by simp only[jA,f0,ao,ai]
   rw[e]
   exact aG rfl (aY Tryz.func140 JS rfl (.inr rfl) (pk (d+3) _ _ h _ h1 (ei<|BB f0<|BB f0<|BB f0<|BB f0<|BB f0<|BB f0<|BB f0<|BV f0 (vd false f0)<|CC<|ZZ) k!) k!) bD rfl
theorem gq {p:Prop} (h:p:=by first | omega | (simp only[List.length_set,List.length_replicate,dQ]<;>omega) | exact hJ _ | exact ku a!):p:=h
theorem nN {p:Prop} (h:p:=by first | omega | assumption | exact NB _ o! | (intro q hq;have q_:=NB _ o! q hq;omega)):p:=h
theorem fP {p:Prop} (h:p:=by first | omega | (simp<;>omega)):p:=h
def rD:Code:=(Tryz.f93.body).getD .skip
theorem OO:Tryz.f93.body=some rD:=by kernel_rfl
def JT:Code:=(bl rD).getD 0 .skip
def JU:Code:=(bl rD).getD 1 .skip
def b5 (oqd:List Int) (ab:List Task):Nat→Nat→List Int→List Bool→List Int×List Bool
 | 0,_,vo,bC=>(vo,bC)
 | nK+1,i1,vo,bC=>(bif (jA ab bC (oqd.g i1)) then ((vo++[(oqd.g i1)]),(bC.set (oqd.g i1).toNat true)) else b5 oqd ab nK (i1+1) vo bC)
theorem xD {d:Nat} {h:az} {gg1:az} (au:AV) (gO:AV) (aE:List Bool) (RO:Bool) (oqd:List Int) (i0:Nat) (ab:List Task) (b6:Nat) (eP:aO h au ab) (dW:bT h .i64 3 gO oqd) (yH:i0<oqd.length) (o9:∀i,i<ab.length→∀q,q<(ab.g i).aD.length→0≤(ab.g i).aD.g q∧(ab.g i).aD.g q<(ab.length:Int)) (rz:∀q,q<oqd.length→0≤oqd.g q∧oqd.g q<(ab.length:Int)) (rA:aE.length=ab.length) (vg:ab.length≤100000) (Ds:oqd.length≤100000) (Fo:(cy aE).length=ab.length) (bM:Tidy h) (Jb:h.nx≤b6) (NG1:h.nx≤gg1.nx) (aod:b6<gg1.nx):∀(k_ i_:Nat) (vo:List Int) (bC:List Bool) (z1:AV) (_:i_+k_=oqd.length) (_:((vo.length≤i0+1)∧(vo.length≤i0))) (x:Nat→AV) (hh:az) (aF:Tidy hh) (aA:Has h hh) (fN:h.nx≤hh.nx) (qH:bC.length=((cy aE).length)) (cz:hh.get b6=some (aN.cells (bs bC) 4 false)) (oz1:eG 3 gg1 hh z1 (zs .i64 vo)) (lz1:vo.length≤1000000000) (aiv:gg1.nx≤hh.nx),bY (σ:=List Int×List Bool) (ρ:=Unit) (cA (d+4)) JU ⟨(au::gO::rx x 2 5 ((AV.slice b6 0 (cy aE).length (cy aE).length RO)::z1::rx x 9 5 ((Zn oqd.length)::(Zn i0)::(x 16)::gO::(Zn oqd.length)::(Zn i_)::rx x 20 17 []))),hh,[],.no⟩ (.exit 2) hh (fun r z y=>(au::gO::rx y 2 5 ((AV.slice b6 0 (cy aE).length (cy aE).length RO)::z::rx y 9 5 ((Zn oqd.length)::(Zn i0)::(y 16)::gO::(Zn oqd.length)::rx y 19 18 [])))) (fun r z y=>(au::gO::rx y 2 5 ((AV.slice b6 0 (cy aE).length (cy aE).length RO)::rx y 8 6 ((Zn oqd.length)::(Zn i0)::(y 16)::gO::(Zn oqd.length)::rx y 19 18 [])))) (fun r z hk=>Has h hk∧hk.get b6=some (aN.cells (bs r.2) 4 false)∧r.2.length=((cy aE).length)∧(r.1.length≤i0+1)∧eG 3 gg1 hk z (zs .i64 r.1)∧r.1.length≤1000000000) (fun r z hk=>Has h hk) (Sum.inl (b5 oqd ab k_ i_ vo bC))
 | 0,i1,vo,bC,z1,eZ,du,x,hh,aF,aA,fN,qH,cz,oz1,lz1,aiv=>by
  have OB:=rz
  have RP:=OB i1
  have q1:(decide (((i1:Nat):Int)<((oqd.length:Nat):Int)))=false:=d!
  exact bY.out (vo,bC) z1 rfl (pk (d+4) _ _ hh _ hh (VV (bE 3 false false .i64 ((i1:Nat):Int) ((oqd.length:Nat):Int))<|BB q1<|ZZ) k!) aF o! ⟨aA,cz,gq,(show (vo.length≤i0+1) from fP),oz1,fP⟩ k!
 | nK+1,i1,vo,bC,z1,eZ,du,x,hh,aF,aA,fN,qH,cz,oz1,lz1,aiv=>by
  have pV:=eP.small
  have rC:=dW.small
  have E2:=aF _ _ cz
  have NB:=o9
  have OB:=rz
  have RP:=OB i1
  have auV:i1<oqd.length→0≤oqd.g i1∧oqd.g i1<(ab.length:Int):=RP
  have q1:(decide (((i1:Nat):Int)<((oqd.length:Nat):Int)))=true:=d!
  obtain ⟨p3,q4,gh,_⟩:=dW.elem (i:=i1) o!
  have kN:=(dW.has aA).load o! gh
  have k6:=UA (d:=d) ab bC (oqd.g i1) (eP.has aA) (pT.own (op:=RO) (n:=((cy aE).length)) k! k! cz gq o!) nN nN nN nN aF
  have ei:=fun {al ps} (k:Pk al _ ps)=>(VV (bE 3 false false .i64 ((i1:Nat):Int) ((oqd.length:Nat):Int))<|BV q1 gh<|MM kN<|CN 4<|EE k6<|k:Pk _ [] ps)
  rcases bu (jA ab bC (oqd.g i1)) with f1 | f1
  · have GB:hG env (some (.slice 4)) (some (AV.slice b6 0 (cy aE).length (cy aE).length RO)) (some (Zi (oqd.g i1)))=some (AV.ptr b6 (oqd.g i1).toNat):=ic k! (show (oqd.g i1).toNat<((cy aE).length) by omega) o!
    obtain ⟨h9,ake⟩:∃De:az,De=hh.put b6 (some (aN.cells (bs (bC.set (oqd.g i1).toNat true)) 4 false)):=⟨_,rfl⟩
    have arM:eS env hh 4 (AV.ptr b6 (oqd.g i1).toNat) (AV.bool true)=some h9:=by rw[ake];exact sS k! cz gq
    have agC:Ll hh h9 b6 (aN.cells (bs (bC.set (oqd.g i1).toNat true)) 4 false):=by rw[ake];exact jL aF cz
    have uw:=agC.1
    have anZ:h9.nx=hh.nx:=by rw[ake];rfl
    have nz:=agC.has aA bM o!
    obtain ⟨vQ,Rq,ji,abZ,Gw,pc⟩:=gQ uw (aN.cells [(Zi (oqd.g i1))] 3 false)
    have gZ:=nz.trans pc
    have acq:=pc
    obtain ⟨z12,lY,UC,iU,acr,W0,akf⟩:=eG.I0 (k:= .i64) (g:=gg1) (tys:= #[26,26]) (v:=(oqd.g i1)) (L:=vo) ji o! ((oz1.chg agC o!).has acq) Gw fP rfl rfl k! k! k! (bytes:=8) k! (z0:=Zi 0) k! rfl (by decide)
    have my:=Has.I1 gZ bM o! W0
    exact bY.out ((vo++[(oqd.g i1)]),(bC.set (oqd.g i1).toNat true)) z12 (congrArg Sum.inl (by simp only[b5,f1,ao,ai])) (pk (d+4) _ _ hh _ lY (ei<|BB f1<|CN 2<|VV GB<|SS arM<|CN 2<|NN Rq (fun i=>(AV.slice i 0 1 1 false))<|PP (show cb env vQ #[26,26] z1 (AV.slice h9.nx 0 1 1 false)=some (z12,lY) from UC)<|CC<|ZZ) k!) iU o! ⟨my,(W0 _ _ o! (pc _ _ agC.2.1)),gq,(show ((vo++[(oqd.g i1)]).length≤i0+1) from fP),akf,fP⟩ k!
  · have u8:=eA 3 false true i1 1 o!
    exact bY.round (congrArg Sum.inl (by simp only[b5,f1,ao,ai])) (pk (d+4) _ _ hh _ hh (ei<|BV f1 u8<|CC<|ZZ) k!) o! _ k! (fun x=>xD au gO aE RO oqd i0 ab b6 eP dW yH o9 rz rA vg Ds Fo bM Jb NG1 aod nK (i1+1) vo bC z1 o! (show ((vo.length≤i0+1)∧(vo.length≤i0)) from fP) x hh aF aA o! gq cz oz1 fP o!)
def cH (oqd:List Int) (ab:List Task):Nat→Nat→List Int→List Bool→List Int×List Bool
 | 0,_,cZ,ba=>(cZ,ba)
 | dx+1,i0,cZ,ba=>cH oqd ab dx (i0+1) (b5 oqd ab oqd.length 0 cZ ba).1 (b5 oqd ab oqd.length 0 cZ ba).2
theorem xE {d:Nat} {h:az} {gg0:az} (au:AV) (gO:AV) (aE:List Bool) (RO:Bool) (oqd:List Int) (ab:List Task) (bj:Nat) (bp:aO h au ab) (cC:bT h .i64 3 gO oqd) (fU:∀i,i<ab.length→∀q,q<(ab.g i).aD.length→0≤(ab.g i).aD.g q∧(ab.g i).aD.g q<(ab.length:Int)) (iB:∀q,q<oqd.length→0≤oqd.g q∧oqd.g q<(ab.length:Int)) (mO:aE.length=ab.length) (nI:ab.length≤100000) (o8:oqd.length≤100000) (qF:(cy aE).length=ab.length) (bM:Tidy h) (tC:h.nx≤bj) (NG0:h.nx≤gg0.nx) (AF:bj<gg0.nx):∀(k_ i_:Nat) (cZ:List Int) (ba:List Bool) (z0:AV) (_:i_+k_=oqd.length) (x:Nat→AV) (hh:az) (aF:Tidy hh) (aA:Has h hh) (fN:h.nx≤hh.nx) (kc:ba.length=((cy aE).length)) (br:hh.get bj=some (aN.cells (bs ba) 4 false)) (Je:eG 3 gg0 hh z0 (zs .i64 cZ)) (lz0:cZ.length≤i_) (yJ:gg0.nx≤hh.nx),bY (σ:=List Int×List Bool) (ρ:=Unit) (cA (d+4)) JT ⟨(au::gO::rx x 2 5 ((AV.slice bj 0 (cy aE).length (cy aE).length RO)::z0::rx x 9 5 ((Zn oqd.length)::(Zn i_)::rx x 16 21 []))),hh,[],.no⟩ (.exit 0) hh (fun r z y=>(au::gO::rx y 2 5 ((AV.slice bj 0 (cy aE).length (cy aE).length RO)::z::rx y 9 5 ((Zn oqd.length)::rx y 15 22 [])))) (fun r z y=>(au::gO::rx y 2 5 ((AV.slice bj 0 (cy aE).length (cy aE).length RO)::rx y 8 6 ((Zn oqd.length)::rx y 15 22 [])))) (fun r z hk=>Has h hk∧hk.get bj=some (aN.cells (bs r.2) 4 false)∧r.2.length=((cy aE).length)∧eG 3 gg0 hk z (zs .i64 r.1)∧r.1.length≤oqd.length) (fun r z hk=>Has h hk) (Sum.inl (cH oqd ab k_ i_ cZ ba))
 | 0,i0,cZ,ba,z0,eZ,x,hh,aF,aA,fN,kc,br,Je,lz0,yJ=>by
  have q1:(decide (((i0:Nat):Int)<((oqd.length:Nat):Int)))=false:=d!
  exact bY.out (cZ,ba) z0 rfl (pk (d+4) _ _ hh _ hh (VV (bE 3 false false .i64 ((i0:Nat):Int) ((oqd.length:Nat):Int))<|BB q1<|ZZ) k!) aF o! ⟨aA,br,gq,Je,fP⟩ k!
 | dx+1,i0,cZ,ba,z0,eZ,x,hh,aF,aA,fN,kc,br,Je,lz0,yJ=>by
  have q1:(decide (((i0:Nat):Int)<((oqd.length:Nat):Int)))=true:=d!
  have JH:=cC.len
  obtain ⟨zo5,MR,h4,jX,ij,UD,acs,akg,akh,wC,aki,arN⟩:=bY.n rfl (xD (d:=d) (h:=h) (gg1:=gg0) au gO aE RO oqd i0 ab bj bp cC o! a! a! o! o! o! a! bM o! o! o! oqd.length 0 cZ ba z0 o! (show ((cZ.length≤i0+1)∧(cZ.length≤i0)) from fP) (dr (au::gO::rx x 2 5 ((AV.slice bj 0 (cy aE).length (cy aE).length RO)::z0::rx x 9 5 ((Zn oqd.length)::(Zn i0)::(AV.bool (decide (((i0:Nat):Int)<((oqd.length:Nat):Int))))::gO::(Zn oqd.length)::(Zi 0)::rx x 20 17 [])))) hh aF aA o! gq br Je fP o!)
  have fq:=acs
  have u6:=eA 3 false true i0 1 o!
  exact bY.round (congrArg Sum.inl (by simp only[cH,ao,ai])) (pk (d+4) _ _ hh _ h4 (VV (bE 3 false false .i64 ((i0:Nat):Int) ((oqd.length:Nat):Int))<|BC q1<|VV JH<|CC<|LL jX<|VV u6<|CC<|ZZ) k!) o! _ k! (fun x=>xE au gO aE RO oqd ab bj bp cC fU iB mO nI o8 qF bM tC NG0 AF dx (i0+1) (b5 oqd ab oqd.length 0 cZ ba).1 (b5 oqd ab oqd.length 0 cZ ba).2 zo5 o! x h4 ij fq o! gq akg aki fP o!)
def bf (ab:List Task) (oqd:List Int) (aE:List Bool):List Int:=((cH oqd ab oqd.length 0 ([]) (cy aE)).1)
theorem Dt {d:Nat} {h:az} {au gO:AV} (ab:List Task) (oqd:List Int) (aE:List Bool) (bq:Nat) (pqN:Nat) (HW:Bool) (oa:aO h au ab) (zU:bT h .i64 3 gO oqd) (dU:h.get bq=some (aN.cells (bs aE) 4 false)) (Dd:aE.length=pqN) (aoe:bq<h.nx) (mf:∀i,i<ab.length→∀q,q<(ab.g i).aD.length→0≤(ab.g i).aD.g q∧(ab.g i).aD.g q<(ab.length:Int)) (oQ:∀q,q<oqd.length→0≤oqd.g q∧oqd.g q<(ab.length:Int)) (xU:aE.length=ab.length) (Ak:ab.length≤100000) (Ha:oqd.length≤100000) (bM:Tidy h):∃z hk,cA (d+5) (.fn 93) [au,gO,(AV.slice bq 0 pqN pqN HW)] h= .ret z hk∧Grow h hk∧bT hk .i64 3 z (bf ab oqd aE)∧eG 3 h hk z (zs .i64 (bf ab oqd aE)):=by
 have Za:=oa.small
 have Zb:=zU.small
 obtain ⟨qb1,_,RO,h3,arO,iC,acu,rfl,arP⟩:=Uz (d:=d+3) aE bq pqN HW dU gq o! nN bM
 have om:=iC.y
 have Oj:h.nx≤h3.nx:=iC.n
 have fl:=iC.a
 have aug:=om _ _ acu
 have arQ:(cy aE).length=List.length aE:=rfl
 have RQ:=zU.len
 obtain ⟨zo7,Zc,h6,uJ,ig,aof,RR,acv,akj,UE,akk⟩:=bY.n rfl (xE (d:=d) (h:=h) (gg0:=h3) au gO aE RO oqd ab qb1 oa zU a! a! o! o! o! a! bM o! o! o! oqd.length 0 ([]) (cy aE) AV.aw o! (dr (au::gO::(AV.slice bq 0 pqN pqN HW)::aL::aL::aL::AV.aw::(AV.slice qb1 0 (cy aE).length (cy aE).length RO)::AV.aw::aL::aL::(AV.slice bq 0 pqN pqN HW)::(AV.slice qb1 0 (cy aE).length (cy aE).length RO)::gO::(Zn oqd.length)::(Zi 0)::iW 21)) h3 om fl o! gq acu (.inl ⟨rfl,rfl⟩) (Nat.zero_le _) o!)
 have gL:=RR
 have e:bf ab oqd aE=((cH oqd ab oqd.length 0 ([]) (cy aE)).1):=by simp only[bf,ao,ai]
 rw[e]
 have oz:=eG.le (h0:=h) UE o!
 exact ⟨zo7,pS rfl (aY Tryz.func93 OO rfl (.inr rfl) (pk (d+4) _ _ h _ h6 (CN 2<|EE arO<|CN 3<|VV RQ<|CC<|LL uJ<|CN 2<|ZZ) k!) k!) bM ⟨ig,gL,by omega⟩ (P:=fun hh=>bT hh .i64 3 zo7 ((cH oqd ab oqd.length 0 ([]) (cy aE)).1)∧eG 3 h hh zo7 (zs .i64 (cH oqd ab oqd.length 0 ([]) (cy aE)).1)) ⟨oz.zs o! k! k!,oz⟩ fun v=>⟨oz.aby v k! k!,oz.abD v⟩⟩
theorem mU {p:Prop} (h:p:=by first | omega | (simp only[List.length_set,List.length_replicate,dQ]<;>omega) | exact hJ _ | exact ku a!):p:=h
theorem pv {p:Prop} (h:p:=by first | omega | assumption | (simp only[List.length_replicate];done) | (simp only[List.length_replicate]<;>omega)):p:=h
def yT:Code:=(Tryz.f65.body).getD .skip
theorem RS:Tryz.f65.body=some yT:=by kernel_rfl
def LI:Code:=(bl yT).getD 0 .skip
def eH (ab:List Task):Nat→Nat→List Int→List Int
 | 0,_,ba=>ba
 | dx+1,i0,ba=>eH ab dx (i0+1) (ba.set i0 ((i0:Nat):Int))
theorem yU {d:Nat} {h:az} (au:AV) (ab:List Task) (bj:Nat) (bp:aO h au ab) (fU:∀i,i<ab.length→∀q,q<(ab.g i).aD.length→0≤(ab.g i).aD.g q∧(ab.g i).aD.g q<(ab.length:Int)) (iB:ab.length≤100000) (bM:Tidy h) (tC:h.nx≤bj):∀(k_ i_:Nat) (ba:List Int) (_:i_+k_=ab.length) (_:(∀q,q<(ba).length→0≤(ba).g q∧(ba).g q<(ab.length:Int))) (x:Nat→AV) (hh:az) (aF:Tidy hh) (aA:Has h hh) (fN:h.nx≤hh.nx) (kc:ba.length=ab.length) (br:hh.get bj=some (aN.cells (zs .i64 ba) 3 false)),bY (σ:=List Int) (ρ:=Unit) (cA (d+5)) LI ⟨(au::(x 1)::(x 2)::(AV.slice bj 0 ab.length ab.length false)::rx x 4 5 ((Zn ab.length)::(Zn i_)::rx x 11 13 [])),hh,[],.no⟩ (.exit 0) hh (fun r z y=>(au::(y 1)::(y 2)::(AV.slice bj 0 ab.length ab.length false)::rx y 4 5 ((Zn ab.length)::rx y 10 14 []))) (fun r z y=>(au::(y 1)::(y 2)::(AV.slice bj 0 ab.length ab.length false)::rx y 4 5 ((Zn ab.length)::rx y 10 14 []))) (fun r z hk=>Has h hk∧hk.get bj=some (aN.cells (zs .i64 r) 3 false)∧r.length=ab.length∧(∀q,q<(r).length→0≤(r).g q∧(r).g q<(ab.length:Int))) (fun r z hk=>Has h hk) (Sum.inl (eH ab k_ i_ ba))
 | 0,i0,ba,eZ,du,x,hh,aF,aA,fN,kc,br=>by
  have q1:(decide (((i0:Nat):Int)<((ab.length:Nat):Int)))=false:=d!
  exact bY.out ba aL rfl (pk (d+5) _ _ hh _ hh (VV (bE 3 false false .i64 ((i0:Nat):Int) ((ab.length:Nat):Int))<|BB q1<|ZZ) k!) aF o! ⟨aA,br,mU,(show (∀q,q<(ba).length→0≤(ba).g q∧(ba).g q<(ab.length:Int)) from (by first | exact du | exact tT du o! o!))⟩ k!
 | dx+1,i0,ba,eZ,du,x,hh,aF,aA,fN,kc,br=>by
  have gN:=bp.small
  have tD:=aF _ _ br
  have q1:(decide (((i0:Nat):Int)<((ab.length:Nat):Int)))=true:=d!
  have gh:hG env (some (.slice 3)) (some (AV.slice bj 0 ab.length ab.length false)) (some (Zn i0))=some (AV.ptr bj i0):=ic k! (show i0<ab.length by omega) o!
  obtain ⟨h3,akl⟩:∃De:az,De=hh.put bj (some (aN.cells (zs .i64 (ba.set i0 ((i0:Nat):Int))) 3 false)):=⟨_,rfl⟩
  have arR:eS env hh 3 (AV.ptr bj i0) (Zn i0)=some h3:=by rw[akl];exact yD k! br mU
  have akm:Ll hh h3 bj (aN.cells (zs .i64 (ba.set i0 ((i0:Nat):Int))) 3 false):=by rw[akl];exact jL aF br
  have om:=akm.1
  have akn:h3.nx=hh.nx:=by rw[akl];rfl
  have fl:=akm.has aA bM o!
  have u4:=eA 3 false true i0 1 o!
  exact bY.round (congrArg Sum.inl (by simp only[eH,ao,ai])) (pk (d+5) _ _ hh _ h3 (VV (bE 3 false false .i64 ((i0:Nat):Int) ((ab.length:Nat):Int))<|BB q1<|CN 5<|VV gh<|SS arR<|VV u4<|CC<|ZZ) k!) o! _ k! (fun x=>yU au ab bj bp fU iB bM tC dx (i0+1) (ba.set i0 ((i0:Nat):Int)) o! (show (∀q,q<((ba.set i0 ((i0:Nat):Int))).length→0≤((ba.set i0 ((i0:Nat):Int))).g q∧((ba.set i0 ((i0:Nat):Int))).g q<(ab.length:Int)) from (by first | exact du | exact tT du o! o!)) x h3 om fl o! mU akm.2.1)
def eQ (ab:List Task):List Int:=(bf ab (eH ab ab.length 0 (List.replicate ab.length 0)) (List.replicate ab.length false))
theorem RV {d:Nat} {h:az} {au:AV} (ab:List Task) (oa:aO h au ab) (mf:∀i,i<ab.length→∀q,q<(ab.g i).aD.length→0≤(ab.g i).aD.g q∧(ab.g i).aD.g q<(ab.length:Int)) (oQ:ab.length≤100000) (bM:Tidy h):∃z hk,cA (d+6) (.fn 65) [au] h= .ret z hk∧Grow h hk∧bT hk .i64 3 z (eQ ab)∧eG 3 h hk z (zs .i64 (eQ ab)):=by
 have Za:=oa.small
 have gd:=oa.len
 have mk2:CH env (some (.slice 3)) (some (Zn ab.length)) (some (Zn ab.length))=some (aN.cells (cB [(Zi 0)] ab.length) 3 false,fun i=>AV.slice i 0 ab.length ab.length false):=sw (bytes:=8) (z:=(Zi 0)) k! k! k! rfl (by decide) o!
 obtain ⟨h3,acw,om,akn,Zd,Fq⟩:=gQ bM (aN.cells (cB [(Zi 0)] ab.length) 3 false)
 have fl:=Fq
 have aog:h3.get h.nx=some (aN.cells (zs .i64 (List.replicate ab.length 0)) 3 false):=by have q:=Zd;rw[Od] at q;exact q
 obtain ⟨zo6,Dl,h5,ep,mP,agh,WH,ako,ajP,W1⟩:=bY.n rfl (yU (d:=d) (h:=h) au ab h.nx oa a! o! bM o! ab.length 0 (List.replicate ab.length 0) o! (show (∀q,q<((List.replicate ab.length 0)).length→0≤((List.replicate ab.length 0)).g q∧((List.replicate ab.length 0)).g q<(ab.length:Int)) from (agA)) (dr (au::aL::AV.aw::(AV.slice h.nx 0 ab.length ab.length false)::aL::au::(Zn ab.length)::(AV.slice h.nx 0 ab.length ab.length false)::(AV.slice h.nx 0 ab.length ab.length false)::(Zn ab.length)::(Zi 0)::iW 13)) h3 om fl o! mU aog)
 have fO:=WH
 have ln7:=oa.len
 have mk8:CH env (some (.slice 4)) (some (Zn ab.length)) (some (Zn ab.length))=some (aN.cells (cB [(AV.bool false)] ab.length) 4 false,fun i=>AV.slice i 0 ab.length ab.length false):=sw (bytes:=1) (z:=(AV.bool false)) k! k! k! rfl (by decide) o!
 obtain ⟨h9,ajZ,uw,anZ,ago,Da⟩:=gQ mP (aN.cells (cB [(AV.bool false)] ab.length) 4 false)
 have nz:=fO.trans Da
 have OP:=Da
 have aoh:h9.get h5.nx=some (aN.cells (bs (List.replicate ab.length false)) 4 false):=by have q:=ago;rw[EY] at q;exact q
 obtain ⟨W2,pH,Rw,dj,arS,aoi⟩:=Dt (d:=d) ab (eH ab ab.length 0 (List.replicate ab.length 0)) (List.replicate ab.length false) h5.nx ab.length false (oa.has nz) (bT.own (op:=false) (n:=ab.length) k! k! (Da _ _ ako) mU o!) aoh mU o! pv pv pv pv pv uw
 have hD:=dj.y
 have Dc:h9.nx≤pH.nx:=dj.n
 have eT:=nz.trans dj.a
 have aoj:=OP.trans dj.a
 have arT:=arS.small
 have e:eQ ab=(bf ab (eH ab ab.length 0 (List.replicate ab.length 0)) (List.replicate ab.length false)):=by simp only[eQ,ao,ai]
 rw[e]
 have oz:=eG.le (h0:=h) aoi o!
 exact ⟨W2,pS rfl (aY Tryz.func65 RS rfl (.inr rfl) (pk (d+5) _ _ h _ pH (CN 2<|VV gd<|KK mk2 acw<|CN 4<|LL ep<|CN 3<|VV ln7<|KK mk8 ajZ<|EE Rw<|CC<|ZZ) k!) k!) bM ⟨hD,eT,by omega⟩ (P:=fun hh=>bT hh .i64 3 W2 (bf ab (eH ab ab.length 0 (List.replicate ab.length 0)) (List.replicate ab.length false))∧eG 3 h hh W2 (zs .i64 (bf ab (eH ab ab.length 0 (List.replicate ab.length 0)) (List.replicate ab.length false)))) ⟨oz.zs o! k! k!,oz⟩ fun v=>⟨oz.aby v k! k!,oz.abD v⟩⟩
def qK:Code:=(Tryz.f62.body).getD .skip
theorem pw:Tryz.f62.body=some qK:=by kernel_rfl
def Ao:Code:=(bl qK).getD 0 .skip
def dg (P:Nat→Int) (ct:List Task):Nat→Nat→Option (Int)
 | 0,_=>none
 | dx+1,i0=>(bif (!decide ((P i0)=0)) then some (P i0) else dg P ct dx (i0+1))
theorem qL {d:Nat} {h:az} (cj:AV) (g:FuncId) (cap:List AV) (ct:List Task) (P:Nat→Int) (bp:aO h cj ct) (hP:∀j,j<ct.length→∀aV hh,Tidy hh→Has h hh→aO hh aV (ct.take j)→cA d (.fn g) (aV:: .agg (aK.c (ct.g j))::cap) hh= .ret (.int .i64 (P j)) hh):∀(k_ i_:Nat) (_:i_+k_=ct.length) (x:Nat→AV) (hh:az) (aF:Tidy hh) (aA:Has h hh),aC (cA (d)) Ao ⟨(cj::(x 1)::(AV.func g [] cap)::rx x 3 11 (cj::(Zn ct.length)::(Zn i_)::rx x 17 14 [])),hh,[],.no⟩ (.exit 0) hh (fun y=>(cj::(y 1)::(AV.func g [] cap)::rx y 3 11 (cj::(Zn ct.length)::rx y 16 15 []))) (fun r y=>(cj::(y 1)::(AV.func g [] cap)::rx y 3 3 ((Zi r)::rx y 7 7 (cj::(Zn ct.length)::rx y 16 15 [])))) (dg P ct k_ i_)
 | 0,i0,eZ,x,hh,aF,aA=>by
  have q1:(decide (((i0:Nat):Int)<((ct.length:Nat):Int)))=false:=d!
  exact aC.out rfl (pk (d) _ _ hh _ hh (VV (bE 3 false false .i64 ((i0:Nat):Int) ((ct.length:Nat):Int))<|BB q1<|ZZ) k!) (Grow.refl aF) k!
 | dx+1,i0,eZ,x,hh,aF,aA=>by
  have gN:=bp.small
  have q1:(decide (((i0:Nat):Int)<((ct.length:Nat):Int)))=true:=d!
  obtain ⟨p3,q4,gh⟩:=(bp.has aA).elem (i:=i0) o!
  have kN:=(bp.has aA).load o! gh
  obtain ⟨h6,kV,ig,uz,jc,bB⟩:=gQ aF (aN.cells [(AV.str []),(Zi 0),AV.aw,AV.aw] 48 false)
  have gL:=bB
  have C6:=(((bp.has aA).ok (i:=i0) o!).2.1).scalar
  have MQ:=(((bp.has aA).ok (i:=i0) o!).2.2).scalar
  obtain ⟨h7,jw,dM,r5,dS,aX⟩:=j_ (t:=48) (n:=4) (i:=hh.nx) (L:=[(AV.str (ct.g i0).name),(Zi (ct.g i0).takes),(ct.g i0).bh,(ct.g i0).bo]) ig jc k! rfl rfl (kJ rfl (kJ rfl (kJ C6 (kJ MQ rfl))))
  have cV:=Has.bK gL aX aF o!
  obtain ⟨r10,aok,arU⟩:=(bp.has aA).pre (t:=22) k! (i:=i0) o!
  have abI:iY env 22 cj (none) (some (Zn i0)) (none)=some r10:=aok
  have k13:=hP i0 o! r10 h7 dM (aA.trans cV) (arU.has cV)
  have WL:AV.same 20 (AV.agg [(AV.str (ct.g i0).name),(Zi (ct.g i0).takes),(ct.g i0).bh,(ct.g i0).bo]) (AV.agg [(AV.str (ct.g i0).name),(Zi (ct.g i0).takes),(ct.g i0).bh,(ct.g i0).bo])=true:=dK 18 (kK (fun n=>j8 n _) (kK (fun n=>aS n _ _) (kK ((bp.has aA).ok (i:=i0) o!).2.1.same (kK ((bp.has aA).ok (i:=i0) o!).2.2.same CK))))
  have ei:=fun {al ps} (k:Pk al _ ps)=>(VV (bE 3 false false .i64 ((i0:Nat):Int) ((ct.length:Nat):Int))<|BC q1<|VV gh<|MM kN<|NN kV (fun i=>(Pt i))<|CC<|SS jw<|CN 3<|QQ abI<|MM (aP 48 0 (AV.agg [(AV.str (ct.g i0).name),(Zi (ct.g i0).takes),(ct.g i0).bh,(ct.g i0).bo]) dS k!)<|EE k13<|CC<|HH (aP 48 0 (AV.agg [(AV.str (ct.g i0).name),(Zi (ct.g i0).takes),(ct.g i0).bh,(ct.g i0).bo]) dS k!)<|HH WL<|CC<|VV (kt 31 false true .i64 (P i0) 0)<|k:Pk _ [] ps)
  rcases bu (!decide ((P i0)=0)) with f1 | f1
  · have eB:=Eu f1
    exact aC.ret (P i0) (by simp only[dg,f1,ao,ai]) (pk (d) _ _ hh _ h7 (ei<|BB f1<|CN 2<|ZZ) k!) (⟨dM,cV,by omega⟩) k!
  · have eB:=Ew f1
    have u16:=eA 3 false true i0 1 o!
    exact aC.round (by simp only[dg,f1,ao,ai]) (pk (d) _ _ hh _ h7 (ei<|BV f1 u16<|CC<|ZZ) k!) (⟨dM,cV,by omega⟩) _ k! (fun x=>qL cj g cap ct P bp hP dx (i0+1) o! x h7 dM (aA.trans cV))
def bH (ct:List Task) (eD:Int) (P:Nat→Int):Int:=(bif (decide (eD<((ct.length:Nat):Int))) then 3 else (match (dg P ct ct.length 0) with | none=>0 | some Bz=>Bz))
theorem Du {d:Nat} {h:az} {cj:AV} {g:FuncId} {cap:List AV} (ct:List Task) (eD:Int) (P:Nat→Int) (lH:aO h cj ct) (hP:∀j,j<ct.length→∀aV hh,Tidy hh→Has h hh→aO hh aV (ct.take j)→cA d (.fn g) (aV:: .agg (aK.c (ct.g j))::cap) hh= .ret (.int .i64 (P j)) hh) (bM:Tidy h):cA (d+1) (.fn 62) [cj,(Zi eD),(AV.func g [] cap)] h= .ret (Zi (bH ct eD P)) h:=by
 have gd:=lH.len
 have gK:=fun {al ps} (k:Pk al _ ps)=>(CN 2<|VV gd<|CC<|VV (gz 3 false false .i64 ((ct.length:Nat):Int) eD)<|k:Pk _ [] ps)
 rcases bu (decide (eD<((ct.length:Nat):Int))) with f0 | f0
 · have e:bH ct eD P=3:=by simp only[bH,f0,ao,ai]
   rw[e]
   exact aG rfl (aY Tryz.func62 pw rfl (.inr rfl) (pk (d) _ _ h _ h (gK<|BC f0<|ZZ) k!) k!) (Has.refl _) rfl
 · have ML:=lH.len
   have JC:=qL (d:=d) (h:=h) cj g cap ct P lH hP ct.length 0 o! (dr (cj::(Zi eD)::(AV.func g [] cap)::aL::aL::aL::(Zi 0)::aL::aL::aL::cj::(Zn ct.length)::(Zi eD)::(AV.bool (decide (eD<((ct.length:Nat):Int))))::cj::(Zn ct.length)::(Zi 0)::iW 14)) h bM (Has.refl _)
   cases dX:dg P ct ct.length 0 with
   | none=>
    obtain ⟨Dl,h5,ep,jf⟩:=aC.n dX JC
    have fO:=jf.a
    have e:bH ct eD P=0:=by simp only[bH,f0,dX,ao,ai]
    rw[e]
    exact aG rfl (aY Tryz.func62 pw rfl (.inr rfl) (pk (d) _ _ h _ h5 (gK<|BC f0<|VV ML<|CC<|LL ep<|CC<|ZZ) k!) k!) fO rfl
   | some Bz=>
    obtain ⟨Dl,h5,ep,jf⟩:=aC.r dX JC
    have fO:=jf.a
    have e:bH ct eD P=Bz:=by simp only[bH,f0,dX,ao,ai]
    rw[e]
    exact aG rfl (aY Tryz.func62 pw rfl (.inr rfl) (pk (d) _ _ h _ h5 (gK<|BC f0<|VV ML<|CC<|LL ep<|ZZ) k!) k!) fO rfl
def nO:Code:=(Tryz.f60.body).getD .skip
theorem lZ:Tryz.f60.body=some nO:=by kernel_rfl
def vp:Code:=(bl nO).getD 0 .skip
def ch (P:Nat→Int) (ct:List aR):Nat→Nat→Option (Int)
 | 0,_=>none
 | dx+1,i0=>(bif (!decide ((P i0)=0)) then some (P i0) else ch P ct dx (i0+1))
theorem nP {d:Nat} {h:az} (cj:AV) (g:FuncId) (cap:List AV) (ct:List aR) (P:Nat→Int) (bp:aO h cj ct) (hP:∀j,j<ct.length→∀aV hh,Tidy hh→Has h hh→aO hh aV (ct.take j)→cA d (.fn g) (aV:: .agg (aK.c (ct.g j))::cap) hh= .ret (.int .i64 (P j)) hh):∀(k_ i_:Nat) (_:i_+k_=ct.length) (x:Nat→AV) (hh:az) (aF:Tidy hh) (aA:Has h hh),aC (cA (d)) vp ⟨(cj::(x 1)::(AV.func g [] cap)::rx x 3 11 (cj::(Zn ct.length)::(Zn i_)::rx x 17 14 [])),hh,[],.no⟩ (.exit 0) hh (fun y=>(cj::(y 1)::(AV.func g [] cap)::rx y 3 11 (cj::(Zn ct.length)::rx y 16 15 []))) (fun r y=>(cj::(y 1)::(AV.func g [] cap)::rx y 3 3 ((Zi r)::rx y 7 7 (cj::(Zn ct.length)::rx y 16 15 [])))) (ch P ct k_ i_)
 | 0,i0,eZ,x,hh,aF,aA=>by
  have q1:(decide (((i0:Nat):Int)<((ct.length:Nat):Int)))=false:=d!
  exact aC.out rfl (pk (d) _ _ hh _ hh (VV (bE 3 false false .i64 ((i0:Nat):Int) ((ct.length:Nat):Int))<|BB q1<|ZZ) k!) (Grow.refl aF) k!
 | dx+1,i0,eZ,x,hh,aF,aA=>by
  have gN:=bp.small
  have q1:(decide (((i0:Nat):Int)<((ct.length:Nat):Int)))=true:=d!
  obtain ⟨p3,q4,gh⟩:=(bp.has aA).elem (i:=i0) o!
  have kN:=(bp.has aA).load o! gh
  obtain ⟨h6,kV,ig,uz,jc,bB⟩:=gQ aF (aN.cells [(AV.str []),(Zi 0),AV.aw] 45 false)
  have gL:=bB
  have C6:=(((bp.has aA).ok (i:=i0) o!).2).scalar
  obtain ⟨h7,jw,dM,r5,dS,aX⟩:=j_ (t:=45) (n:=3) (i:=hh.nx) (L:=[(AV.str (ct.g i0).name),(Zi (ct.g i0).aI),(ct.g i0).cJ]) ig jc k! rfl rfl (kJ rfl (kJ rfl (kJ C6 rfl)))
  have cV:=Has.bK gL aX aF o!
  obtain ⟨r9,aol,arV⟩:=(bp.has aA).pre (t:=23) k! (i:=i0) o!
  have arW:iY env 23 cj (none) (some (Zn i0)) (none)=some r9:=aol
  have k12:=hP i0 o! r9 h7 dM (aA.trans cV) (arV.has cV)
  have Y2:AV.same 20 (AV.agg [(AV.str (ct.g i0).name),(Zi (ct.g i0).aI),(ct.g i0).cJ]) (AV.agg [(AV.str (ct.g i0).name),(Zi (ct.g i0).aI),(ct.g i0).cJ])=true:=dK 18 (kK (fun n=>j8 n _) (kK (fun n=>aS n _ _) (kK ((bp.has aA).ok (i:=i0) o!).2.same CK)))
  have ei:=fun {al ps} (k:Pk al _ ps)=>(VV (bE 3 false false .i64 ((i0:Nat):Int) ((ct.length:Nat):Int))<|BC q1<|VV gh<|MM kN<|NN kV (fun i=>(Pt i))<|CC<|SS jw<|CN 3<|QQ arW<|MM (aP 45 0 (AV.agg [(AV.str (ct.g i0).name),(Zi (ct.g i0).aI),(ct.g i0).cJ]) dS k!)<|EE k12<|CC<|HH (aP 45 0 (AV.agg [(AV.str (ct.g i0).name),(Zi (ct.g i0).aI),(ct.g i0).cJ]) dS k!)<|HH Y2<|CC<|VV (kt 31 false true .i64 (P i0) 0)<|k:Pk _ [] ps)
  rcases bu (!decide ((P i0)=0)) with f1 | f1
  · have eB:=Eu f1
    exact aC.ret (P i0) (by simp only[ch,f1,ao,ai]) (pk (d) _ _ hh _ h7 (ei<|BB f1<|CN 2<|ZZ) k!) (⟨dM,cV,by omega⟩) k!
  · have eB:=Ew f1
    have u15:=eA 3 false true i0 1 o!
    exact aC.round (by simp only[ch,f1,ao,ai]) (pk (d) _ _ hh _ h7 (ei<|BV f1 u15<|CC<|ZZ) k!) (⟨dM,cV,by omega⟩) _ k! (fun x=>nP cj g cap ct P bp hP dx (i0+1) o! x h7 dM (aA.trans cV))
def bz (ct:List aR) (eD:Int) (P:Nat→Int):Int:=(bif (decide (eD<((ct.length:Nat):Int))) then 3 else (match (ch P ct ct.length 0) with | none=>0 | some Bz=>Bz))
theorem xX {d:Nat} {h:az} {cj:AV} {g:FuncId} {cap:List AV} (ct:List aR) (eD:Int) (P:Nat→Int) (lH:aO h cj ct) (hP:∀j,j<ct.length→∀aV hh,Tidy hh→Has h hh→aO hh aV (ct.take j)→cA d (.fn g) (aV:: .agg (aK.c (ct.g j))::cap) hh= .ret (.int .i64 (P j)) hh) (bM:Tidy h):cA (d+1) (.fn 60) [cj,(Zi eD),(AV.func g [] cap)] h= .ret (Zi (bz ct eD P)) h:=by
 have gd:=lH.len
 have gK:=fun {al ps} (k:Pk al _ ps)=>(CN 2<|VV gd<|CC<|VV (gz 3 false false .i64 ((ct.length:Nat):Int) eD)<|k:Pk _ [] ps)
 rcases bu (decide (eD<((ct.length:Nat):Int))) with f0 | f0
 · have e:bz ct eD P=3:=by simp only[bz,f0,ao,ai]
   rw[e]
   exact aG rfl (aY Tryz.func60 lZ rfl (.inr rfl) (pk (d) _ _ h _ h (gK<|BC f0<|ZZ) k!) k!) (Has.refl _) rfl
 · have ML:=lH.len
   have JC:=nP (d:=d) (h:=h) cj g cap ct P lH hP ct.length 0 o! (dr (cj::(Zi eD)::(AV.func g [] cap)::aL::aL::aL::(Zi 0)::aL::aL::aL::cj::(Zn ct.length)::(Zi eD)::(AV.bool (decide (eD<((ct.length:Nat):Int))))::cj::(Zn ct.length)::(Zi 0)::iW 14)) h bM (Has.refl _)
   cases dX:ch P ct ct.length 0 with
   | none=>
    obtain ⟨Dl,h5,ep,jf⟩:=aC.n dX JC
    have fO:=jf.a
    have e:bz ct eD P=0:=by simp only[bz,f0,dX,ao,ai]
    rw[e]
    exact aG rfl (aY Tryz.func60 lZ rfl (.inr rfl) (pk (d) _ _ h _ h5 (gK<|BC f0<|VV ML<|CC<|LL ep<|CC<|ZZ) k!) k!) fO rfl
   | some Bz=>
    obtain ⟨Dl,h5,ep,jf⟩:=aC.r dX JC
    have fO:=jf.a
    have e:bz ct eD P=Bz:=by simp only[bz,f0,dX,ao,ai]
    rw[e]
    exact aG rfl (aY Tryz.func60 lZ rfl (.inr rfl) (pk (d) _ _ h _ h5 (gK<|BC f0<|VV ML<|CC<|LL ep<|ZZ) k!) k!) fO rfl
end
end Go.Proofs.aM
