import Derived.Test.YtmbkbhleedecdaaGreatDoorW0
import Derived.Test.YtmbkbhleedecdaaGreatDoorW1
namespace Go.Proofs.aM
open Go.Proofs Ab
noncomputable section
set_option maxRecDepth 100000
set_option maxHeartbeats 4000000
set_option linter.unusedVariables false
set_option linter.unusedSimpArgs false
def uL:Code:=(Tryz.f29.body).getD .skip
theorem ei:Tryz.f29.body=some uL:=by kernel_rfl
def bf (cA:List aL) (m:aL):Int:=(bif (!(dQ m.name)) then 5 else (bif (!(dQ m.ba)) then 5 else (bif (dr cA (fun y=>fF y m)) then 6 else (bif (!(eh m.bx)) then 1 else (bif (!(eh m.eK)) then 1 else (bif (!(eh m.bm)) then 1 else (bif (dr cA (fun y=>dh y m)) then 10 else 0)))))))
theorem yO {d:Nat} {h:ax} {cy:AV} (cA:List aL) (m:aL) (dG:aJ h cy cA) (FK:aH.ok h m) (ca:Tidy h):cT (d+5) (.fn 29) [cy,(AV.agg [(AV.str m.name),(AV.str m.ba),(Zi m.bx),(Zi m.eK),(Zi m.bm)])] h= .ret (Zi (bf cA m)) h:=by
 have qn:=dG.small
 obtain ⟨h1,br,cD,lh,aA,dC⟩:=lk ca (aK.cells [(AV.str m.name),(AV.str m.ba),(Zi m.bx),(Zi m.eK),(Zi m.bm)] 45 false)
 have bB:Has h h1:=dC
 have k2:=rp (d:=d+3) m.name FK.1 cD
 rcases Bool.eq_false_or_eq_true (!(dQ m.name)) with f0 | f0
 · have e:bf cA m=5:=by simp only[bf,f0,ak,ah]
   rw[e]
   exact aw rfl (aI Tryz.func29 ei rfl (.inr rfl) (pk (d+4) _ _ h _ h1 (NN br (fun i=>(Pt i))<|CN 2<|MM (ao 9 0 (AV.str m.name) aA k!)<|EE k2<|CN 2<|BB f0<|BC f0<|ZZ) k!) k!) bB rfl
 · have k4:=rp (d:=d+3) m.ba FK.2 cD
   rcases Bool.eq_false_or_eq_true (!(dQ m.ba)) with f1 | f1
   · have e:bf cA m=5:=by simp only[bf,f0,f1,ak,ah]
     rw[e]
     exact aw rfl (aI Tryz.func29 ei rfl (.inr rfl) (pk (d+4) _ _ h _ h1 (NN br (fun i=>(Pt i))<|CN 2<|MM (ao 9 0 (AV.str m.name) aA k!)<|EE k2<|CN 2<|BC f0<|MM (ao 9 1 (AV.str m.ba) aA k!)<|EE k4<|CN 2<|BC f1<|ZZ) k!) k!) bB rfl
   · have k6:=mZ (d:=d+2) cA (fun y=>fF y m) (dG.has bB) (fun y hy hh yy aa=>xp (d:=d+1) y m h.nx (aH.mono aa ((dG.has bB).SL y hy)) (aH.mono aa (aH.mono bB FK)) (aa _ _ aA) yy) cD
     rcases Bool.eq_false_or_eq_true (dr cA (fun y=>fF y m)) with f2 | f2
     · have e:bf cA m=6:=by simp only[bf,f0,f1,f2,ak,ah]
       rw[e]
       exact aw rfl (aI Tryz.func29 ei rfl (.inr rfl) (pk (d+4) _ _ h _ h1 (NN br (fun i=>(Pt i))<|CN 2<|MM (ao 9 0 (AV.str m.name) aA k!)<|EE k2<|CN 2<|BC f0<|MM (ao 9 1 (AV.str m.ba) aA k!)<|EE k4<|CN 2<|BB f1<|CN 2<|EE k6<|CC<|BC f2<|ZZ) k!) k!) bB rfl
     · have k8:=n8 (d:=d+2) m.bx cD
       rcases Bool.eq_false_or_eq_true (!(eh m.bx)) with f3 | f3
       · have e:bf cA m=1:=by simp only[bf,f0,f1,f2,f3,ak,ah]
         rw[e]
         exact aw rfl (aI Tryz.func29 ei rfl (.inr rfl) (pk (d+4) _ _ h _ h1 (NN br (fun i=>(Pt i))<|CN 2<|MM (ao 9 0 (AV.str m.name) aA k!)<|EE k2<|CN 2<|BC f0<|MM (ao 9 1 (AV.str m.ba) aA k!)<|EE k4<|CN 2<|BB f1<|CN 2<|EE k6<|CC<|BC f2<|MM (ao 3 2 (Zi m.bx) aA k!)<|EE k8<|CN 2<|BB f3<|BC f3<|ZZ) k!) k!) bB rfl
       · have xb:=n8 (d:=d+2) m.eK cD
         rcases Bool.eq_false_or_eq_true (!(eh m.eK)) with f4 | f4
         · have e:bf cA m=1:=by simp only[bf,f0,f1,f2,f3,f4,ak,ah]
           rw[e]
           exact aw rfl (aI Tryz.func29 ei rfl (.inr rfl) (pk (d+4) _ _ h _ h1 (NN br (fun i=>(Pt i))<|CN 2<|MM (ao 9 0 (AV.str m.name) aA k!)<|EE k2<|CN 2<|BC f0<|MM (ao 9 1 (AV.str m.ba) aA k!)<|EE k4<|CN 2<|BB f1<|CN 2<|EE k6<|CC<|BC f2<|MM (ao 3 2 (Zi m.bx) aA k!)<|EE k8<|CN 2<|BC f3<|MM (ao 3 3 (Zi m.eK) aA k!)<|EE xb<|CN 2<|BB f4<|BC f4<|ZZ) k!) k!) bB rfl
         · have Jg:=n8 (d:=d+2) m.bm cD
           rcases Bool.eq_false_or_eq_true (!(eh m.bm)) with f5 | f5
           · have e:bf cA m=1:=by simp only[bf,f0,f1,f2,f3,f4,f5,ak,ah]
             rw[e]
             exact aw rfl (aI Tryz.func29 ei rfl (.inr rfl) (pk (d+4) _ _ h _ h1 (NN br (fun i=>(Pt i))<|CN 2<|MM (ao 9 0 (AV.str m.name) aA k!)<|EE k2<|CN 2<|BC f0<|MM (ao 9 1 (AV.str m.ba) aA k!)<|EE k4<|CN 2<|BB f1<|CN 2<|EE k6<|CC<|BC f2<|MM (ao 3 2 (Zi m.bx) aA k!)<|EE k8<|CN 2<|BC f3<|MM (ao 3 3 (Zi m.eK) aA k!)<|EE xb<|CN 2<|BC f4<|MM (ao 3 4 (Zi m.bm) aA k!)<|EE Jg<|CN 2<|BC f5<|ZZ) k!) k!) bB rfl
           · have Qk:=mZ (d:=d+2) cA (fun y=>dh y m) (dG.has bB) (fun y hy hh yy aa=>xq (d:=d+1) y m h.nx (aH.mono aa ((dG.has bB).SL y hy)) (aH.mono aa (aH.mono bB FK)) (aa _ _ aA) yy) cD
             rcases Bool.eq_false_or_eq_true (dr cA (fun y=>dh y m)) with f6 | f6
             · have e:bf cA m=10:=by simp only[bf,f0,f1,f2,f3,f4,f5,f6,ak,ah]
               rw[e]
               exact aw rfl (aI Tryz.func29 ei rfl (.inr rfl) (pk (d+4) _ _ h _ h1 (NN br (fun i=>(Pt i))<|CN 2<|MM (ao 9 0 (AV.str m.name) aA k!)<|EE k2<|CN 2<|BC f0<|MM (ao 9 1 (AV.str m.ba) aA k!)<|EE k4<|CN 2<|BB f1<|CN 2<|EE k6<|CC<|BC f2<|MM (ao 3 2 (Zi m.bx) aA k!)<|EE k8<|CN 2<|BC f3<|MM (ao 3 3 (Zi m.eK) aA k!)<|EE xb<|CN 2<|BC f4<|MM (ao 3 4 (Zi m.bm) aA k!)<|EE Jg<|CN 2<|BB f5<|CN 2<|EE Qk<|CC<|BC f6<|ZZ) k!) k!) bB rfl
             · have e:bf cA m=0:=by simp only[bf,f0,f1,f2,f3,f4,f5,f6,ak,ah]
               rw[e]
               exact aw rfl (aI Tryz.func29 ei rfl (.inr rfl) (pk (d+4) _ _ h _ h1 (NN br (fun i=>(Pt i))<|CN 2<|MM (ao 9 0 (AV.str m.name) aA k!)<|EE k2<|CN 2<|BC f0<|MM (ao 9 1 (AV.str m.ba) aA k!)<|EE k4<|CN 2<|BB f1<|CN 2<|EE k6<|CC<|BC f2<|MM (ao 3 2 (Zi m.bx) aA k!)<|EE k8<|CN 2<|BC f3<|MM (ao 3 3 (Zi m.eK) aA k!)<|EE xb<|CN 2<|BC f4<|MM (ao 3 4 (Zi m.bm) aA k!)<|EE Jg<|CN 2<|BB f5<|CN 2<|EE Qk<|CC<|BC f6<|ZZ) k!) k!) bB rfl
def vK:Code:=(Tryz.f88.body).getD .skip
theorem Ae:Tryz.f88.body=some vK:=by kernel_rfl
def gS (o:bn) (c:bn):Bool:=(decide (o.name=c.name))
theorem Af {d:Nat} {h:ax} (o:bn) (c:bn) (cB:Nat) (Gt:aH.ok h o) (h_c:aH.ok h c) (Qt:h.get cB=some (.cells (aH.c c) 28 false)) (ca:Tidy h):cT (d+1) (.fn 88) [(AV.agg [(AV.str o.name),(Zi o.acc),(Zi o.aW),(Zi o.since)]),(Pt cB)] h= .ret (AV.bool (gS o c)) h:=by
 obtain ⟨h1,br,cD,lh,aA,dC⟩:=lk ca (aK.cells [(AV.str o.name),(Zi o.acc),(Zi o.aW),(Zi o.since)] 28 false)
 have bB:Has h h1:=dC
 have e:gS o c=(decide (o.name=c.name)):=by simp only[gS,ak,ah]
 rw[e]
 exact aw rfl (aI Tryz.func88 Ae rfl (.inr rfl) (pk (d) _ _ h _ h1 (NN br (fun i=>(Pt i))<|CN 2<|MM (ao 9 0 (AV.str o.name) aA k!)<|CC<|MM (ao 9 0 (AV.str c.name) (dC _ _ Qt) k!)<|VV (ni 9 false false o.name c.name)<|CC<|ZZ) k!) k!) bB rfl
def pt:Code:=(Tryz.f106.body).getD .skip
theorem sY:Tryz.f106.body=some pt:=by kernel_rfl
def yP:Code:=(b5 pt).getD 0 .skip
def dS (s:List bn) (P:bn→Bool):Nat→Nat→Option (Int)
 | 0,_=>none
 | eC+1,i0=>(bif (P (s.g i0)) then some ((i0:Nat):Int) else dS s P eC (i0+1))
theorem lF {d:Nat} {h:ax} (sV:AV) (g:FuncId) (cap:List AV) (s:List bn) (P:bn→Bool) (bh:aJ h sV s) (hP:∀y∈s,∀hh,Tidy hh→Has h hh→cT d (.fn g) (.agg (aH.c y)::cap) hh= .ret (.bool (P y)) hh):∀(k_ i_:Nat) (_:i_+k_=s.length) (x:Nat→AV) (hh:ax) (aF:Tidy hh) (aG:Has h hh),aB (cT (d)) yP ⟨(sV::(AV.func g [] cap)::rx x 2 5 ((Zn s.length)::(Zn i_)::rx x 9 10 [])),hh,[],.no⟩ (.exit 0) hh (fun y=>(sV::(AV.func g [] cap)::rx y 2 5 ((Zn s.length)::rx y 8 11 []))) (fun r y=>(sV::(AV.func g [] cap)::(y 2)::(y 3)::(Zi r)::(y 5)::(y 6)::(Zn s.length)::rx y 8 11 [])) (dS s P k_ i_)
 | 0,i0,jh,x,hh,aF,aG=>by
   have dp:=bh.small
   have q1:(decide (((i0:Nat):Int)<((s.length:Nat):Int)))=false:=d!
   exact aB.out rfl (pk (d) _ _ hh _ hh (VV (aY 3 false false .i64 ((i0:Nat):Int) ((s.length:Nat):Int))<|BB q1<|ZZ) k!) (bW.refl aF) k!
 | eC+1,i0,jh,x,hh,aF,aG=>by
   have dp:=bh.small
   have q1:(decide (((i0:Nat):Int)<((s.length:Nat):Int)))=true:=d!
   obtain ⟨p3,q4,eD⟩:=(bh.has aG).elem (i:=i0) o!
   have ik:b8 env (some (.slice 28)) (some sV) (some (Zn i0))=some (AV.ptr p3 q4):=eD
   have ji:bS env hh 28 (AV.ptr p3 q4)=some (AV.agg [(AV.str (s.g i0).name),(Zi (s.g i0).acc),(Zi (s.g i0).aW),(Zi (s.g i0).since)]):=(bh.has aG).load o! eD
   have k6:=hP (s.g i0) (BF o!) hh aF aG
   rcases Bool.eq_false_or_eq_true (P (s.g i0)) with f1 | f1
   · exact aB.ret ((i0:Nat):Int) (by simp only[dS,f1,ak,ah]) (pk (d) _ _ hh _ hh (VV (aY 3 false false .i64 ((i0:Nat):Int) ((s.length:Nat):Int))<|BB q1<|CN 5<|VV ik<|MM ji<|EE k6<|BB f1<|CN 2<|ZZ) k!) (bW.refl aF) k!
   · have u8:=eZ 3 false true i0 1 o!
     exact aB.round (by simp only[dS,f1,ak,ah]) (pk (d) _ _ hh _ hh (VV (aY 3 false false .i64 ((i0:Nat):Int) ((s.length:Nat):Int))<|BB q1<|CN 5<|VV ik<|MM ji<|EE k6<|BV f1 u8<|CC<|ZZ) k!) (bW.refl aF) _ k! (fun x=>lF sV g cap s P bh hP eC (i0+1) o! x hh aF aG)
def fL (s:List bn) (P:bn→Bool):Int:=(match (dS s P s.length 0) with | none=>(-1) | some Ka=>Ka)
theorem BQ {d:Nat} {h:ax} {sV:AV} {g:FuncId} {cap:List AV} (s:List bn) (P:bn→Bool) (sP:aJ h sV s) (hP:∀y∈s,∀hh,Tidy hh→Has h hh→cT d (.fn g) (.agg (aH.c y)::cap) hh= .ret (.bool (P y)) hh) (ca:Tidy h):cT (d+1) (.fn 106) [sV,(AV.func g [] cap)] h= .ret (Zi (fL s P)) h:=by
 have BH:=sP.small
 have eb:cg (some (.slice 28)) (some sV)=some (Zn s.length):=sP.len
 cases iB:dS s P s.length 0 with
 | none=>
   obtain ⟨N',h3,js,kG⟩:=aB.n iB (lF (d:=d) (h:=h) sV g cap s P sP hP s.length 0 o! (fun k_=>((sV::(AV.func g [] cap)::AV.undef::AV.undef::(Zi 0)::AV.undef::sV::(Zn s.length)::(Zi 0)::jg 10):List AV).getD k_ AV.undef) h ca (Has.refl _))
   have mR:=kG.y
   have Dn:h.nx≤h3.nx:=kG.n
   have gv:Has h h3:=kG.a
   have e:fL s P=(-1):=by simp only[fL,iB,ak,ah]
   rw[e]
   exact aw rfl (aI Tryz.func106 sY rfl (.inr rfl) (pk (d) _ _ h _ h3 (CN 2<|VV eb<|CC<|LL js<|CC<|ZZ) k!) k!) gv rfl
 | some Ka=>
   obtain ⟨N',h3,js,kG⟩:=aB.r iB (lF (d:=d) (h:=h) sV g cap s P sP hP s.length 0 o! (fun k_=>((sV::(AV.func g [] cap)::AV.undef::AV.undef::(Zi 0)::AV.undef::sV::(Zn s.length)::(Zi 0)::jg 10):List AV).getD k_ AV.undef) h ca (Has.refl _))
   have mR:=kG.y
   have Dn:h.nx≤h3.nx:=kG.n
   have gv:Has h h3:=kG.a
   have e:fL s P=Ka:=by simp only[fL,iB,ak,ah]
   rw[e]
   exact aw rfl (aI Tryz.func106 sY rfl (.inr rfl) (pk (d) _ _ h _ h3 (CN 2<|VV eb<|CC<|LL js<|ZZ) k!) k!) gv rfl
def sZ:Code:=(Tryz.f87.body).getD .skip
theorem xu:Tryz.f87.body=some sZ:=by kernel_rfl
def eN (s:List bn) (P:bn→Bool):Bool:=(decide (0≤(fL s P)))
theorem xw {d:Nat} {h:ax} {sV:AV} {g:FuncId} {cap:List AV} (s:List bn) (P:bn→Bool) (sP:aJ h sV s) (hP:∀y∈s,∀hh,Tidy hh→Has h hh→cT d (.fn g) (.agg (aH.c y)::cap) hh= .ret (.bool (P y)) hh) (ca:Tidy h):cT (d+2) (.fn 87) [sV,(AV.func g [] cap)] h= .ret (AV.bool (eN s P)) h:=by
 have BH:=sP.small
 have k1:=BQ (d:=d) s P sP hP ca
 have e:eN s P=(decide (0≤(fL s P))):=by simp only[eN,ak,ah]
 rw[e]
 exact aw rfl (aI Tryz.func87 xu rfl (.inr rfl) (pk (d+1) _ _ h _ h (CN 3<|EE k1<|VV (b9 3 false true .i64 (fL s P) 0)<|CC<|ZZ) k!) k!) (Has.refl _) rfl
def BR:Code:=(Tryz.f42.body).getD .skip
theorem s6:Tryz.f42.body=some BR:=by kernel_rfl
def dy (g:bn):Bool:=(bif (cu g.acc 1000000000) then (bif (cu g.aW 1000000000) then (eh g.since) else false) else false)
theorem zN {d:Nat} {h:ax} (g:bn) (Jh:aH.ok h g) (ca:Tidy h):cT (d+3) (.fn 42) [(AV.agg [(AV.str g.name),(Zi g.acc),(Zi g.aW),(Zi g.since)])] h= .ret (AV.bool (dy g)) h:=by
 obtain ⟨h1,br,cD,lh,aA,dC⟩:=lk ca (aK.cells [(AV.str g.name),(Zi g.acc),(Zi g.aW),(Zi g.since)] 28 false)
 have bB:Has h h1:=dC
 have k2:=l_ (d:=d+1) g.acc 1000000000 cD
 rcases Bool.eq_false_or_eq_true (cu g.acc 1000000000) with f0 | f0
 · have k4:=l_ (d:=d+1) g.aW 1000000000 cD
   rcases Bool.eq_false_or_eq_true (cu g.aW 1000000000) with f1 | f1
   · have k6:=n8 (d:=d) g.since cD
     have e:dy g=(eh g.since):=by simp only[dy,f0,f1,ak,ah]
     rw[e]
     exact aw rfl (aI Tryz.func42 s6 rfl (.inr rfl) (pk (d+2) _ _ h _ h1 (NN br (fun i=>(Pt i))<|CN 2<|MM (ao 3 1 (Zi g.acc) aA k!)<|EE k2<|CC<|BC f0<|BM f0 (ao 3 2 (Zi g.aW) aA k!)<|BB f0<|EE k4<|VV (iI (cu g.aW 1000000000) false f0)<|CC<|BC f1<|BM f1 (ao 3 3 (Zi g.since) aA k!)<|BB f1<|EE k6<|VV (iI (eh g.since) false f1)<|CC<|ZZ) k!) k!) bB rfl
   · have e:dy g=false:=by simp only[dy,f0,f1,ak,ah]
     rw[e]
     exact aw rfl (aI Tryz.func42 s6 rfl (.inr rfl) (pk (d+2) _ _ h _ h1 (NN br (fun i=>(Pt i))<|CN 2<|MM (ao 3 1 (Zi g.acc) aA k!)<|EE k2<|CC<|BC f0<|BM f0 (ao 3 2 (Zi g.aW) aA k!)<|BB f0<|EE k4<|VV (iI (cu g.aW 1000000000) false f0)<|CC<|BB f1<|BB f1<|BV f1 (p_ false f1)<|CC<|ZZ) k!) k!) bB rfl
 · have e:dy g=false:=by simp only[dy,f0,ak,ah]
   rw[e]
   exact aw rfl (aI Tryz.func42 s6 rfl (.inr rfl) (pk (d+2) _ _ h _ h1 (NN br (fun i=>(Pt i))<|CN 2<|MM (ao 3 1 (Zi g.acc) aA k!)<|EE k2<|CC<|BB f0<|BB f0<|BV f0 (p_ false f0)<|CC<|FF<|FF<|FF<|CN 2<|ZZ) k!) k!) bB rfl
def xy:Code:=(Tryz.f63.body).getD .skip
theorem lG:Tryz.f63.body=some xy:=by kernel_rfl
def c8 (cA:List bn) (g:bn):Int:=(bif (!(dQ g.name)) then 5 else (bif (eN cA (fun y=>gS y g)) then 6 else (bif (!(dy g)) then 1 else 0)))
theorem BS {d:Nat} {h:ax} {cy:AV} (cA:List bn) (g:bn) (dG:aJ h cy cA) (Jh:aH.ok h g) (ca:Tidy h):cT (d+6) (.fn 63) [cy,(AV.agg [(AV.str g.name),(Zi g.acc),(Zi g.aW),(Zi g.since)])] h= .ret (Zi (c8 cA g)) h:=by
 have qn:=dG.small
 obtain ⟨h1,br,cD,lh,aA,dC⟩:=lk ca (aK.cells [(AV.str g.name),(Zi g.acc),(Zi g.aW),(Zi g.since)] 28 false)
 have bB:Has h h1:=dC
 have k2:=rp (d:=d+4) g.name Jh cD
 rcases Bool.eq_false_or_eq_true (!(dQ g.name)) with f0 | f0
 · have e:c8 cA g=5:=by simp only[c8,f0,ak,ah]
   rw[e]
   exact aw rfl (aI Tryz.func63 lG rfl (.inr rfl) (pk (d+5) _ _ h _ h1 (NN br (fun i=>(Pt i))<|CN 2<|MM (ao 9 0 (AV.str g.name) aA k!)<|EE k2<|CN 2<|BC f0<|ZZ) k!) k!) bB rfl
 · have k4:=xw (d:=d+3) cA (fun y=>gS y g) (dG.has bB) (fun y hy hh yy aa=>Af (d:=d+2) y g h.nx (aH.mono aa ((dG.has bB).SL y hy)) (aH.mono aa (aH.mono bB Jh)) (aa _ _ aA) yy) cD
   rcases Bool.eq_false_or_eq_true (eN cA (fun y=>gS y g)) with f1 | f1
   · have e:c8 cA g=6:=by simp only[c8,f0,f1,ak,ah]
     rw[e]
     exact aw rfl (aI Tryz.func63 lG rfl (.inr rfl) (pk (d+5) _ _ h _ h1 (NN br (fun i=>(Pt i))<|CN 2<|MM (ao 9 0 (AV.str g.name) aA k!)<|EE k2<|CN 2<|BB f0<|CN 2<|EE k4<|CC<|BC f1<|ZZ) k!) k!) bB rfl
   · have k6:=zN (d:=d+2) g (aH.mono bB Jh) cD
     rcases Bool.eq_false_or_eq_true (!(dy g)) with f2 | f2
     · have e:c8 cA g=1:=by simp only[c8,f0,f1,f2,ak,ah]
       rw[e]
       exact aw rfl (aI Tryz.func63 lG rfl (.inr rfl) (pk (d+5) _ _ h _ h1 (NN br (fun i=>(Pt i))<|CN 2<|MM (ao 9 0 (AV.str g.name) aA k!)<|EE k2<|CN 2<|BB f0<|CN 2<|EE k4<|CC<|BM f1 (ao 28 0 (AV.agg [(AV.str g.name),(Zi g.acc),(Zi g.aW),(Zi g.since)]) aA k!)<|EE k6<|CN 2<|BC f2<|ZZ) k!) k!) bB rfl
     · have e:c8 cA g=0:=by simp only[c8,f0,f1,f2,ak,ah]
       rw[e]
       exact aw rfl (aI Tryz.func63 lG rfl (.inr rfl) (pk (d+5) _ _ h _ h1 (NN br (fun i=>(Pt i))<|CN 2<|MM (ao 9 0 (AV.str g.name) aA k!)<|EE k2<|CN 2<|BB f0<|CN 2<|EE k4<|CC<|BM f1 (ao 28 0 (AV.agg [(AV.str g.name),(Zi g.acc),(Zi g.aW),(Zi g.since)]) aA k!)<|EE k6<|CN 2<|BC f2<|ZZ) k!) k!) bB rfl
def lV:Code:=(Tryz.f62.body).getD .skip
theorem kN:Tryz.f62.body=some lV:=by kernel_rfl
def s7:Code:=(b5 lV).getD 0 .skip
def dm (P:Nat→Int) (bl:List bn):Nat→Nat→Option (Int)
 | 0,_=>none
 | eC+1,i0=>(bif (!decide ((P i0)=0)) then some (P i0) else dm P bl eC (i0+1))
theorem iV {d:Nat} {h:ax} (bJ:AV) (g:FuncId) (cap:List AV) (bl:List bn) (P:Nat→Int) (bh:aJ h bJ bl) (hP:∀j,j<bl.length→∀aV hh,Tidy hh→Has h hh→aJ hh aV (bl.take j)→cT d (.fn g) (aV:: .agg (aH.c (bl.g j))::cap) hh= .ret (.int .i64 (P j)) hh):∀(k_ i_:Nat) (_:i_+k_=bl.length) (x:Nat→AV) (hh:ax) (aF:Tidy hh) (aG:Has h hh),aB (cT (d)) s7 ⟨(bJ::(x 1)::(AV.func g [] cap)::rx x 3 11 (bJ::(Zn bl.length)::(Zn i_)::rx x 17 14 [])),hh,[],.no⟩ (.exit 0) hh (fun y=>(bJ::(y 1)::(AV.func g [] cap)::rx y 3 11 (bJ::(Zn bl.length)::rx y 16 15 []))) (fun r y=>(bJ::(y 1)::(AV.func g [] cap)::rx y 3 3 ((Zi r)::rx y 7 7 (bJ::(Zn bl.length)::rx y 16 15 [])))) (dm P bl k_ i_)
 | 0,i0,jh,x,hh,aF,aG=>by
   have dp:=bh.small
   have q1:(decide (((i0:Nat):Int)<((bl.length:Nat):Int)))=false:=d!
   exact aB.out rfl (pk (d) _ _ hh _ hh (VV (aY 3 false false .i64 ((i0:Nat):Int) ((bl.length:Nat):Int))<|BB q1<|ZZ) k!) (bW.refl aF) k!
 | eC+1,i0,jh,x,hh,aF,aG=>by
   have dp:=bh.small
   have q1:(decide (((i0:Nat):Int)<((bl.length:Nat):Int)))=true:=d!
   obtain ⟨p3,q4,eD⟩:=(bh.has aG).elem (i:=i0) o!
   have ik:b8 env (some (.slice 28)) (some bJ) (some (Zn i0))=some (AV.ptr p3 q4):=eD
   have ji:bS env hh 28 (AV.ptr p3 q4)=some (AV.agg [(AV.str (bl.g i0).name),(Zi (bl.g i0).acc),(Zi (bl.g i0).aW),(Zi (bl.g i0).since)]):=(bh.has aG).load o! eD
   obtain ⟨h6,kI,kJ,BK,n7,eS⟩:=lk aF (aK.cells [(AV.str []),(Zi 0),(Zi 0),(Zi 0)] 28 false)
   have iC:Has hh h6:=eS
   obtain ⟨h7,kK,dK,xm,bG,cH⟩:=vF (t:=28) (n:=4) (i:=hh.nx) (L:=[(AV.str (bl.g i0).name),(Zi (bl.g i0).acc),(Zi (bl.g i0).aW),(Zi (bl.g i0).since)]) kJ n7 k! rfl rfl (by simp only[AV.cells,List.all_cons,List.all_nil,Bool.and_true,Bool.and_self,kC,iA,kD,kE,fY,nW,nX,nY,nZ,n4,kF])
   have cK:Has hh h7:=Has.eB iC cH aF o!
   obtain ⟨r8,Qu,Qv⟩:=(bh.has aG).pre (t:=41) k! (i:=i0) o!
   have SM:dx env 41 bJ (none) (some (Zn i0)) (none)=some r8:=Qu
   have uv:=hP i0 o! r8 h7 dK (aG.trans cK) (Qv.has cK)
   have ve:AV.same 20 (AV.agg [(AV.str (bl.g i0).name),(Zi (bl.g i0).acc),(Zi (bl.g i0).aW),(Zi (bl.g i0).since)]) (AV.agg [(AV.str (bl.g i0).name),(Zi (bl.g i0).acc),(Zi (bl.g i0).aW),(Zi (bl.g i0).since)])=true:=cW 18 (eX (fun n=>aP n _) (eX (fun n=>aC n _ _) (eX (fun n=>aC n _ _) (eX (fun n=>aC n _ _) zG))))
   rcases Bool.eq_false_or_eq_true (!decide ((P i0)=0)) with f1 | f1
   · have fK:=rO f1
     exact aB.ret (P i0) (by simp only[dm,f1,ak,ah]) (pk (d) _ _ hh _ h7 (VV (aY 3 false false .i64 ((i0:Nat):Int) ((bl.length:Nat):Int))<|BC q1<|VV ik<|MM ji<|NN kI (fun i=>(Pt i))<|CC<|SS kK<|CN 3<|QQ SM<|MM (ao 28 0 (AV.agg [(AV.str (bl.g i0).name),(Zi (bl.g i0).acc),(Zi (bl.g i0).aW),(Zi (bl.g i0).since)]) bG k!)<|EE uv<|CC<|HH (ao 28 0 (AV.agg [(AV.str (bl.g i0).name),(Zi (bl.g i0).acc),(Zi (bl.g i0).aW),(Zi (bl.g i0).since)]) bG k!)<|HH ve<|CC<|VV (cf 31 false true .i64 (P i0) 0)<|BB f1<|CN 2<|ZZ) k!) (⟨dK,cK,by omega⟩) k!
   · have fK:=rP f1
     have Dq:=eZ 3 false true i0 1 o!
     exact aB.round (by simp only[dm,f1,ak,ah]) (pk (d) _ _ hh _ h7 (VV (aY 3 false false .i64 ((i0:Nat):Int) ((bl.length:Nat):Int))<|BC q1<|VV ik<|MM ji<|NN kI (fun i=>(Pt i))<|CC<|SS kK<|CN 3<|QQ SM<|MM (ao 28 0 (AV.agg [(AV.str (bl.g i0).name),(Zi (bl.g i0).acc),(Zi (bl.g i0).aW),(Zi (bl.g i0).since)]) bG k!)<|EE uv<|CC<|HH (ao 28 0 (AV.agg [(AV.str (bl.g i0).name),(Zi (bl.g i0).acc),(Zi (bl.g i0).aW),(Zi (bl.g i0).since)]) bG k!)<|HH ve<|CC<|VV (cf 31 false true .i64 (P i0) 0)<|BV f1 Dq<|CC<|ZZ) k!) (⟨dK,cK,by omega⟩) _ k! (fun x=>iV bJ g cap bl P bh hP eC (i0+1) o! x h7 dK (aG.trans cK))
def cP (bl:List bn) (cj:Int) (P:Nat→Int):Int:=(bif (decide (cj<((bl.length:Nat):Int))) then 3 else (match (dm P bl bl.length 0) with | none=>0 | some BL=>BL))
theorem vL {d:Nat} {h:ax} {bJ:AV} {g:FuncId} {cap:List AV} (bl:List bn) (cj:Int) (P:Nat→Int) (fZ:aJ h bJ bl) (hP:∀j,j<bl.length→∀aV hh,Tidy hh→Has h hh→aJ hh aV (bl.take j)→cT d (.fn g) (aV:: .agg (aH.c (bl.g j))::cap) hh= .ret (.int .i64 (P j)) hh) (ca:Tidy h):cT (d+1) (.fn 62) [bJ,(Zi cj),(AV.func g [] cap)] h= .ret (Zi (cP bl cj P)) h:=by
 have BN:=fZ.small
 have eb:cg (some (.slice 28)) (some bJ)=some (Zn bl.length):=fZ.len
 rcases Bool.eq_false_or_eq_true (decide (cj<((bl.length:Nat):Int))) with f0 | f0
 · have e_:=of_decide_eq_true f0
   have e:cP bl cj P=3:=by simp only[cP,f0,ak,ah]
   rw[e]
   exact aw rfl (aI Tryz.func62 kN rfl (.inr rfl) (pk (d) _ _ h _ h (CN 2<|VV eb<|CC<|VV (b7 3 false false .i64 ((bl.length:Nat):Int) cj)<|BC f0<|ZZ) k!) k!) (Has.refl _) rfl
 · have e_:=of_decide_eq_false f0
   have ye:cg (some (.slice 28)) (some bJ)=some (Zn bl.length):=fZ.len
   cases dD:dm P bl bl.length 0 with
   | none=>
     obtain ⟨As,h5,eE,eF⟩:=aB.n dD (iV (d:=d) (h:=h) bJ g cap bl P fZ hP bl.length 0 o! (fun k_=>((bJ::(Zi cj)::(AV.func g [] cap)::AV.undef::AV.undef::AV.undef::(Zi 0)::AV.undef::AV.undef::AV.undef::bJ::(Zn bl.length)::(Zi cj)::(AV.bool (decide (cj<((bl.length:Nat):Int))))::bJ::(Zn bl.length)::(Zi 0)::jg 14):List AV).getD k_ AV.undef) h ca (Has.refl _))
     have sS:=eF.y
     have Ad:h.nx≤h5.nx:=eF.n
     have lD:Has h h5:=eF.a
     have e:cP bl cj P=0:=by simp only[cP,f0,dD,ak,ah]
     rw[e]
     exact aw rfl (aI Tryz.func62 kN rfl (.inr rfl) (pk (d) _ _ h _ h5 (CN 2<|VV eb<|CC<|VV (b7 3 false false .i64 ((bl.length:Nat):Int) cj)<|BC f0<|VV ye<|CC<|LL eE<|CC<|ZZ) k!) k!) lD rfl
   | some BL=>
     obtain ⟨As,h5,eE,eF⟩:=aB.r dD (iV (d:=d) (h:=h) bJ g cap bl P fZ hP bl.length 0 o! (fun k_=>((bJ::(Zi cj)::(AV.func g [] cap)::AV.undef::AV.undef::AV.undef::(Zi 0)::AV.undef::AV.undef::AV.undef::bJ::(Zn bl.length)::(Zi cj)::(AV.bool (decide (cj<((bl.length:Nat):Int))))::bJ::(Zn bl.length)::(Zi 0)::jg 14):List AV).getD k_ AV.undef) h ca (Has.refl _))
     have sS:=eF.y
     have Ad:h.nx≤h5.nx:=eF.n
     have lD:Has h h5:=eF.a
     have e:cP bl cj P=BL:=by simp only[cP,f0,dD,ak,ah]
     rw[e]
     exact aw rfl (aI Tryz.func62 kN rfl (.inr rfl) (pk (d) _ _ h _ h5 (CN 2<|VV eb<|CC<|VV (b7 3 false false .i64 ((bl.length:Nat):Int) cj)<|BC f0<|VV ye<|CC<|LL eE<|ZZ) k!) k!) lD rfl
def rY:Code:=(Tryz.f59.body).getD .skip
theorem vM:Tryz.f59.body=some rY:=by kernel_rfl
def dz (o:aQ) (c:aQ):Bool:=(decide (o.name=c.name))
theorem vN {d:Nat} {h:ax} (o:aQ) (c:aQ) (cB:Nat) (Gt:aH.ok h o) (h_c:aH.ok h c) (Qt:h.get cB=some (.cells (aH.c c) 43 false)) (ca:Tidy h):cT (d+1) (.fn 59) [(AV.agg [(AV.str o.name),(Zi o.aq),(Zi o.aj),(Zi o.aO),(Zi o.aR),(Zi o.bad),o.aD]),(Pt cB)] h= .ret (AV.bool (dz o c)) h:=by
 have abE:=Gt.2.small
 have abF:=h_c.2.small
 obtain ⟨h1,br,cD,lh,aA,dC⟩:=lk ca (aK.cells [(AV.str o.name),(Zi o.aq),(Zi o.aj),(Zi o.aO),(Zi o.aR),(Zi o.bad),o.aD] 43 false)
 have bB:Has h h1:=dC
 have e:dz o c=(decide (o.name=c.name)):=by simp only[dz,ak,ah]
 rw[e]
 exact aw rfl (aI Tryz.func59 vM rfl (.inr rfl) (pk (d) _ _ h _ h1 (NN br (fun i=>(Pt i))<|CN 2<|MM (ao 9 0 (AV.str o.name) aA k!)<|CC<|MM (ao 9 0 (AV.str c.name) (dC _ _ Qt) k!)<|VV (ni 9 false false o.name c.name)<|CC<|ZZ) k!) k!) bB rfl
def mG:Code:=(Tryz.f86.body).getD .skip
theorem pv:Tryz.f86.body=some mG:=by kernel_rfl
def uM:Code:=(b5 mG).getD 0 .skip
def c_ (s:List aQ) (P:aQ→Bool):Nat→Nat→Option (Int)
 | 0,_=>none
 | eC+1,i0=>(bif (P (s.g i0)) then some ((i0:Nat):Int) else c_ s P eC (i0+1))
theorem ju {d:Nat} {h:ax} (sV:AV) (g:FuncId) (cap:List AV) (s:List aQ) (P:aQ→Bool) (bh:aJ h sV s) (hP:∀y∈s,∀hh,Tidy hh→Has h hh→cT d (.fn g) (.agg (aH.c y)::cap) hh= .ret (.bool (P y)) hh):∀(k_ i_:Nat) (_:i_+k_=s.length) (x:Nat→AV) (hh:ax) (aF:Tidy hh) (aG:Has h hh),aB (cT (d)) uM ⟨(sV::(AV.func g [] cap)::rx x 2 5 ((Zn s.length)::(Zn i_)::rx x 9 10 [])),hh,[],.no⟩ (.exit 0) hh (fun y=>(sV::(AV.func g [] cap)::rx y 2 5 ((Zn s.length)::rx y 8 11 []))) (fun r y=>(sV::(AV.func g [] cap)::(y 2)::(y 3)::(Zi r)::(y 5)::(y 6)::(Zn s.length)::rx y 8 11 [])) (c_ s P k_ i_)
 | 0,i0,jh,x,hh,aF,aG=>by
   have dp:=bh.small
   have q1:(decide (((i0:Nat):Int)<((s.length:Nat):Int)))=false:=d!
   exact aB.out rfl (pk (d) _ _ hh _ hh (VV (aY 3 false false .i64 ((i0:Nat):Int) ((s.length:Nat):Int))<|BB q1<|ZZ) k!) (bW.refl aF) k!
 | eC+1,i0,jh,x,hh,aF,aG=>by
   have dp:=bh.small
   have q1:(decide (((i0:Nat):Int)<((s.length:Nat):Int)))=true:=d!
   obtain ⟨p3,q4,eD⟩:=(bh.has aG).elem (i:=i0) o!
   have ik:b8 env (some (.slice 43)) (some sV) (some (Zn i0))=some (AV.ptr p3 q4):=eD
   have ji:bS env hh 43 (AV.ptr p3 q4)=some (AV.agg [(AV.str (s.g i0).name),(Zi (s.g i0).aq),(Zi (s.g i0).aj),(Zi (s.g i0).aO),(Zi (s.g i0).aR),(Zi (s.g i0).bad),(s.g i0).aD]):=(bh.has aG).load o! eD
   have k6:=hP (s.g i0) (BF o!) hh aF aG
   rcases Bool.eq_false_or_eq_true (P (s.g i0)) with f1 | f1
   · exact aB.ret ((i0:Nat):Int) (by simp only[c_,f1,ak,ah]) (pk (d) _ _ hh _ hh (VV (aY 3 false false .i64 ((i0:Nat):Int) ((s.length:Nat):Int))<|BB q1<|CN 5<|VV ik<|MM ji<|EE k6<|BB f1<|CN 2<|ZZ) k!) (bW.refl aF) k!
   · have u8:=eZ 3 false true i0 1 o!
     exact aB.round (by simp only[c_,f1,ak,ah]) (pk (d) _ _ hh _ hh (VV (aY 3 false false .i64 ((i0:Nat):Int) ((s.length:Nat):Int))<|BB q1<|CN 5<|VV ik<|MM ji<|EE k6<|BV f1 u8<|CC<|ZZ) k!) (bW.refl aF) _ k! (fun x=>ju sV g cap s P bh hP eC (i0+1) o! x hh aF aG)
def dU (s:List aQ) (P:aQ→Bool):Int:=(match (c_ s P s.length 0) with | none=>(-1) | some Ka=>Ka)
theorem xz {d:Nat} {h:ax} {sV:AV} {g:FuncId} {cap:List AV} (s:List aQ) (P:aQ→Bool) (sP:aJ h sV s) (hP:∀y∈s,∀hh,Tidy hh→Has h hh→cT d (.fn g) (.agg (aH.c y)::cap) hh= .ret (.bool (P y)) hh) (ca:Tidy h):cT (d+1) (.fn 86) [sV,(AV.func g [] cap)] h= .ret (Zi (dU s P)) h:=by
 have BH:=sP.small
 have eb:cg (some (.slice 43)) (some sV)=some (Zn s.length):=sP.len
 cases iB:c_ s P s.length 0 with
 | none=>
   obtain ⟨N',h3,js,kG⟩:=aB.n iB (ju (d:=d) (h:=h) sV g cap s P sP hP s.length 0 o! (fun k_=>((sV::(AV.func g [] cap)::AV.undef::AV.undef::(Zi 0)::AV.undef::sV::(Zn s.length)::(Zi 0)::jg 10):List AV).getD k_ AV.undef) h ca (Has.refl _))
   have mR:=kG.y
   have Dn:h.nx≤h3.nx:=kG.n
   have gv:Has h h3:=kG.a
   have e:dU s P=(-1):=by simp only[dU,iB,ak,ah]
   rw[e]
   exact aw rfl (aI Tryz.func86 pv rfl (.inr rfl) (pk (d) _ _ h _ h3 (CN 2<|VV eb<|CC<|LL js<|CC<|ZZ) k!) k!) gv rfl
 | some Ka=>
   obtain ⟨N',h3,js,kG⟩:=aB.r iB (ju (d:=d) (h:=h) sV g cap s P sP hP s.length 0 o! (fun k_=>((sV::(AV.func g [] cap)::AV.undef::AV.undef::(Zi 0)::AV.undef::sV::(Zn s.length)::(Zi 0)::jg 10):List AV).getD k_ AV.undef) h ca (Has.refl _))
   have mR:=kG.y
   have Dn:h.nx≤h3.nx:=kG.n
   have gv:Has h h3:=kG.a
   have e:dU s P=Ka:=by simp only[dU,iB,ak,ah]
   rw[e]
   exact aw rfl (aI Tryz.func86 pv rfl (.inr rfl) (pk (d) _ _ h _ h3 (CN 2<|VV eb<|CC<|LL js<|ZZ) k!) k!) gv rfl
def qq:Code:=(Tryz.f58.body).getD .skip
theorem s9:Tryz.f58.body=some qq:=by kernel_rfl
def cE (s:List aQ) (P:aQ→Bool):Bool:=(decide (0≤(dU s P)))
theorem s_ {d:Nat} {h:ax} {sV:AV} {g:FuncId} {cap:List AV} (s:List aQ) (P:aQ→Bool) (sP:aJ h sV s) (hP:∀y∈s,∀hh,Tidy hh→Has h hh→cT d (.fn g) (.agg (aH.c y)::cap) hh= .ret (.bool (P y)) hh) (ca:Tidy h):cT (d+2) (.fn 58) [sV,(AV.func g [] cap)] h= .ret (AV.bool (cE s P)) h:=by
 have BH:=sP.small
 have k1:=xz (d:=d) s P sP hP ca
 have e:cE s P=(decide (0≤(dU s P))):=by simp only[cE,ak,ah]
 rw[e]
 exact aw rfl (aI Tryz.func58 s9 rfl (.inr rfl) (pk (d+1) _ _ h _ h (CN 3<|EE k1<|VV (b9 3 false true .i64 (dU s P) 0)<|CC<|ZZ) k!) k!) (Has.refl _) rfl
def ta:Code:=(Tryz.f27.body).getD .skip
theorem cU:Tryz.f27.body=some ta:=by kernel_rfl
def aU (cA:List aQ) (q:aQ):Int:=(bif (!(dQ q.name)) then 5 else (bif (cE cA (fun y=>dz y q)) then 6 else (bif (!(eH q.aq)) then 1 else (bif (!(eH q.aj)) then 1 else (bif (decide (q.aj<q.aq)) then 1 else (bif (!(cu q.aO 10000)) then 1 else (bif (!(cu q.aR 10000)) then 1 else (bif (decide (8<((q.ar.length:Nat):Int))) then 3 else (bif (!(cu q.bad ((q.ar.length:Nat):Int))) then 1 else (cP q.ar 8 (fun jx=>c8 (List.take jx q.ar) (List.g q.ar jx))))))))))))
theorem xA {d:Nat} {h:ax} {cy:AV} (cA:List aQ) (q:aQ) (dG:aJ h cy cA) (Gy:aH.ok h q) (ca:Tidy h):cT (d+9) (.fn 27) [cy,(AV.agg [(AV.str q.name),(Zi q.aq),(Zi q.aj),(Zi q.aO),(Zi q.aR),(Zi q.bad),q.aD])] h= .ret (Zi (aU cA q)) h:=by
 have qn:=dG.small
 have Um:=Gy.2.small
 obtain ⟨h1,br,cD,lh,aA,dC⟩:=lk ca (aK.cells [(AV.str q.name),(Zi q.aq),(Zi q.aj),(Zi q.aO),(Zi q.aR),(Zi q.bad),q.aD] 43 false)
 have bB:Has h h1:=dC
 have k2:=rp (d:=d+7) q.name Gy.1 cD
 rcases Bool.eq_false_or_eq_true (!(dQ q.name)) with f0 | f0
 · have e:aU cA q=5:=by simp only[aU,f0,ak,ah]
   rw[e]
   exact aw rfl (aI Tryz.func27 cU rfl (.inr rfl) (pk (d+8) _ _ h _ h1 (NN br (fun i=>(Pt i))<|CN 2<|MM (ao 9 0 (AV.str q.name) aA k!)<|EE k2<|CN 2<|BC f0<|ZZ) k!) k!) bB rfl
 · have k4:=s_ (d:=d+6) cA (fun y=>dz y q) (dG.has bB) (fun y hy hh yy aa=>vN (d:=d+5) y q h.nx (aH.mono aa ((dG.has bB).SL y hy)) (aH.mono aa (aH.mono bB Gy)) (aa _ _ aA) yy) cD
   rcases Bool.eq_false_or_eq_true (cE cA (fun y=>dz y q)) with f1 | f1
   · have e:aU cA q=6:=by simp only[aU,f0,f1,ak,ah]
     rw[e]
     exact aw rfl (aI Tryz.func27 cU rfl (.inr rfl) (pk (d+8) _ _ h _ h1 (NN br (fun i=>(Pt i))<|CN 2<|MM (ao 9 0 (AV.str q.name) aA k!)<|EE k2<|CN 2<|BB f0<|CN 2<|EE k4<|CC<|BC f1<|ZZ) k!) k!) bB rfl
   · have k6:=pq (d:=d+7) q.aq cD
     rcases Bool.eq_false_or_eq_true (!(eH q.aq)) with f2 | f2
     · have e:aU cA q=1:=by simp only[aU,f0,f1,f2,ak,ah]
       rw[e]
       exact aw rfl (aI Tryz.func27 cU rfl (.inr rfl) (pk (d+8) _ _ h _ h1 (NN br (fun i=>(Pt i))<|CN 2<|MM (ao 9 0 (AV.str q.name) aA k!)<|EE k2<|CN 2<|BB f0<|CN 2<|EE k4<|CC<|BB f1<|CN 2<|MM (ao 3 1 (Zi q.aq) aA k!)<|EE k6<|CN 2<|BB f2<|BC f2<|ZZ) k!) k!) bB rfl
     · have k8:=pq (d:=d+7) q.aj cD
       rcases Bool.eq_false_or_eq_true (!(eH q.aj)) with f3 | f3
       · have e:aU cA q=1:=by simp only[aU,f0,f1,f2,f3,ak,ah]
         rw[e]
         exact aw rfl (aI Tryz.func27 cU rfl (.inr rfl) (pk (d+8) _ _ h _ h1 (NN br (fun i=>(Pt i))<|CN 2<|MM (ao 9 0 (AV.str q.name) aA k!)<|EE k2<|CN 2<|BB f0<|CN 2<|EE k4<|CC<|BB f1<|CN 2<|MM (ao 3 1 (Zi q.aq) aA k!)<|EE k6<|CN 2<|BB f2<|CN 2<|MM (ao 3 2 (Zi q.aj) aA k!)<|EE k8<|CN 2<|BB f3<|BC f3<|ZZ) k!) k!) bB rfl
       · rcases Bool.eq_false_or_eq_true (decide (q.aj<q.aq)) with f4 | f4
         · have lE:=of_decide_eq_true f4
           have e:aU cA q=1:=by simp only[aU,f0,f1,f2,f3,f4,ak,ah]
           rw[e]
           exact aw rfl (aI Tryz.func27 cU rfl (.inr rfl) (pk (d+8) _ _ h _ h1 (NN br (fun i=>(Pt i))<|CN 2<|MM (ao 9 0 (AV.str q.name) aA k!)<|EE k2<|CN 2<|BB f0<|CN 2<|EE k4<|CC<|BB f1<|CN 2<|MM (ao 3 1 (Zi q.aq) aA k!)<|EE k6<|CN 2<|BB f2<|CN 2<|MM (ao 3 2 (Zi q.aj) aA k!)<|EE k8<|CN 2<|BB f3<|CN 2<|MM (ao 3 1 (Zi q.aq) aA k!)<|CN 2<|MM (ao 3 2 (Zi q.aj) aA k!)<|VV (b7 3 false false .i64 q.aq q.aj)<|CC<|BC f4<|ZZ) k!) k!) bB rfl
         · have lE:=of_decide_eq_false f4
           have uv:=l_ (d:=d+7) q.aO 10000 cD
           rcases Bool.eq_false_or_eq_true (!(cu q.aO 10000)) with f5 | f5
           · have e:aU cA q=1:=by simp only[aU,f0,f1,f2,f3,f4,f5,ak,ah]
             rw[e]
             exact aw rfl (aI Tryz.func27 cU rfl (.inr rfl) (pk (d+8) _ _ h _ h1 (NN br (fun i=>(Pt i))<|CN 2<|MM (ao 9 0 (AV.str q.name) aA k!)<|EE k2<|CN 2<|BB f0<|CN 2<|EE k4<|CC<|BB f1<|CN 2<|MM (ao 3 1 (Zi q.aq) aA k!)<|EE k6<|CN 2<|BB f2<|CN 2<|MM (ao 3 2 (Zi q.aj) aA k!)<|EE k8<|CN 2<|BB f3<|CN 2<|MM (ao 3 1 (Zi q.aq) aA k!)<|CN 2<|MM (ao 3 2 (Zi q.aj) aA k!)<|VV (b7 3 false false .i64 q.aq q.aj)<|CC<|BC f4<|MM (ao 3 3 (Zi q.aO) aA k!)<|EE uv<|CN 2<|BB f5<|BC f5<|ZZ) k!) k!) bB rfl
           · have No:=l_ (d:=d+7) q.aR 10000 cD
             rcases Bool.eq_false_or_eq_true (!(cu q.aR 10000)) with f6 | f6
             · have e:aU cA q=1:=by simp only[aU,f0,f1,f2,f3,f4,f5,f6,ak,ah]
               rw[e]
               exact aw rfl (aI Tryz.func27 cU rfl (.inr rfl) (pk (d+8) _ _ h _ h1 (NN br (fun i=>(Pt i))<|CN 2<|MM (ao 9 0 (AV.str q.name) aA k!)<|EE k2<|CN 2<|BB f0<|CN 2<|EE k4<|CC<|BB f1<|CN 2<|MM (ao 3 1 (Zi q.aq) aA k!)<|EE k6<|CN 2<|BB f2<|CN 2<|MM (ao 3 2 (Zi q.aj) aA k!)<|EE k8<|CN 2<|BB f3<|CN 2<|MM (ao 3 1 (Zi q.aq) aA k!)<|CN 2<|MM (ao 3 2 (Zi q.aj) aA k!)<|VV (b7 3 false false .i64 q.aq q.aj)<|CC<|BC f4<|MM (ao 3 3 (Zi q.aO) aA k!)<|EE uv<|CN 2<|BC f5<|MM (ao 3 4 (Zi q.aR) aA k!)<|EE No<|CN 2<|BC f6<|ZZ) k!) k!) bB rfl
             · have Nu:cg (some (.slice 28)) (some q.aD)=some (Zn q.ar.length):=Gy.2.len
               rcases Bool.eq_false_or_eq_true (decide (8<((q.ar.length:Nat):Int))) with f7 | f7
               · have Qy:=of_decide_eq_true f7
                 have e:aU cA q=3:=by simp only[aU,f0,f1,f2,f3,f4,f5,f6,f7,ak,ah]
                 rw[e]
                 exact aw rfl (aI Tryz.func27 cU rfl (.inr rfl) (pk (d+8) _ _ h _ h1 (NN br (fun i=>(Pt i))<|CN 2<|MM (ao 9 0 (AV.str q.name) aA k!)<|EE k2<|CN 2<|BB f0<|CN 2<|EE k4<|CC<|BB f1<|CN 2<|MM (ao 3 1 (Zi q.aq) aA k!)<|EE k6<|CN 2<|BB f2<|CN 2<|MM (ao 3 2 (Zi q.aj) aA k!)<|EE k8<|CN 2<|BB f3<|CN 2<|MM (ao 3 1 (Zi q.aq) aA k!)<|CN 2<|MM (ao 3 2 (Zi q.aj) aA k!)<|VV (b7 3 false false .i64 q.aq q.aj)<|CC<|BC f4<|MM (ao 3 3 (Zi q.aO) aA k!)<|EE uv<|CN 2<|BC f5<|MM (ao 3 4 (Zi q.aR) aA k!)<|EE No<|CN 2<|BC f6<|MM (ao 41 6 q.aD aA k!)<|VV Nu<|VV (b7 3 false true .i64 ((q.ar.length:Nat):Int) 8)<|CC<|BC f7<|ZZ) k!) k!) bB rfl
               · have Qy:=of_decide_eq_false f7
                 have aak:cg (some (.slice 28)) (some q.aD)=some (Zn q.ar.length):=Gy.2.len
                 have Ql:=l_ (d:=d+7) q.bad ((q.ar.length:Nat):Int) cD
                 rcases Bool.eq_false_or_eq_true (!(cu q.bad ((q.ar.length:Nat):Int))) with f8 | f8
                 · have e:aU cA q=1:=by simp only[aU,f0,f1,f2,f3,f4,f5,f6,f7,f8,ak,ah]
                   rw[e]
                   exact aw rfl (aI Tryz.func27 cU rfl (.inr rfl) (pk (d+8) _ _ h _ h1 (NN br (fun i=>(Pt i))<|CN 2<|MM (ao 9 0 (AV.str q.name) aA k!)<|EE k2<|CN 2<|BB f0<|CN 2<|EE k4<|CC<|BB f1<|CN 2<|MM (ao 3 1 (Zi q.aq) aA k!)<|EE k6<|CN 2<|BB f2<|CN 2<|MM (ao 3 2 (Zi q.aj) aA k!)<|EE k8<|CN 2<|BB f3<|CN 2<|MM (ao 3 1 (Zi q.aq) aA k!)<|CN 2<|MM (ao 3 2 (Zi q.aj) aA k!)<|VV (b7 3 false false .i64 q.aq q.aj)<|CC<|BC f4<|MM (ao 3 3 (Zi q.aO) aA k!)<|EE uv<|CN 2<|BC f5<|MM (ao 3 4 (Zi q.aR) aA k!)<|EE No<|CN 2<|BC f6<|MM (ao 41 6 q.aD aA k!)<|VV Nu<|VV (b7 3 false true .i64 ((q.ar.length:Nat):Int) 8)<|CC<|BC f7<|MM (ao 3 5 (Zi q.bad) aA k!)<|CC<|MM (ao 41 6 q.aD aA k!)<|VV aak<|EE Ql<|CN 2<|BC f8<|ZZ) k!) k!) bB rfl
                 · have Xn:=vL (d:=d+7) q.ar 8 (fun jx=>c8 (List.take jx q.ar) (List.g q.ar jx)) (Gy.2.has bB) (fun jx hj aV hh yy aa fa=>BS (d:=d+1) (List.take jx q.ar) (List.g q.ar jx) fa (aH.mono aa ((Gy.2.has bB).ok hj)) yy) cD
                   have e:aU cA q=(cP q.ar 8 (fun jx=>c8 (List.take jx q.ar) (List.g q.ar jx))):=by simp only[aU,f0,f1,f2,f3,f4,f5,f6,f7,f8,ak,ah]
                   rw[e]
                   exact aw rfl (aI Tryz.func27 cU rfl (.inr rfl) (pk (d+8) _ _ h _ h1 (NN br (fun i=>(Pt i))<|CN 2<|MM (ao 9 0 (AV.str q.name) aA k!)<|EE k2<|CN 2<|BB f0<|CN 2<|EE k4<|CC<|BB f1<|CN 2<|MM (ao 3 1 (Zi q.aq) aA k!)<|EE k6<|CN 2<|BB f2<|CN 2<|MM (ao 3 2 (Zi q.aj) aA k!)<|EE k8<|CN 2<|BB f3<|CN 2<|MM (ao 3 1 (Zi q.aq) aA k!)<|CN 2<|MM (ao 3 2 (Zi q.aj) aA k!)<|VV (b7 3 false false .i64 q.aq q.aj)<|CC<|BC f4<|MM (ao 3 3 (Zi q.aO) aA k!)<|EE uv<|CN 2<|BC f5<|MM (ao 3 4 (Zi q.aR) aA k!)<|EE No<|CN 2<|BC f6<|MM (ao 41 6 q.aD aA k!)<|VV Nu<|VV (b7 3 false true .i64 ((q.ar.length:Nat):Int) 8)<|CC<|BC f7<|MM (ao 3 5 (Zi q.bad) aA k!)<|CC<|MM (ao 41 6 q.aD aA k!)<|VV aak<|EE Ql<|CN 2<|BC f8<|MM (ao 41 6 q.aD aA k!)<|EE Xn<|CC<|ZZ) k!) k!) bB rfl
def FN:Code:=(Tryz.f8.body).getD .skip
theorem yQ:Tryz.f8.body=some FN:=by kernel_rfl
def cL (p:bO):Int:=(bif (!decide ((bI p.ab 16 (fun jx=>aU (List.take jx p.ab) (List.g p.ab jx)))=0)) then (bI p.ab 16 (fun jx=>aU (List.take jx p.ab) (List.g p.ab jx))) else (bif (!decide ((bX p.af 16 (fun jx=>bf (List.take jx p.af) (List.g p.af jx)))=0)) then (bX p.af 16 (fun jx=>bf (List.take jx p.af) (List.g p.af jx))) else (cO p.ai 16 (fun jx=>lC (List.take jx p.ai) (List.g p.ai jx) p))))
theorem D9 {d:Nat} {h:ax} (p:bO) (dg:aH.ok h p) (ca:Tidy h):cT (d+11) (.fn 8) [(AV.agg [p.ae,p.ag,p.au])] h= .ret (Zi (cL p)) h:=by
 have nj:=dg.1.small
 have jP:=dg.2.1.small
 have jQ:=dg.2.2.small
 obtain ⟨h1,br,cD,lh,aA,dC⟩:=lk ca (aK.cells [p.ae,p.ag,p.au] 26 false)
 have bB:Has h h1:=dC
 have k2:=rX (d:=d+9) p.ab 16 (fun jx=>aU (List.take jx p.ab) (List.g p.ab jx)) (dg.1.has bB) (fun jx hj aV hh yy aa fa=>xA (d:=d) (List.take jx p.ab) (List.g p.ab jx) fa (aH.mono aa ((dg.1.has bB).ok hj)) yy) cD
 rcases Bool.eq_false_or_eq_true (!decide ((bI p.ab 16 (fun jx=>aU (List.take jx p.ab) (List.g p.ab jx)))=0)) with f0 | f0
 · have e_:=rO f0
   have e:cL p=(bI p.ab 16 (fun jx=>aU (List.take jx p.ab) (List.g p.ab jx))):=by simp only[cL,f0,ak,ah]
   rw[e]
   exact aw rfl (aI Tryz.func8 yQ rfl (.inr rfl) (pk (d+10) _ _ h _ h1 (NN br (fun i=>(Pt i))<|CN 2<|MM (ao 22 0 p.ae aA k!)<|EE k2<|CN 2<|VV (cf 31 false true .i64 (bI p.ab 16 (fun jx=>aU (List.take jx p.ab) (List.g p.ab jx))) 0)<|BB f0<|CN 2<|ZZ) k!) k!) bB rfl
 · have e_:=rP f0
   have k4:=sU (d:=d+9) p.af 16 (fun jx=>bf (List.take jx p.af) (List.g p.af jx)) (dg.2.1.has bB) (fun jx hj aV hh yy aa fa=>yO (d:=d+4) (List.take jx p.af) (List.g p.af jx) fa (aH.mono aa ((dg.2.1.has bB).ok hj)) yy) cD
   rcases Bool.eq_false_or_eq_true (!decide ((bX p.af 16 (fun jx=>bf (List.take jx p.af) (List.g p.af jx)))=0)) with f1 | f1
   · have fK:=rO f1
     have e:cL p=(bX p.af 16 (fun jx=>bf (List.take jx p.af) (List.g p.af jx))):=by simp only[cL,f0,f1,ak,ah]
     rw[e]
     exact aw rfl (aI Tryz.func8 yQ rfl (.inr rfl) (pk (d+10) _ _ h _ h1 (NN br (fun i=>(Pt i))<|CN 2<|MM (ao 22 0 p.ae aA k!)<|EE k2<|CN 2<|VV (cf 31 false true .i64 (bI p.ab 16 (fun jx=>aU (List.take jx p.ab) (List.g p.ab jx))) 0)<|BC f0<|MM (ao 23 1 p.ag aA k!)<|EE k4<|CN 2<|VV (cf 31 false true .i64 (bX p.af 16 (fun jx=>bf (List.take jx p.af) (List.g p.af jx))) 0)<|BB f1<|CN 2<|ZZ) k!) k!) bB rfl
   · have fK:=rP f1
     have k6:=vI (d:=d+9) p.ai 16 (fun jx=>lC (List.take jx p.ai) (List.g p.ai jx) p) (dg.2.2.has bB) (fun jx hj aV hh yy aa fa=>Kf (d:=d+4) (List.take jx p.ai) (List.g p.ai jx) p h.nx fa (aH.mono aa ((dg.2.2.has bB).ok hj)) (aH.mono aa (aH.mono bB dg)) (aa _ _ aA) yy) cD
     have e:cL p=(cO p.ai 16 (fun jx=>lC (List.take jx p.ai) (List.g p.ai jx) p)):=by simp only[cL,f0,f1,ak,ah]
     rw[e]
     exact aw rfl (aI Tryz.func8 yQ rfl (.inr rfl) (pk (d+10) _ _ h _ h1 (NN br (fun i=>(Pt i))<|CN 2<|MM (ao 22 0 p.ae aA k!)<|EE k2<|CN 2<|VV (cf 31 false true .i64 (bI p.ab 16 (fun jx=>aU (List.take jx p.ab) (List.g p.ab jx))) 0)<|BC f0<|MM (ao 23 1 p.ag aA k!)<|EE k4<|CN 2<|VV (cf 31 false true .i64 (bX p.af 16 (fun jx=>bf (List.take jx p.af) (List.g p.af jx))) 0)<|BC f1<|MM (ao 24 2 p.au aA k!)<|CC<|EE k6<|CC<|ZZ) k!) k!) bB rfl
end
end Go.Proofs.aM
