import Derived.Test.YtfllahfbmaafcaaW0
import Derived.Test.YtfllahfbmaafcaaW4
import Derived.Test.YtfllahfbmaafcaaW1
import Derived.Test.YtfllahfbmaafcaaW2
import Derived.Test.YtfllahfbmaafcaaW3
set_option linter.unusedVariables false
set_option linter.unusedSimpArgs false
namespace Go.Proofs.aG
open Go.Proofs Ab
noncomputable section
set_option maxRecDepth 100000
set_option maxHeartbeats 4000000
def nw:Code:=(Try.f81.body).getD .skip
theorem pJ:Try.f81.body=some nw:=by kernel_rfl
def uU:Code:=(cc nw).getD 0 .skip
def dj (s:List aD) (P:aD→Bool):Nat→Nat→Option (Int)
 | 0,_=>none
 | dQ+1,i0=>(bif (P (s.g i0)) then some ((i0:Nat):Int) else dj s P dQ (i0+1))
theorem jZ {d:Nat} {h:aA} (sV:AV) (g:FuncId) (cap:List AV) (s:List aD) (P:aD→Bool) (bF:aY h sV s) (hP:∀y∈s,∀hh,Tidy hh→Has h hh→cz d (.fn g) (.agg (aF.c y)::cap) hh= .ret (.bool (P y)) hh):∀(k_ i_:Nat) (_:i_+k_=s.length) (x:Nat→AV) (hh:aA) (aQ:Tidy hh) (aW:Has h hh),aU (cz (d)) uU ⟨(sV::(AV.func g [] cap)::rx x 2 5 ((Zn s.length)::(Zn i_)::rx x 9 10 [])),hh,[],.no⟩ (.exit 0) hh (fun y=>(sV::(AV.func g [] cap)::rx y 2 5 ((Zn s.length)::rx y 8 11 []))) (fun r y=>(sV::(AV.func g [] cap)::(y 2)::(y 3)::(Zi r)::(y 5)::(y 6)::(Zn s.length)::rx y 8 11 [])) (dj s P k_ i_)
 | 0,i0,kY,x,hh,aQ,aW=>by
   have eR:=bF.small
   have q1:(decide (((i0:Nat):Int)<((s.length:Nat):Int)))=false:=d!
   exact aU.out rfl (pk (d) _ _ hh _ hh (VV (bK 3 false false .i64 ((i0:Nat):Int) ((s.length:Nat):Int))<|BB q1<|ZZ) k!) (Grow.refl aQ) k!
 | dQ+1,i0,kY,x,hh,aQ,aW=>by
   have eR:=bF.small
   have q1:(decide (((i0:Nat):Int)<((s.length:Nat):Int)))=true:=d!
   obtain ⟨p3,q4,oY⟩:=(bF.has aW).elem (i:=i0) o!
   have A1:cK env (some (.slice 26)) (some sV) (some (Zn i0))=some (AV.ptr p3 q4):=oY
   have DV:bk env hh 26 (AV.ptr p3 q4)=some (AV.agg [(AV.str (s.g i0).name),(Zi (s.g i0).ai),(Zi (s.g i0).af),(Zi (s.g i0).aH),(Zi (s.g i0).aI),(Zi (s.g i0).bad),(s.g i0).az]):=(bF.has aW).load o! oY
   have k6:=hP (s.g i0) (lW o!) hh aQ aW
   rcases bZq (P (s.g i0)) with f1 | f1
   · exact aU.ret ((i0:Nat):Int) (by simp only[dj,f1,ak,aj]) (pk (d) _ _ hh _ hh (VV (bK 3 false false .i64 ((i0:Nat):Int) ((s.length:Nat):Int))<|BB q1<|CN 5<|VV A1<|MM DV<|EE k6<|BB f1<|CN 2<|ZZ) k!) (Grow.refl aQ) k!
   · have u8:=fu 3 false true i0 1 o!
     exact aU.round (by simp only[dj,f1,ak,aj]) (pk (d) _ _ hh _ hh (VV (bK 3 false false .i64 ((i0:Nat):Int) ((s.length:Nat):Int))<|BB q1<|CN 5<|VV A1<|MM DV<|EE k6<|BV f1 u8<|CC<|ZZ) k!) (Grow.refl aQ) _ k! (fun x=>jZ sV g cap s P bF hP dQ (i0+1) o! x hh aQ aW)
def et (s:List aD) (P:aD→Bool):Int:=(match (dj s P s.length 0) with | none=>(-1) | some LG=>LG)
theorem xU {d:Nat} {h:aA} {sV:AV} {g:FuncId} {cap:List AV} (s:List aD) (P:aD→Bool) (Ca:aY h sV s) (hP:∀y∈s,∀hh,Tidy hh→Has h hh→cz d (.fn g) (.agg (aF.c y)::cap) hh= .ret (.bool (P y)) hh) (bS:Tidy h):cz (d+1) (.fn 81) [sV,(AV.func g [] cap)] h= .ret (Zi (et s P)) h:=by
 have NW:=Ca.small
 have ja:dy (some (.slice 26)) (some sV)=some (Zn s.length):=Ca.len
 cases jn:dj s P s.length 0 with
 | none=>
   obtain ⟨Qq,h3,fG,gP⟩:=aU.n jn (jZ (d:=d) (h:=h) sV g cap s P Ca hP s.length 0 o! (fun k_=>((sV::(AV.func g [] cap)::AV.undef::AV.undef::(Zi 0)::AV.undef::sV::(Zn s.length)::(Zi 0)::iL 10):List AV).getD k_ AV.undef) h bS (Has.refl _))
   have fA:=gP.y
   have qw:h.nx≤h3.nx:=gP.n
   have fl:Has h h3:=gP.a
   have e:et s P=(-1):=by simp only[et,jn,ak,aj]
   rw[e]
   exact aE rfl (ba Try.func81 pJ rfl (.inr rfl) (pk (d) _ _ h _ h3 (CN 2<|VV ja<|CC<|LL fG<|CC<|ZZ) k!) k!) fl rfl
 | some LG=>
   obtain ⟨Qq,h3,fG,gP⟩:=aU.r jn (jZ (d:=d) (h:=h) sV g cap s P Ca hP s.length 0 o! (fun k_=>((sV::(AV.func g [] cap)::AV.undef::AV.undef::(Zi 0)::AV.undef::sV::(Zn s.length)::(Zi 0)::iL 10):List AV).getD k_ AV.undef) h bS (Has.refl _))
   have fA:=gP.y
   have qw:h.nx≤h3.nx:=gP.n
   have fl:Has h h3:=gP.a
   have e:et s P=LG:=by simp only[et,jn,ak,aj]
   rw[e]
   exact aE rfl (ba Try.func81 pJ rfl (.inr rfl) (pk (d) _ _ h _ h3 (CN 2<|VV ja<|CC<|LL fG<|ZZ) k!) k!) fl rfl
def qG:Code:=(Try.f64.body).getD .skip
theorem tE:Try.f64.body=some qG:=by kernel_rfl
def cL (s:List aD) (P:aD→Bool):Bool:=(decide (0≤(et s P)))
theorem tF {d:Nat} {h:aA} {sV:AV} {g:FuncId} {cap:List AV} (s:List aD) (P:aD→Bool) (Ca:aY h sV s) (hP:∀y∈s,∀hh,Tidy hh→Has h hh→cz d (.fn g) (.agg (aF.c y)::cap) hh= .ret (.bool (P y)) hh) (bS:Tidy h):cz (d+2) (.fn 64) [sV,(AV.func g [] cap)] h= .ret (AV.bool (cL s P)) h:=by
 have NW:=Ca.small
 have k1:=xU (d:=d) s P Ca hP bS
 have e:cL s P=(decide (0≤(et s P))):=by simp only[cL,ak,aj]
 rw[e]
 exact aE rfl (ba Try.func64 tE rfl (.inr rfl) (pk (d+1) _ _ h _ h (CN 3<|EE k1<|VV (oe 3 false true .i64 (et s P) 0)<|CC<|ZZ) k!) k!) (Has.refl _) rfl
def CU:Code:=(Try.f66.body).getD .skip
theorem Ai:Try.f66.body=some CU:=by kernel_rfl
def gU (x_:Int):Bool:=(bif (decide ((-1000000000)≤x_)) then (decide (x_≤1000000000)) else false)
theorem tG {d:Nat} {h:aA} (x_:Int) (bS:Tidy h):cz (d+1) (.fn 66) [(Zi x_)] h= .ret (AV.bool (gU x_)) h:=by
 rcases bZq (decide ((-1000000000)≤x_)) with f0 | f0
 · have jW:=of_decide_eq_true f0
   have e:gU x_=(decide (x_≤1000000000)):=by simp only[gU,f0,ak,aj]
   rw[e]
   exact aE rfl (ba Try.func66 Ai rfl (.inr rfl) (pk (d) _ _ h _ h (CN 2<|VV (oe 3 false true .i64 x_ (-1000000000))<|CC<|BC f0<|BV f0 (sf 3 false true .i64 x_ 1000000000)<|VV (ov (decide (x_≤1000000000)) false f0)<|CC<|ZZ) k!) k!) (Has.refl _) rfl
 · have jW:=of_decide_eq_false f0
   have e:gU x_=false:=by simp only[gU,f0,ak,aj]
   rw[e]
   exact aE rfl (ba Try.func66 Ai rfl (.inr rfl) (pk (d) _ _ h _ h (CN 2<|VV (oe 3 false true .i64 x_ (-1000000000))<|CC<|BB f0<|BV f0 (uL false f0)<|CC<|ZZ) k!) k!) (Has.refl _) rfl
def tH:Code:=(Try.f41.body).getD .skip
theorem cY:Try.f41.body=some tH:=by kernel_rfl
def bu (su:List aD) (q:aD):Int:=(bif (!(gD q.name)) then 5 else (bif (cL su (fun y=>dL y q)) then 6 else (bif (!(gU q.ai)) then 1 else (bif (!(gU q.af)) then 1 else (bif (decide (q.af<q.ai)) then 1 else (bif (!(ef q.aH 10000)) then 1 else (bif (!(ef q.aI 10000)) then 1 else (bif (decide (8<((q.aC.length:Nat):Int))) then 3 else (bif (!(ef q.bad ((q.aC.length:Nat):Int))) then 1 else (cW q.aC 8 (fun jx=>dx (List.take jx q.aC) (List.g q.aC jx))))))))))))
theorem xV {d:Nat} {h:aA} {tC:AV} (su:List aD) (q:aD) (oi:aY h tC su) (fB:aF.ok h q) (bS:Tidy h):cz (d+9) (.fn 41) [tC,(AV.agg [(AV.str q.name),(Zi q.ai),(Zi q.af),(Zi q.aH),(Zi q.aI),(Zi q.bad),q.az])] h= .ret (Zi (bu su q)) h:=by
 have E5:=oi.small
 have hU:=fB.2.small
 obtain ⟨h1,cj,cg,iu,bf,cf⟩:=fY bS (aX.cells [(AV.str q.name),(Zi q.ai),(Zi q.af),(Zi q.aH),(Zi q.aI),(Zi q.bad),q.az] 26 false)
 have bA:Has h h1:=cf
 have k2:=CQ (d:=d+7) q.name fB.1 cg
 have mV:=fun {al ps} (k:Pk al _ ps)=>(NN cj (fun i=>(Pt i))<|CN 2<|MM (aO 9 0 (AV.str q.name) bf k!)<|EE k2<|CN 2<|k:Pk _ [] ps)
 rcases bZq (!(gD q.name)) with f0 | f0
 · have e:bu su q=5:=by simp only[bu,f0,ak,aj]
   rw[e]
   exact aE rfl (ba Try.func41 cY rfl (.inr rfl) (pk (d+8) _ _ h _ h1 (mV<|BC f0<|ZZ) k!) k!) bA rfl
 · have k4:=tF (d:=d+6) su (fun y=>dL y q) (oi.has bA) (fun y hy hh yy aa=>wa (d:=d+5) y q h.nx (aF.mono aa ((oi.has bA).Va y hy)) (aF.mono aa (aF.mono bA fB)) (aa _ _ bf) yy) cg
   have yC:=fun {al ps} (k:Pk al _ ps)=>(mV<|BB f0<|CN 2<|EE k4<|CC<|k:Pk _ [] ps)
   rcases bZq (cL su (fun y=>dL y q)) with f1 | f1
   · have e:bu su q=6:=by simp only[bu,f0,f1,ak,aj]
     rw[e]
     exact aE rfl (ba Try.func41 cY rfl (.inr rfl) (pk (d+8) _ _ h _ h1 (yC<|BC f1<|ZZ) k!) k!) bA rfl
   · have k6:=tG (d:=d+7) q.ai cg
     have EP:=fun {al ps} (k:Pk al _ ps)=>(yC<|BB f1<|CN 2<|MM (aO 3 1 (Zi q.ai) bf k!)<|EE k6<|CN 2<|k:Pk _ [] ps)
     rcases bZq (!(gU q.ai)) with f2 | f2
     · have e:bu su q=1:=by simp only[bu,f0,f1,f2,ak,aj]
       rw[e]
       exact aE rfl (ba Try.func41 cY rfl (.inr rfl) (pk (d+8) _ _ h _ h1 (EP<|BB f2<|BC f2<|ZZ) k!) k!) bA rfl
     · have k8:=tG (d:=d+7) q.af cg
       have ES:=fun {al ps} (k:Pk al _ ps)=>(EP<|BB f2<|CN 2<|MM (aO 3 2 (Zi q.af) bf k!)<|EE k8<|CN 2<|k:Pk _ [] ps)
       rcases bZq (!(gU q.af)) with f3 | f3
       · have e:bu su q=1:=by simp only[bu,f0,f1,f2,f3,ak,aj]
         rw[e]
         exact aE rfl (ba Try.func41 cY rfl (.inr rfl) (pk (d+8) _ _ h _ h1 (ES<|BB f3<|BC f3<|ZZ) k!) k!) bA rfl
       · have Cb:=fun {al ps} (k:Pk al _ ps)=>(ES<|BB f3<|CN 2<|MM (aO 3 1 (Zi q.ai) bf k!)<|CN 2<|MM (aO 3 2 (Zi q.af) bf k!)<|VV (cI 3 false false .i64 q.ai q.af)<|CC<|k:Pk _ [] ps)
         rcases bZq (decide (q.af<q.ai)) with f4 | f4
         · have jV:=of_decide_eq_true f4
           have e:bu su q=1:=by simp only[bu,f0,f1,f2,f3,f4,ak,aj]
           rw[e]
           exact aE rfl (ba Try.func41 cY rfl (.inr rfl) (pk (d+8) _ _ h _ h1 (Cb<|BC f4<|ZZ) k!) k!) bA rfl
         · have jV:=of_decide_eq_false f4
           have Sx:=mP (d:=d+7) q.aH 10000 cg
           have Aa:=fun {al ps} (k:Pk al _ ps)=>(Cb<|BC f4<|MM (aO 3 3 (Zi q.aH) bf k!)<|EE Sx<|CN 2<|k:Pk _ [] ps)
           rcases bZq (!(ef q.aH 10000)) with f5 | f5
           · have e:bu su q=1:=by simp only[bu,f0,f1,f2,f3,f4,f5,ak,aj]
             rw[e]
             exact aE rfl (ba Try.func41 cY rfl (.inr rfl) (pk (d+8) _ _ h _ h1 (Aa<|BB f5<|BC f5<|ZZ) k!) k!) bA rfl
           · have U_:=mP (d:=d+7) q.aI 10000 cg
             have NX:=fun {al ps} (k:Pk al _ ps)=>(Aa<|BC f5<|MM (aO 3 4 (Zi q.aI) bf k!)<|EE U_<|CN 2<|k:Pk _ [] ps)
             rcases bZq (!(ef q.aI 10000)) with f6 | f6
             · have e:bu su q=1:=by simp only[bu,f0,f1,f2,f3,f4,f5,f6,ak,aj]
               rw[e]
               exact aE rfl (ba Try.func41 cY rfl (.inr rfl) (pk (d+8) _ _ h _ h1 (NX<|BC f6<|ZZ) k!) k!) bA rfl
             · have aaF:dy (some (.slice 45)) (some q.az)=some (Zn q.aC.length):=fB.2.len
               have NY:=fun {al ps} (k:Pk al _ ps)=>(NX<|BC f6<|MM (aO 24 6 q.az bf k!)<|VV aaF<|VV (cI 3 false true .i64 ((q.aC.length:Nat):Int) 8)<|CC<|k:Pk _ [] ps)
               rcases bZq (decide (8<((q.aC.length:Nat):Int))) with f7 | f7
               · have Z5:=of_decide_eq_true f7
                 have e:bu su q=3:=by simp only[bu,f0,f1,f2,f3,f4,f5,f6,f7,ak,aj]
                 rw[e]
                 exact aE rfl (ba Try.func41 cY rfl (.inr rfl) (pk (d+8) _ _ h _ h1 (NY<|BC f7<|ZZ) k!) k!) bA rfl
               · have Z5:=of_decide_eq_false f7
                 have agb:dy (some (.slice 45)) (some q.az)=some (Zn q.aC.length):=fB.2.len
                 have k18:=mP (d:=d+7) q.bad ((q.aC.length:Nat):Int) cg
                 have JO:=fun {al ps} (k:Pk al _ ps)=>(NY<|BC f7<|MM (aO 3 5 (Zi q.bad) bf k!)<|CC<|MM (aO 24 6 q.az bf k!)<|VV agb<|EE k18<|CN 2<|k:Pk _ [] ps)
                 rcases bZq (!(ef q.bad ((q.aC.length:Nat):Int))) with f8 | f8
                 · have e:bu su q=1:=by simp only[bu,f0,f1,f2,f3,f4,f5,f6,f7,f8,ak,aj]
                   rw[e]
                   exact aE rfl (ba Try.func41 cY rfl (.inr rfl) (pk (d+8) _ _ h _ h1 (JO<|BC f8<|ZZ) k!) k!) bA rfl
                 · have k20:=v8 (d:=d+7) q.aC 8 (fun jx=>dx (List.take jx q.aC) (List.g q.aC jx)) (fB.2.has bA) (fun jx hj aV hh yy aa fa=>CT (d:=d+1) (List.take jx q.aC) (List.g q.aC jx) fa (aF.mono aa ((fB.2.has bA).ok hj)) yy) cg
                   have e:bu su q=(cW q.aC 8 (fun jx=>dx (List.take jx q.aC) (List.g q.aC jx))):=by simp only[bu,f0,f1,f2,f3,f4,f5,f6,f7,f8,ak,aj]
                   rw[e]
                   exact aE rfl (ba Try.func41 cY rfl (.inr rfl) (pk (d+8) _ _ h _ h1 (JO<|BC f8<|MM (aO 24 6 q.az bf k!)<|EE k20<|CC<|ZZ) k!) k!) bA rfl
def fe (f:Nat→Option Int):Nat→Nat→Option Int
 | 0,_=>none
 | k+1,i=>match f i with
   | some r=>some r
   | none=>fe f k (i+1)
def er (x:Int):Option Int:=bif !decide (x=0) then some x else none
def tI (f:Nat→Bool):Nat→Nat→Bool
 | 0,_=>false
 | k+1,i=>f i||tI f k (i+1)
theorem JR {f g:Nat→Option Int}:∀(k i:Nat),(∀j,i≤j→j<i+k→f j=g j)→fe f k i=fe g k i
 | 0,_,_=>rfl
 | k+1,i,h=>by
   rw[fe,fe,h i (Nat.le_refl _) o!,JR k (i+1) fun j h1 h2=>h j o! o!]
theorem any_congr {f g:Nat→Bool}:∀(k i:Nat),(∀j,i≤j→j<i+k→f j=g j)→tI f k i=tI g k i
 | 0,_,_=>rfl
 | k+1,i,h=>by
   rw[tI,tI,h i (Nat.le_refl _) o!,any_congr k (i+1) fun j h1 h2=>h j o! o!]
theorem Yw (o:Option Int):(match o with | none=>0 | some r=>r)=o.getD 0:=by cases o<;>rfl
theorem aaG {α:Type} [Inhabited α] {l:List α} {i j:Nat} (h:j<i):(l.take i).g j=l.g j:=by
 rw[List.g,List.g,List.getD_eq_getElem?_getD,List.getD_eq_getElem?_getD,List.getElem?_take_of_lt h]
theorem Tt {α:Type} {l:List α} {i:Nat} (h:i≤l.length):(l.take i).length=i:=by rw[List.length_take];omega
def wc (c:UInt8):Bool:=decide (97≤((c.toNat:Nat):Int))&&decide (((c.toNat:Nat):Int)≤122)
def digit (c:UInt8):Bool:=decide (48≤((c.toNat:Nat):Int))&&decide (((c.toNat:Nat):Int)≤57)
def dash (c:UInt8):Bool:=decide (((c.toNat:Nat):Int)=45)
theorem CV (s:List bV) (P:bV→Bool):∀(k i:Nat),(ei s P k i=none∧tI (fun j=>P (s.g j)) k i=false)∨∃n:Nat,ei s P k i=some (n:Int)∧tI (fun j=>P (s.g j)) k i=true
 | 0,_=> .inl ⟨rfl,rfl⟩
 | k+1,i=>by
   rw[ei,tI]
   cases h:P (s.g i) with
   | true=>exact .inr ⟨i,rfl,rfl⟩
   | false=>exact CV s P k (i+1)
theorem uV (s:List bV) (P:bV→Bool):fb s P=tI (fun j=>P (s.g j)) s.length 0:=by
 unfold fb aG.fU
 rcases CV s P s.length 0 with ⟨h1,h2⟩ | ⟨n,h1,h2⟩
 · rw[h1,h2];rfl
 · rw[h1,h2];exact decide_eq_true (Int.natCast_nonneg n)
theorem tJ {s:List bV} {i:Nat} (h:i≤s.length) (P:bV→Bool):fb (s.take i) P=tI (fun j=>P (s.g j)) i 0:=by
 rw[uV,Tt h]
 exact any_congr i 0 fun j _ hj=>by rw[aaG o!]
theorem nX (P:Nat→Int) (l:List bV):∀(k i:Nat),du P l k i=fe (fun j=>er (P j)) k i
 | 0,_=>rfl
 | k+1,i=>by
   rw[du,fe,er,nX P l k (i+1)]
   cases (!decide (P i=0))<;>rfl
theorem uW (l:List bV) (fV:Int) (P:Nat→Int):cW l fV P=bif decide (fV<((l.length:Nat):Int)) then 3 else (fe (fun j=>er (P j)) l.length 0).getD 0:=by
 unfold cW
 rw[nX]
 cases decide (fV<((l.length:Nat):Int)) with
 | true=>rfl
 | false=>exact Yw _
theorem vj (s:List aD) (P:aD→Bool):∀(k i:Nat),(dj s P k i=none∧tI (fun j=>P (s.g j)) k i=false)∨∃n:Nat,dj s P k i=some (n:Int)∧tI (fun j=>P (s.g j)) k i=true
 | 0,_=> .inl ⟨rfl,rfl⟩
 | k+1,i=>by
   rw[dj,tI]
   cases h:P (s.g i) with
   | true=>exact .inr ⟨i,rfl,rfl⟩
   | false=>exact vj s P k (i+1)
theorem rL (s:List aD) (P:aD→Bool):cL s P=tI (fun j=>P (s.g j)) s.length 0:=by
 unfold cL aG.et
 rcases vj s P s.length 0 with ⟨h1,h2⟩ | ⟨n,h1,h2⟩
 · rw[h1,h2];rfl
 · rw[h1,h2];exact decide_eq_true (Int.natCast_nonneg n)
def xW (f:Nat→Bool):Nat→Nat→Bool
 | 0,_=>true
 | k+1,i=>f i&&xW f k (i+1)
theorem all_congr {f g:Nat→Bool}:∀(k i:Nat),(∀j,i≤j→j<i+k→f j=g j)→xW f k i=xW g k i
 | 0,_,_=>rfl
 | k+1,i,h=>by
   rw[xW,xW,h i (Nat.le_refl _) o!,all_congr k (i+1) fun j h1 h2=>h j o! o!]
theorem JS (a b:Int):decide (a<b)= !decide (b≤a):=by
 by_cases h:a<b
 · rw[decide_eq_true h,decide_eq_false o!];rfl
 · rw[decide_eq_false h,decide_eq_true o!];rfl
theorem E6 (s:List UInt8):∀(k i:Nat),bI s k i=bif xW (fun j=>wc (s.g j)||(!decide ((j:Int)=0)&&(digit (s.g j)||dash (s.g j)))) k i then none else some false
 | 0,_=>rfl
 | k+1,i=>by
   rw[bI,xW,E6 s k (i+1),wc,digit,dash]
   generalize xW _ k (i+1)=z
   generalize decide (97≤(((s.g i).toNat:Nat):Int))=a
   generalize decide ((((s.g i).toNat:Nat):Int)≤122)=b
   generalize decide (48≤(((s.g i).toNat:Nat):Int))=c
   generalize decide ((((s.g i).toNat:Nat):Int)≤57)=d
   generalize decide ((((s.g i).toNat:Nat):Int)=45)=e
   generalize decide ((i:Int)=0)=f
   cases a<;>cases b<;>cases c<;>cases d<;>cases e<;>cases f<;>rfl
theorem E7 (s:List UInt8):∀(k i:Nat),cU s k i=bif xW (fun j=>wc (s.g j)||(digit (s.g j)||dash (s.g j))) k i then none else some false
 | 0,_=>rfl
 | k+1,i=>by
   rw[cU,xW,E7 s k (i+1),wc,digit,dash]
   simp only[JS]
   generalize xW _ k (i+1)=z
   generalize decide (97≤(((s.g i).toNat:Nat):Int))=a
   generalize decide ((((s.g i).toNat:Nat):Int)≤122)=b
   generalize decide (48≤(((s.g i).toNat:Nat):Int))=c
   generalize decide ((((s.g i).toNat:Nat):Int)≤57)=d
   generalize decide ((((s.g i).toNat:Nat):Int)=45)=e
   cases a<;>cases b<;>cases c<;>cases d<;>cases e<;>rfl
theorem NZ (s:List UInt8):gD s=dO s:=by
 unfold gD dO
 cases s with
 | nil=>rfl
 | cons x s=>
   rw[decide_eq_false (show ¬x::s=[] by simp),decide_eq_false (show ¬(((x::s).length:Nat):Int)=0 by simp;omega)]
   cases decide (16<(((x::s).length:Nat):Int)) with
   | true=>rfl
   | false=>
     rw[E6,E7,List.length_cons,xW,xW,JS,JS]
     rw[all_congr (f:=fun j=>wc ((x::s).g j)||(!decide ((j:Int)=0)&&(digit ((x::s).g j)||dash ((x::s).g j)))) (g:=fun j=>wc ((x::s).g j)||(digit ((x::s).g j)||dash ((x::s).g j))) s.length (0+1) fun j hj _=>by
      simp only[decide_eq_false (show ¬(j:Int)=0 by omega),Bool.not_false,Bool.true_and]]
     simp only[wc]
     rw[show decide (((0:Nat):Int)=0)=true from rfl]
     generalize xW _ s.length (0+1)=z
     generalize decide (97≤((((x::s).g 0).toNat:Nat):Int))=a
     generalize decide (((((x::s).g 0).toNat:Nat):Int)≤122)=b
     generalize digit ((x::s).g 0)=c
     generalize dash ((x::s).g 0)=e
     cases a<;>cases b<;>cases c<;>cases e<;>cases z<;>rfl
theorem JT (n:Int):gU n=cF n:=rfl
theorem Hl (n:Int):iR n=fJ n:=rfl
theorem xX (x m:Int):ef x m=(!decide (x<0)&& !decide (m<x)):=by
 unfold ef
 rw[JS,JS]
 cases decide (0≤x)<;>cases decide (x≤m)<;>rfl
theorem Tu (g:bV):bN g=bif gT g then 0 else 1:=by
 unfold bN gT
 rw[xX,xX,Hl]
 cases decide (g.acc<0)<;>cases decide (1000000000<g.acc)<;>cases decide (g.bQ<0)<;>cases decide (1000000000<g.bQ)<;>cases fJ g.since<;>rfl
theorem N0 (q:aD) (i0:Nat):∀(k i:Nat),bW i0 q k i=bif tI (fun j=>decide ((q.aC.g j).name=(q.aC.g i0).name)) k i then some 6 else none
 | 0,_=>rfl
 | k+1,i=>by
   rw[bW,tI,N0 q i0 k (i+1)]
   cases decide ((q.aC.g i).name=(q.aC.g i0).name)<;>rfl
theorem Tv (q:aD) {i:Nat} (hi:i<q.aC.length):er (dx (q.aC.take i) (q.aC.g i))=bif (!(dO (q.aC.g i).name)) then some 5 else (match bW i q i 0 with | none=>er (bN (q.aC.g i)) | some r=>some r):=by
 unfold dx
 rw[NZ,tJ o!,N0,Tu]
 simp only[ie]
 cases dO (q.aC.g i).name with
 | false=>rfl
 | true=>
   cases tI (fun j=>decide ((q.aC.g j).name=(q.aC.g i).name)) i 0 with
   | true=>rfl
   | false=>cases gT (q.aC.g i)<;>rfl
theorem N1 (q:aD):∀(k i:Nat),bO q k i=fe (fun i=>bif (!(dO (q.aC.g i).name)) then some 5 else (match bW i q i 0 with | none=>er (bN (q.aC.g i)) | some r=>some r)) k i
 | 0,_=>rfl
 | k+1,i=>by
   rw[bO,fe,N1 q k (i+1)]
   cases (!(dO (q.aC.g i).name)) with
   | true=>rfl
   | false=>
     cases bW i q i 0 with
     | some r=>rfl
     | none=>
       rw[er]
       cases (!decide (bN (q.aC.g i)=0))<;>rfl
theorem JU (su:List aD) (q:aD):bu su q=bif (!(dO q.name)) then 5 else bif cL su (fun y=>dL y q) then 6 else aM q:=by
 unfold bu aM
 rw[NZ]
 cases dO q.name with
 | false=>rfl
 | true=>
   cases cL su (fun y=>dL y q) with
   | true=>rfl
   | false=>
     rw[JT,JT,xX,xX,xX,uW,N1,JR q.aC.length 0 fun j _ hj=>Tv q o!]
     cases cF q.ai with
     | false=>rfl
     | true=>cases cF q.af with
       | false=>rfl
       | true=>cases decide (q.af<q.ai) with
         | true=>rfl
         | false=>
           cases decide (q.aH<0) with
           | true=>rfl
           | false=>cases decide (10000<q.aH) with
             | true=>rfl
             | false=>cases decide (q.aI<0) with
               | true=>rfl
               | false=>cases decide (10000<q.aI) with
                 | true=>rfl
                 | false=>cases decide (8<((q.aC.length:Nat):Int)) with
                   | true=>rfl
                   | false=>cases decide (q.bad<0) with
                     | true=>rfl
                     | false=>cases decide (((q.aC.length:Nat):Int)<q.bad) with
                       | true=>rfl
                       | false=>exact (Yw _).symm
def lG:Code:=(Try.f60.body).getD .skip
theorem j5:Try.f60.body=some lG:=by kernel_rfl
def rM:Code:=(cc lG).getD 0 .skip
def cR (P:Nat→Int) (dr:List aK):Nat→Nat→Option (Int)
 | 0,_=>none
 | dQ+1,i0=>(bif (!decide ((P i0)=0)) then some (P i0) else cR P dr dQ (i0+1))
theorem iU {d:Nat} {h:aA} (dG:AV) (g:FuncId) (cap:List AV) (dr:List aK) (P:Nat→Int) (bF:aY h dG dr) (hP:∀j,j<dr.length→∀aV hh,Tidy hh→Has h hh→aY hh aV (dr.take j)→cz d (.fn g) (aV:: .agg (aF.c (dr.g j))::cap) hh= .ret (.int .i64 (P j)) hh):∀(k_ i_:Nat) (_:i_+k_=dr.length) (x:Nat→AV) (hh:aA) (aQ:Tidy hh) (aW:Has h hh),aU (cz (d)) rM ⟨(dG::(x 1)::(AV.func g [] cap)::rx x 3 11 (dG::(Zn dr.length)::(Zn i_)::rx x 17 14 [])),hh,[],.no⟩ (.exit 0) hh (fun y=>(dG::(y 1)::(AV.func g [] cap)::rx y 3 11 (dG::(Zn dr.length)::rx y 16 15 []))) (fun r y=>(dG::(y 1)::(AV.func g [] cap)::rx y 3 3 ((Zi r)::rx y 7 7 (dG::(Zn dr.length)::rx y 16 15 [])))) (cR P dr k_ i_)
 | 0,i0,kY,x,hh,aQ,aW=>by
   have eR:=bF.small
   have q1:(decide (((i0:Nat):Int)<((dr.length:Nat):Int)))=false:=d!
   exact aU.out rfl (pk (d) _ _ hh _ hh (VV (bK 3 false false .i64 ((i0:Nat):Int) ((dr.length:Nat):Int))<|BB q1<|ZZ) k!) (Grow.refl aQ) k!
 | dQ+1,i0,kY,x,hh,aQ,aW=>by
   have eR:=bF.small
   have q1:(decide (((i0:Nat):Int)<((dr.length:Nat):Int)))=true:=d!
   obtain ⟨p3,q4,oY⟩:=(bF.has aW).elem (i:=i0) o!
   have A1:cK env (some (.slice 43)) (some dG) (some (Zn i0))=some (AV.ptr p3 q4):=oY
   have DV:bk env hh 43 (AV.ptr p3 q4)=some (AV.agg [(Zi (dr.g i0).aL),(Zi (dr.g i0).time),(Zi (dr.g i0).value)]):=(bF.has aW).load o! oY
   obtain ⟨h6,tu,qx,LP,vU,gC⟩:=fY aQ (aX.cells [(Zi 0),(Zi 0),(Zi 0)] 43 false)
   have pt:Has hh h6:=gC
   obtain ⟨h7,zq,mM,Py,pW,iT⟩:=rA (t:=43) (n:=3) (i:=hh.nx) (L:=[(Zi (dr.g i0).aL),(Zi (dr.g i0).time),(Zi (dr.g i0).value)]) qx vU k! rfl rfl (by simp only[AV.cells,List.all_cons,List.all_nil,Bool.and_true,Bool.and_self,eL,dw,eM,eN,cH,gZ,g_,hB,hD,hI,eO])
   have lL:Has hh h7:=Has.cS pt iT aQ o!
   obtain ⟨r8,aaD,aaE⟩:=(bF.has aW).pre (t:=27) k! (i:=i0) o!
   have sl9:fK env 27 dG (none) (some (Zn i0)) (none)=some r8:=aaD
   have Sx:=hP i0 o! r8 h7 mM (aW.trans lL) (aaE.has lL)
   have Px:AV.same 20 (AV.agg [(Zi (dr.g i0).aL),(Zi (dr.g i0).time),(Zi (dr.g i0).value)]) (AV.agg [(Zi (dr.g i0).aL),(Zi (dr.g i0).time),(Zi (dr.g i0).value)])=true:=dM 18 (iC (fun n=>aJ n _ _) (iC (fun n=>aJ n _ _) (iC (fun n=>aJ n _ _) DC)))
   rcases bZq (!decide ((P i0)=0)) with f1 | f1
   · have ic:=DS f1
     exact aU.ret (P i0) (by simp only[cR,f1,ak,aj]) (pk (d) _ _ hh _ h7 (VV (bK 3 false false .i64 ((i0:Nat):Int) ((dr.length:Nat):Int))<|BC q1<|VV A1<|MM DV<|NN tu (fun i=>(Pt i))<|CC<|SS zq<|CN 3<|QQ sl9<|MM (aO 43 0 (AV.agg [(Zi (dr.g i0).aL),(Zi (dr.g i0).time),(Zi (dr.g i0).value)]) pW k!)<|EE Sx<|CC<|HH (aO 43 0 (AV.agg [(Zi (dr.g i0).aL),(Zi (dr.g i0).time),(Zi (dr.g i0).value)]) pW k!)<|HH Px<|CC<|VV (kF 31 false true .i64 (P i0) 0)<|BB f1<|CN 2<|ZZ) k!) (⟨mM,lL,by omega⟩) k!
   · have ic:=DT f1
     have u14:=fu 3 false true i0 1 o!
     exact aU.round (by simp only[cR,f1,ak,aj]) (pk (d) _ _ hh _ h7 (VV (bK 3 false false .i64 ((i0:Nat):Int) ((dr.length:Nat):Int))<|BC q1<|VV A1<|MM DV<|NN tu (fun i=>(Pt i))<|CC<|SS zq<|CN 3<|QQ sl9<|MM (aO 43 0 (AV.agg [(Zi (dr.g i0).aL),(Zi (dr.g i0).time),(Zi (dr.g i0).value)]) pW k!)<|EE Sx<|CC<|HH (aO 43 0 (AV.agg [(Zi (dr.g i0).aL),(Zi (dr.g i0).time),(Zi (dr.g i0).value)]) pW k!)<|HH Px<|CC<|VV (kF 31 false true .i64 (P i0) 0)<|BV f1 u14<|CC<|ZZ) k!) (⟨mM,lL,by omega⟩) _ k! (fun x=>iU dG g cap dr P bF hP dQ (i0+1) o! x h7 mM (aW.trans lL))
def cM (dr:List aK) (fV:Int) (P:Nat→Int):Int:=(bif (decide (fV<((dr.length:Nat):Int))) then 3 else (match (cR P dr dr.length 0) with | none=>0 | some Tp=>Tp))
theorem tK {d:Nat} {h:aA} {dG:AV} {g:FuncId} {cap:List AV} (dr:List aK) (fV:Int) (P:Nat→Int) (o8:aY h dG dr) (hP:∀j,j<dr.length→∀aV hh,Tidy hh→Has h hh→aY hh aV (dr.take j)→cz d (.fn g) (aV:: .agg (aF.c (dr.g j))::cap) hh= .ret (.int .i64 (P j)) hh) (bS:Tidy h):cz (d+1) (.fn 60) [dG,(Zi fV),(AV.func g [] cap)] h= .ret (Zi (cM dr fV P)) h:=by
 have Ts:=o8.small
 have ja:dy (some (.slice 43)) (some dG)=some (Zn dr.length):=o8.len
 rcases bZq (decide (fV<((dr.length:Nat):Int))) with f0 | f0
 · have jW:=of_decide_eq_true f0
   have e:cM dr fV P=3:=by simp only[cM,f0,ak,aj]
   rw[e]
   exact aE rfl (ba Try.func60 j5 rfl (.inr rfl) (pk (d) _ _ h _ h (CN 2<|VV ja<|CC<|VV (cI 3 false false .i64 ((dr.length:Nat):Int) fV)<|BC f0<|ZZ) k!) k!) (Has.refl _) rfl
 · have jW:=of_decide_eq_false f0
   have Vc:dy (some (.slice 43)) (some dG)=some (Zn dr.length):=o8.len
   cases mf:cR P dr dr.length 0 with
   | none=>
     obtain ⟨Z8,h5,lu,mN⟩:=aU.n mf (iU (d:=d) (h:=h) dG g cap dr P o8 hP dr.length 0 o! (fun k_=>((dG::(Zi fV)::(AV.func g [] cap)::AV.undef::AV.undef::AV.undef::(Zi 0)::AV.undef::AV.undef::AV.undef::dG::(Zn dr.length)::(Zi fV)::(AV.bool (decide (fV<((dr.length:Nat):Int))))::dG::(Zn dr.length)::(Zi 0)::iL 14):List AV).getD k_ AV.undef) h bS (Has.refl _))
     have sh:=mN.y
     have Ju:h.nx≤h5.nx:=mN.n
     have nN:Has h h5:=mN.a
     have e:cM dr fV P=0:=by simp only[cM,f0,mf,ak,aj]
     rw[e]
     exact aE rfl (ba Try.func60 j5 rfl (.inr rfl) (pk (d) _ _ h _ h5 (CN 2<|VV ja<|CC<|VV (cI 3 false false .i64 ((dr.length:Nat):Int) fV)<|BC f0<|VV Vc<|CC<|LL lu<|CC<|ZZ) k!) k!) nN rfl
   | some Tp=>
     obtain ⟨Z8,h5,lu,mN⟩:=aU.r mf (iU (d:=d) (h:=h) dG g cap dr P o8 hP dr.length 0 o! (fun k_=>((dG::(Zi fV)::(AV.func g [] cap)::AV.undef::AV.undef::AV.undef::(Zi 0)::AV.undef::AV.undef::AV.undef::dG::(Zn dr.length)::(Zi fV)::(AV.bool (decide (fV<((dr.length:Nat):Int))))::dG::(Zn dr.length)::(Zi 0)::iL 14):List AV).getD k_ AV.undef) h bS (Has.refl _))
     have sh:=mN.y
     have Ju:h.nx≤h5.nx:=mN.n
     have nN:Has h h5:=mN.a
     have e:cM dr fV P=Tp:=by simp only[cM,f0,mf,ak,aj]
     rw[e]
     exact aE rfl (ba Try.func60 j5 rfl (.inr rfl) (pk (d) _ _ h _ h5 (CN 2<|VV ja<|CC<|VV (cI 3 false false .i64 ((dr.length:Nat):Int) fV)<|BC f0<|VV Vc<|CC<|LL lu<|ZZ) k!) k!) nN rfl
def JV:Code:=(Try.f80.body).getD .skip
theorem JW:Try.f80.body=some JV:=by kernel_rfl
def tL (PG:Int) (r5:Int):Bool:=(bif (decide (0≤PG)) then (decide (PG<r5)) else false)
theorem Tw {d:Nat} {h:aA} (PG:Int) (r5:Int) (bS:Tidy h):cz (d+1) (.fn 80) [(Zi PG),(Zi r5)] h= .ret (AV.bool (tL PG r5)) h:=by
 rcases bZq (decide (0≤PG)) with f0 | f0
 · have jW:=of_decide_eq_true f0
   have e:tL PG r5=(decide (PG<r5)):=by simp only[tL,f0,ak,aj]
   rw[e]
   exact aE rfl (ba Try.func80 JW rfl (.inr rfl) (pk (d) _ _ h _ h (CN 2<|VV (oe 3 false true .i64 PG 0)<|CC<|BC f0<|BC f0<|BV f0 (bK 3 false false .i64 PG r5)<|VV (ov (decide (PG<r5)) false f0)<|CC<|ZZ) k!) k!) (Has.refl _) rfl
 · have jW:=of_decide_eq_false f0
   have e:tL PG r5=false:=by simp only[tL,f0,ak,aj]
   rw[e]
   exact aE rfl (ba Try.func80 JW rfl (.inr rfl) (pk (d) _ _ h _ h (CN 2<|VV (oe 3 false true .i64 PG 0)<|CC<|BB f0<|BB f0<|BV f0 (uL false f0)<|CC<|ZZ) k!) k!) (Has.refl _) rfl
def uX:Code:=(Try.f62.body).getD .skip
theorem kq:Try.f62.body=some uX:=by kernel_rfl
def cX (q:aD) (r:aK):Int:=(bif (!(tL r.aL ((q.aC.length:Nat):Int))) then 7 else (bif (!(iR r.time)) then 1 else (bif (!(gU r.value)) then 1 else 0)))
theorem zr {d:Nat} {h:aA} (q:aD) (r:aK) (fB:aF.ok h q) (h_r:aF.ok h r) (bS:Tidy h):cz (d+3) (.fn 62) [(AV.agg [(AV.str q.name),(Zi q.ai),(Zi q.af),(Zi q.aH),(Zi q.aI),(Zi q.bad),q.az]),(AV.agg [(Zi r.aL),(Zi r.time),(Zi r.value)])] h= .ret (Zi (cX q r)) h:=by
 have hU:=fB.2.small
 obtain ⟨h1,cj,cg,iu,bf,cf⟩:=fY bS (aX.cells [(AV.str q.name),(Zi q.ai),(Zi q.af),(Zi q.aH),(Zi q.aI),(Zi q.bad),q.az] 26 false)
 have bA:Has h h1:=cf
 obtain ⟨h2,iw,eQ,te,cO,dg⟩:=fY cg (aX.cells [(Zi r.aL),(Zi r.time),(Zi r.value)] 43 false)
 have dZ:Has h h2:=bA.trans dg
 have Vc:dy (some (.slice 45)) (some q.az)=some (Zn q.aC.length):=fB.2.len
 have k4:=Tw (d:=d+1) r.aL ((q.aC.length:Nat):Int) eQ
 rcases bZq (!(tL r.aL ((q.aC.length:Nat):Int))) with f0 | f0
 · have e:cX q r=7:=by simp only[cX,f0,ak,aj]
   rw[e]
   exact aE rfl (ba Try.func62 kq rfl (.inr rfl) (pk (d+2) _ _ h _ h2 (NN cj (fun i=>(Pt i))<|NN iw (fun i=>(Pt i))<|CN 2<|MM (aO 3 0 (Zi r.aL) cO k!)<|CC<|MM (aO 24 6 q.az (dg _ _ bf) k!)<|VV Vc<|EE k4<|CN 2<|BC f0<|ZZ) k!) k!) dZ rfl
 · have k6:=v7 (d:=d) r.time eQ
   rcases bZq (!(iR r.time)) with f1 | f1
   · have e:cX q r=1:=by simp only[cX,f0,f1,ak,aj]
     rw[e]
     exact aE rfl (ba Try.func62 kq rfl (.inr rfl) (pk (d+2) _ _ h _ h2 (NN cj (fun i=>(Pt i))<|NN iw (fun i=>(Pt i))<|CN 2<|MM (aO 3 0 (Zi r.aL) cO k!)<|CC<|MM (aO 24 6 q.az (dg _ _ bf) k!)<|VV Vc<|EE k4<|CN 2<|BC f0<|MM (aO 3 1 (Zi r.time) cO k!)<|EE k6<|CN 2<|BB f1<|BC f1<|ZZ) k!) k!) dZ rfl
   · have k8:=tG (d:=d+1) r.value eQ
     rcases bZq (!(gU r.value)) with f2 | f2
     · have e:cX q r=1:=by simp only[cX,f0,f1,f2,ak,aj]
       rw[e]
       exact aE rfl (ba Try.func62 kq rfl (.inr rfl) (pk (d+2) _ _ h _ h2 (NN cj (fun i=>(Pt i))<|NN iw (fun i=>(Pt i))<|CN 2<|MM (aO 3 0 (Zi r.aL) cO k!)<|CC<|MM (aO 24 6 q.az (dg _ _ bf) k!)<|VV Vc<|EE k4<|CN 2<|BC f0<|MM (aO 3 1 (Zi r.time) cO k!)<|EE k6<|CN 2<|BC f1<|MM (aO 3 2 (Zi r.value) cO k!)<|EE k8<|CN 2<|BC f2<|ZZ) k!) k!) dZ rfl
     · have e:cX q r=0:=by simp only[cX,f0,f1,f2,ak,aj]
       rw[e]
       exact aE rfl (ba Try.func62 kq rfl (.inr rfl) (pk (d+2) _ _ h _ h2 (NN cj (fun i=>(Pt i))<|NN iw (fun i=>(Pt i))<|CN 2<|MM (aO 3 0 (Zi r.aL) cO k!)<|CC<|MM (aO 24 6 q.az (dg _ _ bf) k!)<|VV Vc<|EE k4<|CN 2<|BC f0<|MM (aO 3 1 (Zi r.time) cO k!)<|EE k6<|CN 2<|BC f1<|MM (aO 3 2 (Zi r.value) cO k!)<|EE k8<|CN 2<|BC f2<|ZZ) k!) k!) dZ rfl
def sj:Code:=(Try.f61.body).getD .skip
theorem we:Try.f61.body=some sj:=by kernel_rfl
def eD (su:List aK) (r:aK) (q:aD):Int:=(cX q r)
theorem wg {d:Nat} {h:aA} {tC:AV} (su:List aK) (r:aK) (q:aD) (qB:Nat) (oi:aY h tC su) (h_r:aF.ok h r) (fB:aF.ok h q) (g_q:h.get qB=some (.cells (aF.c q) 26 false)) (bS:Tidy h):cz (d+4) (.fn 61) [tC,(AV.agg [(Zi r.aL),(Zi r.time),(Zi r.value)]),(Pt qB)] h= .ret (Zi (eD su r q)) h:=by
 have E5:=oi.small
 have hU:=fB.2.small
 obtain ⟨h1,cj,cg,iu,bf,cf⟩:=fY bS (aX.cells [(Zi r.aL),(Zi r.time),(Zi r.value)] 43 false)
 have bA:Has h h1:=cf
 have k2:=zr (d:=d) q r (aF.mono bA fB) trivial cg
 have e:eD su r q=(cX q r):=by simp only[eD,ak,aj]
 rw[e]
 exact aE rfl (ba Try.func61 we rfl (.inr rfl) (pk (d+3) _ _ h _ h1 (NN cj (fun i=>(Pt i))<|CC<|MM (aO 26 0 (AV.agg [(AV.str q.name),(Zi q.ai),(Zi q.af),(Zi q.aH),(Zi q.aI),(Zi q.bad),q.az]) (cf _ _ g_q) k!)<|MM (aO 43 0 (AV.agg [(Zi r.aL),(Zi r.time),(Zi r.value)]) bf k!)<|EE k2<|CC<|ZZ) k!) k!) bA rfl
def tM:Code:=(Try.f40.body).getD .skip
theorem pK:Try.f40.body=some tM:=by kernel_rfl
def cx (q:aD) (l_:List aK):Int:=(bif (!decide ((bu ([]:List aD) q)=0)) then (bu ([]:List aD) q) else (cM l_ 64 (fun jx=>eD (List.take jx l_) (List.g l_ jx) q)))
theorem xY {d:Nat} {h:aA} {bJ:AV} (q:aD) (l_:List aK) (fB:aF.ok h q) (dR:aY h bJ l_) (bS:Tidy h):cz (d+11) (.fn 40) [(AV.agg [(AV.str q.name),(Zi q.ai),(Zi q.af),(Zi q.aH),(Zi q.aI),(Zi q.bad),q.az]),bJ] h= .ret (Zi (cx q l_)) h:=by
 have mL:=dR.small
 have hU:=fB.2.small
 obtain ⟨h1,cj,cg,iu,bf,cf⟩:=fY bS (aX.cells [(AV.str q.name),(Zi q.ai),(Zi q.af),(Zi q.aH),(Zi q.aI),(Zi q.bad),q.az] 26 false)
 have bA:Has h h1:=cf
 have k2:=xV (d:=d+1) ([]:List aD) q aY.nil (aF.mono bA fB) cg
 rcases bZq (!decide ((bu ([]:List aD) q)=0)) with f0 | f0
 · have jW:=DS f0
   have e:cx q l_=(bu ([]:List aD) q):=by simp only[cx,f0,ak,aj]
   rw[e]
   exact aE rfl (ba Try.func40 pK rfl (.inr rfl) (pk (d+10) _ _ h _ h1 (NN cj (fun i=>(Pt i))<|CC<|MM (aO 26 0 (AV.agg [(AV.str q.name),(Zi q.ai),(Zi q.af),(Zi q.aH),(Zi q.aI),(Zi q.bad),q.az]) bf k!)<|EE k2<|CN 2<|VV (kF 31 false true .i64 (bu ([]:List aD) q) 0)<|BB f0<|CN 2<|ZZ) k!) k!) bA rfl
 · have jW:=DT f0
   have k4:=tK (d:=d+9) l_ 64 (fun jx=>eD (List.take jx l_) (List.g l_ jx) q) (dR.has bA) (fun jx hj aV hh yy aa fa=>wg (d:=d+5) (List.take jx l_) (List.g l_ jx) q h.nx fa (aF.mono aa ((dR.has bA).ok hj)) (aF.mono aa (aF.mono bA fB)) (aa _ _ bf) yy) cg
   have e:cx q l_=(cM l_ 64 (fun jx=>eD (List.take jx l_) (List.g l_ jx) q)):=by simp only[cx,f0,ak,aj]
   rw[e]
   exact aE rfl (ba Try.func40 pK rfl (.inr rfl) (pk (d+10) _ _ h _ h1 (NN cj (fun i=>(Pt i))<|CC<|MM (aO 26 0 (AV.agg [(AV.str q.name),(Zi q.ai),(Zi q.af),(Zi q.aH),(Zi q.aI),(Zi q.bad),q.az]) bf k!)<|EE k2<|CN 2<|VV (kF 31 false true .i64 (bu ([]:List aD) q) 0)<|BB f0<|CN 2<|EE k4<|CC<|ZZ) k!) k!) bA rfl
def xZ:Code:=(Try.f25.body).getD .skip
theorem o_:Try.f25.body=some xZ:=by kernel_rfl
def bj (q:aD) (l_:List aK) (t:Int):Int:=(bif (!decide ((cx q l_)=0)) then (cx q l_) else (bif (!(iR t)) then 1 else 0))
theorem pa {d:Nat} {h:aA} {bJ:AV} (q:aD) (l_:List aK) (t:Int) (fB:aF.ok h q) (dR:aY h bJ l_) (bS:Tidy h):cz (d+12) (.fn 25) [(AV.agg [(AV.str q.name),(Zi q.ai),(Zi q.af),(Zi q.aH),(Zi q.aI),(Zi q.bad),q.az]),bJ,(Zi t)] h= .ret (Zi (bj q l_ t)) h:=by
 have mL:=dR.small
 have hU:=fB.2.small
 obtain ⟨h1,cj,cg,iu,bf,cf⟩:=fY bS (aX.cells [(AV.str q.name),(Zi q.ai),(Zi q.af),(Zi q.aH),(Zi q.aI),(Zi q.bad),q.az] 26 false)
 have bA:Has h h1:=cf
 have k2:=xY (d:=d) q l_ (aF.mono bA fB) (dR.has bA) cg
 rcases bZq (!decide ((cx q l_)=0)) with f0 | f0
 · have jW:=DS f0
   have e:bj q l_ t=(cx q l_):=by simp only[bj,f0,ak,aj]
   rw[e]
   exact aE rfl (ba Try.func25 o_ rfl (.inr rfl) (pk (d+11) _ _ h _ h1 (NN cj (fun i=>(Pt i))<|CC<|MM (aO 26 0 (AV.agg [(AV.str q.name),(Zi q.ai),(Zi q.af),(Zi q.aH),(Zi q.aI),(Zi q.bad),q.az]) bf k!)<|CC<|EE k2<|CN 2<|VV (kF 31 false true .i64 (cx q l_) 0)<|BB f0<|CN 2<|ZZ) k!) k!) bA rfl
 · have jW:=DT f0
   have k4:=v7 (d:=d+9) t cg
   rcases bZq (!(iR t)) with f1 | f1
   · have e:bj q l_ t=1:=by simp only[bj,f0,f1,ak,aj]
     rw[e]
     exact aE rfl (ba Try.func25 o_ rfl (.inr rfl) (pk (d+11) _ _ h _ h1 (NN cj (fun i=>(Pt i))<|CC<|MM (aO 26 0 (AV.agg [(AV.str q.name),(Zi q.ai),(Zi q.af),(Zi q.aH),(Zi q.aI),(Zi q.bad),q.az]) bf k!)<|CC<|EE k2<|CN 2<|VV (kF 31 false true .i64 (cx q l_) 0)<|BC f0<|EE k4<|CC<|BC f1<|ZZ) k!) k!) bA rfl
   · have e:bj q l_ t=0:=by simp only[bj,f0,f1,ak,aj]
     rw[e]
     exact aE rfl (ba Try.func25 o_ rfl (.inr rfl) (pk (d+11) _ _ h _ h1 (NN cj (fun i=>(Pt i))<|CC<|MM (aO 26 0 (AV.agg [(AV.str q.name),(Zi q.ai),(Zi q.af),(Zi q.aH),(Zi q.aI),(Zi q.bad),q.az]) bf k!)<|CC<|EE k2<|CN 2<|VV (kF 31 false true .i64 (cx q l_) 0)<|BC f0<|EE k4<|CC<|BC f1<|ZZ) k!) k!) bA rfl
def AM:Code:=(Try.f10.body).getD .skip
theorem rN:Try.f10.body=some AM:=by kernel_rfl
def ab (q:aD) (l_:List aK) (t:Int):List Span×Int:=(bif (decide ((bx q l_)=0)) then (bif (!(fJ t)) then ([],1) else ((cC q l_ t),0)) else ([],(bx q l_)))
theorem Hm {d:Nat} {h:aA} {bJ:AV} (q:aD) (l_:List aK) (t:Int) (fB:aF.ok h q) (dR:aY h bJ l_) (bS:Tidy h):∃z0 hk,cz (d+5) (.fn 10) [(AV.agg [(AV.str q.name),(Zi q.ai),(Zi q.af),(Zi q.aH),(Zi q.aI),(Zi q.bad),q.az]),bJ,(Zi t)] h= .ret (AV.tuple [z0,(Zi (ab q l_ t).2)]) hk∧Grow h hk∧(aY hk z0 ((ab q l_ t).1)∧bH h hk z0 (ab q l_ t).1):=by
 have mL:=dR.small
 have hU:=fB.2.small
 obtain ⟨h1,cj,cg,iu,bf,cf⟩:=fY bS (aX.cells [(AV.str q.name),(Zi q.ai),(Zi q.af),(Zi q.aH),(Zi q.aI),(Zi q.bad),q.az] 26 false)
 have bA:Has h h1:=cf
 have k2:=xJ (d:=d) q l_ (aF.mono bA fB) (dR.has bA) cg
 rcases bZq (decide ((bx q l_)=0)) with f0 | f0
 · have jW:=of_decide_eq_true f0
   have k4:=zh (d:=d+3) t cg
   rcases bZq (!(fJ t)) with f1 | f1
   · have e:ab q l_ t=([],1):=by simp only[ab,f0,f1,ak,aj]
     rw[e]
     have x9:bH h h1 AV.aP ([]:List Span):= .inl ⟨.inl rfl,rfl⟩
     exact ⟨AV.aP,jj rfl (ba Try.func10 rN rfl (.inr rfl) (pk (d+4) _ _ h _ h1 (NN cj (fun i=>(Pt i))<|CN 2<|MM (aO 26 0 (AV.agg [(AV.str q.name),(Zi q.ai),(Zi q.af),(Zi q.aH),(Zi q.aI),(Zi q.bad),q.az]) bf k!)<|CC<|EE k2<|CN 2<|VV (lV 31 false true .i64 (bx q l_) 0)<|CC<|BC f0<|BB f0<|EE k4<|BC f0<|VV (ov (!(fJ t)) false f0)<|BB f1<|CN 3<|TT<|CN 3<|ZZ) k!) k!) bS ⟨cg,bA,by omega⟩ (P:=fun hh=>(aY hh AV.aP ([]:List Span)∧bH h hh AV.aP ([]:List Span))) ⟨bH.rows x9 (by first | omega | decide) (fun y hy=>by cases hy),x9⟩ fun v=>⟨bH.B' x9 (pD v (by simp)),bH.Cp x9 (pD v (by simp))⟩⟩
   · have q6:(!decide ((bx q l_)=0))=false:=d!
     obtain ⟨z7,h9,aaH,qu,Yx,ady⟩:=Hf (d:=d+1) q l_ t (aF.mono bA fB) (dR.has bA) (by first | omega | exact (kO (by assumption)).1 | exact (kO (by assumption)).2.1 | exact (kO (by assumption)).2.2) (by first | omega | exact (kO (by assumption)).1 | exact (kO (by assumption)).2.1 | exact (kO (by assumption)).2.2) (by first | omega | exact (kO (by assumption)).1 | exact (kO (by assumption)).2.1 | exact (kO (by assumption)).2.2) cg
     have nM:=qu.y
     have Z1:h1.nx≤h9.nx:=qu.n
     have jM:Has h h9:=bA.trans qu.a
     have adz:=Yx.small
     have e:ab q l_ t=((cC q l_ t),0):=by simp only[ab,f0,f1,ak,aj]
     rw[e]
     have x9:bH h h9 z7 (cC q l_ t):=bH.le (h0:=h) ady o!
     exact ⟨z7,jj rfl (ba Try.func10 rN rfl (.inr rfl) (pk (d+4) _ _ h _ h9 (NN cj (fun i=>(Pt i))<|CN 2<|MM (aO 26 0 (AV.agg [(AV.str q.name),(Zi q.ai),(Zi q.af),(Zi q.aH),(Zi q.aI),(Zi q.bad),q.az]) bf k!)<|CC<|EE k2<|CN 2<|VV (lV 31 false true .i64 (bx q l_) 0)<|CC<|BC f0<|BB f0<|EE k4<|BC f0<|VV (ov (!(fJ t)) false f0)<|BC f1<|VV (kF 31 false true .i64 (bx q l_) 0)<|BM q6 (aO 26 0 (AV.agg [(AV.str q.name),(Zi q.ai),(Zi q.af),(Zi q.aH),(Zi q.aI),(Zi q.bad),q.az]) bf k!)<|CN 2<|EE aaH<|CN 2<|ZZ) k!) k!) bS ⟨nM,jM,by omega⟩ (P:=fun hh=>(aY hh z7 (cC q l_ t)∧bH h hh z7 (cC q l_ t))) ⟨bH.rows x9 (by first | omega | decide) (Yx.Va),x9⟩ fun v=>⟨bH.B' x9 (pD v (by simp)),bH.Cp x9 (pD v (by simp))⟩⟩
 · have jW:=of_decide_eq_false f0
   have q4:(!decide ((bx q l_)=0))=true:=d!
   have e:ab q l_ t=([],(bx q l_)):=by simp only[ab,f0,ak,aj]
   rw[e]
   have x9:bH h h1 AV.aP ([]:List Span):= .inl ⟨.inl rfl,rfl⟩
   exact ⟨AV.aP,jj rfl (ba Try.func10 rN rfl (.inr rfl) (pk (d+4) _ _ h _ h1 (NN cj (fun i=>(Pt i))<|CN 2<|MM (aO 26 0 (AV.agg [(AV.str q.name),(Zi q.ai),(Zi q.af),(Zi q.aH),(Zi q.aI),(Zi q.bad),q.az]) bf k!)<|CC<|EE k2<|CN 2<|VV (lV 31 false true .i64 (bx q l_) 0)<|CC<|BB f0<|BB f0<|BV f0 (uL false f0)<|FF<|CC<|VV (kF 31 false true .i64 (bx q l_) 0)<|BB q4<|CN 3<|ZZ) k!) k!) bS ⟨cg,bA,by omega⟩ (P:=fun hh=>(aY hh AV.aP ([]:List Span)∧bH h hh AV.aP ([]:List Span))) ⟨bH.rows x9 (by first | omega | decide) (fun y hy=>by cases hy),x9⟩ fun v=>⟨bH.B' x9 (pD v (by simp)),bH.Cp x9 (pD v (by simp))⟩⟩
theorem adA (q:aD):bu ([]:List aD) q=aM q:=by
 rw[JU]
 have e:cL ([]:List aD) (fun y=>dL y q)=false:=by rw[rL];rfl
 rw[e,aj,aM]
 cases dO q.name<;>rfl
theorem L9 (q:aD) (r:aK):cX q r=b_ q r:=by
 rw[cX,b_,tL]
 by_cases h:r.aL<0
 · rw[decide_eq_true h,decide_eq_false (show ¬0≤r.aL by omega)];rfl
 · rw[decide_eq_false h,decide_eq_true (show 0≤r.aL by omega)]
   by_cases h2:r.aL<(q.aC.length:Int)
   · rw[decide_eq_true h2,decide_eq_false (show ¬(q.aC.length:Int)≤r.aL by omega)];rfl
   · rw[decide_eq_false h2,decide_eq_true (show (q.aC.length:Int)≤r.aL by omega)];rfl
theorem N3 (q:aD) (l:List aK):∀(k i:Nat),(match cR (fun jx=>eD (List.take jx l) (List.g l jx) q) l k i with | none=>0 | some r=>r)=bP q l k i 0
 | 0,_=>rfl
 | k+1,i=>by
   rw[cR,bP]
   simp only[decide_true,ak]
   rw[eD,L9]
   by_cases h:b_ q (l.g i)=0
   · rw[decide_eq_true h,h];exact N3 q l k (i+1)
   · rw[decide_eq_false h,Ck q l k (i+1) _ h];rfl
theorem Aj (q:aD) (l:List aK):cx q l=bx q l:=by
 rw[cx,bx,adA]
 by_cases h:aM q=0
 · rw[decide_eq_true h,h,cM]
   by_cases h2:(64:Int)<((l.length:Nat):Int)
   · rw[decide_eq_true h2,Ck q l _ _ 3 (by decide)];rfl
   · rw[decide_eq_false h2];exact N3 q l l.length 0
 · rw[decide_eq_false h,Ck q l _ _ _ h];rfl
theorem PH {x:Int} (h1: -9223372036854775808≤x) (h2:x<9223372036854775808):IntKind.i64.wrap x=x:=wrap_i64 h1 h2
theorem Tx {g:bV} {t:Int} (h:0≤g.since∧g.since≤100000) (t0:0≤t) (t1:t≤100000):iQ g t=cn g t:=by
 rw[iQ,cn,PH (x:=t - g.since) o! o!]
 obtain ⟨m1,m2⟩:=Tj (x:=t - g.since) (y:=0) (m:=100000) o! o!
 generalize imax (t - g.since) 0=m at m1 m2 ⊢
 rw[PH (x:=m+1000) o! o!,PH (x:=m+1000 - 1) o! o!,PH (x:=m+999) o! o!,show m+1000 - 1=m+999 by omega]
def Ho:Code:=(Try.f88.body).getD .skip
theorem PI:Try.f88.body=some Ho:=by kernel_rfl
def lf (x_:Int):Bool:=(!decide (x_=x_))
theorem E8 {d:Nat} {h:aA} (x_:Int) (bS:Tidy h):cz (d+1) (.fn 88) [(Zi x_)] h= .ret (AV.bool (lf x_)) h:=by
 have e:lf x_=(!decide (x_=x_)):=by simp only[lf,ak,aj]
 rw[e]
 exact aE rfl (ba Try.func88 PI rfl (.inr rfl) (pk (d) _ _ h _ h (CN 3<|VV (kF 3 false false .i64 x_ x_)<|CC<|ZZ) k!) k!) (Has.refl _) rfl
def L_:Code:=(Try.f74.body).getD .skip
theorem uz:Try.f74.body=some L_:=by kernel_rfl
def nY (x_:Int) (y_:Int):Int:=(bif (lf x_) then (bif (lf y_) then 0 else (-1)) else (bif (lf y_) then 1 else (bif (decide (x_<y_)) then (-1) else (bif (decide (y_<x_)) then 1 else 0))))
theorem W1 {d:Nat} {h:aA} (x_:Int) (y_:Int) (bS:Tidy h):cz (d+2) (.fn 74) [(Zi x_),(Zi y_)] h= .ret (Zi (nY x_ y_)) h:=by
 have k1:=E8 (d:=d) x_ bS
 have k2:=E8 (d:=d) y_ bS
 rcases bZq (lf x_) with f0 | f0
 · rcases bZq (lf y_) with f1 | f1
   · have e:nY x_ y_=0:=by simp only[nY,f0,f1,ak,aj]
     rw[e]
     exact aE rfl (ba Try.func74 uz rfl (.inr rfl) (pk (d+1) _ _ h _ h (CN 2<|EE k1<|CN 2<|EE k2<|CN 2<|BC f0<|BC f1<|ZZ) k!) k!) (Has.refl _) rfl
   · have e:nY x_ y_=(-1):=by simp only[nY,f0,f1,ak,aj]
     rw[e]
     exact aE rfl (ba Try.func74 uz rfl (.inr rfl) (pk (d+1) _ _ h _ h (CN 2<|EE k1<|CN 2<|EE k2<|CN 2<|BC f0<|BC f1<|ZZ) k!) k!) (Has.refl _) rfl
 · rcases bZq (lf y_) with f1 | f1
   · have e:nY x_ y_=1:=by simp only[nY,f0,f1,ak,aj]
     rw[e]
     exact aE rfl (ba Try.func74 uz rfl (.inr rfl) (pk (d+1) _ _ h _ h (CN 2<|EE k1<|CN 2<|EE k2<|CN 2<|BC f0<|BC f1<|ZZ) k!) k!) (Has.refl _) rfl
   · rcases bZq (decide (x_<y_)) with f2 | f2
     · have my:=of_decide_eq_true f2
       have e:nY x_ y_=(-1):=by simp only[nY,f0,f1,f2,ak,aj]
       rw[e]
       exact aE rfl (ba Try.func74 uz rfl (.inr rfl) (pk (d+1) _ _ h _ h (CN 2<|EE k1<|CN 2<|EE k2<|CN 2<|BC f0<|BB f1<|CN 2<|VV (bK 3 false false .i64 x_ y_)<|BC f2<|ZZ) k!) k!) (Has.refl _) rfl
     · have my:=of_decide_eq_false f2
       rcases bZq (decide (y_<x_)) with f3 | f3
       · have lr:=of_decide_eq_true f3
         have e:nY x_ y_=1:=by simp only[nY,f0,f1,f2,f3,ak,aj]
         rw[e]
         exact aE rfl (ba Try.func74 uz rfl (.inr rfl) (pk (d+1) _ _ h _ h (CN 2<|EE k1<|CN 2<|EE k2<|CN 2<|BC f0<|BB f1<|CN 2<|VV (bK 3 false false .i64 x_ y_)<|BB f2<|CN 2<|VV (cI 3 false false .i64 x_ y_)<|BC f3<|ZZ) k!) k!) (Has.refl _) rfl
       · have lr:=of_decide_eq_false f3
         have e:nY x_ y_=0:=by simp only[nY,f0,f1,f2,f3,ak,aj]
         rw[e]
         exact aE rfl (ba Try.func74 uz rfl (.inr rfl) (pk (d+1) _ _ h _ h (CN 2<|EE k1<|CN 2<|EE k2<|CN 2<|BC f0<|BB f1<|CN 2<|VV (bK 3 false false .i64 x_ y_)<|BB f2<|CN 2<|VV (cI 3 false false .i64 x_ y_)<|BC f3<|ZZ) k!) k!) (Has.refl _) rfl
def JX:Code:=(Try.f73.body).getD .skip
theorem Ty:Try.f73.body=some JX:=by kernel_rfl
def pZ (a:Gate) (b:Gate):Int:=(nY a.time b.time)
theorem Tz {d:Nat} {h:aA} (a:Gate) (b:Gate) (h_a:aF.ok h a) (h_b:aF.ok h b) (bS:Tidy h):cz (d+3) (.fn 73) [(AV.agg [(Zi a.time),(Zi a.aw),(Zi a.ar)]),(AV.agg [(Zi b.time),(Zi b.aw),(Zi b.ar)])] h= .ret (Zi (pZ a b)) h:=by
 obtain ⟨h1,cj,cg,iu,bf,cf⟩:=fY bS (aX.cells [(Zi a.time),(Zi a.aw),(Zi a.ar)] 66 false)
 have bA:Has h h1:=cf
 obtain ⟨h2,iw,eQ,te,cO,dg⟩:=fY cg (aX.cells [(Zi b.time),(Zi b.aw),(Zi b.ar)] 66 false)
 have dZ:Has h h2:=bA.trans dg
 have k3:=W1 (d:=d) a.time b.time eQ
 have e:pZ a b=(nY a.time b.time):=by simp only[pZ,ak,aj]
 rw[e]
 exact aE rfl (ba Try.func73 Ty rfl (.inr rfl) (pk (d+2) _ _ h _ h2 (NN cj (fun i=>(Pt i))<|NN iw (fun i=>(Pt i))<|CN 2<|MM (aO 3 0 (Zi a.time) (dg _ _ bf) k!)<|CC<|MM (aO 3 0 (Zi b.time) cO k!)<|EE k3<|CC<|ZZ) k!) k!) dZ rfl
set_option maxRecDepth 20000
section
variable {α:Type} [aF α] {h:aA} {l:List α} {p i:Nat} {f:TypeId} {ro:Bool}
theorem Ma {q:Nat} (hq:q=0+i*aF.n α) (hi:i<l.length):∀j,j<aF.n α→(l.flatMap aF.c)[q+j]? =(aF.c (l.g i))[j]? :=fun j hj=>by
 rw[hq,Nat.zero_add];exact jU aF.len l i j hi hj
theorem Mb {q:Nat} (hq:q=0+i*aF.n α) (hi:i<l.length):q+aF.n α≤(l.flatMap aF.c).length:=by
 rw[hq,dc aF.len,Nat.zero_add,←Nat.succ_mul];exact Nat.mul_le_mul_right _ hi
theorem pL {q:Nat} (hg:h.get p=some (.cells (l.flatMap aF.c) f ro)) (hq:q=0+i*aF.n α) (hi:i<l.length):bk env h (aF.e α) (.ptr p q)=some (.agg (aF.c (l.g i))):=by
 have h2:=Ma (l:=l) hq hi
 have hl:=aF.len (l.g i)
 have hn:=Mb (l:=l) hq hi
 simp only[bk,hg,iE,aF.agg,aF.size,hn,if_true]
 congr 2
 apply List.ext_getElem?
 intro j
 by_cases hj:j<aF.n α
 · rw[List.getElem?_take_of_lt hj,List.getElem?_drop,h2 j hj]
 · rw[List.getElem?_eq_none (by rw[List.length_take];omega),List.getElem?_eq_none o!]
theorem iD {q j:Nat} {t:TypeId} {w:AV} (hg:h.get p=some (.cells (l.flatMap aF.c) f ro)) (hq:q=0+i*aF.n α) (hi:i<l.length) (ht:fD env t=some false) (hw:(aF.c (l.g i))[j]? =some w):bk env h t (.ptr p (q+j))=some w:=by
 have hj:=(List.getElem?_eq_some_iff.1 hw).1
 rw[aF.len] at hj
 simp only[bk,hg,iE,ht]
 rw[Ma (l:=l) hq hi j hj,hw]
theorem ny {q j n:Nat} {t:TypeId} {ws:List AV} (hg:h.get p=some (.cells (l.flatMap aF.c) f ro)) (hq:q=0+i*aF.n α) (hi:i<l.length) (ht:fD env t=some true) (hs:ch env t=some n) (hj:j+n≤aF.n α) (hw:((aF.c (l.g i)).drop j).take n=ws):bk env h t (.ptr p (q+j))=some (.agg ws):=by
 have h2:=Ma (l:=l) hq hi
 have hl:=aF.len (l.g i)
 have hn:=Mb (l:=l) hq hi
 have hc:q+j+n≤(l.flatMap aF.c).length:=by omega
 simp only[bk,hg,iE,ht,hs,hc,if_true]
 rw[←hw]
 congr 2
 apply List.ext_getElem?
 intro k
 by_cases hk:k<n
 · rw[List.getElem?_take_of_lt hk,List.getElem?_take_of_lt hk,List.getElem?_drop,List.getElem?_drop,Nat.add_assoc,h2 (j+k) o!]
 · rw[List.getElem?_eq_none (by rw[List.length_take];omega),List.getElem?_eq_none (by rw[List.length_take];omega)]
theorem Hp {j:Nat} {vs:List AV} {x:α} (hi:i<l.length) (hj:j+vs.length≤aF.n α) (hx:aF.c x=setFrom (aF.c (l.g i)) j vs):setFrom (l.flatMap aF.c) (i*aF.n α+j) vs=(l.set i x).flatMap aF.c:=by
 have e0:=xD hi x
 rw[hx] at e0
 rw[←e0]
 have hl:=dc aF.len l
 have hb:i*aF.n α+aF.n α≤l.length*aF.n α:=by rw[←Nat.succ_mul];exact Nat.mul_le_mul_right _ hi
 have hc:=aF.len (l.g i)
 have gi:∀r,r<aF.n α→(l.flatMap aF.c)[i*aF.n α+r]? =(aF.c (l.g i))[r]? :=fun r hr=>jU aF.len l i r hi hr
 have sl:(setFrom (aF.c (l.g i)) j vs).length=aF.n α:=by rw[←hx];exact aF.len x
 apply List.ext_getElem?
 intro k
 rw[fX,fX,hl,sl]
 by_cases e:i*aF.n α≤k∧k<i*aF.n α+aF.n α
 · obtain ⟨r,rfl⟩:∃r,k=i*aF.n α+r:=⟨k - i*aF.n α,by omega⟩
   rw[if_pos (c:=i*aF.n α≤i*aF.n α+r∧i*aF.n α+r<i*aF.n α+aF.n α∧i*aF.n α+r<l.length*aF.n α) ⟨by omega,by omega,by omega⟩,Nat.add_sub_cancel_left,fX,hc]
   by_cases e2:j≤r∧r<j+vs.length
   · rw[if_pos ⟨by omega,by omega,by omega⟩,if_pos ⟨by omega,by omega,by omega⟩]
     congr 1;omega
   · rw[if_neg o!,if_neg o!,gi r o!]
 · rw[if_neg o!,if_neg o!]
theorem Has.mh {p:Nat} {h0 h h':aA} (a:Has h0 h) (k:Kept p h h') (n:h0.get p=none):Has h0 h':=fun i x g=>k i x (fun e=>by subst e;rw[n] at g;cases g) (a i x g)
theorem mi {h:aA} {p:Nat} {o:aX} (y:Tidy h) (g:h.get p=some o):∃h0,Tidy h0∧Has h0 h∧h0.get p=none∧h0.nx=h.nx∧(∀hk,Has h0 hk→Kept p h hk)∧∀g,Has g h→g.get p=none→Has g h0:=by
 refine ⟨h.put p none,fun i x q=>?_,fun i x q=>?_,aA.ck _,rfl,fun hk a i x hi q=>a i x (by rw[aA.bB (Ne.symm hi)];exact q),fun g a n i x q=>by
  by_cases e:p=i
  · subst e;rw[n] at q;cases q
  · rw[aA.bB e];exact a _ _ q⟩
 · by_cases e:p=i
   · subst e;rw[aA.ck] at q;cases q
   · rw[aA.bB e] at q;exact y _ _ q
 · by_cases e:p=i
   · subst e;rw[aA.ck] at q;cases q
   · rw[aA.bB e] at q;exact q
theorem A3 {h:aA} {p:Nat} (y:Tidy h) (hp:h.nx≤p):h.get p=none:=by
 cases e:h.get p with
 | none=>rfl
 | some o=>have:=y _ _ e;omega
theorem ya {q j:Nat} {t:TypeId} {n:Nat} {v:AV} {x:α} (y:Tidy h) (hg:h.get p=some (.cells (l.flatMap aF.c) f false)) (hq:q=0+i*aF.n α) (hi:i<l.length) (hs:ch env t=some n) (hv:v.cells.length=n) (hj:j+n≤aF.n α) (hk:v.cells.all AV.scalar=true) (hx:aF.c x=setFrom (aF.c (l.g i)) j v.cells):
 ∃h',fE env h t (.ptr p (q+j)) v=some h'∧Tidy h'∧h'.nx=h.nx∧h'.get p=some (.cells ((l.set i x).flatMap aF.c) f false)∧Kept p h h':=by
 have hf:=Mb (l:=l) hq hi
 obtain ⟨h',s⟩:=B2 (E:=env) (t:=t) (o:=q+j) (n:=n) (v:=v) hg hs hv o! hk
 refine ⟨h',s,vL y s hg,xA s hg,?_,fun a w ha gw=>vK y s hg ha gw⟩
 rw[zf y s hg]
 rw[show q+j=i*aF.n α+j by omega,Hp hi o! hx]
end
end
end Go.Proofs.aG
