import Derived.Test.YtfllahfbmaafcaaW0
import Derived.Test.YtfllahfbmaafcaaW3
import Derived.Test.YtfllahfbmaafcaaW2
import Derived.Test.YtfllahfbmaafcaaW1
namespace Go.Proofs.aG
open Go.Proofs Ab
noncomputable section
set_option maxRecDepth 100000
set_option maxHeartbeats 4000000
set_option linter.unusedVariables false
set_option linter.unusedSimpArgs false
def sZ:Code:=(Try.f41.body).getD .skip
theorem cY:Try.f41.body=some sZ:=by kernel_rfl
def aZ (rP:List ay) (q:ay):Int:=(bif (!(fV q.name)) then 5 else (bif (cI rP (fun y=>dG y q)) then 6 else (bif (!(gF q.ao)) then 1 else (bif (!(gF q.ai)) then 1 else (bif (decide (q.ai<q.ao)) then 1 else (bif (!(dX q.aI 10000)) then 1 else (bif (!(dX q.aJ 10000)) then 1 else (bif (decide (8<((q.ae.length:Nat):Int))) then 3 else (bif (!(dX q.bad ((q.ae.length:Nat):Int))) then 1 else (cT q.ae 8 (fun jx=>dw (List.take jx q.ae) (List.g q.ae jx))))))))))))
theorem pj {d:Nat} {h:aw} {sS:AV} (rP:List ay) (q:ay) (nu:aP h sS rP) (gA:aA.ok h q) (ch:Tidy h):dh (d+9) (.fn 41) [sS,(AV.agg [(AV.str q.name),(Zi q.ao),(Zi q.ai),(Zi q.aI),(Zi q.aJ),(Zi q.bad),q.aB])] h= .ret (Zi (aZ rP q)) h:=by
 have Ew:=nu.small
 have jF:=gA.2.small
 obtain ⟨h1,ct,ck,jj,aW,cr⟩:=iX ch (aR.cells [(AV.str q.name),(Zi q.ao),(Zi q.ai),(Zi q.aI),(Zi q.aJ),(Zi q.bad),q.aB] 26 false)
 have bG:Has h h1:=cr
 have k2:=Ch (d:=d+7) q.name gA.1 ck
 rcases Bool.eq_false_or_eq_true (!(fV q.name)) with f0 | f0
 · have e:aZ rP q=5:=by simp only[aZ,f0,ak,ah]
   rw[e]
   exact aC rfl (bh Try.func41 cY rfl (.inr rfl) (pk (d+8) _ _ h _ h1 (NN ct (fun i=>(Pt i))<|CN 2<|MM (aK 9 0 (AV.str q.name) aW k!)<|EE k2<|CN 2<|BC f0<|ZZ) k!) k!) bG rfl
 · have k4:=sX (d:=d+6) rP (fun y=>dG y q) (nu.has bG) (fun y hy hh yy aa=>vJ (d:=d+5) y q h.nx (aA.mono aa ((nu.has bG).Gk y hy)) (aA.mono aa (aA.mono bG gA)) (aa _ _ aW) yy) ck
   rcases Bool.eq_false_or_eq_true (cI rP (fun y=>dG y q)) with f1 | f1
   · have e:aZ rP q=6:=by simp only[aZ,f0,f1,ak,ah]
     rw[e]
     exact aC rfl (bh Try.func41 cY rfl (.inr rfl) (pk (d+8) _ _ h _ h1 (NN ct (fun i=>(Pt i))<|CN 2<|MM (aK 9 0 (AV.str q.name) aW k!)<|EE k2<|CN 2<|BB f0<|CN 2<|EE k4<|CC<|BC f1<|ZZ) k!) k!) bG rfl
   · have k6:=sY (d:=d+7) q.ao ck
     rcases Bool.eq_false_or_eq_true (!(gF q.ao)) with f2 | f2
     · have e:aZ rP q=1:=by simp only[aZ,f0,f1,f2,ak,ah]
       rw[e]
       exact aC rfl (bh Try.func41 cY rfl (.inr rfl) (pk (d+8) _ _ h _ h1 (NN ct (fun i=>(Pt i))<|CN 2<|MM (aK 9 0 (AV.str q.name) aW k!)<|EE k2<|CN 2<|BB f0<|CN 2<|EE k4<|CC<|BB f1<|CN 2<|MM (aK 3 1 (Zi q.ao) aW k!)<|EE k6<|CN 2<|BB f2<|BC f2<|ZZ) k!) k!) bG rfl
     · have k8:=sY (d:=d+7) q.ai ck
       rcases Bool.eq_false_or_eq_true (!(gF q.ai)) with f3 | f3
       · have e:aZ rP q=1:=by simp only[aZ,f0,f1,f2,f3,ak,ah]
         rw[e]
         exact aC rfl (bh Try.func41 cY rfl (.inr rfl) (pk (d+8) _ _ h _ h1 (NN ct (fun i=>(Pt i))<|CN 2<|MM (aK 9 0 (AV.str q.name) aW k!)<|EE k2<|CN 2<|BB f0<|CN 2<|EE k4<|CC<|BB f1<|CN 2<|MM (aK 3 1 (Zi q.ao) aW k!)<|EE k6<|CN 2<|BB f2<|CN 2<|MM (aK 3 2 (Zi q.ai) aW k!)<|EE k8<|CN 2<|BB f3<|BC f3<|ZZ) k!) k!) bG rfl
       · rcases Bool.eq_false_or_eq_true (decide (q.ai<q.ao)) with f4 | f4
         · have jE:=of_decide_eq_true f4
           have e:aZ rP q=1:=by simp only[aZ,f0,f1,f2,f3,f4,ak,ah]
           rw[e]
           exact aC rfl (bh Try.func41 cY rfl (.inr rfl) (pk (d+8) _ _ h _ h1 (NN ct (fun i=>(Pt i))<|CN 2<|MM (aK 9 0 (AV.str q.name) aW k!)<|EE k2<|CN 2<|BB f0<|CN 2<|EE k4<|CC<|BB f1<|CN 2<|MM (aK 3 1 (Zi q.ao) aW k!)<|EE k6<|CN 2<|BB f2<|CN 2<|MM (aK 3 2 (Zi q.ai) aW k!)<|EE k8<|CN 2<|BB f3<|CN 2<|MM (aK 3 1 (Zi q.ao) aW k!)<|CN 2<|MM (aK 3 2 (Zi q.ai) aW k!)<|VV (b9 3 false false .i64 q.ao q.ai)<|CC<|BC f4<|ZZ) k!) k!) bG rfl
         · have jE:=of_decide_eq_false f4
           have KY:=lR (d:=d+7) q.aI 10000 ck
           rcases Bool.eq_false_or_eq_true (!(dX q.aI 10000)) with f5 | f5
           · have e:aZ rP q=1:=by simp only[aZ,f0,f1,f2,f3,f4,f5,ak,ah]
             rw[e]
             exact aC rfl (bh Try.func41 cY rfl (.inr rfl) (pk (d+8) _ _ h _ h1 (NN ct (fun i=>(Pt i))<|CN 2<|MM (aK 9 0 (AV.str q.name) aW k!)<|EE k2<|CN 2<|BB f0<|CN 2<|EE k4<|CC<|BB f1<|CN 2<|MM (aK 3 1 (Zi q.ao) aW k!)<|EE k6<|CN 2<|BB f2<|CN 2<|MM (aK 3 2 (Zi q.ai) aW k!)<|EE k8<|CN 2<|BB f3<|CN 2<|MM (aK 3 1 (Zi q.ao) aW k!)<|CN 2<|MM (aK 3 2 (Zi q.ai) aW k!)<|VV (b9 3 false false .i64 q.ao q.ai)<|CC<|BC f4<|MM (aK 3 3 (Zi q.aI) aW k!)<|EE KY<|CN 2<|BB f5<|BC f5<|ZZ) k!) k!) bG rfl
           · have Vc:=lR (d:=d+7) q.aJ 10000 ck
             rcases Bool.eq_false_or_eq_true (!(dX q.aJ 10000)) with f6 | f6
             · have e:aZ rP q=1:=by simp only[aZ,f0,f1,f2,f3,f4,f5,f6,ak,ah]
               rw[e]
               exact aC rfl (bh Try.func41 cY rfl (.inr rfl) (pk (d+8) _ _ h _ h1 (NN ct (fun i=>(Pt i))<|CN 2<|MM (aK 9 0 (AV.str q.name) aW k!)<|EE k2<|CN 2<|BB f0<|CN 2<|EE k4<|CC<|BB f1<|CN 2<|MM (aK 3 1 (Zi q.ao) aW k!)<|EE k6<|CN 2<|BB f2<|CN 2<|MM (aK 3 2 (Zi q.ai) aW k!)<|EE k8<|CN 2<|BB f3<|CN 2<|MM (aK 3 1 (Zi q.ao) aW k!)<|CN 2<|MM (aK 3 2 (Zi q.ai) aW k!)<|VV (b9 3 false false .i64 q.ao q.ai)<|CC<|BC f4<|MM (aK 3 3 (Zi q.aI) aW k!)<|EE KY<|CN 2<|BC f5<|MM (aK 3 4 (Zi q.aJ) aW k!)<|EE Vc<|CN 2<|BC f6<|ZZ) k!) k!) bG rfl
             · have aaM:dN (some (.slice 45)) (some q.aB)=some (Zn q.ae.length):=gA.2.len
               rcases Bool.eq_false_or_eq_true (decide (8<((q.ae.length:Nat):Int))) with f7 | f7
               · have La:=of_decide_eq_true f7
                 have e:aZ rP q=3:=by simp only[aZ,f0,f1,f2,f3,f4,f5,f6,f7,ak,ah]
                 rw[e]
                 exact aC rfl (bh Try.func41 cY rfl (.inr rfl) (pk (d+8) _ _ h _ h1 (NN ct (fun i=>(Pt i))<|CN 2<|MM (aK 9 0 (AV.str q.name) aW k!)<|EE k2<|CN 2<|BB f0<|CN 2<|EE k4<|CC<|BB f1<|CN 2<|MM (aK 3 1 (Zi q.ao) aW k!)<|EE k6<|CN 2<|BB f2<|CN 2<|MM (aK 3 2 (Zi q.ai) aW k!)<|EE k8<|CN 2<|BB f3<|CN 2<|MM (aK 3 1 (Zi q.ao) aW k!)<|CN 2<|MM (aK 3 2 (Zi q.ai) aW k!)<|VV (b9 3 false false .i64 q.ao q.ai)<|CC<|BC f4<|MM (aK 3 3 (Zi q.aI) aW k!)<|EE KY<|CN 2<|BC f5<|MM (aK 3 4 (Zi q.aJ) aW k!)<|EE Vc<|CN 2<|BC f6<|MM (aK 24 6 q.aB aW k!)<|VV aaM<|VV (b9 3 false true .i64 ((q.ae.length:Nat):Int) 8)<|CC<|BC f7<|ZZ) k!) k!) bG rfl
               · have La:=of_decide_eq_false f7
                 have WY:dN (some (.slice 45)) (some q.aB)=some (Zn q.ae.length):=gA.2.len
                 have k18:=lR (d:=d+7) q.bad ((q.ae.length:Nat):Int) ck
                 rcases Bool.eq_false_or_eq_true (!(dX q.bad ((q.ae.length:Nat):Int))) with f8 | f8
                 · have e:aZ rP q=1:=by simp only[aZ,f0,f1,f2,f3,f4,f5,f6,f7,f8,ak,ah]
                   rw[e]
                   exact aC rfl (bh Try.func41 cY rfl (.inr rfl) (pk (d+8) _ _ h _ h1 (NN ct (fun i=>(Pt i))<|CN 2<|MM (aK 9 0 (AV.str q.name) aW k!)<|EE k2<|CN 2<|BB f0<|CN 2<|EE k4<|CC<|BB f1<|CN 2<|MM (aK 3 1 (Zi q.ao) aW k!)<|EE k6<|CN 2<|BB f2<|CN 2<|MM (aK 3 2 (Zi q.ai) aW k!)<|EE k8<|CN 2<|BB f3<|CN 2<|MM (aK 3 1 (Zi q.ao) aW k!)<|CN 2<|MM (aK 3 2 (Zi q.ai) aW k!)<|VV (b9 3 false false .i64 q.ao q.ai)<|CC<|BC f4<|MM (aK 3 3 (Zi q.aI) aW k!)<|EE KY<|CN 2<|BC f5<|MM (aK 3 4 (Zi q.aJ) aW k!)<|EE Vc<|CN 2<|BC f6<|MM (aK 24 6 q.aB aW k!)<|VV aaM<|VV (b9 3 false true .i64 ((q.ae.length:Nat):Int) 8)<|CC<|BC f7<|MM (aK 3 5 (Zi q.bad) aW k!)<|CC<|MM (aK 24 6 q.aB aW k!)<|VV WY<|EE k18<|CN 2<|BC f8<|ZZ) k!) k!) bG rfl
                 · have k20:=vH (d:=d+7) q.ae 8 (fun jx=>dw (List.take jx q.ae) (List.g q.ae jx)) (gA.2.has bG) (fun jx hj aV hh yy aa fa=>Ci (d:=d+1) (List.take jx q.ae) (List.g q.ae jx) fa (aA.mono aa ((gA.2.has bG).ok hj)) yy) ck
                   have e:aZ rP q=(cT q.ae 8 (fun jx=>dw (List.take jx q.ae) (List.g q.ae jx))):=by simp only[aZ,f0,f1,f2,f3,f4,f5,f6,f7,f8,ak,ah]
                   rw[e]
                   exact aC rfl (bh Try.func41 cY rfl (.inr rfl) (pk (d+8) _ _ h _ h1 (NN ct (fun i=>(Pt i))<|CN 2<|MM (aK 9 0 (AV.str q.name) aW k!)<|EE k2<|CN 2<|BB f0<|CN 2<|EE k4<|CC<|BB f1<|CN 2<|MM (aK 3 1 (Zi q.ao) aW k!)<|EE k6<|CN 2<|BB f2<|CN 2<|MM (aK 3 2 (Zi q.ai) aW k!)<|EE k8<|CN 2<|BB f3<|CN 2<|MM (aK 3 1 (Zi q.ao) aW k!)<|CN 2<|MM (aK 3 2 (Zi q.ai) aW k!)<|VV (b9 3 false false .i64 q.ao q.ai)<|CC<|BC f4<|MM (aK 3 3 (Zi q.aI) aW k!)<|EE KY<|CN 2<|BC f5<|MM (aK 3 4 (Zi q.aJ) aW k!)<|EE Vc<|CN 2<|BC f6<|MM (aK 24 6 q.aB aW k!)<|VV aaM<|VV (b9 3 false true .i64 ((q.ae.length:Nat):Int) 8)<|CC<|BC f7<|MM (aK 3 5 (Zi q.bad) aW k!)<|CC<|MM (aK 24 6 q.aB aW k!)<|VV WY<|EE k18<|CN 2<|BC f8<|MM (aK 24 6 q.aB aW k!)<|EE k20<|CC<|ZZ) k!) k!) bG rfl
def fe (f:Nat→Option Int):Nat→Nat→Option Int
 | 0,_=>none
 | k+1,i=>match f i with
   | some r=>some r
   | none=>fe f k (i+1)
def er (x:Int):Option Int:=bif !decide (x=0) then some x else none
def s7 (f:Nat→Bool):Nat→Nat→Bool
 | 0,_=>false
 | k+1,i=>f i||s7 f k (i+1)
theorem I5 {f g:Nat→Option Int}:∀(k i:Nat),(∀j,i≤j→j<i+k→f j=g j)→fe f k i=fe g k i
 | 0,_,_=>rfl
 | k+1,i,h=>by
   rw[fe,fe,h i (Nat.le_refl _) o!,I5 k (i+1) fun j h1 h2=>h j o! o!]
theorem any_congr {f g:Nat→Bool}:∀(k i:Nat),(∀j,i≤j→j<i+k→f j=g j)→s7 f k i=s7 g k i
 | 0,_,_=>rfl
 | k+1,i,h=>by
   rw[s7,s7,h i (Nat.le_refl _) o!,any_congr k (i+1) fun j h1 h2=>h j o! o!]
theorem YG (o:Option Int):(match o with | none=>0 | some r=>r)=o.getD 0:=by cases o<;>rfl
theorem aaN {α:Type} [Inhabited α] {l:List α} {i j:Nat} (h:j<i):(l.take i).g j=l.g j:=by
 rw[List.g,List.g,List.getD_eq_getElem?_getD,List.getD_eq_getElem?_getD,List.getElem?_take_of_lt h]
theorem SZ {α:Type} {l:List α} {i:Nat} (h:i≤l.length):(l.take i).length=i:=by rw[List.length_take];omega
def vK (c:UInt8):Bool:=decide (97≤((c.toNat:Nat):Int))&&decide (((c.toNat:Nat):Int)≤122)
def digit (c:UInt8):Bool:=decide (48≤((c.toNat:Nat):Int))&&decide (((c.toNat:Nat):Int)≤57)
def dash (c:UInt8):Bool:=decide (((c.toNat:Nat):Int)=45)
theorem Ck (s:List bT) (P:bT→Bool):∀(k i:Nat),(ef s P k i=none∧s7 (fun j=>P (s.g j)) k i=false)∨∃n:Nat,ef s P k i=some (n:Int)∧s7 (fun j=>P (s.g j)) k i=true
 | 0,_=> .inl ⟨rfl,rfl⟩
 | k+1,i=>by
   rw[ef,s7]
   cases h:P (s.g i) with
   | true=>exact .inr ⟨i,rfl,rfl⟩
   | false=>exact Ck s P k (i+1)
theorem uq (s:List bT) (P:bT→Bool):eR s P=s7 (fun j=>P (s.g j)) s.length 0:=by
 unfold eR aG.fE
 rcases Ck s P s.length 0 with ⟨h1,h2⟩ | ⟨n,h1,h2⟩
 · rw[h1,h2];rfl
 · rw[h1,h2];exact decide_eq_true (Int.natCast_nonneg n)
theorem s9 {s:List bT} {i:Nat} (h:i≤s.length) (P:bT→Bool):eR (s.take i) P=s7 (fun j=>P (s.g j)) i 0:=by
 rw[uq,SZ h]
 exact any_congr i 0 fun j _ hj=>by rw[aaN o!]
theorem nj (P:Nat→Int) (l:List bT):∀(k i:Nat),du P l k i=fe (fun j=>er (P j)) k i
 | 0,_=>rfl
 | k+1,i=>by
   rw[du,fe,er,nj P l k (i+1)]
   cases (!decide (P i=0))<;>rfl
theorem ur (l:List bT) (fF:Int) (P:Nat→Int):cT l fF P=bif decide (fF<((l.length:Nat):Int)) then 3 else (fe (fun j=>er (P j)) l.length 0).getD 0:=by
 unfold cT
 rw[nj]
 cases decide (fF<((l.length:Nat):Int)) with
 | true=>rfl
 | false=>exact YG _
theorem uH (s:List ay) (P:ay→Bool):∀(k i:Nat),(dj s P k i=none∧s7 (fun j=>P (s.g j)) k i=false)∨∃n:Nat,dj s P k i=some (n:Int)∧s7 (fun j=>P (s.g j)) k i=true
 | 0,_=> .inl ⟨rfl,rfl⟩
 | k+1,i=>by
   rw[dj,s7]
   cases h:P (s.g i) with
   | true=>exact .inr ⟨i,rfl,rfl⟩
   | false=>exact uH s P k (i+1)
theorem ra (s:List ay) (P:ay→Bool):cI s P=s7 (fun j=>P (s.g j)) s.length 0:=by
 unfold cI aG.eg
 rcases uH s P s.length 0 with ⟨h1,h2⟩ | ⟨n,h1,h2⟩
 · rw[h1,h2];rfl
 · rw[h1,h2];exact decide_eq_true (Int.natCast_nonneg n)
def xw (f:Nat→Bool):Nat→Nat→Bool
 | 0,_=>true
 | k+1,i=>f i&&xw f k (i+1)
theorem all_congr {f g:Nat→Bool}:∀(k i:Nat),(∀j,i≤j→j<i+k→f j=g j)→xw f k i=xw g k i
 | 0,_,_=>rfl
 | k+1,i,h=>by
   rw[xw,xw,h i (Nat.le_refl _) o!,all_congr k (i+1) fun j h1 h2=>h j o! o!]
theorem I6 (a b:Int):decide (a<b)= !decide (b≤a):=by
 by_cases h:a<b
 · rw[decide_eq_true h,decide_eq_false o!];rfl
 · rw[decide_eq_false h,decide_eq_true o!];rfl
theorem Ex (s:List UInt8):∀(k i:Nat),bK s k i=bif xw (fun j=>vK (s.g j)||(!decide ((j:Int)=0)&&(digit (s.g j)||dash (s.g j)))) k i then none else some false
 | 0,_=>rfl
 | k+1,i=>by
   rw[bK,xw,Ex s k (i+1),vK,digit,dash]
   generalize xw _ k (i+1)=z
   generalize decide (97≤(((s.g i).toNat:Nat):Int))=a
   generalize decide ((((s.g i).toNat:Nat):Int)≤122)=b
   generalize decide (48≤(((s.g i).toNat:Nat):Int))=c
   generalize decide ((((s.g i).toNat:Nat):Int)≤57)=d
   generalize decide ((((s.g i).toNat:Nat):Int)=45)=e
   generalize decide ((i:Int)=0)=f
   cases a<;>cases b<;>cases c<;>cases d<;>cases e<;>cases f<;>rfl
theorem Ey (s:List UInt8):∀(k i:Nat),cS s k i=bif xw (fun j=>vK (s.g j)||(digit (s.g j)||dash (s.g j))) k i then none else some false
 | 0,_=>rfl
 | k+1,i=>by
   rw[cS,xw,Ey s k (i+1),vK,digit,dash]
   simp only[I6]
   generalize xw _ k (i+1)=z
   generalize decide (97≤(((s.g i).toNat:Nat):Int))=a
   generalize decide ((((s.g i).toNat:Nat):Int)≤122)=b
   generalize decide (48≤(((s.g i).toNat:Nat):Int))=c
   generalize decide ((((s.g i).toNat:Nat):Int)≤57)=d
   generalize decide ((((s.g i).toNat:Nat):Int)=45)=e
   cases a<;>cases b<;>cases c<;>cases d<;>cases e<;>rfl
theorem Ns (s:List UInt8):fV s=dK s:=by
 unfold fV dK
 cases s with
 | nil=>rfl
 | cons x s=>
   rw[decide_eq_false (show ¬x::s=[] by simp),decide_eq_false (show ¬(((x::s).length:Nat):Int)=0 by simp;omega)]
   cases decide (16<(((x::s).length:Nat):Int)) with
   | true=>rfl
   | false=>
     rw[Ex,Ey,List.length_cons,xw,xw,I6,I6]
     rw[all_congr (f:=fun j=>vK ((x::s).g j)||(!decide ((j:Int)=0)&&(digit ((x::s).g j)||dash ((x::s).g j)))) (g:=fun j=>vK ((x::s).g j)||(digit ((x::s).g j)||dash ((x::s).g j))) s.length (0+1) fun j hj _=>by
      simp only[decide_eq_false (show ¬(j:Int)=0 by omega),Bool.not_false,Bool.true_and]]
     simp only[vK]
     rw[show decide (((0:Nat):Int)=0)=true from rfl]
     generalize xw _ s.length (0+1)=z
     generalize decide (97≤((((x::s).g 0).toNat:Nat):Int))=a
     generalize decide (((((x::s).g 0).toNat:Nat):Int)≤122)=b
     generalize digit ((x::s).g 0)=c
     generalize dash ((x::s).g 0)=e
     cases a<;>cases b<;>cases c<;>cases e<;>cases z<;>rfl
theorem I7 (n:Int):gF n=cL n:=rfl
theorem rb (n:Int):cN n=d_ n:=rfl
theorem xy (x m:Int):dX x m=(!decide (x<0)&& !decide (m<x)):=by
 unfold dX
 rw[I6,I6]
 cases decide (0≤x)<;>cases decide (x≤m)<;>rfl
theorem S0 (g:bT):bz g=bif gE g then 0 else 1:=by
 unfold bz gE
 rw[xy,xy,rb]
 cases decide (g.acc<0)<;>cases decide (1000000000<g.acc)<;>cases decide (g.bH<0)<;>cases decide (1000000000<g.bH)<;>cases d_ g.since<;>rfl
theorem Nt (q:ay) (i0:Nat):∀(k i:Nat),bV i0 q k i=bif s7 (fun j=>decide ((q.ae.g j).name=(q.ae.g i0).name)) k i then some 6 else none
 | 0,_=>rfl
 | k+1,i=>by
   rw[bV,s7,Nt q i0 k (i+1)]
   cases decide ((q.ae.g i).name=(q.ae.g i0).name)<;>rfl
theorem S1 (q:ay) {i:Nat} (hi:i<q.ae.length):er (dw (q.ae.take i) (q.ae.g i))=bif (!(dK (q.ae.g i).name)) then some 5 else (match bV i q i 0 with | none=>er (bz (q.ae.g i)) | some r=>some r):=by
 unfold dw
 rw[Ns,s9 o!,Nt,S0]
 simp only[gR]
 cases dK (q.ae.g i).name with
 | false=>rfl
 | true=>
   cases s7 (fun j=>decide ((q.ae.g j).name=(q.ae.g i).name)) i 0 with
   | true=>rfl
   | false=>cases gE (q.ae.g i)<;>rfl
theorem Nu (q:ay):∀(k i:Nat),bO q k i=fe (fun i=>bif (!(dK (q.ae.g i).name)) then some 5 else (match bV i q i 0 with | none=>er (bz (q.ae.g i)) | some r=>some r)) k i
 | 0,_=>rfl
 | k+1,i=>by
   rw[bO,fe,Nu q k (i+1)]
   cases (!(dK (q.ae.g i).name)) with
   | true=>rfl
   | false=>
     cases bV i q i 0 with
     | some r=>rfl
     | none=>
       rw[er]
       cases (!decide (bz (q.ae.g i)=0))<;>rfl
theorem I8 (rP:List ay) (q:ay):aZ rP q=bif (!(dK q.name)) then 5 else bif cI rP (fun y=>dG y q) then 6 else aE q:=by
 unfold aZ aE
 rw[Ns]
 cases dK q.name with
 | false=>rfl
 | true=>
   cases cI rP (fun y=>dG y q) with
   | true=>rfl
   | false=>
     rw[I7,I7,xy,xy,xy,ur,Nu,I5 q.ae.length 0 fun j _ hj=>S1 q o!]
     cases cL q.ao with
     | false=>rfl
     | true=>cases cL q.ai with
       | false=>rfl
       | true=>cases decide (q.ai<q.ao) with
         | true=>rfl
         | false=>
           cases decide (q.aI<0) with
           | true=>rfl
           | false=>cases decide (10000<q.aI) with
             | true=>rfl
             | false=>cases decide (q.aJ<0) with
               | true=>rfl
               | false=>cases decide (10000<q.aJ) with
                 | true=>rfl
                 | false=>cases decide (8<((q.ae.length:Nat):Int)) with
                   | true=>rfl
                   | false=>cases decide (q.bad<0) with
                     | true=>rfl
                     | false=>cases decide (((q.ae.length:Nat):Int)<q.bad) with
                       | true=>rfl
                       | false=>exact (YG _).symm
def kJ:Code:=(Try.f60.body).getD .skip
theorem jr:Try.f60.body=some kJ:=by kernel_rfl
def re:Code:=(cu kJ).getD 0 .skip
def cQ (P:Nat→Int) (dt:List az):Nat→Nat→Option (Int)
 | 0,_=>none
 | eH+1,i0=>(bif (!decide ((P i0)=0)) then some (P i0) else cQ P dt eH (i0+1))
theorem hQ {d:Nat} {h:aw} (dA:AV) (g:FuncId) (cap:List AV) (dt:List az) (P:Nat→Int) (cH:aP h dA dt) (hP:∀j,j<dt.length→∀aV hh,Tidy hh→Has h hh→aP hh aV (dt.take j)→dh d (.fn g) (aV:: .agg (aA.c (dt.g j))::cap) hh= .ret (.int .i64 (P j)) hh):∀(k_ i_:Nat) (_:i_+k_=dt.length) (x:Nat→AV) (hh:aw) (aL:Tidy hh) (bB:Has h hh),ba (dh (d)) re ⟨(dA::(x 1)::(AV.func g [] cap)::rx x 3 11 (dA::(Zn dt.length)::(Zn i_)::rx x 17 14 [])),hh,[],.no⟩ (.exit 0) hh (fun y=>(dA::(y 1)::(AV.func g [] cap)::rx y 3 11 (dA::(Zn dt.length)::rx y 16 15 []))) (fun r y=>(dA::(y 1)::(AV.func g [] cap)::rx y 3 3 ((Zi r)::rx y 7 7 (dA::(Zn dt.length)::rx y 16 15 [])))) (cQ P dt k_ i_)
 | 0,i0,mR,x,hh,aL,bB=>by
   have kz:=cH.small
   have q1:(decide (((i0:Nat):Int)<((dt.length:Nat):Int)))=false:=d!
   exact ba.out rfl (pk (d) _ _ hh _ hh (VV (bU 3 false false .i64 ((i0:Nat):Int) ((dt.length:Nat):Int))<|BB q1<|ZZ) k!) (Grow.refl aL) k!
 | eH+1,i0,mR,x,hh,aL,bB=>by
   have kz:=cH.small
   have q1:(decide (((i0:Nat):Int)<((dt.length:Nat):Int)))=true:=d!
   obtain ⟨p3,q4,j8⟩:=(cH.has bB).elem (i:=i0) o!
   have vw:dy env (some (.slice 43)) (some dA) (some (Zn i0))=some (AV.ptr p3 q4):=j8
   have yU:bE env hh 43 (AV.ptr p3 q4)=some (AV.agg [(Zi (dt.g i0).aD),(Zi (dt.g i0).time),(Zi (dt.g i0).value)]):=(cH.has bB).load o! j8
   obtain ⟨h6,vF,m_,Ln,vG,ka⟩:=iX aL (aR.cells [(Zi 0),(Zi 0),(Zi 0)] 43 false)
   have oG:Has hh h6:=ka
   obtain ⟨h7,qZ,lr,I4,mM,fB⟩:=vq (t:=43) (n:=3) (i:=hh.nx) (L:=[(Zi (dt.g i0).aD),(Zi (dt.g i0).time),(Zi (dt.g i0).value)]) m_ vG k! rfl rfl (by simp only[AV.cells,List.all_cons,List.all_nil,Bool.and_true,Bool.and_self,jd,gK,je,jf,fi,mz,mA,mB,mC,mD,jg])
   have lu:Has hh h7:=Has.dr oG fB aL o!
   obtain ⟨r8,aaK,aaL⟩:=(cH.has bB).pre (t:=27) k! (i:=i0) o!
   have sl9:dx env 27 dA (none) (some (Zn i0)) (none)=some r8:=aaK
   have KY:=hP i0 o! r8 h7 lr (bB.trans lu) (aaL.has lu)
   have SX:AV.same 20 (AV.agg [(Zi (dt.g i0).aD),(Zi (dt.g i0).time),(Zi (dt.g i0).value)]) (AV.agg [(Zi (dt.g i0).aD),(Zi (dt.g i0).time),(Zi (dt.g i0).value)])=true:=hI 18 (pL (fun n=>aO n _ _) (pL (fun n=>aO n _ _) (pL (fun n=>aO n _ _) OX)))
   rcases Bool.eq_false_or_eq_true (!decide ((P i0)=0)) with f1 | f1
   · have jk:=Dp f1
     exact ba.ret (P i0) (by simp only[cQ,f1,ak,ah]) (pk (d) _ _ hh _ h7 (VV (bU 3 false false .i64 ((i0:Nat):Int) ((dt.length:Nat):Int))<|BC q1<|VV vw<|MM yU<|NN vF (fun i=>(Pt i))<|CC<|SS qZ<|CN 3<|QQ sl9<|MM (aK 43 0 (AV.agg [(Zi (dt.g i0).aD),(Zi (dt.g i0).time),(Zi (dt.g i0).value)]) mM k!)<|EE KY<|CC<|HH (aK 43 0 (AV.agg [(Zi (dt.g i0).aD),(Zi (dt.g i0).time),(Zi (dt.g i0).value)]) mM k!)<|HH SX<|CC<|VV (j6 31 false true .i64 (P i0) 0)<|BB f1<|CN 2<|ZZ) k!) (⟨lr,lu,by omega⟩) k!
   · have jk:=Dq f1
     have u14:=fU 3 false true i0 1 o!
     exact ba.round (by simp only[cQ,f1,ak,ah]) (pk (d) _ _ hh _ h7 (VV (bU 3 false false .i64 ((i0:Nat):Int) ((dt.length:Nat):Int))<|BC q1<|VV vw<|MM yU<|NN vF (fun i=>(Pt i))<|CC<|SS qZ<|CN 3<|QQ sl9<|MM (aK 43 0 (AV.agg [(Zi (dt.g i0).aD),(Zi (dt.g i0).time),(Zi (dt.g i0).value)]) mM k!)<|EE KY<|CC<|HH (aK 43 0 (AV.agg [(Zi (dt.g i0).aD),(Zi (dt.g i0).time),(Zi (dt.g i0).value)]) mM k!)<|HH SX<|CC<|VV (j6 31 false true .i64 (P i0) 0)<|BV f1 u14<|CC<|ZZ) k!) (⟨lr,lu,by omega⟩) _ k! (fun x=>hQ dA g cap dt P cH hP eH (i0+1) o! x h7 lr (bB.trans lu))
def cJ (dt:List az) (fF:Int) (P:Nat→Int):Int:=(bif (decide (fF<((dt.length:Nat):Int))) then 3 else (match (cQ P dt dt.length 0) with | none=>0 | some SQ=>SQ))
theorem s_ {d:Nat} {h:aw} {dA:AV} {g:FuncId} {cap:List AV} (dt:List az) (fF:Int) (P:Nat→Int) (oH:aP h dA dt) (hP:∀j,j<dt.length→∀aV hh,Tidy hh→Has h hh→aP hh aV (dt.take j)→dh d (.fn g) (aV:: .agg (aA.c (dt.g j))::cap) hh= .ret (.int .i64 (P j)) hh) (ch:Tidy h):dh (d+1) (.fn 60) [dA,(Zi fF),(AV.func g [] cap)] h= .ret (Zi (cJ dt fF P)) h:=by
 have SY:=oH.small
 have rA:dN (some (.slice 43)) (some dA)=some (Zn dt.length):=oH.len
 rcases Bool.eq_false_or_eq_true (decide (fF<((dt.length:Nat):Int))) with f0 | f0
 · have ji:=of_decide_eq_true f0
   have e:cJ dt fF P=3:=by simp only[cJ,f0,ak,ah]
   rw[e]
   exact aC rfl (bh Try.func60 jr rfl (.inr rfl) (pk (d) _ _ h _ h (CN 2<|VV rA<|CC<|VV (b9 3 false false .i64 ((dt.length:Nat):Int) fF)<|BC f0<|ZZ) k!) k!) (Has.refl _) rfl
 · have ji:=of_decide_eq_false f0
   have Qd:dN (some (.slice 43)) (some dA)=some (Zn dt.length):=oH.len
   cases lk:cQ P dt dt.length 0 with
   | none=>
     obtain ⟨yl4,h5,lS,oF⟩:=ba.n lk (hQ (d:=d) (h:=h) dA g cap dt P oH hP dt.length 0 o! (fun k_=>((dA::(Zi fF)::(AV.func g [] cap)::AV.undef::AV.undef::AV.undef::(Zi 0)::AV.undef::AV.undef::AV.undef::dA::(Zn dt.length)::(Zi fF)::(AV.bool (decide (fF<((dt.length:Nat):Int))))::dA::(Zn dt.length)::(Zi 0)::iW 14):List AV).getD k_ AV.undef) h ch (Has.refl _))
     have I2:=oF.y
     have SV:h.nx≤h5.nx:=oF.n
     have vE:Has h h5:=oF.a
     have e:cJ dt fF P=0:=by simp only[cJ,f0,lk,ak,ah]
     rw[e]
     exact aC rfl (bh Try.func60 jr rfl (.inr rfl) (pk (d) _ _ h _ h5 (CN 2<|VV rA<|CC<|VV (b9 3 false false .i64 ((dt.length:Nat):Int) fF)<|BC f0<|VV Qd<|CC<|LL lS<|CC<|ZZ) k!) k!) vE rfl
   | some SQ=>
     obtain ⟨yl4,h5,lS,oF⟩:=ba.r lk (hQ (d:=d) (h:=h) dA g cap dt P oH hP dt.length 0 o! (fun k_=>((dA::(Zi fF)::(AV.func g [] cap)::AV.undef::AV.undef::AV.undef::(Zi 0)::AV.undef::AV.undef::AV.undef::dA::(Zn dt.length)::(Zi fF)::(AV.bool (decide (fF<((dt.length:Nat):Int))))::dA::(Zn dt.length)::(Zi 0)::iW 14):List AV).getD k_ AV.undef) h ch (Has.refl _))
     have I2:=oF.y
     have SV:h.nx≤h5.nx:=oF.n
     have vE:Has h h5:=oF.a
     have e:cJ dt fF P=SQ:=by simp only[cJ,f0,lk,ak,ah]
     rw[e]
     exact aC rfl (bh Try.func60 jr rfl (.inr rfl) (pk (d) _ _ h _ h5 (CN 2<|VV rA<|CC<|VV (b9 3 false false .i64 ((dt.length:Nat):Int) fF)<|BC f0<|VV Qd<|CC<|LL lS<|ZZ) k!) k!) vE rfl
def I9:Code:=(Try.f80.body).getD .skip
theorem I_:Try.f80.body=some I9:=by kernel_rfl
def ta (Pa:Int) (sN:Int):Bool:=(bif (decide (0≤Pa)) then (decide (Pa<sN)) else false)
theorem S2 {d:Nat} {h:aw} (Pa:Int) (sN:Int) (ch:Tidy h):dh (d+1) (.fn 80) [(Zi Pa),(Zi sN)] h= .ret (AV.bool (ta Pa sN)) h:=by
 rcases Bool.eq_false_or_eq_true (decide (0≤Pa)) with f0 | f0
 · have ji:=of_decide_eq_true f0
   have e:ta Pa sN=(decide (Pa<sN)):=by simp only[ta,f0,ak,ah]
   rw[e]
   exact aC rfl (bh Try.func80 I_ rfl (.inr rfl) (pk (d) _ _ h _ h (CN 2<|VV (qd 3 false true .i64 Pa 0)<|CC<|BC f0<|BC f0<|BV f0 (bU 3 false false .i64 Pa sN)<|VV (oV (decide (Pa<sN)) false f0)<|CC<|ZZ) k!) k!) (Has.refl _) rfl
 · have ji:=of_decide_eq_false f0
   have e:ta Pa sN=false:=by simp only[ta,f0,ak,ah]
   rw[e]
   exact aC rfl (bh Try.func80 I_ rfl (.inr rfl) (pk (d) _ _ h _ h (CN 2<|VV (qd 3 false true .i64 Pa 0)<|CC<|BB f0<|BB f0<|BV f0 (uj false f0)<|CC<|ZZ) k!) k!) (Has.refl _) rfl
def uu:Code:=(Try.f62.body).getD .skip
theorem jG:Try.f62.body=some uu:=by kernel_rfl
def cU (q:ay) (r:az):Int:=(bif (!(ta r.aD ((q.ae.length:Nat):Int))) then 7 else (bif (!(cN r.time)) then 1 else (bif (!(gF r.value)) then 1 else 0)))
theorem yX {d:Nat} {h:aw} (q:ay) (r:az) (gA:aA.ok h q) (h_r:aA.ok h r) (ch:Tidy h):dh (d+3) (.fn 62) [(AV.agg [(AV.str q.name),(Zi q.ao),(Zi q.ai),(Zi q.aI),(Zi q.aJ),(Zi q.bad),q.aB]),(AV.agg [(Zi r.aD),(Zi r.time),(Zi r.value)])] h= .ret (Zi (cU q r)) h:=by
 have jF:=gA.2.small
 obtain ⟨h1,ct,ck,jj,aW,cr⟩:=iX ch (aR.cells [(AV.str q.name),(Zi q.ao),(Zi q.ai),(Zi q.aI),(Zi q.aJ),(Zi q.bad),q.aB] 26 false)
 have bG:Has h h1:=cr
 obtain ⟨h2,pD,jH,GC,fM,hT⟩:=iX ck (aR.cells [(Zi r.aD),(Zi r.time),(Zi r.value)] 43 false)
 have ke:Has h h2:=bG.trans hT
 have Qd:dN (some (.slice 45)) (some q.aB)=some (Zn q.ae.length):=gA.2.len
 have k4:=S2 (d:=d+1) r.aD ((q.ae.length:Nat):Int) jH
 rcases Bool.eq_false_or_eq_true (!(ta r.aD ((q.ae.length:Nat):Int))) with f0 | f0
 · have e:cU q r=7:=by simp only[cU,f0,ak,ah]
   rw[e]
   exact aC rfl (bh Try.func62 jG rfl (.inr rfl) (pk (d+2) _ _ h _ h2 (NN ct (fun i=>(Pt i))<|NN pD (fun i=>(Pt i))<|CN 2<|MM (aK 3 0 (Zi r.aD) fM k!)<|CC<|MM (aK 24 6 q.aB (hT _ _ aW) k!)<|VV Qd<|EE k4<|CN 2<|BC f0<|ZZ) k!) k!) ke rfl
 · have k6:=oE (d:=d) r.time jH
   rcases Bool.eq_false_or_eq_true (!(cN r.time)) with f1 | f1
   · have e:cU q r=1:=by simp only[cU,f0,f1,ak,ah]
     rw[e]
     exact aC rfl (bh Try.func62 jG rfl (.inr rfl) (pk (d+2) _ _ h _ h2 (NN ct (fun i=>(Pt i))<|NN pD (fun i=>(Pt i))<|CN 2<|MM (aK 3 0 (Zi r.aD) fM k!)<|CC<|MM (aK 24 6 q.aB (hT _ _ aW) k!)<|VV Qd<|EE k4<|CN 2<|BC f0<|MM (aK 3 1 (Zi r.time) fM k!)<|EE k6<|CN 2<|BB f1<|BC f1<|ZZ) k!) k!) ke rfl
   · have k8:=sY (d:=d+1) r.value jH
     rcases Bool.eq_false_or_eq_true (!(gF r.value)) with f2 | f2
     · have e:cU q r=1:=by simp only[cU,f0,f1,f2,ak,ah]
       rw[e]
       exact aC rfl (bh Try.func62 jG rfl (.inr rfl) (pk (d+2) _ _ h _ h2 (NN ct (fun i=>(Pt i))<|NN pD (fun i=>(Pt i))<|CN 2<|MM (aK 3 0 (Zi r.aD) fM k!)<|CC<|MM (aK 24 6 q.aB (hT _ _ aW) k!)<|VV Qd<|EE k4<|CN 2<|BC f0<|MM (aK 3 1 (Zi r.time) fM k!)<|EE k6<|CN 2<|BC f1<|MM (aK 3 2 (Zi r.value) fM k!)<|EE k8<|CN 2<|BC f2<|ZZ) k!) k!) ke rfl
     · have e:cU q r=0:=by simp only[cU,f0,f1,f2,ak,ah]
       rw[e]
       exact aC rfl (bh Try.func62 jG rfl (.inr rfl) (pk (d+2) _ _ h _ h2 (NN ct (fun i=>(Pt i))<|NN pD (fun i=>(Pt i))<|CN 2<|MM (aK 3 0 (Zi r.aD) fM k!)<|CC<|MM (aK 24 6 q.aB (hT _ _ aW) k!)<|VV Qd<|EE k4<|CN 2<|BC f0<|MM (aK 3 1 (Zi r.time) fM k!)<|EE k6<|CN 2<|BC f1<|MM (aK 3 2 (Zi r.value) fM k!)<|EE k8<|CN 2<|BC f2<|ZZ) k!) k!) ke rfl
def rM:Code:=(Try.f61.body).getD .skip
theorem vL:Try.f61.body=some rM:=by kernel_rfl
def eE (rP:List az) (r:az) (q:ay):Int:=(cU q r)
theorem vM {d:Nat} {h:aw} {sS:AV} (rP:List az) (r:az) (q:ay) (qB:Nat) (nu:aP h sS rP) (h_r:aA.ok h r) (gA:aA.ok h q) (g_q:h.get qB=some (.cells (aA.c q) 26 false)) (ch:Tidy h):dh (d+4) (.fn 61) [sS,(AV.agg [(Zi r.aD),(Zi r.time),(Zi r.value)]),(Pt qB)] h= .ret (Zi (eE rP r q)) h:=by
 have Ew:=nu.small
 have jF:=gA.2.small
 obtain ⟨h1,ct,ck,jj,aW,cr⟩:=iX ch (aR.cells [(Zi r.aD),(Zi r.time),(Zi r.value)] 43 false)
 have bG:Has h h1:=cr
 have k2:=yX (d:=d) q r (aA.mono bG gA) trivial ck
 have e:eE rP r q=(cU q r):=by simp only[eE,ak,ah]
 rw[e]
 exact aC rfl (bh Try.func61 vL rfl (.inr rfl) (pk (d+3) _ _ h _ h1 (NN ct (fun i=>(Pt i))<|CC<|MM (aK 26 0 (AV.agg [(AV.str q.name),(Zi q.ao),(Zi q.ai),(Zi q.aI),(Zi q.aJ),(Zi q.bad),q.aB]) (cr _ _ g_q) k!)<|MM (aK 43 0 (AV.agg [(Zi r.aD),(Zi r.time),(Zi r.value)]) aW k!)<|EE k2<|CC<|ZZ) k!) k!) bG rfl
def tb:Code:=(Try.f40.body).getD .skip
theorem pn:Try.f40.body=some tb:=by kernel_rfl
def cy (q:ay) (l_:List az):Int:=(bif (!decide ((aZ ([]:List ay) q)=0)) then (aZ ([]:List ay) q) else (cJ l_ 64 (fun jx=>eE (List.take jx l_) (List.g l_ jx) q)))
theorem xz {d:Nat} {h:aw} {Da:AV} (q:ay) (l_:List az) (gA:aA.ok h q) (oY:aP h Da l_) (ch:Tidy h):dh (d+11) (.fn 40) [(AV.agg [(AV.str q.name),(Zi q.ao),(Zi q.ai),(Zi q.aI),(Zi q.aJ),(Zi q.bad),q.aB]),Da] h= .ret (Zi (cy q l_)) h:=by
 have Lq:=oY.small
 have jF:=gA.2.small
 obtain ⟨h1,ct,ck,jj,aW,cr⟩:=iX ch (aR.cells [(AV.str q.name),(Zi q.ao),(Zi q.ai),(Zi q.aI),(Zi q.aJ),(Zi q.bad),q.aB] 26 false)
 have bG:Has h h1:=cr
 have k2:=pj (d:=d+1) ([]:List ay) q aP.nil (aA.mono bG gA) ck
 rcases Bool.eq_false_or_eq_true (!decide ((aZ ([]:List ay) q)=0)) with f0 | f0
 · have ji:=Dp f0
   have e:cy q l_=(aZ ([]:List ay) q):=by simp only[cy,f0,ak,ah]
   rw[e]
   exact aC rfl (bh Try.func40 pn rfl (.inr rfl) (pk (d+10) _ _ h _ h1 (NN ct (fun i=>(Pt i))<|CC<|MM (aK 26 0 (AV.agg [(AV.str q.name),(Zi q.ao),(Zi q.ai),(Zi q.aI),(Zi q.aJ),(Zi q.bad),q.aB]) aW k!)<|EE k2<|CN 2<|VV (j6 31 false true .i64 (aZ ([]:List ay) q) 0)<|BB f0<|CN 2<|ZZ) k!) k!) bG rfl
 · have ji:=Dq f0
   have k4:=s_ (d:=d+9) l_ 64 (fun jx=>eE (List.take jx l_) (List.g l_ jx) q) (oY.has bG) (fun jx hj aV hh yy aa fa=>vM (d:=d+5) (List.take jx l_) (List.g l_ jx) q h.nx fa (aA.mono aa ((oY.has bG).ok hj)) (aA.mono aa (aA.mono bG gA)) (aa _ _ aW) yy) ck
   have e:cy q l_=(cJ l_ 64 (fun jx=>eE (List.take jx l_) (List.g l_ jx) q)):=by simp only[cy,f0,ak,ah]
   rw[e]
   exact aC rfl (bh Try.func40 pn rfl (.inr rfl) (pk (d+10) _ _ h _ h1 (NN ct (fun i=>(Pt i))<|CC<|MM (aK 26 0 (AV.agg [(AV.str q.name),(Zi q.ao),(Zi q.ai),(Zi q.aI),(Zi q.aJ),(Zi q.bad),q.aB]) aW k!)<|EE k2<|CN 2<|VV (j6 31 false true .i64 (aZ ([]:List ay) q) 0)<|BB f0<|CN 2<|EE k4<|CC<|ZZ) k!) k!) bG rfl
def xA:Code:=(Try.f25.body).getD .skip
theorem oK:Try.f25.body=some xA:=by kernel_rfl
def cj (q:ay) (l_:List az) (t:Int):Int:=(bif (!decide ((cy q l_)=0)) then (cy q l_) else (bif (!(cN t)) then 1 else 0))
theorem Cl {d:Nat} {h:aw} {Da:AV} (q:ay) (l_:List az) (t:Int) (gA:aA.ok h q) (oY:aP h Da l_) (ch:Tidy h):dh (d+12) (.fn 25) [(AV.agg [(AV.str q.name),(Zi q.ao),(Zi q.ai),(Zi q.aI),(Zi q.aJ),(Zi q.bad),q.aB]),Da,(Zi t)] h= .ret (Zi (cj q l_ t)) h:=by
 have Lq:=oY.small
 have jF:=gA.2.small
 obtain ⟨h1,ct,ck,jj,aW,cr⟩:=iX ch (aR.cells [(AV.str q.name),(Zi q.ao),(Zi q.ai),(Zi q.aI),(Zi q.aJ),(Zi q.bad),q.aB] 26 false)
 have bG:Has h h1:=cr
 have k2:=xz (d:=d) q l_ (aA.mono bG gA) (oY.has bG) ck
 rcases Bool.eq_false_or_eq_true (!decide ((cy q l_)=0)) with f0 | f0
 · have ji:=Dp f0
   have e:cj q l_ t=(cy q l_):=by simp only[cj,f0,ak,ah]
   rw[e]
   exact aC rfl (bh Try.func25 oK rfl (.inr rfl) (pk (d+11) _ _ h _ h1 (NN ct (fun i=>(Pt i))<|CC<|MM (aK 26 0 (AV.agg [(AV.str q.name),(Zi q.ao),(Zi q.ai),(Zi q.aI),(Zi q.aJ),(Zi q.bad),q.aB]) aW k!)<|CC<|EE k2<|CN 2<|VV (j6 31 false true .i64 (cy q l_) 0)<|BB f0<|CN 2<|ZZ) k!) k!) bG rfl
 · have ji:=Dq f0
   have k4:=oE (d:=d+9) t ck
   rcases Bool.eq_false_or_eq_true (!(cN t)) with f1 | f1
   · have e:cj q l_ t=1:=by simp only[cj,f0,f1,ak,ah]
     rw[e]
     exact aC rfl (bh Try.func25 oK rfl (.inr rfl) (pk (d+11) _ _ h _ h1 (NN ct (fun i=>(Pt i))<|CC<|MM (aK 26 0 (AV.agg [(AV.str q.name),(Zi q.ao),(Zi q.ai),(Zi q.aI),(Zi q.aJ),(Zi q.bad),q.aB]) aW k!)<|CC<|EE k2<|CN 2<|VV (j6 31 false true .i64 (cy q l_) 0)<|BC f0<|EE k4<|CC<|BC f1<|ZZ) k!) k!) bG rfl
   · have e:cj q l_ t=0:=by simp only[cj,f0,f1,ak,ah]
     rw[e]
     exact aC rfl (bh Try.func25 oK rfl (.inr rfl) (pk (d+11) _ _ h _ h1 (NN ct (fun i=>(Pt i))<|CC<|MM (aK 26 0 (AV.agg [(AV.str q.name),(Zi q.ao),(Zi q.ai),(Zi q.aI),(Zi q.aJ),(Zi q.bad),q.aB]) aW k!)<|CC<|EE k2<|CN 2<|VV (j6 31 false true .i64 (cy q l_) 0)<|BC f0<|EE k4<|CC<|BC f1<|ZZ) k!) k!) bG rfl

theorem S3 (q:ay):aZ ([]:List ay) q=aE q:=by
 rw[I8]
 have e:cI ([]:List ay) (fun y=>dG y q)=false:=by rw[ra];rfl
 rw[e,ah,aE]
 cases dK q.name<;>rfl
theorem Lr (q:ay) (r:az):cU q r=dW q r:=by
 rw[cU,dW,ta]
 by_cases h:r.aD<0
 · rw[decide_eq_true h,decide_eq_false (show ¬0≤r.aD by omega)];rfl
 · rw[decide_eq_false h,decide_eq_true (show 0≤r.aD by omega)]
   by_cases h2:r.aD<(q.ae.length:Int)
   · rw[decide_eq_true h2,decide_eq_false (show ¬(q.ae.length:Int)≤r.aD by omega)];rfl
   · rw[decide_eq_false h2,decide_eq_true (show (q.ae.length:Int)≤r.aD by omega)];rfl
theorem Nw (q:ay) (l:List az):∀(k i:Nat),(match cQ (fun jx=>eE (List.take jx l) (List.g l jx) q) l k i with | none=>0 | some r=>r)=cq q l k i 0
 | 0,_=>rfl
 | k+1,i=>by
   rw[cQ,cq]
   simp only[decide_true,ak]
   rw[eE,Lr]
   by_cases h:dW q (l.g i)=0
   · rw[decide_eq_true h,h];exact Nw q l k (i+1)
   · rw[decide_eq_false h,B6 q l k (i+1) _ h];rfl
theorem zZ (q:ay) (l:List az):cy q l=cD q l:=by
 rw[cy,cD,S3]
 by_cases h:aE q=0
 · rw[decide_eq_true h,h,cJ]
   by_cases h2:(64:Int)<((l.length:Nat):Int)
   · rw[decide_eq_true h2,B6 q l _ _ 3 (by decide)];rfl
   · rw[decide_eq_false h2];exact Nw q l l.length 0
 · rw[decide_eq_false h,B6 q l _ _ _ h];rfl
theorem Pb {x:Int} (h1: -9223372036854775808≤x) (h2:x<9223372036854775808):IntKind.i64.wrap x=x:=wrap_i64 h1 h2
theorem I' {g:bT} {t:Int} (h:0≤g.since∧g.since≤100000) (t0:0≤t) (t1:t≤100000):fL g t=cx g t:=by
 rw[fL,cx,Pb (x:=t - g.since) o! o!]
 obtain ⟨m1,m2⟩:=Lj (x:=t - g.since) (y:=0) (m:=100000) o! o!
 generalize imax (t - g.since) 0=m at m1 m2 ⊢
 rw[Pb (x:=m+1000) o! o!,Pb (x:=m+1000 - 1) o! o!,Pb (x:=m+999) o! o!,show m+1000 - 1=m+999 by omega]
def GD:Code:=(Try.f88.body).getD .skip
theorem Pc:Try.f88.body=some GD:=by kernel_rfl
def ko (x_:Int):Bool:=(!decide (x_=x_))
theorem Ez {d:Nat} {h:aw} (x_:Int) (ch:Tidy h):dh (d+1) (.fn 88) [(Zi x_)] h= .ret (AV.bool (ko x_)) h:=by
 have e:ko x_=(!decide (x_=x_)):=by simp only[ko,ak,ah]
 rw[e]
 exact aC rfl (bh Try.func88 Pc rfl (.inr rfl) (pk (d) _ _ h _ h (CN 3<|VV (j6 3 false false .i64 x_ x_)<|CC<|ZZ) k!) k!) (Has.refl _) rfl
def Ls:Code:=(Try.f74.body).getD .skip
theorem t_:Try.f74.body=some Ls:=by kernel_rfl
def nm (x_:Int) (y_:Int):Int:=(bif (ko x_) then (bif (ko y_) then 0 else (-1)) else (bif (ko y_) then 1 else (bif (decide (x_<y_)) then (-1) else (bif (decide (y_<x_)) then 1 else 0))))
theorem WZ {d:Nat} {h:aw} (x_:Int) (y_:Int) (ch:Tidy h):dh (d+2) (.fn 74) [(Zi x_),(Zi y_)] h= .ret (Zi (nm x_ y_)) h:=by
 have k1:=Ez (d:=d) x_ ch
 have k2:=Ez (d:=d) y_ ch
 rcases Bool.eq_false_or_eq_true (ko x_) with f0 | f0
 · rcases Bool.eq_false_or_eq_true (ko y_) with f1 | f1
   · have e:nm x_ y_=0:=by simp only[nm,f0,f1,ak,ah]
     rw[e]
     exact aC rfl (bh Try.func74 t_ rfl (.inr rfl) (pk (d+1) _ _ h _ h (CN 2<|EE k1<|CN 2<|EE k2<|CN 2<|BC f0<|BC f1<|ZZ) k!) k!) (Has.refl _) rfl
   · have e:nm x_ y_=(-1):=by simp only[nm,f0,f1,ak,ah]
     rw[e]
     exact aC rfl (bh Try.func74 t_ rfl (.inr rfl) (pk (d+1) _ _ h _ h (CN 2<|EE k1<|CN 2<|EE k2<|CN 2<|BC f0<|BC f1<|ZZ) k!) k!) (Has.refl _) rfl
 · rcases Bool.eq_false_or_eq_true (ko y_) with f1 | f1
   · have e:nm x_ y_=1:=by simp only[nm,f0,f1,ak,ah]
     rw[e]
     exact aC rfl (bh Try.func74 t_ rfl (.inr rfl) (pk (d+1) _ _ h _ h (CN 2<|EE k1<|CN 2<|EE k2<|CN 2<|BC f0<|BC f1<|ZZ) k!) k!) (Has.refl _) rfl
   · rcases Bool.eq_false_or_eq_true (decide (x_<y_)) with f2 | f2
     · have ou:=of_decide_eq_true f2
       have e:nm x_ y_=(-1):=by simp only[nm,f0,f1,f2,ak,ah]
       rw[e]
       exact aC rfl (bh Try.func74 t_ rfl (.inr rfl) (pk (d+1) _ _ h _ h (CN 2<|EE k1<|CN 2<|EE k2<|CN 2<|BC f0<|BB f1<|CN 2<|VV (bU 3 false false .i64 x_ y_)<|BC f2<|ZZ) k!) k!) (Has.refl _) rfl
     · have ou:=of_decide_eq_false f2
       rcases Bool.eq_false_or_eq_true (decide (y_<x_)) with f3 | f3
       · have jl:=of_decide_eq_true f3
         have e:nm x_ y_=1:=by simp only[nm,f0,f1,f2,f3,ak,ah]
         rw[e]
         exact aC rfl (bh Try.func74 t_ rfl (.inr rfl) (pk (d+1) _ _ h _ h (CN 2<|EE k1<|CN 2<|EE k2<|CN 2<|BC f0<|BB f1<|CN 2<|VV (bU 3 false false .i64 x_ y_)<|BB f2<|CN 2<|VV (b9 3 false false .i64 x_ y_)<|BC f3<|ZZ) k!) k!) (Has.refl _) rfl
       · have jl:=of_decide_eq_false f3
         have e:nm x_ y_=0:=by simp only[nm,f0,f1,f2,f3,ak,ah]
         rw[e]
         exact aC rfl (bh Try.func74 t_ rfl (.inr rfl) (pk (d+1) _ _ h _ h (CN 2<|EE k1<|CN 2<|EE k2<|CN 2<|BC f0<|BB f1<|CN 2<|VV (bU 3 false false .i64 x_ y_)<|BB f2<|CN 2<|VV (b9 3 false false .i64 x_ y_)<|BC f3<|ZZ) k!) k!) (Has.refl _) rfl
def Ja:Code:=(Try.f73.body).getD .skip
theorem S4:Try.f73.body=some Ja:=by kernel_rfl
def na (a:Gate) (b:Gate):Int:=(nm a.time b.time)
theorem S5 {d:Nat} {h:aw} (a:Gate) (b:Gate) (h_a:aA.ok h a) (h_b:aA.ok h b) (ch:Tidy h):dh (d+3) (.fn 73) [(AV.agg [(Zi a.time),(Zi a.ax),(Zi a.ar)]),(AV.agg [(Zi b.time),(Zi b.ax),(Zi b.ar)])] h= .ret (Zi (na a b)) h:=by
 obtain ⟨h1,ct,ck,jj,aW,cr⟩:=iX ch (aR.cells [(Zi a.time),(Zi a.ax),(Zi a.ar)] 66 false)
 have bG:Has h h1:=cr
 obtain ⟨h2,pD,jH,GC,fM,hT⟩:=iX ck (aR.cells [(Zi b.time),(Zi b.ax),(Zi b.ar)] 66 false)
 have ke:Has h h2:=bG.trans hT
 have k3:=WZ (d:=d) a.time b.time jH
 have e:na a b=(nm a.time b.time):=by simp only[na,ak,ah]
 rw[e]
 exact aC rfl (bh Try.func73 S4 rfl (.inr rfl) (pk (d+2) _ _ h _ h2 (NN ct (fun i=>(Pt i))<|NN pD (fun i=>(Pt i))<|CN 2<|MM (aK 3 0 (Zi a.time) (hT _ _ aW) k!)<|CC<|MM (aK 3 0 (Zi b.time) fM k!)<|EE k3<|CC<|ZZ) k!) k!) ke rfl
set_option maxRecDepth 20000
section
variable {α:Type} [aA α] {h:aw} {l:List α} {p i:Nat} {f:TypeId} {ro:Bool}
theorem Lt {q:Nat} (hq:q=0+i*aA.n α) (hi:i<l.length):∀j,j<aA.n α→(l.flatMap aA.c)[q+j]? =(aA.c (l.g i))[j]? :=fun j hj=>by
 rw[hq,Nat.zero_add];exact ie aA.len l i j hi hj
theorem Lu {q:Nat} (hq:q=0+i*aA.n α) (hi:i<l.length):q+aA.n α≤(l.flatMap aA.c).length:=by
 rw[hq,b7 aA.len,Nat.zero_add,←Nat.succ_mul];exact Nat.mul_le_mul_right _ hi
theorem mf {q:Nat} (hg:h.get p=some (.cells (l.flatMap aA.c) f ro)) (hq:q=0+i*aA.n α) (hi:i<l.length):bE env h (aA.e α) (.ptr p q)=some (.agg (aA.c (l.g i))):=by
 have h2:=Lt (l:=l) hq hi
 have hl:=aA.len (l.g i)
 have hn:=Lu (l:=l) hq hi
 simp only[bE,hg,gU,aA.agg,aA.size,hn,if_true]
 congr 2
 apply List.ext_getElem?
 intro j
 by_cases hj:j<aA.n α
 · rw[List.getElem?_take_of_lt hj,List.getElem?_drop,h2 j hj]
 · rw[List.getElem?_eq_none (by rw[List.length_take];omega),List.getElem?_eq_none o!]
theorem gZ {q j:Nat} {t:TypeId} {w:AV} (hg:h.get p=some (.cells (l.flatMap aA.c) f ro)) (hq:q=0+i*aA.n α) (hi:i<l.length) (ht:eT env t=some false) (hw:(aA.c (l.g i))[j]? =some w):bE env h t (.ptr p (q+j))=some w:=by
 have hj:=(List.getElem?_eq_some_iff.1 hw).1
 rw[aA.len] at hj
 simp only[bE,hg,gU,ht]
 rw[Lt (l:=l) hq hi j hj,hw]
theorem mO {q j n:Nat} {t:TypeId} {ws:List AV} (hg:h.get p=some (.cells (l.flatMap aA.c) f ro)) (hq:q=0+i*aA.n α) (hi:i<l.length) (ht:eT env t=some true) (hs:bZ env t=some n) (hj:j+n≤aA.n α) (hw:((aA.c (l.g i)).drop j).take n=ws):bE env h t (.ptr p (q+j))=some (.agg ws):=by
 have h2:=Lt (l:=l) hq hi
 have hl:=aA.len (l.g i)
 have hn:=Lu (l:=l) hq hi
 have hc:q+j+n≤(l.flatMap aA.c).length:=by omega
 simp only[bE,hg,gU,ht,hs,hc,if_true]
 rw[←hw]
 congr 2
 apply List.ext_getElem?
 intro k
 by_cases hk:k<n
 · rw[List.getElem?_take_of_lt hk,List.getElem?_take_of_lt hk,List.getElem?_drop,List.getElem?_drop,Nat.add_assoc,h2 (j+k) o!]
 · rw[List.getElem?_eq_none (by rw[List.length_take];omega),List.getElem?_eq_none (by rw[List.length_take];omega)]
theorem GF {j:Nat} {vs:List AV} {x:α} (hi:i<l.length) (hj:j+vs.length≤aA.n α) (hx:aA.c x=setFrom (aA.c (l.g i)) j vs):setFrom (l.flatMap aA.c) (i*aA.n α+j) vs=(l.set i x).flatMap aA.c:=by
 have e0:=qU hi x
 rw[hx] at e0
 rw[←e0]
 have hl:=b7 aA.len l
 have hb:i*aA.n α+aA.n α≤l.length*aA.n α:=by rw[←Nat.succ_mul];exact Nat.mul_le_mul_right _ hi
 have hc:=aA.len (l.g i)
 have gi:∀r,r<aA.n α→(l.flatMap aA.c)[i*aA.n α+r]? =(aA.c (l.g i))[r]? :=fun r hr=>ie aA.len l i r hi hr
 have sl:(setFrom (aA.c (l.g i)) j vs).length=aA.n α:=by rw[←hx];exact aA.len x
 apply List.ext_getElem?
 intro k
 rw[eC,eC,hl,sl]
 by_cases e:i*aA.n α≤k∧k<i*aA.n α+aA.n α
 · obtain ⟨r,rfl⟩:∃r,k=i*aA.n α+r:=⟨k - i*aA.n α,by omega⟩
   rw[if_pos (c:=i*aA.n α≤i*aA.n α+r∧i*aA.n α+r<i*aA.n α+aA.n α∧i*aA.n α+r<l.length*aA.n α) ⟨by omega,by omega,by omega⟩,Nat.add_sub_cancel_left,eC,hc]
   by_cases e2:j≤r∧r<j+vs.length
   · rw[if_pos ⟨by omega,by omega,by omega⟩,if_pos ⟨by omega,by omega,by omega⟩]
     congr 1;omega
   · rw[if_neg o!,if_neg o!,gi r o!]
 · rw[if_neg o!,if_neg o!]
theorem Has.ly {p:Nat} {h0 h h':aw} (a:Has h0 h) (k:Kept p h h') (n:h0.get p=none):Has h0 h':=fun i x g=>k i x (fun e=>by subst e;rw[n] at g;cases g) (a i x g)
theorem tc {h:aw} {p:Nat} {o:aR} (y:Tidy h) (g:h.get p=some o):∃h0,Tidy h0∧Has h0 h∧h0.get p=none∧h0.nx=h.nx∧(∀hk,Has h0 hk→Kept p h hk)∧∀g,Has g h→g.get p=none→Has g h0:=by
 refine ⟨h.put p none,fun i x q=>?_,fun i x q=>?_,aw.bS _,rfl,fun hk a i x hi q=>a i x (by rw[aw.bx (Ne.symm hi)];exact q),fun g a n i x q=>by
  by_cases e:p=i
  · subst e;rw[n] at q;cases q
  · rw[aw.bx e];exact a _ _ q⟩
 · by_cases e:p=i
   · subst e;rw[aw.bS] at q;cases q
   · rw[aw.bx e] at q;exact y _ _ q
 · by_cases e:p=i
   · subst e;rw[aw.bS] at q;cases q
   · rw[aw.bx e] at q;exact q
theorem AY {h:aw} {p:Nat} (y:Tidy h) (hp:h.nx≤p):h.get p=none:=by
 cases e:h.get p with
 | none=>rfl
 | some o=>have:=y _ _ e;omega
theorem xC {q j:Nat} {t:TypeId} {n:Nat} {v:AV} {x:α} (y:Tidy h) (hg:h.get p=some (.cells (l.flatMap aA.c) f false)) (hq:q=0+i*aA.n α) (hi:i<l.length) (hs:bZ env t=some n) (hv:v.cells.length=n) (hj:j+n≤aA.n α) (hk:v.cells.all AV.scalar=true) (hx:aA.c x=setFrom (aA.c (l.g i)) j v.cells):
 ∃h',eG env h t (.ptr p (q+j)) v=some h'∧Tidy h'∧h'.nx=h.nx∧h'.get p=some (.cells ((l.set i x).flatMap aA.c) f false)∧Kept p h h':=by
 have hf:=Lu (l:=l) hq hi
 obtain ⟨h',s⟩:=sB (E:=env) (t:=t) (o:=q+j) (n:=n) (v:=v) hg hs hv o! hk
 refine ⟨h',s,qQ y s hg,sD s hg,?_,fun a w ha gw=>oo y s hg ha gw⟩
 rw[tT y s hg]
 rw[show q+j=i*aA.n α+j by omega,GF hi o! hx]
end
def xD:Code:=(Try.f92.body).getD .skip
theorem adK:Try.f92.body=some xD:=by kernel_rfl
def W0:Code:=(cu xD).getD 0 .skip
def W1:Code:=(cu xD).getD 1 .skip
def iB:Nat→Nat→List Gate→List Gate
 | 0,_,bf=>bf
 | bC+1,i1,bf=>(bif (decide ((na (bf.g (bC+1)) (bf.g ((bC+1) - 1)))<0)) then iB bC (i1+1) ((bf.set (bC+1) (bf.g ((bC+1) - 1))).set ((bC+1) - 1) (bf.g (bC+1))) else bf)
theorem Jb {d:Nat} {h:aw} (n:Nat) (op:Bool) (i0:Nat) (dc:Nat) (B2:i0<n) (ch:Tidy h) (Dx:h.get dc=none):∀(k_ i_:Nat) (bf:List Gate) (_:i_+k_=i0) (_:(List.length bf=n∧n≤20)) (x:Nat→AV) (hh:aw) (aL:Tidy hh) (bB:Has h hh) (iT:h.nx≤hh.nx) (dC:hh.get dc=some (aR.cells (List.flatMap (aA.c (α:=Gate)) bf) 66 false)),dz (σ:=List Gate) (ζ:=Unit) (dh (d+4)) W1 ⟨((AV.slice dc 0 n n op)::(Zn (0))::(Zn n)::(AV.func 73 [] [])::rx x 4 4 ((Zn i0)::(Zn k_)::rx x 10 43 [])),hh,[],.no⟩ (.exit 2) hh (fun r z y=>((AV.slice dc 0 n n op)::(Zn (0))::(Zn n)::(AV.func 73 [] [])::rx y 4 4 ((Zn i0)::rx y 9 44 []))) (fun r z hk=>Has h hk∧hk.get dc=some (aR.cells (List.flatMap (aA.c (α:=Gate)) r) 66 false)∧(List.length r=n∧n≤20)) (iB k_ i_ bf)
 | 0,i1,bf,mR,yY,x,hh,aL,bB,iT,dC=>by
   have yT:=aL _ _ dC
   have q1:(decide (((0:Nat):Int)<((0:Nat):Int)))=false:=d!
   exact dz.out bf () rfl (pk (d+4) _ _ hh _ hh (CN 2<|VV (b9 3 false false .i64 ((0:Nat):Int) ((0:Nat):Int))<|CC<|BB q1<|BB q1<|BB q1<|BB q1<|BB q1<|BB q1<|BB q1<|BB q1<|BB q1<|BB q1<|BB q1<|BV q1 (uj false q1)<|FF<|ZZ) k!) aL o! ⟨bB,dC,(show (List.length bf=n∧n≤20) from (by first | omega | (simp only[List.length_set];omega)))⟩ k!
 | bC+1,i1,bf,mR,yY,x,hh,aL,bB,iT,dC=>by
   have yT:=aL _ _ dC
   have q1:(decide (((0:Nat):Int)<(((bC+1):Nat):Int)))=true:=d!
   have vw:dy env (some (.slice 66)) (some (AV.slice dc 0 n n op)) (some (Zn (bC+1)))=some (AV.ptr dc (0+(bC+1)*3)):=cn (size:=3) k! (show (bC+1)<n by omega)
   have ld3:bE env hh 66 (AV.ptr dc (0+(bC+1)*3))=some (AV.agg [(Zi (bf.g (bC+1)).time),(Zi (bf.g (bC+1)).ax),(Zi (bf.g (bC+1)).ar)]):=mf (i:=(bC+1)) dC rfl (by first | omega | (simp only[List.length_set,List.length_append,List.length_cons,List.length_nil];omega))
   have u4:=Gj 3 false true (bC+1) 1 o! o!
   have YF:dy env (some (.slice 66)) (some (AV.slice dc 0 n n op)) (some (Zn ((bC+1) - 1)))=some (AV.ptr dc (0+((bC+1) - 1)*3)):=cn (size:=3) k! (show ((bC+1) - 1)<n by omega)
   have Gm:bE env hh 66 (AV.ptr dc (0+((bC+1) - 1)*3))=some (AV.agg [(Zi (bf.g ((bC+1) - 1)).time),(Zi (bf.g ((bC+1) - 1)).ax),(Zi (bf.g ((bC+1) - 1)).ar)]):=mf (i:=((bC+1) - 1)) dC rfl (by first | omega | (simp only[List.length_set,List.length_append,List.length_cons,List.length_nil];omega))
   have k7:=S5 (d:=d+1) (bf.g (bC+1)) (bf.g ((bC+1) - 1)) trivial trivial aL
   have c8:AV.same 20 (AV.agg [(Zi (bf.g (bC+1)).time),(Zi (bf.g (bC+1)).ax),(Zi (bf.g (bC+1)).ar)]) (AV.agg [(Zi (bf.g (bC+1)).time),(Zi (bf.g (bC+1)).ax),(Zi (bf.g (bC+1)).ar)])=true:=hI 18 (pL (fun n=>aO n _ _) (pL (fun n=>aO n _ _) (pL (fun n=>aO n _ _) OX)))
   have c9:AV.same 20 (AV.agg [(Zi (bf.g ((bC+1) - 1)).time),(Zi (bf.g ((bC+1) - 1)).ax),(Zi (bf.g ((bC+1) - 1)).ar)]) (AV.agg [(Zi (bf.g ((bC+1) - 1)).time),(Zi (bf.g ((bC+1) - 1)).ax),(Zi (bf.g ((bC+1) - 1)).ar)])=true:=hI 18 (pL (fun n=>aO n _ _) (pL (fun n=>aO n _ _) (pL (fun n=>aO n _ _) OX)))
   rcases Bool.eq_false_or_eq_true (decide ((na (bf.g (bC+1)) (bf.g ((bC+1) - 1)))<0)) with f1 | f1
   · have jk:=of_decide_eq_true f1
     have SK:=Gj 3 false true (bC+1) 1 o! o!
     have u12:=Gj 3 false true (bC+1) 1 o! o!
     have S6:dy env (some (.slice 66)) (some (AV.slice dc 0 n n op)) (some (Zn ((bC+1) - 1)))=some (AV.ptr dc (0+((bC+1) - 1)*3)):=cn (size:=3) k! (show ((bC+1) - 1)<n by omega)
     have vy:bE env hh 66 (AV.ptr dc (0+((bC+1) - 1)*3))=some (AV.agg [(Zi (bf.g ((bC+1) - 1)).time),(Zi (bf.g ((bC+1) - 1)).ax),(Zi (bf.g ((bC+1) - 1)).ar)]):=mf (i:=((bC+1) - 1)) dC rfl (by first | omega | (simp only[List.length_set,List.length_append,List.length_cons,List.length_nil];omega))
     have agR:dy env (some (.slice 66)) (some (AV.slice dc 0 n n op)) (some (Zn (bC+1)))=some (AV.ptr dc (0+(bC+1)*3)):=cn (size:=3) k! (show (bC+1)<n by omega)
     have agS:bE env hh 66 (AV.ptr dc (0+(bC+1)*3))=some (AV.agg [(Zi (bf.g (bC+1)).time),(Zi (bf.g (bC+1)).ax),(Zi (bf.g (bC+1)).ar)]):=mf (i:=(bC+1)) dC rfl (by first | omega | (simp only[List.length_set,List.length_append,List.length_cons,List.length_nil];omega))
     have agT:dy env (some (.slice 66)) (some (AV.slice dc 0 n n op)) (some (Zn (bC+1)))=some (AV.ptr dc (0+(bC+1)*3)):=cn (size:=3) k! (show (bC+1)<n by omega)
     obtain ⟨Pd,aaP,S7,aiE,adL,aaQ⟩:=xC (i:=(bC+1)) (j:=0) (t:=66) (n:=3) (v:=(AV.agg [(Zi (bf.g ((bC+1) - 1)).time),(Zi (bf.g ((bC+1) - 1)).ax),(Zi (bf.g ((bC+1) - 1)).ar)])) (x:=(bf.g ((bC+1) - 1))) aL dC rfl (by first | omega | (simp only[List.length_set,List.length_append,List.length_cons,List.length_nil];omega)) k! rfl (by decide) (by simp [AV.cells,AV.scalar]) rfl
     have adM:eG env hh 66 (AV.ptr dc (0+(bC+1)*3)) (AV.agg [(Zi (bf.g ((bC+1) - 1)).time),(Zi (bf.g ((bC+1) - 1)).ax),(Zi (bf.g ((bC+1) - 1)).ar)])=some Pd:=aaP
     have Nx:Has h Pd:=Has.ly bB aaQ Dx
     have aaR:dy env (some (.slice 66)) (some (AV.slice dc 0 n n op)) (some (Zn ((bC+1) - 1)))=some (AV.ptr dc (0+((bC+1) - 1)*3)):=cn (size:=3) k! (show ((bC+1) - 1)<n by omega)
     obtain ⟨h20,aaS,adN,aiF,adO,aaT⟩:=xC (i:=((bC+1) - 1)) (j:=0) (t:=66) (n:=3) (v:=(AV.agg [(Zi (bf.g (bC+1)).time),(Zi (bf.g (bC+1)).ax),(Zi (bf.g (bC+1)).ar)])) (x:=(bf.g (bC+1))) S7 adL rfl (by first | omega | (simp only[List.length_set,List.length_append,List.length_cons,List.length_nil];omega)) k! rfl (by decide) (by simp [AV.cells,AV.scalar]) rfl
     have adP:eG env Pd 66 (AV.ptr dc (0+((bC+1) - 1)*3)) (AV.agg [(Zi (bf.g (bC+1)).time),(Zi (bf.g (bC+1)).ax),(Zi (bf.g (bC+1)).ar)])=some h20:=aaS
     have adQ:Has h h20:=Has.ly Nx aaT Dx
     have u21:=Gj 3 false true (bC+1) 1 o! o!
     exact dz.round (by simp only[iB,f1,ak,ah]) (pk (d+4) _ _ hh _ h20 (CN 2<|VV (b9 3 false false .i64 (((bC+1):Nat):Int) ((0:Nat):Int))<|CC<|BC q1<|BC q1<|BC q1<|BV q1 vw<|BM q1 ld3<|BC q1<|BC q1<|BV q1 u4<|BV q1 YF<|BM q1 Gm<|BB q1<|EE k7<|BV q1 (bU 3 false true .i64 (na (bf.g (bC+1)) (bf.g ((bC+1) - 1))) 0)<|VV (oV (decide ((na (bf.g (bC+1)) (bf.g ((bC+1) - 1)))<0)) false q1)<|HH (show bE env hh 66 (AV.ptr dc (0+(bC+1)*3))=some (AV.agg [(Zi (bf.g (bC+1)).time),(Zi (bf.g (bC+1)).ax),(Zi (bf.g (bC+1)).ar)]) from (mf (i:=(bC+1)) dC rfl (by first | omega | (simp only[List.length_set,List.length_append,List.length_cons,List.length_nil];omega))))<|HH c8<|HH (show bE env hh 66 (AV.ptr dc (0+((bC+1) - 1)*3))=some (AV.agg [(Zi (bf.g ((bC+1) - 1)).time),(Zi (bf.g ((bC+1) - 1)).ax),(Zi (bf.g ((bC+1) - 1)).ar)]) from (mf (i:=((bC+1) - 1)) dC rfl (by first | omega | (simp only[List.length_set,List.length_append,List.length_cons,List.length_nil];omega))))<|HH c9<|BB f1<|CN 4<|VV SK<|CN 2<|VV u12<|VV S6<|MM vy<|CN 2<|VV agR<|MM agS<|VV agT<|SS adM<|VV aaR<|SS adP<|HH (show bE env hh 66 (AV.ptr dc (0+((bC+1) - 1)*3))=some (AV.agg [(Zi (bf.g ((bC+1) - 1)).time),(Zi (bf.g ((bC+1) - 1)).ax),(Zi (bf.g ((bC+1) - 1)).ar)]) from (mf (i:=((bC+1) - 1)) dC rfl (by first | omega | (simp only[List.length_set,List.length_append,List.length_cons,List.length_nil];omega))))<|HH c9<|HH (show bE env hh 66 (AV.ptr dc (0+(bC+1)*3))=some (AV.agg [(Zi (bf.g (bC+1)).time),(Zi (bf.g (bC+1)).ax),(Zi (bf.g (bC+1)).ar)]) from (mf (i:=(bC+1)) dC rfl (by first | omega | (simp only[List.length_set,List.length_append,List.length_cons,List.length_nil];omega))))<|HH c8<|CC<|VV u21<|CC<|ZZ) k!) o! _ k! (fun x=>Jb n op i0 dc B2 ch Dx bC (i1+1) ((bf.set (bC+1) (bf.g ((bC+1) - 1))).set ((bC+1) - 1) (bf.g (bC+1))) o! (show (List.length ((bf.set (bC+1) (bf.g ((bC+1) - 1))).set ((bC+1) - 1) (bf.g (bC+1)))=n∧n≤20) from (by first | omega | (simp only[List.length_set];omega))) x h20 adN adQ o! adO)
   · have jk:=of_decide_eq_false f1
     exact dz.out bf () (by simp only[iB,f1,ak,ah]) (pk (d+4) _ _ hh _ hh (CN 2<|VV (b9 3 false false .i64 (((bC+1):Nat):Int) ((0:Nat):Int))<|CC<|BC q1<|BC q1<|BC q1<|BV q1 vw<|BM q1 ld3<|BC q1<|BC q1<|BV q1 u4<|BV q1 YF<|BM q1 Gm<|BB q1<|EE k7<|BV q1 (bU 3 false true .i64 (na (bf.g (bC+1)) (bf.g ((bC+1) - 1))) 0)<|VV (oV (decide ((na (bf.g (bC+1)) (bf.g ((bC+1) - 1)))<0)) false q1)<|HH (show bE env hh 66 (AV.ptr dc (0+(bC+1)*3))=some (AV.agg [(Zi (bf.g (bC+1)).time),(Zi (bf.g (bC+1)).ax),(Zi (bf.g (bC+1)).ar)]) from (mf (i:=(bC+1)) dC rfl (by first | omega | (simp only[List.length_set,List.length_append,List.length_cons,List.length_nil];omega))))<|HH c8<|HH (show bE env hh 66 (AV.ptr dc (0+((bC+1) - 1)*3))=some (AV.agg [(Zi (bf.g ((bC+1) - 1)).time),(Zi (bf.g ((bC+1) - 1)).ax),(Zi (bf.g ((bC+1) - 1)).ar)]) from (mf (i:=((bC+1) - 1)) dC rfl (by first | omega | (simp only[List.length_set,List.length_append,List.length_cons,List.length_nil];omega))))<|HH c9<|BB f1<|ZZ) k!) aL o! ⟨bB,dC,(show (List.length bf=n∧n≤20) from (by first | omega | (simp only[List.length_set];omega)))⟩ k!
def eM (n:Nat):Nat→Nat→List Gate→List Gate
 | 0,_,iC=>iC
 | eH+1,i0,iC=>eM n eH (i0+1) (iB i0 0 iC)
theorem Jc {d:Nat} {h:aw} (n:Nat) (op:Bool) (cF:Nat) (ch:Tidy h) (qi:h.get cF=none):∀(k_ i_:Nat) (iC:List Gate) (_:i_+k_=n) (_:(List.length iC=n∧n≤20)) (x:Nat→AV) (hh:aw) (aL:Tidy hh) (bB:Has h hh) (iT:h.nx≤hh.nx) (da:hh.get cF=some (aR.cells (List.flatMap (aA.c (α:=Gate)) iC) 66 false)),dz (σ:=List Gate) (ζ:=Unit) (dh (d+4)) W0 ⟨((AV.slice cF 0 n n op)::(Zn (0))::(Zn n)::(AV.func 73 [] [])::rx x 4 4 ((Zn i_)::rx x 9 44 [])),hh,[],.no⟩ (.exit 0) hh (fun r z y=>((AV.slice cF 0 n n op)::(Zn (0))::(Zn n)::(AV.func 73 [] [])::rx y 4 49 [])) (fun r z hk=>Has h hk∧hk.get cF=some (aR.cells (List.flatMap (aA.c (α:=Gate)) r) 66 false)∧(List.length r=n∧n≤20)) (eM n k_ i_ iC)
 | 0,i0,iC,mR,yY,x,hh,aL,bB,iT,da=>by
   have vx:=aL _ _ da
   have q1:(decide (((i0:Nat):Int)<((n:Nat):Int)))=false:=d!
   exact dz.out iC () rfl (pk (d+4) _ _ hh _ hh (CN 2<|VV (bU 3 false false .i64 ((i0:Nat):Int) ((n:Nat):Int))<|BB q1<|ZZ) k!) aL o! ⟨bB,da,(show (List.length iC=n∧n≤20) from (by first | omega | (simp only[List.length_set];omega)))⟩ k!
 | eH+1,i0,iC,mR,yY,x,hh,aL,bB,iT,da=>by
   have vx:=aL _ _ da
   have q1:(decide (((i0:Nat):Int)<((n:Nat):Int)))=true:=d!
   obtain ⟨_,YE,h3,jn,ia,vD,xE,yZ,W2⟩:=Jb (d:=d) (h:=h) n op i0 cF o! ch qi i0 0 iC o! (show (List.length iC=n∧n≤20) from (by first | omega | (simp only[List.length_set];omega))) (fun k_=>(((AV.slice cF 0 n n op)::(Zn (0))::(Zn n)::(AV.func 73 [] [])::rx x 4 4 ((Zn i0)::(Zn i0)::(x 10)::(x 11)::(Zn i0)::(Zn n)::(AV.bool (decide (((i0:Nat):Int)<((n:Nat):Int))))::(x 15)::(x 16)::(Zn i0)::rx x 18 35 [])):List AV).getD k_ AV.undef) hh aL bB o! da
   have jo:Has h h3:=xE
   have u4:=fU 3 false true i0 1 o!
   exact dz.round (by simp only[eM,ak,ah]) (pk (d+4) _ _ hh _ h3 (CN 2<|VV (bU 3 false false .i64 ((i0:Nat):Int) ((n:Nat):Int))<|BB q1<|CN 2<|LL jn<|CC<|VV u4<|CC<|ZZ) k!) o! _ k! (fun x=>Jc n op cF ch qi eH (i0+1) (iB i0 0 iC) o! (show (List.length (iB i0 0 iC)=n∧n≤20) from (by first | omega | (simp only[List.length_set];omega))) x h3 ia jo o! yZ)
theorem YH {d:Nat} {hh:aw} {p n:Nat} {op:Bool} {L:List Gate} (aL:Tidy hh) (gp:hh.get p=some (.cells (List.flatMap (aA.c (α:=Gate)) L) 66 false)) (hn:L.length=n) (Kv:n≤20) (W3:1≤n):
 ∃hk,dh (d+5) (.fn 92) [.slice p 0 n n op,Zi 0,Zn n,.func 73 [] []] hh= .ret (.tuple []) hk∧Tidy hk∧hh.nx≤hk.nx∧hk.get p=some (.cells (List.flatMap (aA.c (α:=Gate)) (eM n (n - 1) 1 L)) 66 false)∧Kept p hh hk:=by
 obtain ⟨h,ch,bB,hp,iT,kp,_⟩:=tc aL gp
 have T_p:=aL _ _ gp
 have u1:=fU 3 false true 0 1 o!
 obtain ⟨_,YE,h3,jn,ia,vD,xE,yZ,W2⟩:=Jc (d:=d) (h:=h) n op p ch hp (n -(0+1)) (0+1) L o! (show (List.length L=n∧n≤20) from (by first | omega | (simp only[List.length_set];omega))) (fun k_=>(((AV.slice p 0 n n op)::(Zn (0))::(Zn n)::(AV.func 73 [] [])::AV.undef::AV.undef::AV.undef::AV.undef::(Zn (0+1))::AV.undef::(Zn (0))::(Zn (0+1))::iW 41):List AV).getD k_ AV.undef) hh aL bB o! gp
 have jo:Has h h3:=xE
 have ev:=pk (d+4) xD ((AV.slice p 0 n n op)::(Zn (0))::(Zn n)::(AV.func 73 [] [])::iW 49) hh .normal h3 (CC<|VV u1<|CC<|LL jn<|ZZ) k!
 obtain ⟨hk,e,q⟩:=iy rfl (bh Try.func92 adK k! (.inl rfl) ev k!)
 refine ⟨hk,e,?_⟩
 rcases q with rfl | ⟨rfl,A⟩
 · exact ⟨ia,vD,yZ,kp _ xE⟩
 · refine ⟨aL,Nat.le_refl _,?_,fun _ _ _ q=>q⟩
   rw[A _ _ gp] at yZ
   rw[gp];exact yZ
theorem Cm:∀(k i:Nat) (C:List Gate),(iB k i C).length=C.length
 | 0,_,_=>rfl
 | k+1,i,C=>by
   rw[iB]
   cases decide (na (C.g (k+1)) (C.g ((k+1) - 1))<0) with
   | true=>rw[ak,Cm k];simp
   | false=>rfl
theorem Ny {n:Nat}:∀(k i:Nat) (C:List Gate),(eM n k i C).length=C.length
 | 0,_,_=>rfl
 | k+1,i,C=>by rw[eM,Ny k,Cm]
end
end Go.Proofs.aG
