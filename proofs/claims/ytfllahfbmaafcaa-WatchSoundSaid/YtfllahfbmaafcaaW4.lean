import Derived.Test.YtfllahfbmaafcaaW0
import Derived.Test.YtfllahfbmaafcaaW3
import Derived.Test.YtfllahfbmaafcaaW2
import Derived.Test.YtfllahfbmaafcaaW1
namespace Go.Proofs.aH
open Go.Proofs Ab
noncomputable section
set_option maxRecDepth 100000
set_option maxHeartbeats 4000000
set_option linter.unusedVariables false
set_option linter.unusedSimpArgs false
def tq:Code:=(Try.f41.body).getD .skip
theorem cX:Try.f41.body=some tq:=by kernel_rfl
def bB (sa:List ay) (q:ay):Int:=(bif (!(gv q.name)) then 5 else (bif (cH sa (fun y=>dD y q)) then 6 else (bif (!(gR q.aj)) then 1 else (bif (!(gR q.ah)) then 1 else (bif (decide (q.ah<q.aj)) then 1 else (bif (!(dW q.aI 10000)) then 1 else (bif (!(dW q.aK 10000)) then 1 else (bif (decide (8<((q.af.length:Nat):Int))) then 3 else (bif (!(dW q.bad ((q.af.length:Nat):Int))) then 1 else (cS q.af 8 (fun jx=>dv (List.take jx q.af) (List.g q.af jx))))))))))))
theorem xG {d:Nat} {h:au} {tg:AV} (sa:List ay) (q:ay) (nM:aZ h tg sa) (jh:aA.ok h q) (bY:Tidy h):cW (d+9) (.fn 41) [tg,(AV.agg [(AV.str q.name),(Zi q.aj),(Zi q.ah),(Zi q.aI),(Zi q.aK),(Zi q.bad),q.aB])] h= .ret (Zi (bB sa q)) h:=by
 have EY:=nM.small
 have ky:=jh.2.small
 obtain ⟨h1,cA,cq,jf,aY,ct⟩:=iQ bY (a_.cells [(AV.str q.name),(Zi q.aj),(Zi q.ah),(Zi q.aI),(Zi q.aK),(Zi q.bad),q.aB] 26 false)
 have bI:Has h h1:=ct
 have k2:=CK (d:=d+7) q.name jh.1 cq
 rcases Bool.eq_false_or_eq_true (!(gv q.name)) with f0 | f0
 · have e:bB sa q=5:=by simp only[bB,f0,ao,ai]
   rw[e]
   exact aC rfl (bx Try.func41 cX rfl (.inr rfl) (pk (d+8) _ _ h _ h1 (NN cA (fun i=>(Pt i))<|CN 2<|MM (aM 9 0 (AV.str q.name) aY k!)<|EE k2<|CN 2<|BC f0<|ZZ) k!) k!) bI rfl
 · have k4:=tk (d:=d+6) sa (fun y=>dD y q) (nM.has bI) (fun y hy hh yy aa=>vT (d:=d+5) y q h.nx (aA.mono aa ((nM.has bI).GU y hy)) (aA.mono aa (aA.mono bI jh)) (aa _ _ aY) yy) cq
   rcases Bool.eq_false_or_eq_true (cH sa (fun y=>dD y q)) with f1 | f1
   · have e:bB sa q=6:=by simp only[bB,f0,f1,ao,ai]
     rw[e]
     exact aC rfl (bx Try.func41 cX rfl (.inr rfl) (pk (d+8) _ _ h _ h1 (NN cA (fun i=>(Pt i))<|CN 2<|MM (aM 9 0 (AV.str q.name) aY k!)<|EE k2<|CN 2<|BB f0<|CN 2<|EE k4<|CC<|BC f1<|ZZ) k!) k!) bI rfl
   · have k6:=tp (d:=d+7) q.aj cq
     rcases Bool.eq_false_or_eq_true (!(gR q.aj)) with f2 | f2
     · have e:bB sa q=1:=by simp only[bB,f0,f1,f2,ao,ai]
       rw[e]
       exact aC rfl (bx Try.func41 cX rfl (.inr rfl) (pk (d+8) _ _ h _ h1 (NN cA (fun i=>(Pt i))<|CN 2<|MM (aM 9 0 (AV.str q.name) aY k!)<|EE k2<|CN 2<|BB f0<|CN 2<|EE k4<|CC<|BB f1<|CN 2<|MM (aM 3 1 (Zi q.aj) aY k!)<|EE k6<|CN 2<|BB f2<|BC f2<|ZZ) k!) k!) bI rfl
     · have k8:=tp (d:=d+7) q.ah cq
       rcases Bool.eq_false_or_eq_true (!(gR q.ah)) with f3 | f3
       · have e:bB sa q=1:=by simp only[bB,f0,f1,f2,f3,ao,ai]
         rw[e]
         exact aC rfl (bx Try.func41 cX rfl (.inr rfl) (pk (d+8) _ _ h _ h1 (NN cA (fun i=>(Pt i))<|CN 2<|MM (aM 9 0 (AV.str q.name) aY k!)<|EE k2<|CN 2<|BB f0<|CN 2<|EE k4<|CC<|BB f1<|CN 2<|MM (aM 3 1 (Zi q.aj) aY k!)<|EE k6<|CN 2<|BB f2<|CN 2<|MM (aM 3 2 (Zi q.ah) aY k!)<|EE k8<|CN 2<|BB f3<|BC f3<|ZZ) k!) k!) bI rfl
       · rcases Bool.eq_false_or_eq_true (decide (q.ah<q.aj)) with f4 | f4
         · have km:=of_decide_eq_true f4
           have e:bB sa q=1:=by simp only[bB,f0,f1,f2,f3,f4,ao,ai]
           rw[e]
           exact aC rfl (bx Try.func41 cX rfl (.inr rfl) (pk (d+8) _ _ h _ h1 (NN cA (fun i=>(Pt i))<|CN 2<|MM (aM 9 0 (AV.str q.name) aY k!)<|EE k2<|CN 2<|BB f0<|CN 2<|EE k4<|CC<|BB f1<|CN 2<|MM (aM 3 1 (Zi q.aj) aY k!)<|EE k6<|CN 2<|BB f2<|CN 2<|MM (aM 3 2 (Zi q.ah) aY k!)<|EE k8<|CN 2<|BB f3<|CN 2<|MM (aM 3 1 (Zi q.aj) aY k!)<|CN 2<|MM (aM 3 2 (Zi q.ah) aY k!)<|VV (cg 3 false false .i64 q.aj q.ah)<|CC<|BC f4<|ZZ) k!) k!) bI rfl
         · have km:=of_decide_eq_false f4
           have LG:=mf (d:=d+7) q.aI 10000 cq
           rcases Bool.eq_false_or_eq_true (!(dW q.aI 10000)) with f5 | f5
           · have e:bB sa q=1:=by simp only[bB,f0,f1,f2,f3,f4,f5,ao,ai]
             rw[e]
             exact aC rfl (bx Try.func41 cX rfl (.inr rfl) (pk (d+8) _ _ h _ h1 (NN cA (fun i=>(Pt i))<|CN 2<|MM (aM 9 0 (AV.str q.name) aY k!)<|EE k2<|CN 2<|BB f0<|CN 2<|EE k4<|CC<|BB f1<|CN 2<|MM (aM 3 1 (Zi q.aj) aY k!)<|EE k6<|CN 2<|BB f2<|CN 2<|MM (aM 3 2 (Zi q.ah) aY k!)<|EE k8<|CN 2<|BB f3<|CN 2<|MM (aM 3 1 (Zi q.aj) aY k!)<|CN 2<|MM (aM 3 2 (Zi q.ah) aY k!)<|VV (cg 3 false false .i64 q.aj q.ah)<|CC<|BC f4<|MM (aM 3 3 (Zi q.aI) aY k!)<|EE LG<|CN 2<|BB f5<|BC f5<|ZZ) k!) k!) bI rfl
           · have k13:=mf (d:=d+7) q.aK 10000 cq
             rcases Bool.eq_false_or_eq_true (!(dW q.aK 10000)) with f6 | f6
             · have e:bB sa q=1:=by simp only[bB,f0,f1,f2,f3,f4,f5,f6,ao,ai]
               rw[e]
               exact aC rfl (bx Try.func41 cX rfl (.inr rfl) (pk (d+8) _ _ h _ h1 (NN cA (fun i=>(Pt i))<|CN 2<|MM (aM 9 0 (AV.str q.name) aY k!)<|EE k2<|CN 2<|BB f0<|CN 2<|EE k4<|CC<|BB f1<|CN 2<|MM (aM 3 1 (Zi q.aj) aY k!)<|EE k6<|CN 2<|BB f2<|CN 2<|MM (aM 3 2 (Zi q.ah) aY k!)<|EE k8<|CN 2<|BB f3<|CN 2<|MM (aM 3 1 (Zi q.aj) aY k!)<|CN 2<|MM (aM 3 2 (Zi q.ah) aY k!)<|VV (cg 3 false false .i64 q.aj q.ah)<|CC<|BC f4<|MM (aM 3 3 (Zi q.aI) aY k!)<|EE LG<|CN 2<|BC f5<|MM (aM 3 4 (Zi q.aK) aY k!)<|EE k13<|CN 2<|BC f6<|ZZ) k!) k!) bI rfl
             · have abi:dJ (some (.slice 45)) (some q.aB)=some (Zn q.af.length):=jh.2.len
               rcases Bool.eq_false_or_eq_true (decide (8<((q.af.length:Nat):Int))) with f7 | f7
               · have Tb:=of_decide_eq_true f7
                 have e:bB sa q=3:=by simp only[bB,f0,f1,f2,f3,f4,f5,f6,f7,ao,ai]
                 rw[e]
                 exact aC rfl (bx Try.func41 cX rfl (.inr rfl) (pk (d+8) _ _ h _ h1 (NN cA (fun i=>(Pt i))<|CN 2<|MM (aM 9 0 (AV.str q.name) aY k!)<|EE k2<|CN 2<|BB f0<|CN 2<|EE k4<|CC<|BB f1<|CN 2<|MM (aM 3 1 (Zi q.aj) aY k!)<|EE k6<|CN 2<|BB f2<|CN 2<|MM (aM 3 2 (Zi q.ah) aY k!)<|EE k8<|CN 2<|BB f3<|CN 2<|MM (aM 3 1 (Zi q.aj) aY k!)<|CN 2<|MM (aM 3 2 (Zi q.ah) aY k!)<|VV (cg 3 false false .i64 q.aj q.ah)<|CC<|BC f4<|MM (aM 3 3 (Zi q.aI) aY k!)<|EE LG<|CN 2<|BC f5<|MM (aM 3 4 (Zi q.aK) aY k!)<|EE k13<|CN 2<|BC f6<|MM (aM 24 6 q.aB aY k!)<|VV abi<|VV (cg 3 false true .i64 ((q.af.length:Nat):Int) 8)<|CC<|BC f7<|ZZ) k!) k!) bI rfl
               · have Tb:=of_decide_eq_false f7
                 have aem:dJ (some (.slice 45)) (some q.aB)=some (Zn q.af.length):=jh.2.len
                 have k18:=mf (d:=d+7) q.bad ((q.af.length:Nat):Int) cq
                 rcases Bool.eq_false_or_eq_true (!(dW q.bad ((q.af.length:Nat):Int))) with f8 | f8
                 · have e:bB sa q=1:=by simp only[bB,f0,f1,f2,f3,f4,f5,f6,f7,f8,ao,ai]
                   rw[e]
                   exact aC rfl (bx Try.func41 cX rfl (.inr rfl) (pk (d+8) _ _ h _ h1 (NN cA (fun i=>(Pt i))<|CN 2<|MM (aM 9 0 (AV.str q.name) aY k!)<|EE k2<|CN 2<|BB f0<|CN 2<|EE k4<|CC<|BB f1<|CN 2<|MM (aM 3 1 (Zi q.aj) aY k!)<|EE k6<|CN 2<|BB f2<|CN 2<|MM (aM 3 2 (Zi q.ah) aY k!)<|EE k8<|CN 2<|BB f3<|CN 2<|MM (aM 3 1 (Zi q.aj) aY k!)<|CN 2<|MM (aM 3 2 (Zi q.ah) aY k!)<|VV (cg 3 false false .i64 q.aj q.ah)<|CC<|BC f4<|MM (aM 3 3 (Zi q.aI) aY k!)<|EE LG<|CN 2<|BC f5<|MM (aM 3 4 (Zi q.aK) aY k!)<|EE k13<|CN 2<|BC f6<|MM (aM 24 6 q.aB aY k!)<|VV abi<|VV (cg 3 false true .i64 ((q.af.length:Nat):Int) 8)<|CC<|BC f7<|MM (aM 3 5 (Zi q.bad) aY k!)<|CC<|MM (aM 24 6 q.aB aY k!)<|VV aem<|EE k18<|CN 2<|BC f8<|ZZ) k!) k!) bI rfl
                 · have k20:=vR (d:=d+7) q.af 8 (fun jx=>dv (List.take jx q.af) (List.g q.af jx)) (jh.2.has bI) (fun jx hj aV hh yy aa fa=>CL (d:=d+1) (List.take jx q.af) (List.g q.af jx) fa (aA.mono aa ((jh.2.has bI).ok hj)) yy) cq
                   have e:bB sa q=(cS q.af 8 (fun jx=>dv (List.take jx q.af) (List.g q.af jx))):=by simp only[bB,f0,f1,f2,f3,f4,f5,f6,f7,f8,ao,ai]
                   rw[e]
                   exact aC rfl (bx Try.func41 cX rfl (.inr rfl) (pk (d+8) _ _ h _ h1 (NN cA (fun i=>(Pt i))<|CN 2<|MM (aM 9 0 (AV.str q.name) aY k!)<|EE k2<|CN 2<|BB f0<|CN 2<|EE k4<|CC<|BB f1<|CN 2<|MM (aM 3 1 (Zi q.aj) aY k!)<|EE k6<|CN 2<|BB f2<|CN 2<|MM (aM 3 2 (Zi q.ah) aY k!)<|EE k8<|CN 2<|BB f3<|CN 2<|MM (aM 3 1 (Zi q.aj) aY k!)<|CN 2<|MM (aM 3 2 (Zi q.ah) aY k!)<|VV (cg 3 false false .i64 q.aj q.ah)<|CC<|BC f4<|MM (aM 3 3 (Zi q.aI) aY k!)<|EE LG<|CN 2<|BC f5<|MM (aM 3 4 (Zi q.aK) aY k!)<|EE k13<|CN 2<|BC f6<|MM (aM 24 6 q.aB aY k!)<|VV abi<|VV (cg 3 false true .i64 ((q.af.length:Nat):Int) 8)<|CC<|BC f7<|MM (aM 3 5 (Zi q.bad) aY k!)<|CC<|MM (aM 24 6 q.aB aY k!)<|VV aem<|EE k18<|CN 2<|BC f8<|MM (aM 24 6 q.aB aY k!)<|EE k20<|CC<|ZZ) k!) k!) bI rfl
def fe (f:Nat→Option Int):Nat→Nat→Option Int
 | 0,_=>none
 | k+1,i=>match f i with
   | some r=>some r
   | none=>fe f k (i+1)
def er (x:Int):Option Int:=bif !decide (x=0) then some x else none
def tu (f:Nat→Bool):Nat→Nat→Bool
 | 0,_=>false
 | k+1,i=>f i||tu f k (i+1)
theorem JI {f g:Nat→Option Int}:∀(k i:Nat),(∀j,i≤j→j<i+k→f j=g j)→fe f k i=fe g k i
 | 0,_,_=>rfl
 | k+1,i,h=>by
   rw[fe,fe,h i (Nat.le_refl _) o!,JI k (i+1) fun j h1 h2=>h j o! o!]
theorem any_congr {f g:Nat→Bool}:∀(k i:Nat),(∀j,i≤j→j<i+k→f j=g j)→tu f k i=tu g k i
 | 0,_,_=>rfl
 | k+1,i,h=>by
   rw[tu,tu,h i (Nat.le_refl _) o!,any_congr k (i+1) fun j h1 h2=>h j o! o!]
theorem ZF (o:Option Int):(match o with | none=>0 | some r=>r)=o.getD 0:=by cases o<;>rfl
theorem abj {α:Type} [Inhabited α] {l:List α} {i j:Nat} (h:j<i):(l.take i).g j=l.g j:=by
 rw[List.g,List.g,List.getD_eq_getElem?_getD,List.getD_eq_getElem?_getD,List.getElem?_take_of_lt h]
theorem Tz {α:Type} {l:List α} {i:Nat} (h:i≤l.length):(l.take i).length=i:=by rw[List.length_take];omega
def vV (c:UInt8):Bool:=decide (97≤((c.toNat:Nat):Int))&&decide (((c.toNat:Nat):Int)≤122)
def digit (c:UInt8):Bool:=decide (48≤((c.toNat:Nat):Int))&&decide (((c.toNat:Nat):Int)≤57)
def dash (c:UInt8):Bool:=decide (((c.toNat:Nat):Int)=45)
theorem CO (s:List bV) (P:bV→Bool):∀(k i:Nat),(ef s P k i=none∧tu (fun j=>P (s.g j)) k i=false)∨∃n:Nat,ef s P k i=some (n:Int)∧tu (fun j=>P (s.g j)) k i=true
 | 0,_=> .inl ⟨rfl,rfl⟩
 | k+1,i=>by
   rw[ef,tu]
   cases h:P (s.g i) with
   | true=>exact .inr ⟨i,rfl,rfl⟩
   | false=>exact CO s P k (i+1)
theorem uG (s:List bV) (P:bV→Bool):eP s P=tu (fun j=>P (s.g j)) s.length 0:=by
 unfold eP aH.fN
 rcases CO s P s.length 0 with ⟨h1,h2⟩ | ⟨n,h1,h2⟩
 · rw[h1,h2];rfl
 · rw[h1,h2];exact decide_eq_true (Int.natCast_nonneg n)
theorem tv {s:List bV} {i:Nat} (h:i≤s.length) (P:bV→Bool):eP (s.take i) P=tu (fun j=>P (s.g j)) i 0:=by
 rw[uG,Tz h]
 exact any_congr i 0 fun j _ hj=>by rw[abj o!]
theorem nD (P:Nat→Int) (l:List bV):∀(k i:Nat),dp P l k i=fe (fun j=>er (P j)) k i
 | 0,_=>rfl
 | k+1,i=>by
   rw[dp,fe,er,nD P l k (i+1)]
   cases (!decide (P i=0))<;>rfl
theorem uH (l:List bV) (fO:Int) (P:Nat→Int):cS l fO P=bif decide (fO<((l.length:Nat):Int)) then 3 else (fe (fun j=>er (P j)) l.length 0).getD 0:=by
 unfold cS
 rw[nD]
 cases decide (fO<((l.length:Nat):Int)) with
 | true=>rfl
 | false=>exact ZF _
theorem uX (s:List ay) (P:ay→Bool):∀(k i:Nat),(da s P k i=none∧tu (fun j=>P (s.g j)) k i=false)∨∃n:Nat,da s P k i=some (n:Int)∧tu (fun j=>P (s.g j)) k i=true
 | 0,_=> .inl ⟨rfl,rfl⟩
 | k+1,i=>by
   rw[da,tu]
   cases h:P (s.g i) with
   | true=>exact .inr ⟨i,rfl,rfl⟩
   | false=>exact uX s P k (i+1)
theorem rp (s:List ay) (P:ay→Bool):cH s P=tu (fun j=>P (s.g j)) s.length 0:=by
 unfold cH aH.eg
 rcases uX s P s.length 0 with ⟨h1,h2⟩ | ⟨n,h1,h2⟩
 · rw[h1,h2];rfl
 · rw[h1,h2];exact decide_eq_true (Int.natCast_nonneg n)
def xH (f:Nat→Bool):Nat→Nat→Bool
 | 0,_=>true
 | k+1,i=>f i&&xH f k (i+1)
theorem all_congr {f g:Nat→Bool}:∀(k i:Nat),(∀j,i≤j→j<i+k→f j=g j)→xH f k i=xH g k i
 | 0,_,_=>rfl
 | k+1,i,h=>by
   rw[xH,xH,h i (Nat.le_refl _) o!,all_congr k (i+1) fun j h1 h2=>h j o! o!]
theorem JJ (a b:Int):decide (a<b)= !decide (b≤a):=by
 by_cases h:a<b
 · rw[decide_eq_true h,decide_eq_false o!];rfl
 · rw[decide_eq_false h,decide_eq_true o!];rfl
theorem EZ (s:List UInt8):∀(k i:Nat),bL s k i=bif xH (fun j=>vV (s.g j)||(!decide ((j:Int)=0)&&(digit (s.g j)||dash (s.g j)))) k i then none else some false
 | 0,_=>rfl
 | k+1,i=>by
   rw[bL,xH,EZ s k (i+1),vV,digit,dash]
   generalize xH _ k (i+1)=z
   generalize decide (97≤(((s.g i).toNat:Nat):Int))=a
   generalize decide ((((s.g i).toNat:Nat):Int)≤122)=b
   generalize decide (48≤(((s.g i).toNat:Nat):Int))=c
   generalize decide ((((s.g i).toNat:Nat):Int)≤57)=d
   generalize decide ((((s.g i).toNat:Nat):Int)=45)=e
   generalize decide ((i:Int)=0)=f
   cases a<;>cases b<;>cases c<;>cases d<;>cases e<;>cases f<;>rfl
theorem E0 (s:List UInt8):∀(k i:Nat),cR s k i=bif xH (fun j=>vV (s.g j)||(digit (s.g j)||dash (s.g j))) k i then none else some false
 | 0,_=>rfl
 | k+1,i=>by
   rw[cR,xH,E0 s k (i+1),vV,digit,dash]
   simp only[JJ]
   generalize xH _ k (i+1)=z
   generalize decide (97≤(((s.g i).toNat:Nat):Int))=a
   generalize decide ((((s.g i).toNat:Nat):Int)≤122)=b
   generalize decide (48≤(((s.g i).toNat:Nat):Int))=c
   generalize decide ((((s.g i).toNat:Nat):Int)≤57)=d
   generalize decide ((((s.g i).toNat:Nat):Int)=45)=e
   cases a<;>cases b<;>cases c<;>cases d<;>cases e<;>rfl
theorem N0 (s:List UInt8):gv s=dI s:=by
 unfold gv dI
 cases s with
 | nil=>rfl
 | cons x s=>
   rw[decide_eq_false (show ¬x::s=[] by simp),decide_eq_false (show ¬(((x::s).length:Nat):Int)=0 by simp;omega)]
   cases decide (16<(((x::s).length:Nat):Int)) with
   | true=>rfl
   | false=>
     rw[EZ,E0,List.length_cons,xH,xH,JJ,JJ]
     rw[all_congr (f:=fun j=>vV ((x::s).g j)||(!decide ((j:Int)=0)&&(digit ((x::s).g j)||dash ((x::s).g j)))) (g:=fun j=>vV ((x::s).g j)||(digit ((x::s).g j)||dash ((x::s).g j))) s.length (0+1) fun j hj _=>by
      simp only[decide_eq_false (show ¬(j:Int)=0 by omega),Bool.not_false,Bool.true_and]]
     simp only[vV]
     rw[show decide (((0:Nat):Int)=0)=true from rfl]
     generalize xH _ s.length (0+1)=z
     generalize decide (97≤((((x::s).g 0).toNat:Nat):Int))=a
     generalize decide (((((x::s).g 0).toNat:Nat):Int)≤122)=b
     generalize digit ((x::s).g 0)=c
     generalize dash ((x::s).g 0)=e
     cases a<;>cases b<;>cases c<;>cases e<;>cases z<;>rfl
theorem JK (n:Int):gR n=cK n:=rfl
theorem Hc (n:Int):gu n=ff n:=rfl
theorem xI (x m:Int):dW x m=(!decide (x<0)&& !decide (m<x)):=by
 unfold dW
 rw[JJ,JJ]
 cases decide (0≤x)<;>cases decide (x≤m)<;>rfl
theorem TA (g:bV):bD g=bif gP g then 0 else 1:=by
 unfold bD gP
 rw[xI,xI,Hc]
 cases decide (g.acc<0)<;>cases decide (1000000000<g.acc)<;>cases decide (g.bP<0)<;>cases decide (1000000000<g.bP)<;>cases ff g.since<;>rfl
theorem N1 (q:ay) (i0:Nat):∀(k i:Nat),bW i0 q k i=bif tu (fun j=>decide ((q.af.g j).name=(q.af.g i0).name)) k i then some 6 else none
 | 0,_=>rfl
 | k+1,i=>by
   rw[bW,tu,N1 q i0 k (i+1)]
   cases decide ((q.af.g i).name=(q.af.g i0).name)<;>rfl
theorem TB (q:ay) {i:Nat} (hi:i<q.af.length):er (dv (q.af.take i) (q.af.g i))=bif (!(dI (q.af.g i).name)) then some 5 else (match bW i q i 0 with | none=>er (bD (q.af.g i)) | some r=>some r):=by
 unfold dv
 rw[N0,tv o!,N1,TA]
 simp only[hB]
 cases dI (q.af.g i).name with
 | false=>rfl
 | true=>
   cases tu (fun j=>decide ((q.af.g j).name=(q.af.g i).name)) i 0 with
   | true=>rfl
   | false=>cases gP (q.af.g i)<;>rfl
theorem N2 (q:ay):∀(k i:Nat),bO q k i=fe (fun i=>bif (!(dI (q.af.g i).name)) then some 5 else (match bW i q i 0 with | none=>er (bD (q.af.g i)) | some r=>some r)) k i
 | 0,_=>rfl
 | k+1,i=>by
   rw[bO,fe,N2 q k (i+1)]
   cases (!(dI (q.af.g i).name)) with
   | true=>rfl
   | false=>
     cases bW i q i 0 with
     | some r=>rfl
     | none=>
       rw[er]
       cases (!decide (bD (q.af.g i)=0))<;>rfl
theorem JL (sa:List ay) (q:ay):bB sa q=bif (!(dI q.name)) then 5 else bif cH sa (fun y=>dD y q) then 6 else aE q:=by
 unfold bB aE
 rw[N0]
 cases dI q.name with
 | false=>rfl
 | true=>
   cases cH sa (fun y=>dD y q) with
   | true=>rfl
   | false=>
     rw[JK,JK,xI,xI,xI,uH,N2,JI q.af.length 0 fun j _ hj=>TB q o!]
     cases cK q.aj with
     | false=>rfl
     | true=>cases cK q.ah with
       | false=>rfl
       | true=>cases decide (q.ah<q.aj) with
         | true=>rfl
         | false=>
           cases decide (q.aI<0) with
           | true=>rfl
           | false=>cases decide (10000<q.aI) with
             | true=>rfl
             | false=>cases decide (q.aK<0) with
               | true=>rfl
               | false=>cases decide (10000<q.aK) with
                 | true=>rfl
                 | false=>cases decide (8<((q.af.length:Nat):Int)) with
                   | true=>rfl
                   | false=>cases decide (q.bad<0) with
                     | true=>rfl
                     | false=>cases decide (((q.af.length:Nat):Int)<q.bad) with
                       | true=>rfl
                       | false=>exact (ZF _).symm
def kQ:Code:=(Try.f60.body).getD .skip
theorem jD:Try.f60.body=some kQ:=by kernel_rfl
def rq:Code:=(cC kQ).getD 0 .skip
def cO (P:Nat→Int) (dm:List az):Nat→Nat→Option (Int)
 | 0,_=>none
 | d_+1,i0=>(bif (!decide ((P i0)=0)) then some (P i0) else cO P dm d_ (i0+1))
theorem im {d:Nat} {h:au} (dz:AV) (g:FuncId) (cap:List AV) (dm:List az) (P:Nat→Int) (cD:aZ h dz dm) (hP:∀j,j<dm.length→∀aV hh,Tidy hh→Has h hh→aZ hh aV (dm.take j)→cW d (.fn g) (aV:: .agg (aA.c (dm.g j))::cap) hh= .ret (.int .i64 (P j)) hh):∀(k_ i_:Nat) (_:i_+k_=dm.length) (x:Nat→AV) (hh:au) (aN:Tidy hh) (bj:Has h hh),aW (cW (d)) rq ⟨(dz::(x 1)::(AV.func g [] cap)::rx x 3 11 (dz::(Zn dm.length)::(Zn i_)::rx x 17 14 [])),hh,[],.no⟩ (.exit 0) hh (fun y=>(dz::(y 1)::(AV.func g [] cap)::rx y 3 11 (dz::(Zn dm.length)::rx y 16 15 []))) (fun r y=>(dz::(y 1)::(AV.func g [] cap)::rx y 3 3 ((Zi r)::rx y 7 7 (dz::(Zn dm.length)::rx y 16 15 [])))) (cO P dm k_ i_)
 | 0,i0,kY,x,hh,aN,bj=>by
   have jA:=cD.small
   have q1:(decide (((i0:Nat):Int)<((dm.length:Nat):Int)))=false:=d!
   exact aW.out rfl (pk (d) _ _ hh _ hh (VV (bZ 3 false false .i64 ((i0:Nat):Int) ((dm.length:Nat):Int))<|BB q1<|ZZ) k!) (Grow.refl aN) k!
 | d_+1,i0,kY,x,hh,aN,bj=>by
   have jA:=cD.small
   have q1:(decide (((i0:Nat):Int)<((dm.length:Nat):Int)))=true:=d!
   obtain ⟨p3,q4,lE⟩:=(cD.has bj).elem (i:=i0) o!
   have xp:dr env (some (.slice 43)) (some dz) (some (Zn i0))=some (AV.ptr p3 q4):=lE
   have AZ:bG env hh 43 (AV.ptr p3 q4)=some (AV.agg [(Zi (dm.g i0).aD),(Zi (dm.g i0).time),(Zi (dm.g i0).value)]):=(cD.has bj).load o! lE
   obtain ⟨h6,zh,mh,JH,ti,lL⟩:=iQ aN (a_.cells [(Zi 0),(Zi 0),(Zi 0)] 43 false)
   have nu:Has hh h6:=lL
   obtain ⟨h7,pJ,lM,Ha,lV,dX⟩:=xg (t:=43) (n:=3) (i:=hh.nx) (L:=[(Zi (dm.g i0).aD),(Zi (dm.g i0).time),(Zi (dm.g i0).value)]) mh ti k! rfl rfl (by simp only[AV.cells,List.all_cons,List.all_nil,Bool.and_true,Bool.and_self,fB,dZ,fC,fD,dh,iT,iU,iV,iW,iX,fE])
   have kJ:Has hh h7:=Has.cj nu dX aN o!
   obtain ⟨r8,abg,abh⟩:=(cD.has bj).pre (t:=27) k! (i:=i0) o!
   have sl9:dw env 27 dz (none) (some (Zn i0)) (none)=some r8:=abg
   have LG:=hP i0 o! r8 h7 lM (bj.trans kJ) (abh.has kJ)
   have Tx:AV.same 20 (AV.agg [(Zi (dm.g i0).aD),(Zi (dm.g i0).time),(Zi (dm.g i0).value)]) (AV.agg [(Zi (dm.g i0).aD),(Zi (dm.g i0).time),(Zi (dm.g i0).value)])=true:=ie 18 (pR (fun n=>aU n _ _) (pR (fun n=>aU n _ _) (pR (fun n=>aU n _ _) Pq)))
   rcases Bool.eq_false_or_eq_true (!decide ((P i0)=0)) with f1 | f1
   · have jg:=EM f1
     exact aW.ret (P i0) (by simp only[cO,f1,ao,ai]) (pk (d) _ _ hh _ h7 (VV (bZ 3 false false .i64 ((i0:Nat):Int) ((dm.length:Nat):Int))<|BC q1<|VV xp<|MM AZ<|NN zh (fun i=>(Pt i))<|CC<|SS pJ<|CN 3<|QQ sl9<|MM (aM 43 0 (AV.agg [(Zi (dm.g i0).aD),(Zi (dm.g i0).time),(Zi (dm.g i0).value)]) lV k!)<|EE LG<|CC<|HH (aM 43 0 (AV.agg [(Zi (dm.g i0).aD),(Zi (dm.g i0).time),(Zi (dm.g i0).value)]) lV k!)<|HH Tx<|CC<|VV (jw 31 false true .i64 (P i0) 0)<|BB f1<|CN 2<|ZZ) k!) (⟨lM,kJ,by omega⟩) k!
   · have jg:=EN f1
     have u14:=fj 3 false true i0 1 o!
     exact aW.round (by simp only[cO,f1,ao,ai]) (pk (d) _ _ hh _ h7 (VV (bZ 3 false false .i64 ((i0:Nat):Int) ((dm.length:Nat):Int))<|BC q1<|VV xp<|MM AZ<|NN zh (fun i=>(Pt i))<|CC<|SS pJ<|CN 3<|QQ sl9<|MM (aM 43 0 (AV.agg [(Zi (dm.g i0).aD),(Zi (dm.g i0).time),(Zi (dm.g i0).value)]) lV k!)<|EE LG<|CC<|HH (aM 43 0 (AV.agg [(Zi (dm.g i0).aD),(Zi (dm.g i0).time),(Zi (dm.g i0).value)]) lV k!)<|HH Tx<|CC<|VV (jw 31 false true .i64 (P i0) 0)<|BV f1 u14<|CC<|ZZ) k!) (⟨lM,kJ,by omega⟩) _ k! (fun x=>im dz g cap dm P cD hP d_ (i0+1) o! x h7 lM (bj.trans kJ))
def cI (dm:List az) (fO:Int) (P:Nat→Int):Int:=(bif (decide (fO<((dm.length:Nat):Int))) then 3 else (match (cO P dm dm.length 0) with | none=>0 | some Tv=>Tv))
theorem tw {d:Nat} {h:au} {dz:AV} {g:FuncId} {cap:List AV} (dm:List az) (fO:Int) (P:Nat→Int) (oQ:aZ h dz dm) (hP:∀j,j<dm.length→∀aV hh,Tidy hh→Has h hh→aZ hh aV (dm.take j)→cW d (.fn g) (aV:: .agg (aA.c (dm.g j))::cap) hh= .ret (.int .i64 (P j)) hh) (bY:Tidy h):cW (d+1) (.fn 60) [dz,(Zi fO),(AV.func g [] cap)] h= .ret (Zi (cI dm fO P)) h:=by
 have Ty:=oQ.small
 have nY:dJ (some (.slice 43)) (some dz)=some (Zn dm.length):=oQ.len
 rcases Bool.eq_false_or_eq_true (decide (fO<((dm.length:Nat):Int))) with f0 | f0
 · have j8:=of_decide_eq_true f0
   have e:cI dm fO P=3:=by simp only[cI,f0,ao,ai]
   rw[e]
   exact aC rfl (bx Try.func60 jD rfl (.inr rfl) (pk (d) _ _ h _ h (CN 2<|VV nY<|CC<|VV (cg 3 false false .i64 ((dm.length:Nat):Int) fO)<|BC f0<|ZZ) k!) k!) (Has.refl _) rfl
 · have j8:=of_decide_eq_false f0
   have QV:dJ (some (.slice 43)) (some dz)=some (Zn dm.length):=oQ.len
   cases lJ:cO P dm dm.length 0 with
   | none=>
     obtain ⟨yl4,h5,mg,oP⟩:=aW.n lJ (im (d:=d) (h:=h) dz g cap dm P oQ hP dm.length 0 o! (fun k_=>((dz::(Zi fO)::(AV.func g [] cap)::AV.undef::AV.undef::AV.undef::(Zi 0)::AV.undef::AV.undef::AV.undef::dz::(Zn dm.length)::(Zi fO)::(AV.bool (decide (fO<((dm.length:Nat):Int))))::dz::(Zn dm.length)::(Zi 0)::kX 14):List AV).getD k_ AV.undef) h bY (Has.refl _))
     have nK:=oP.y
     have JF:h.nx≤h5.nx:=oP.n
     have nL:Has h h5:=oP.a
     have e:cI dm fO P=0:=by simp only[cI,f0,lJ,ao,ai]
     rw[e]
     exact aC rfl (bx Try.func60 jD rfl (.inr rfl) (pk (d) _ _ h _ h5 (CN 2<|VV nY<|CC<|VV (cg 3 false false .i64 ((dm.length:Nat):Int) fO)<|BC f0<|VV QV<|CC<|LL mg<|CC<|ZZ) k!) k!) nL rfl
   | some Tv=>
     obtain ⟨yl4,h5,mg,oP⟩:=aW.r lJ (im (d:=d) (h:=h) dz g cap dm P oQ hP dm.length 0 o! (fun k_=>((dz::(Zi fO)::(AV.func g [] cap)::AV.undef::AV.undef::AV.undef::(Zi 0)::AV.undef::AV.undef::AV.undef::dz::(Zn dm.length)::(Zi fO)::(AV.bool (decide (fO<((dm.length:Nat):Int))))::dz::(Zn dm.length)::(Zi 0)::kX 14):List AV).getD k_ AV.undef) h bY (Has.refl _))
     have nK:=oP.y
     have JF:h.nx≤h5.nx:=oP.n
     have nL:Has h h5:=oP.a
     have e:cI dm fO P=Tv:=by simp only[cI,f0,lJ,ao,ai]
     rw[e]
     exact aC rfl (bx Try.func60 jD rfl (.inr rfl) (pk (d) _ _ h _ h5 (CN 2<|VV nY<|CC<|VV (cg 3 false false .i64 ((dm.length:Nat):Int) fO)<|BC f0<|VV QV<|CC<|LL mg<|ZZ) k!) k!) nL rfl
def JM:Code:=(Try.f80.body).getD .skip
theorem JN:Try.f80.body=some JM:=by kernel_rfl
def tx (PG:Int) (tb:Int):Bool:=(bif (decide (0≤PG)) then (decide (PG<tb)) else false)
theorem TC {d:Nat} {h:au} (PG:Int) (tb:Int) (bY:Tidy h):cW (d+1) (.fn 80) [(Zi PG),(Zi tb)] h= .ret (AV.bool (tx PG tb)) h:=by
 rcases Bool.eq_false_or_eq_true (decide (0≤PG)) with f0 | f0
 · have j8:=of_decide_eq_true f0
   have e:tx PG tb=(decide (PG<tb)):=by simp only[tx,f0,ao,ai]
   rw[e]
   exact aC rfl (bx Try.func80 JN rfl (.inr rfl) (pk (d) _ _ h _ h (CN 2<|VV (qh 3 false true .i64 PG 0)<|CC<|BC f0<|BC f0<|BV f0 (bZ 3 false false .i64 PG tb)<|VV (pG (decide (PG<tb)) false f0)<|CC<|ZZ) k!) k!) (Has.refl _) rfl
 · have j8:=of_decide_eq_false f0
   have e:tx PG tb=false:=by simp only[tx,f0,ao,ai]
   rw[e]
   exact aC rfl (bx Try.func80 JN rfl (.inr rfl) (pk (d) _ _ h _ h (CN 2<|VV (qh 3 false true .i64 PG 0)<|CC<|BB f0<|BB f0<|BV f0 (vG false f0)<|CC<|ZZ) k!) k!) (Has.refl _) rfl
def uI:Code:=(Try.f62.body).getD .skip
theorem jT:Try.f62.body=some uI:=by kernel_rfl
def cT (q:ay) (r:az):Int:=(bif (!(tx r.aD ((q.af.length:Nat):Int))) then 7 else (bif (!(gu r.time)) then 1 else (bif (!(gR r.value)) then 1 else 0)))
theorem zi {d:Nat} {h:au} (q:ay) (r:az) (jh:aA.ok h q) (h_r:aA.ok h r) (bY:Tidy h):cW (d+3) (.fn 62) [(AV.agg [(AV.str q.name),(Zi q.aj),(Zi q.ah),(Zi q.aI),(Zi q.aK),(Zi q.bad),q.aB]),(AV.agg [(Zi r.aD),(Zi r.time),(Zi r.value)])] h= .ret (Zi (cT q r)) h:=by
 have ky:=jh.2.small
 obtain ⟨h1,cA,cq,jf,aY,ct⟩:=iQ bY (a_.cells [(AV.str q.name),(Zi q.aj),(Zi q.ah),(Zi q.aI),(Zi q.aK),(Zi q.bad),q.aB] 26 false)
 have bI:Has h h1:=ct
 obtain ⟨h2,nv,gG,CP,fW,fJ⟩:=iQ cq (a_.cells [(Zi r.aD),(Zi r.time),(Zi r.value)] 43 false)
 have fF:Has h h2:=bI.trans fJ
 have QV:dJ (some (.slice 45)) (some q.aB)=some (Zn q.af.length):=jh.2.len
 have k4:=TC (d:=d+1) r.aD ((q.af.length:Nat):Int) gG
 rcases Bool.eq_false_or_eq_true (!(tx r.aD ((q.af.length:Nat):Int))) with f0 | f0
 · have e:cT q r=7:=by simp only[cT,f0,ao,ai]
   rw[e]
   exact aC rfl (bx Try.func62 jT rfl (.inr rfl) (pk (d+2) _ _ h _ h2 (NN cA (fun i=>(Pt i))<|NN nv (fun i=>(Pt i))<|CN 2<|MM (aM 3 0 (Zi r.aD) fW k!)<|CC<|MM (aM 24 6 q.aB (fJ _ _ aY) k!)<|VV QV<|EE k4<|CN 2<|BC f0<|ZZ) k!) k!) fF rfl
 · have k6:=vQ (d:=d) r.time gG
   rcases Bool.eq_false_or_eq_true (!(gu r.time)) with f1 | f1
   · have e:cT q r=1:=by simp only[cT,f0,f1,ao,ai]
     rw[e]
     exact aC rfl (bx Try.func62 jT rfl (.inr rfl) (pk (d+2) _ _ h _ h2 (NN cA (fun i=>(Pt i))<|NN nv (fun i=>(Pt i))<|CN 2<|MM (aM 3 0 (Zi r.aD) fW k!)<|CC<|MM (aM 24 6 q.aB (fJ _ _ aY) k!)<|VV QV<|EE k4<|CN 2<|BC f0<|MM (aM 3 1 (Zi r.time) fW k!)<|EE k6<|CN 2<|BB f1<|BC f1<|ZZ) k!) k!) fF rfl
   · have k8:=tp (d:=d+1) r.value gG
     rcases Bool.eq_false_or_eq_true (!(gR r.value)) with f2 | f2
     · have e:cT q r=1:=by simp only[cT,f0,f1,f2,ao,ai]
       rw[e]
       exact aC rfl (bx Try.func62 jT rfl (.inr rfl) (pk (d+2) _ _ h _ h2 (NN cA (fun i=>(Pt i))<|NN nv (fun i=>(Pt i))<|CN 2<|MM (aM 3 0 (Zi r.aD) fW k!)<|CC<|MM (aM 24 6 q.aB (fJ _ _ aY) k!)<|VV QV<|EE k4<|CN 2<|BC f0<|MM (aM 3 1 (Zi r.time) fW k!)<|EE k6<|CN 2<|BC f1<|MM (aM 3 2 (Zi r.value) fW k!)<|EE k8<|CN 2<|BC f2<|ZZ) k!) k!) fF rfl
     · have e:cT q r=0:=by simp only[cT,f0,f1,f2,ao,ai]
       rw[e]
       exact aC rfl (bx Try.func62 jT rfl (.inr rfl) (pk (d+2) _ _ h _ h2 (NN cA (fun i=>(Pt i))<|NN nv (fun i=>(Pt i))<|CN 2<|MM (aM 3 0 (Zi r.aD) fW k!)<|CC<|MM (aM 24 6 q.aB (fJ _ _ aY) k!)<|VV QV<|EE k4<|CN 2<|BC f0<|MM (aM 3 1 (Zi r.time) fW k!)<|EE k6<|CN 2<|BC f1<|MM (aM 3 2 (Zi r.value) fW k!)<|EE k8<|CN 2<|BC f2<|ZZ) k!) k!) fF rfl
def r7:Code:=(Try.f61.body).getD .skip
theorem vW:Try.f61.body=some r7:=by kernel_rfl
def eD (sa:List az) (r:az) (q:ay):Int:=(cT q r)
theorem vX {d:Nat} {h:au} {tg:AV} (sa:List az) (r:az) (q:ay) (qB:Nat) (nM:aZ h tg sa) (h_r:aA.ok h r) (jh:aA.ok h q) (g_q:h.get qB=some (.cells (aA.c q) 26 false)) (bY:Tidy h):cW (d+4) (.fn 61) [tg,(AV.agg [(Zi r.aD),(Zi r.time),(Zi r.value)]),(Pt qB)] h= .ret (Zi (eD sa r q)) h:=by
 have EY:=nM.small
 have ky:=jh.2.small
 obtain ⟨h1,cA,cq,jf,aY,ct⟩:=iQ bY (a_.cells [(Zi r.aD),(Zi r.time),(Zi r.value)] 43 false)
 have bI:Has h h1:=ct
 have k2:=zi (d:=d) q r (aA.mono bI jh) trivial cq
 have e:eD sa r q=(cT q r):=by simp only[eD,ao,ai]
 rw[e]
 exact aC rfl (bx Try.func61 vW rfl (.inr rfl) (pk (d+3) _ _ h _ h1 (NN cA (fun i=>(Pt i))<|CC<|MM (aM 26 0 (AV.agg [(AV.str q.name),(Zi q.aj),(Zi q.ah),(Zi q.aI),(Zi q.aK),(Zi q.bad),q.aB]) (ct _ _ g_q) k!)<|MM (aM 43 0 (AV.agg [(Zi r.aD),(Zi r.time),(Zi r.value)]) aY k!)<|EE k2<|CC<|ZZ) k!) k!) bI rfl
def tz:Code:=(Try.f40.body).getD .skip
theorem pv:Try.f40.body=some tz:=by kernel_rfl
def bk (q:ay) (l_:List az):Int:=(bif (!decide ((bB ([]:List ay) q)=0)) then (bB ([]:List ay) q) else (cI l_ 64 (fun jx=>eD (List.take jx l_) (List.g l_ jx) q)))
theorem jm {d:Nat} {h:au} {qA:AV} (q:ay) (l_:List az) (jh:aA.ok h q) (mS:aZ h qA l_) (bY:Tidy h):cW (d+11) (.fn 40) [(AV.agg [(AV.str q.name),(Zi q.aj),(Zi q.ah),(Zi q.aI),(Zi q.aK),(Zi q.bad),q.aB]),qA] h= .ret (Zi (bk q l_)) h:=by
 have Hd:=mS.small
 have ky:=jh.2.small
 obtain ⟨h1,cA,cq,jf,aY,ct⟩:=iQ bY (a_.cells [(AV.str q.name),(Zi q.aj),(Zi q.ah),(Zi q.aI),(Zi q.aK),(Zi q.bad),q.aB] 26 false)
 have bI:Has h h1:=ct
 have k2:=xG (d:=d+1) ([]:List ay) q aZ.nil (aA.mono bI jh) cq
 rcases Bool.eq_false_or_eq_true (!decide ((bB ([]:List ay) q)=0)) with f0 | f0
 · have j8:=EM f0
   have e:bk q l_=(bB ([]:List ay) q):=by simp only[bk,f0,ao,ai]
   rw[e]
   exact aC rfl (bx Try.func40 pv rfl (.inr rfl) (pk (d+10) _ _ h _ h1 (NN cA (fun i=>(Pt i))<|CC<|MM (aM 26 0 (AV.agg [(AV.str q.name),(Zi q.aj),(Zi q.ah),(Zi q.aI),(Zi q.aK),(Zi q.bad),q.aB]) aY k!)<|EE k2<|CN 2<|VV (jw 31 false true .i64 (bB ([]:List ay) q) 0)<|BB f0<|CN 2<|ZZ) k!) k!) bI rfl
 · have j8:=EN f0
   have k4:=tw (d:=d+9) l_ 64 (fun jx=>eD (List.take jx l_) (List.g l_ jx) q) (mS.has bI) (fun jx hj aV hh yy aa fa=>vX (d:=d+5) (List.take jx l_) (List.g l_ jx) q h.nx fa (aA.mono aa ((mS.has bI).ok hj)) (aA.mono aa (aA.mono bI jh)) (aa _ _ aY) yy) cq
   have e:bk q l_=(cI l_ 64 (fun jx=>eD (List.take jx l_) (List.g l_ jx) q)):=by simp only[bk,f0,ao,ai]
   rw[e]
   exact aC rfl (bx Try.func40 pv rfl (.inr rfl) (pk (d+10) _ _ h _ h1 (NN cA (fun i=>(Pt i))<|CC<|MM (aM 26 0 (AV.agg [(AV.str q.name),(Zi q.aj),(Zi q.ah),(Zi q.aI),(Zi q.aK),(Zi q.bad),q.aB]) aY k!)<|EE k2<|CN 2<|VV (jw 31 false true .i64 (bB ([]:List ay) q) 0)<|BB f0<|CN 2<|EE k4<|CC<|ZZ) k!) k!) bI rfl
def xJ:Code:=(Try.f25.body).getD .skip
theorem oS:Try.f25.body=some xJ:=by kernel_rfl
def cm (q:ay) (l_:List az) (t:Int):Int:=(bif (!decide ((bk q l_)=0)) then (bk q l_) else (bif (!(gu t)) then 1 else 0))
theorem CQ {d:Nat} {h:au} {qA:AV} (q:ay) (l_:List az) (t:Int) (jh:aA.ok h q) (mS:aZ h qA l_) (bY:Tidy h):cW (d+12) (.fn 25) [(AV.agg [(AV.str q.name),(Zi q.aj),(Zi q.ah),(Zi q.aI),(Zi q.aK),(Zi q.bad),q.aB]),qA,(Zi t)] h= .ret (Zi (cm q l_ t)) h:=by
 have Hd:=mS.small
 have ky:=jh.2.small
 obtain ⟨h1,cA,cq,jf,aY,ct⟩:=iQ bY (a_.cells [(AV.str q.name),(Zi q.aj),(Zi q.ah),(Zi q.aI),(Zi q.aK),(Zi q.bad),q.aB] 26 false)
 have bI:Has h h1:=ct
 have k2:=jm (d:=d) q l_ (aA.mono bI jh) (mS.has bI) cq
 rcases Bool.eq_false_or_eq_true (!decide ((bk q l_)=0)) with f0 | f0
 · have j8:=EM f0
   have e:cm q l_ t=(bk q l_):=by simp only[cm,f0,ao,ai]
   rw[e]
   exact aC rfl (bx Try.func25 oS rfl (.inr rfl) (pk (d+11) _ _ h _ h1 (NN cA (fun i=>(Pt i))<|CC<|MM (aM 26 0 (AV.agg [(AV.str q.name),(Zi q.aj),(Zi q.ah),(Zi q.aI),(Zi q.aK),(Zi q.bad),q.aB]) aY k!)<|CC<|EE k2<|CN 2<|VV (jw 31 false true .i64 (bk q l_) 0)<|BB f0<|CN 2<|ZZ) k!) k!) bI rfl
 · have j8:=EN f0
   have k4:=vQ (d:=d+9) t cq
   rcases Bool.eq_false_or_eq_true (!(gu t)) with f1 | f1
   · have e:cm q l_ t=1:=by simp only[cm,f0,f1,ao,ai]
     rw[e]
     exact aC rfl (bx Try.func25 oS rfl (.inr rfl) (pk (d+11) _ _ h _ h1 (NN cA (fun i=>(Pt i))<|CC<|MM (aM 26 0 (AV.agg [(AV.str q.name),(Zi q.aj),(Zi q.ah),(Zi q.aI),(Zi q.aK),(Zi q.bad),q.aB]) aY k!)<|CC<|EE k2<|CN 2<|VV (jw 31 false true .i64 (bk q l_) 0)<|BC f0<|EE k4<|CC<|BC f1<|ZZ) k!) k!) bI rfl
   · have e:cm q l_ t=0:=by simp only[cm,f0,f1,ao,ai]
     rw[e]
     exact aC rfl (bx Try.func25 oS rfl (.inr rfl) (pk (d+11) _ _ h _ h1 (NN cA (fun i=>(Pt i))<|CC<|MM (aM 26 0 (AV.agg [(AV.str q.name),(Zi q.aj),(Zi q.ah),(Zi q.aI),(Zi q.aK),(Zi q.bad),q.aB]) aY k!)<|CC<|EE k2<|CN 2<|VV (jw 31 false true .i64 (bk q l_) 0)<|BC f0<|EE k4<|CC<|BC f1<|ZZ) k!) k!) bI rfl

theorem aen (q:ay):bB ([]:List ay) q=aE q:=by
 rw[JL]
 have e:cH ([]:List ay) (fun y=>dD y q)=false:=by rw[rp];rfl
 rw[e,ai,aE]
 cases dI q.name<;>rfl
theorem L9 (q:ay) (r:az):cT q r=dV q r:=by
 rw[cT,dV,tx]
 by_cases h:r.aD<0
 · rw[decide_eq_true h,decide_eq_false (show ¬0≤r.aD by omega)];rfl
 · rw[decide_eq_false h,decide_eq_true (show 0≤r.aD by omega)]
   by_cases h2:r.aD<(q.af.length:Int)
   · rw[decide_eq_true h2,decide_eq_false (show ¬(q.af.length:Int)≤r.aD by omega)];rfl
   · rw[decide_eq_false h2,decide_eq_true (show (q.af.length:Int)≤r.aD by omega)];rfl
theorem N4 (q:ay) (l:List az):∀(k i:Nat),(match cO (fun jx=>eD (List.take jx l) (List.g l jx) q) l k i with | none=>0 | some r=>r)=cy q l k i 0
 | 0,_=>rfl
 | k+1,i=>by
   rw[cO,cy]
   simp only[decide_true,ao]
   rw[eD,L9]
   by_cases h:dV q (l.g i)=0
   · rw[decide_eq_true h,h];exact N4 q l k (i+1)
   · rw[decide_eq_false h,Cu q l k (i+1) _ h];rfl
theorem jE (q:ay) (l:List az):bk q l=cz q l:=by
 rw[bk,cz,aen]
 by_cases h:aE q=0
 · rw[decide_eq_true h,h,cI]
   by_cases h2:(64:Int)<((l.length:Nat):Int)
   · rw[decide_eq_true h2,Cu q l _ _ 3 (by decide)];rfl
   · rw[decide_eq_false h2];exact N4 q l l.length 0
 · rw[decide_eq_false h,Cu q l _ _ _ h];rfl
theorem PH {x:Int} (h1: -9223372036854775808≤x) (h2:x<9223372036854775808):IntKind.i64.wrap x=x:=wrap_i64 h1 h2
theorem TD {g:bV} {t:Int} (h:0≤g.since∧g.since≤100000) (t0:0≤t) (t1:t≤100000):ij g t=dy g t:=by
 rw[ij,dy,PH (x:=t - g.since) o! o!]
 obtain ⟨m1,m2⟩:=Tk (x:=t - g.since) (y:=0) (m:=100000) o! o!
 generalize imax (t - g.since) 0=m at m1 m2 ⊢
 rw[PH (x:=m+1000) o! o!,PH (x:=m+1000 - 1) o! o!,PH (x:=m+999) o! o!,show m+1000 - 1=m+999 by omega]
def Hf:Code:=(Try.f88.body).getD .skip
theorem PI:Try.f88.body=some Hf:=by kernel_rfl
def kz (x_:Int):Bool:=(!decide (x_=x_))
theorem E1 {d:Nat} {h:au} (x_:Int) (bY:Tidy h):cW (d+1) (.fn 88) [(Zi x_)] h= .ret (AV.bool (kz x_)) h:=by
 have e:kz x_=(!decide (x_=x_)):=by simp only[kz,ao,ai]
 rw[e]
 exact aC rfl (bx Try.func88 PI rfl (.inr rfl) (pk (d) _ _ h _ h (CN 3<|VV (jw 3 false false .i64 x_ x_)<|CC<|ZZ) k!) k!) (Has.refl _) rfl
def L_:Code:=(Try.f74.body).getD .skip
theorem uo:Try.f74.body=some L_:=by kernel_rfl
def nE (x_:Int) (y_:Int):Int:=(bif (kz x_) then (bif (kz y_) then 0 else (-1)) else (bif (kz y_) then 1 else (bif (decide (x_<y_)) then (-1) else (bif (decide (y_<x_)) then 1 else 0))))
theorem XX {d:Nat} {h:au} (x_:Int) (y_:Int) (bY:Tidy h):cW (d+2) (.fn 74) [(Zi x_),(Zi y_)] h= .ret (Zi (nE x_ y_)) h:=by
 have k1:=E1 (d:=d) x_ bY
 have k2:=E1 (d:=d) y_ bY
 rcases Bool.eq_false_or_eq_true (kz x_) with f0 | f0
 · rcases Bool.eq_false_or_eq_true (kz y_) with f1 | f1
   · have e:nE x_ y_=0:=by simp only[nE,f0,f1,ao,ai]
     rw[e]
     exact aC rfl (bx Try.func74 uo rfl (.inr rfl) (pk (d+1) _ _ h _ h (CN 2<|EE k1<|CN 2<|EE k2<|CN 2<|BC f0<|BC f1<|ZZ) k!) k!) (Has.refl _) rfl
   · have e:nE x_ y_=(-1):=by simp only[nE,f0,f1,ao,ai]
     rw[e]
     exact aC rfl (bx Try.func74 uo rfl (.inr rfl) (pk (d+1) _ _ h _ h (CN 2<|EE k1<|CN 2<|EE k2<|CN 2<|BC f0<|BC f1<|ZZ) k!) k!) (Has.refl _) rfl
 · rcases Bool.eq_false_or_eq_true (kz y_) with f1 | f1
   · have e:nE x_ y_=1:=by simp only[nE,f0,f1,ao,ai]
     rw[e]
     exact aC rfl (bx Try.func74 uo rfl (.inr rfl) (pk (d+1) _ _ h _ h (CN 2<|EE k1<|CN 2<|EE k2<|CN 2<|BC f0<|BC f1<|ZZ) k!) k!) (Has.refl _) rfl
   · rcases Bool.eq_false_or_eq_true (decide (x_<y_)) with f2 | f2
     · have nr:=of_decide_eq_true f2
       have e:nE x_ y_=(-1):=by simp only[nE,f0,f1,f2,ao,ai]
       rw[e]
       exact aC rfl (bx Try.func74 uo rfl (.inr rfl) (pk (d+1) _ _ h _ h (CN 2<|EE k1<|CN 2<|EE k2<|CN 2<|BC f0<|BB f1<|CN 2<|VV (bZ 3 false false .i64 x_ y_)<|BC f2<|ZZ) k!) k!) (Has.refl _) rfl
     · have nr:=of_decide_eq_false f2
       rcases Bool.eq_false_or_eq_true (decide (y_<x_)) with f3 | f3
       · have jy:=of_decide_eq_true f3
         have e:nE x_ y_=1:=by simp only[nE,f0,f1,f2,f3,ao,ai]
         rw[e]
         exact aC rfl (bx Try.func74 uo rfl (.inr rfl) (pk (d+1) _ _ h _ h (CN 2<|EE k1<|CN 2<|EE k2<|CN 2<|BC f0<|BB f1<|CN 2<|VV (bZ 3 false false .i64 x_ y_)<|BB f2<|CN 2<|VV (cg 3 false false .i64 x_ y_)<|BC f3<|ZZ) k!) k!) (Has.refl _) rfl
       · have jy:=of_decide_eq_false f3
         have e:nE x_ y_=0:=by simp only[nE,f0,f1,f2,f3,ao,ai]
         rw[e]
         exact aC rfl (bx Try.func74 uo rfl (.inr rfl) (pk (d+1) _ _ h _ h (CN 2<|EE k1<|CN 2<|EE k2<|CN 2<|BC f0<|BB f1<|CN 2<|VV (bZ 3 false false .i64 x_ y_)<|BB f2<|CN 2<|VV (cg 3 false false .i64 x_ y_)<|BC f3<|ZZ) k!) k!) (Has.refl _) rfl
def JO:Code:=(Try.f73.body).getD .skip
theorem TE:Try.f73.body=some JO:=by kernel_rfl
def nw (a:Gate) (b:Gate):Int:=(nE a.time b.time)
theorem TF {d:Nat} {h:au} (a:Gate) (b:Gate) (h_a:aA.ok h a) (h_b:aA.ok h b) (bY:Tidy h):cW (d+3) (.fn 73) [(AV.agg [(Zi a.time),(Zi a.ax),(Zi a.ar)]),(AV.agg [(Zi b.time),(Zi b.ax),(Zi b.ar)])] h= .ret (Zi (nw a b)) h:=by
 obtain ⟨h1,cA,cq,jf,aY,ct⟩:=iQ bY (a_.cells [(Zi a.time),(Zi a.ax),(Zi a.ar)] 66 false)
 have bI:Has h h1:=ct
 obtain ⟨h2,nv,gG,CP,fW,fJ⟩:=iQ cq (a_.cells [(Zi b.time),(Zi b.ax),(Zi b.ar)] 66 false)
 have fF:Has h h2:=bI.trans fJ
 have k3:=XX (d:=d) a.time b.time gG
 have e:nw a b=(nE a.time b.time):=by simp only[nw,ao,ai]
 rw[e]
 exact aC rfl (bx Try.func73 TE rfl (.inr rfl) (pk (d+2) _ _ h _ h2 (NN cA (fun i=>(Pt i))<|NN nv (fun i=>(Pt i))<|CN 2<|MM (aM 3 0 (Zi a.time) (fJ _ _ aY) k!)<|CC<|MM (aM 3 0 (Zi b.time) fW k!)<|EE k3<|CC<|ZZ) k!) k!) fF rfl
set_option maxRecDepth 20000
section
variable {α:Type} [aA α] {h:au} {l:List α} {p i:Nat} {f:TypeId} {ro:Bool}
theorem Ma {q:Nat} (hq:q=0+i*aA.n α) (hi:i<l.length):∀j,j<aA.n α→(l.flatMap aA.c)[q+j]? =(aA.c (l.g i))[j]? :=fun j hj=>by
 rw[hq,Nat.zero_add];exact iz aA.len l i j hi hj
theorem Mb {q:Nat} (hq:q=0+i*aA.n α) (hi:i<l.length):q+aA.n α≤(l.flatMap aA.c).length:=by
 rw[hq,ch aA.len,Nat.zero_add,←Nat.succ_mul];exact Nat.mul_le_mul_right _ hi
theorem mu {q:Nat} (hg:h.get p=some (.cells (l.flatMap aA.c) f ro)) (hq:q=0+i*aA.n α) (hi:i<l.length):bG env h (aA.e α) (.ptr p q)=some (.agg (aA.c (l.g i))):=by
 have h2:=Ma (l:=l) hq hi
 have hl:=aA.len (l.g i)
 have hn:=Mb (l:=l) hq hi
 simp only[bG,hg,hJ,aA.agg,aA.size,hn,if_true]
 congr 2
 apply List.ext_getElem?
 intro j
 by_cases hj:j<aA.n α
 · rw[List.getElem?_take_of_lt hj,List.getElem?_drop,h2 j hj]
 · rw[List.getElem?_eq_none (by rw[List.length_take];omega),List.getElem?_eq_none o!]
theorem hX {q j:Nat} {t:TypeId} {w:AV} (hg:h.get p=some (.cells (l.flatMap aA.c) f ro)) (hq:q=0+i*aA.n α) (hi:i<l.length) (ht:eQ env t=some false) (hw:(aA.c (l.g i))[j]? =some w):bG env h t (.ptr p (q+j))=some w:=by
 have hj:=(List.getElem?_eq_some_iff.1 hw).1
 rw[aA.len] at hj
 simp only[bG,hg,hJ,ht]
 rw[Ma (l:=l) hq hi j hj,hw]
theorem mT {q j n:Nat} {t:TypeId} {ws:List AV} (hg:h.get p=some (.cells (l.flatMap aA.c) f ro)) (hq:q=0+i*aA.n α) (hi:i<l.length) (ht:eQ env t=some true) (hs:b7 env t=some n) (hj:j+n≤aA.n α) (hw:((aA.c (l.g i)).drop j).take n=ws):bG env h t (.ptr p (q+j))=some (.agg ws):=by
 have h2:=Ma (l:=l) hq hi
 have hl:=aA.len (l.g i)
 have hn:=Mb (l:=l) hq hi
 have hc:q+j+n≤(l.flatMap aA.c).length:=by omega
 simp only[bG,hg,hJ,ht,hs,hc,if_true]
 rw[←hw]
 congr 2
 apply List.ext_getElem?
 intro k
 by_cases hk:k<n
 · rw[List.getElem?_take_of_lt hk,List.getElem?_take_of_lt hk,List.getElem?_drop,List.getElem?_drop,Nat.add_assoc,h2 (j+k) o!]
 · rw[List.getElem?_eq_none (by rw[List.length_take];omega),List.getElem?_eq_none (by rw[List.length_take];omega)]
theorem Hg {j:Nat} {vs:List AV} {x:α} (hi:i<l.length) (hj:j+vs.length≤aA.n α) (hx:aA.c x=setFrom (aA.c (l.g i)) j vs):setFrom (l.flatMap aA.c) (i*aA.n α+j) vs=(l.set i x).flatMap aA.c:=by
 have e0:=rh hi x
 rw[hx] at e0
 rw[←e0]
 have hl:=ch aA.len l
 have hb:i*aA.n α+aA.n α≤l.length*aA.n α:=by rw[←Nat.succ_mul];exact Nat.mul_le_mul_right _ hi
 have hc:=aA.len (l.g i)
 have gi:∀r,r<aA.n α→(l.flatMap aA.c)[i*aA.n α+r]? =(aA.c (l.g i))[r]? :=fun r hr=>iz aA.len l i r hi hr
 have sl:(setFrom (aA.c (l.g i)) j vs).length=aA.n α:=by rw[←hx];exact aA.len x
 apply List.ext_getElem?
 intro k
 rw[eu,eu,hl,sl]
 by_cases e:i*aA.n α≤k∧k<i*aA.n α+aA.n α
 · obtain ⟨r,rfl⟩:∃r,k=i*aA.n α+r:=⟨k - i*aA.n α,by omega⟩
   rw[if_pos (c:=i*aA.n α≤i*aA.n α+r∧i*aA.n α+r<i*aA.n α+aA.n α∧i*aA.n α+r<l.length*aA.n α) ⟨by omega,by omega,by omega⟩,Nat.add_sub_cancel_left,eu,hc]
   by_cases e2:j≤r∧r<j+vs.length
   · rw[if_pos ⟨by omega,by omega,by omega⟩,if_pos ⟨by omega,by omega,by omega⟩]
     congr 1;omega
   · rw[if_neg o!,if_neg o!,gi r o!]
 · rw[if_neg o!,if_neg o!]
theorem Has.mU {p:Nat} {h0 h h':au} (a:Has h0 h) (k:Kept p h h') (n:h0.get p=none):Has h0 h':=fun i x g=>k i x (fun e=>by subst e;rw[n] at g;cases g) (a i x g)
theorem xK {h:au} {p:Nat} {o:a_} (y:Tidy h) (g:h.get p=some o):∃h0,Tidy h0∧Has h0 h∧h0.get p=none∧h0.nx=h.nx∧(∀hk,Has h0 hk→Kept p h hk)∧∀g,Has g h→g.get p=none→Has g h0:=by
 refine ⟨h.put p none,fun i x q=>?_,fun i x q=>?_,au.bS _,rfl,fun hk a i x hi q=>a i x (by rw[au.bA (Ne.symm hi)];exact q),fun g a n i x q=>by
  by_cases e:p=i
  · subst e;rw[n] at q;cases q
  · rw[au.bA e];exact a _ _ q⟩
 · by_cases e:p=i
   · subst e;rw[au.bS] at q;cases q
   · rw[au.bA e] at q;exact y _ _ q
 · by_cases e:p=i
   · subst e;rw[au.bS] at q;cases q
   · rw[au.bA e] at q;exact q
theorem xL {h:au} {p:Nat} (y:Tidy h) (hp:h.nx≤p):h.get p=none:=by
 cases e:h.get p with
 | none=>rfl
 | some o=>have:=y _ _ e;omega
theorem xM {q j:Nat} {t:TypeId} {n:Nat} {v:AV} {x:α} (y:Tidy h) (hg:h.get p=some (.cells (l.flatMap aA.c) f false)) (hq:q=0+i*aA.n α) (hi:i<l.length) (hs:b7 env t=some n) (hv:v.cells.length=n) (hj:j+n≤aA.n α) (hk:v.cells.all AV.scalar=true) (hx:aA.c x=setFrom (aA.c (l.g i)) j v.cells):
 ∃h',eF env h t (.ptr p (q+j)) v=some h'∧Tidy h'∧h'.nx=h.nx∧h'.get p=some (.cells ((l.set i x).flatMap aA.c) f false)∧Kept p h h':=by
 have hf:=Mb (l:=l) hq hi
 obtain ⟨h',s⟩:=sQ (E:=env) (t:=t) (o:=q+j) (n:=n) (v:=v) hg hs hv o! hk
 refine ⟨h',s,rb y s hg,sS s hg,?_,fun a w ha gw=>oH y s hg ha gw⟩
 rw[ue y s hg]
 rw[show q+j=i*aA.n α+j by omega,Hg hi o! hx]
end
def xN:Code:=(Try.f92.body).getD .skip
theorem aep:Try.f92.body=some xN:=by kernel_rfl
def XY:Code:=(cC xN).getD 0 .skip
def XZ:Code:=(cC xN).getD 1 .skip
def iL:Nat→Nat→List Gate→List Gate
 | 0,_,bu=>bu
 | bF+1,i1,bu=>(bif (decide ((nw (bu.g (bF+1)) (bu.g ((bF+1) - 1)))<0)) then iL bF (i1+1) ((bu.set (bF+1) (bu.g ((bF+1) - 1))).set ((bF+1) - 1) (bu.g (bF+1))) else bu)
theorem JP {d:Nat} {h:au} (n:Nat) (op:Bool) (i0:Nat) (dt:Nat) (uV:i0<n) (bY:Tidy h) (Mc:h.get dt=none):∀(k_ i_:Nat) (bu:List Gate) (_:i_+k_=i0) (_:(List.length bu=n∧n≤20)) (x:Nat→AV) (hh:au) (aN:Tidy hh) (bj:Has h hh) (jo:h.nx≤hh.nx) (dK:hh.get dt=some (a_.cells (List.flatMap (aA.c (α:=Gate)) bu) 66 false)),dU (σ:=List Gate) (ζ:=Unit) (cW (d+4)) XZ ⟨((AV.slice dt 0 n n op)::(Zn (0))::(Zn n)::(AV.func 73 [] [])::rx x 4 4 ((Zn i0)::(Zn k_)::rx x 10 43 [])),hh,[],.no⟩ (.exit 2) hh (fun r z y=>((AV.slice dt 0 n n op)::(Zn (0))::(Zn n)::(AV.func 73 [] [])::rx y 4 4 ((Zn i0)::rx y 9 44 []))) (fun r z hk=>Has h hk∧hk.get dt=some (a_.cells (List.flatMap (aA.c (α:=Gate)) r) 66 false)∧(List.length r=n∧n≤20)) (iL k_ i_ bu)
 | 0,i1,bu,kY,zj,x,hh,aN,bj,jo,dK=>by
   have zd:=aN _ _ dK
   have q1:(decide (((0:Nat):Int)<((0:Nat):Int)))=false:=d!
   exact dU.out bu () rfl (pk (d+4) _ _ hh _ hh (CN 2<|VV (cg 3 false false .i64 ((0:Nat):Int) ((0:Nat):Int))<|CC<|BB q1<|BB q1<|BB q1<|BB q1<|BB q1<|BB q1<|BB q1<|BB q1<|BB q1<|BB q1<|BB q1<|BV q1 (vG false q1)<|FF<|ZZ) k!) aN o! ⟨bj,dK,(show (List.length bu=n∧n≤20) from (by first | omega | (simp only[List.length_set];omega)))⟩ k!
 | bF+1,i1,bu,kY,zj,x,hh,aN,bj,jo,dK=>by
   have zd:=aN _ _ dK
   have q1:(decide (((0:Nat):Int)<(((bF+1):Nat):Int)))=true:=d!
   have xp:dr env (some (.slice 66)) (some (AV.slice dt 0 n n op)) (some (Zn (bF+1)))=some (AV.ptr dt (0+(bF+1)*3)):=cx (size:=3) k! (show (bF+1)<n by omega)
   have ld3:bG env hh 66 (AV.ptr dt (0+(bF+1)*3))=some (AV.agg [(Zi (bu.g (bF+1)).time),(Zi (bu.g (bF+1)).ax),(Zi (bu.g (bF+1)).ar)]):=mu (i:=(bF+1)) dK rfl (by first | omega | (simp only[List.length_set,List.length_append,List.length_cons,List.length_nil];omega))
   have u4:=GS 3 false true (bF+1) 1 o! o!
   have ZE:dr env (some (.slice 66)) (some (AV.slice dt 0 n n op)) (some (Zn ((bF+1) - 1)))=some (AV.ptr dt (0+((bF+1) - 1)*3)):=cx (size:=3) k! (show ((bF+1) - 1)<n by omega)
   have Af:bG env hh 66 (AV.ptr dt (0+((bF+1) - 1)*3))=some (AV.agg [(Zi (bu.g ((bF+1) - 1)).time),(Zi (bu.g ((bF+1) - 1)).ax),(Zi (bu.g ((bF+1) - 1)).ar)]):=mu (i:=((bF+1) - 1)) dK rfl (by first | omega | (simp only[List.length_set,List.length_append,List.length_cons,List.length_nil];omega))
   have k7:=TF (d:=d+1) (bu.g (bF+1)) (bu.g ((bF+1) - 1)) trivial trivial aN
   have c8:AV.same 20 (AV.agg [(Zi (bu.g (bF+1)).time),(Zi (bu.g (bF+1)).ax),(Zi (bu.g (bF+1)).ar)]) (AV.agg [(Zi (bu.g (bF+1)).time),(Zi (bu.g (bF+1)).ax),(Zi (bu.g (bF+1)).ar)])=true:=ie 18 (pR (fun n=>aU n _ _) (pR (fun n=>aU n _ _) (pR (fun n=>aU n _ _) Pq)))
   have c9:AV.same 20 (AV.agg [(Zi (bu.g ((bF+1) - 1)).time),(Zi (bu.g ((bF+1) - 1)).ax),(Zi (bu.g ((bF+1) - 1)).ar)]) (AV.agg [(Zi (bu.g ((bF+1) - 1)).time),(Zi (bu.g ((bF+1) - 1)).ax),(Zi (bu.g ((bF+1) - 1)).ar)])=true:=ie 18 (pR (fun n=>aU n _ _) (pR (fun n=>aU n _ _) (pR (fun n=>aU n _ _) Pq)))
   rcases Bool.eq_false_or_eq_true (decide ((nw (bu.g (bF+1)) (bu.g ((bF+1) - 1)))<0)) with f1 | f1
   · have jg:=of_decide_eq_true f1
     have Tp:=GS 3 false true (bF+1) 1 o! o!
     have u12:=GS 3 false true (bF+1) 1 o! o!
     have TG:dr env (some (.slice 66)) (some (AV.slice dt 0 n n op)) (some (Zn ((bF+1) - 1)))=some (AV.ptr dt (0+((bF+1) - 1)*3)):=cx (size:=3) k! (show ((bF+1) - 1)<n by omega)
     have vK:bG env hh 66 (AV.ptr dt (0+((bF+1) - 1)*3))=some (AV.agg [(Zi (bu.g ((bF+1) - 1)).time),(Zi (bu.g ((bF+1) - 1)).ax),(Zi (bu.g ((bF+1) - 1)).ar)]):=mu (i:=((bF+1) - 1)) dK rfl (by first | omega | (simp only[List.length_set,List.length_append,List.length_cons,List.length_nil];omega))
     have ahw:dr env (some (.slice 66)) (some (AV.slice dt 0 n n op)) (some (Zn (bF+1)))=some (AV.ptr dt (0+(bF+1)*3)):=cx (size:=3) k! (show (bF+1)<n by omega)
     have ahx:bG env hh 66 (AV.ptr dt (0+(bF+1)*3))=some (AV.agg [(Zi (bu.g (bF+1)).time),(Zi (bu.g (bF+1)).ax),(Zi (bu.g (bF+1)).ar)]):=mu (i:=(bF+1)) dK rfl (by first | omega | (simp only[List.length_set,List.length_append,List.length_cons,List.length_nil];omega))
     have ahy:dr env (some (.slice 66)) (some (AV.slice dt 0 n n op)) (some (Zn (bF+1)))=some (AV.ptr dt (0+(bF+1)*3)):=cx (size:=3) k! (show (bF+1)<n by omega)
     obtain ⟨h18,abl,aeq,aje,aer,abm⟩:=xM (i:=(bF+1)) (j:=0) (t:=66) (n:=3) (v:=(AV.agg [(Zi (bu.g ((bF+1) - 1)).time),(Zi (bu.g ((bF+1) - 1)).ax),(Zi (bu.g ((bF+1) - 1)).ar)])) (x:=(bu.g ((bF+1) - 1))) aN dK rfl (by first | omega | (simp only[List.length_set,List.length_append,List.length_cons,List.length_nil];omega)) k! rfl (by decide) (by simp [AV.cells,AV.scalar]) rfl
     have aes:eF env hh 66 (AV.ptr dt (0+(bF+1)*3)) (AV.agg [(Zi (bu.g ((bF+1) - 1)).time),(Zi (bu.g ((bF+1) - 1)).ax),(Zi (bu.g ((bF+1) - 1)).ar)])=some h18:=abl
     have aet:Has h h18:=Has.mU bj abm Mc
     have abn:dr env (some (.slice 66)) (some (AV.slice dt 0 n n op)) (some (Zn ((bF+1) - 1)))=some (AV.ptr dt (0+((bF+1) - 1)*3)):=cx (size:=3) k! (show ((bF+1) - 1)<n by omega)
     obtain ⟨A3,abo,JQ,ajf,aeu,abp⟩:=xM (i:=((bF+1) - 1)) (j:=0) (t:=66) (n:=3) (v:=(AV.agg [(Zi (bu.g (bF+1)).time),(Zi (bu.g (bF+1)).ax),(Zi (bu.g (bF+1)).ar)])) (x:=(bu.g (bF+1))) aeq aer rfl (by first | omega | (simp only[List.length_set,List.length_append,List.length_cons,List.length_nil];omega)) k! rfl (by decide) (by simp [AV.cells,AV.scalar]) rfl
     have aev:eF env h18 66 (AV.ptr dt (0+((bF+1) - 1)*3)) (AV.agg [(Zi (bu.g (bF+1)).time),(Zi (bu.g (bF+1)).ax),(Zi (bu.g (bF+1)).ar)])=some A3:=abo
     have An:Has h A3:=Has.mU aet abp Mc
     have u21:=GS 3 false true (bF+1) 1 o! o!
     exact dU.round (by simp only[iL,f1,ao,ai]) (pk (d+4) _ _ hh _ A3 (CN 2<|VV (cg 3 false false .i64 (((bF+1):Nat):Int) ((0:Nat):Int))<|CC<|BC q1<|BC q1<|BC q1<|BV q1 xp<|BM q1 ld3<|BC q1<|BC q1<|BV q1 u4<|BV q1 ZE<|BM q1 Af<|BB q1<|EE k7<|BV q1 (bZ 3 false true .i64 (nw (bu.g (bF+1)) (bu.g ((bF+1) - 1))) 0)<|VV (pG (decide ((nw (bu.g (bF+1)) (bu.g ((bF+1) - 1)))<0)) false q1)<|HH (show bG env hh 66 (AV.ptr dt (0+(bF+1)*3))=some (AV.agg [(Zi (bu.g (bF+1)).time),(Zi (bu.g (bF+1)).ax),(Zi (bu.g (bF+1)).ar)]) from (mu (i:=(bF+1)) dK rfl (by first | omega | (simp only[List.length_set,List.length_append,List.length_cons,List.length_nil];omega))))<|HH c8<|HH (show bG env hh 66 (AV.ptr dt (0+((bF+1) - 1)*3))=some (AV.agg [(Zi (bu.g ((bF+1) - 1)).time),(Zi (bu.g ((bF+1) - 1)).ax),(Zi (bu.g ((bF+1) - 1)).ar)]) from (mu (i:=((bF+1) - 1)) dK rfl (by first | omega | (simp only[List.length_set,List.length_append,List.length_cons,List.length_nil];omega))))<|HH c9<|BB f1<|CN 4<|VV Tp<|CN 2<|VV u12<|VV TG<|MM vK<|CN 2<|VV ahw<|MM ahx<|VV ahy<|SS aes<|VV abn<|SS aev<|HH (show bG env hh 66 (AV.ptr dt (0+((bF+1) - 1)*3))=some (AV.agg [(Zi (bu.g ((bF+1) - 1)).time),(Zi (bu.g ((bF+1) - 1)).ax),(Zi (bu.g ((bF+1) - 1)).ar)]) from (mu (i:=((bF+1) - 1)) dK rfl (by first | omega | (simp only[List.length_set,List.length_append,List.length_cons,List.length_nil];omega))))<|HH c9<|HH (show bG env hh 66 (AV.ptr dt (0+(bF+1)*3))=some (AV.agg [(Zi (bu.g (bF+1)).time),(Zi (bu.g (bF+1)).ax),(Zi (bu.g (bF+1)).ar)]) from (mu (i:=(bF+1)) dK rfl (by first | omega | (simp only[List.length_set,List.length_append,List.length_cons,List.length_nil];omega))))<|HH c8<|CC<|VV u21<|CC<|ZZ) k!) o! _ k! (fun x=>JP n op i0 dt uV bY Mc bF (i1+1) ((bu.set (bF+1) (bu.g ((bF+1) - 1))).set ((bF+1) - 1) (bu.g (bF+1))) o! (show (List.length ((bu.set (bF+1) (bu.g ((bF+1) - 1))).set ((bF+1) - 1) (bu.g (bF+1)))=n∧n≤20) from (by first | omega | (simp only[List.length_set];omega))) x A3 JQ An o! aeu)
   · have jg:=of_decide_eq_false f1
     exact dU.out bu () (by simp only[iL,f1,ao,ai]) (pk (d+4) _ _ hh _ hh (CN 2<|VV (cg 3 false false .i64 (((bF+1):Nat):Int) ((0:Nat):Int))<|CC<|BC q1<|BC q1<|BC q1<|BV q1 xp<|BM q1 ld3<|BC q1<|BC q1<|BV q1 u4<|BV q1 ZE<|BM q1 Af<|BB q1<|EE k7<|BV q1 (bZ 3 false true .i64 (nw (bu.g (bF+1)) (bu.g ((bF+1) - 1))) 0)<|VV (pG (decide ((nw (bu.g (bF+1)) (bu.g ((bF+1) - 1)))<0)) false q1)<|HH (show bG env hh 66 (AV.ptr dt (0+(bF+1)*3))=some (AV.agg [(Zi (bu.g (bF+1)).time),(Zi (bu.g (bF+1)).ax),(Zi (bu.g (bF+1)).ar)]) from (mu (i:=(bF+1)) dK rfl (by first | omega | (simp only[List.length_set,List.length_append,List.length_cons,List.length_nil];omega))))<|HH c8<|HH (show bG env hh 66 (AV.ptr dt (0+((bF+1) - 1)*3))=some (AV.agg [(Zi (bu.g ((bF+1) - 1)).time),(Zi (bu.g ((bF+1) - 1)).ax),(Zi (bu.g ((bF+1) - 1)).ar)]) from (mu (i:=((bF+1) - 1)) dK rfl (by first | omega | (simp only[List.length_set,List.length_append,List.length_cons,List.length_nil];omega))))<|HH c9<|BB f1<|ZZ) k!) aN o! ⟨bj,dK,(show (List.length bu=n∧n≤20) from (by first | omega | (simp only[List.length_set];omega)))⟩ k!
def eZ (n:Nat):Nat→Nat→List Gate→List Gate
 | 0,_,iM=>iM
 | d_+1,i0,iM=>eZ n d_ (i0+1) (iL i0 0 iM)
theorem JR {d:Nat} {h:au} (n:Nat) (op:Bool) (cY:Nat) (bY:Tidy h) (tA:h.get cY=none):∀(k_ i_:Nat) (iM:List Gate) (_:i_+k_=n) (_:(List.length iM=n∧n≤20)) (x:Nat→AV) (hh:au) (aN:Tidy hh) (bj:Has h hh) (jo:h.nx≤hh.nx) (du:hh.get cY=some (a_.cells (List.flatMap (aA.c (α:=Gate)) iM) 66 false)),dU (σ:=List Gate) (ζ:=Unit) (cW (d+4)) XY ⟨((AV.slice cY 0 n n op)::(Zn (0))::(Zn n)::(AV.func 73 [] [])::rx x 4 4 ((Zn i_)::rx x 9 44 [])),hh,[],.no⟩ (.exit 0) hh (fun r z y=>((AV.slice cY 0 n n op)::(Zn (0))::(Zn n)::(AV.func 73 [] [])::rx y 4 49 [])) (fun r z hk=>Has h hk∧hk.get cY=some (a_.cells (List.flatMap (aA.c (α:=Gate)) r) 66 false)∧(List.length r=n∧n≤20)) (eZ n k_ i_ iM)
 | 0,i0,iM,kY,zj,x,hh,aN,bj,jo,du=>by
   have ze:=aN _ _ du
   have q1:(decide (((i0:Nat):Int)<((n:Nat):Int)))=false:=d!
   exact dU.out iM () rfl (pk (d+4) _ _ hh _ hh (CN 2<|VV (bZ 3 false false .i64 ((i0:Nat):Int) ((n:Nat):Int))<|BB q1<|ZZ) k!) aN o! ⟨bj,du,(show (List.length iM=n∧n≤20) from (by first | omega | (simp only[List.length_set];omega)))⟩ k!
 | d_+1,i0,iM,kY,zj,x,hh,aN,bj,jo,du=>by
   have ze:=aN _ _ du
   have q1:(decide (((i0:Nat):Int)<((n:Nat):Int)))=true:=d!
   obtain ⟨_,ZD,h3,jB,gF,vP,xO,zk,X0⟩:=JP (d:=d) (h:=h) n op i0 cY o! bY tA i0 0 iM o! (show (List.length iM=n∧n≤20) from (by first | omega | (simp only[List.length_set];omega))) (fun k_=>(((AV.slice cY 0 n n op)::(Zn (0))::(Zn n)::(AV.func 73 [] [])::rx x 4 4 ((Zn i0)::(Zn i0)::(x 10)::(x 11)::(Zn i0)::(Zn n)::(AV.bool (decide (((i0:Nat):Int)<((n:Nat):Int))))::(x 15)::(x 16)::(Zn i0)::rx x 18 35 [])):List AV).getD k_ AV.undef) hh aN bj o! du
   have ik:Has h h3:=xO
   have u4:=fj 3 false true i0 1 o!
   exact dU.round (by simp only[eZ,ao,ai]) (pk (d+4) _ _ hh _ h3 (CN 2<|VV (bZ 3 false false .i64 ((i0:Nat):Int) ((n:Nat):Int))<|BB q1<|CN 2<|LL jB<|CC<|VV u4<|CC<|ZZ) k!) o! _ k! (fun x=>JR n op cY bY tA d_ (i0+1) (iL i0 0 iM) o! (show (List.length (iL i0 0 iM)=n∧n≤20) from (by first | omega | (simp only[List.length_set];omega))) x h3 gF ik o! zk)
theorem aew {d:Nat} {hh:au} {p n:Nat} {op:Bool} {L:List Gate} (aN:Tidy hh) (gp:hh.get p=some (.cells (List.flatMap (aA.c (α:=Gate)) L) 66 false)) (hn:L.length=n) (Ng:n≤20) (hn3:1≤n):
 ∃hk,cW (d+5) (.fn 92) [.slice p 0 n n op,Zi 0,Zn n,.func 73 [] []] hh= .ret (.tuple []) hk∧Tidy hk∧hh.nx≤hk.nx∧hk.get p=some (.cells (List.flatMap (aA.c (α:=Gate)) (eZ n (n - 1) 1 L)) 66 false)∧Kept p hh hk:=by
 obtain ⟨h,bY,bj,hp,jo,kp,_⟩:=xK aN gp
 have T_p:=aN _ _ gp
 have u1:=fj 3 false true 0 1 o!
 obtain ⟨_,ZD,h3,jB,gF,vP,xO,zk,X0⟩:=JR (d:=d) (h:=h) n op p bY hp (n -(0+1)) (0+1) L o! (show (List.length L=n∧n≤20) from (by first | omega | (simp only[List.length_set];omega))) (fun k_=>(((AV.slice p 0 n n op)::(Zn (0))::(Zn n)::(AV.func 73 [] [])::AV.undef::AV.undef::AV.undef::AV.undef::(Zn (0+1))::AV.undef::(Zn (0))::(Zn (0+1))::kX 41):List AV).getD k_ AV.undef) hh aN bj o! gp
 have ik:Has h h3:=xO
 have ev:=pk (d+4) xN ((AV.slice p 0 n n op)::(Zn (0))::(Zn n)::(AV.func 73 [] [])::kX 49) hh .normal h3 (CC<|VV u1<|CC<|LL jB<|ZZ) k!
 obtain ⟨hk,e,q⟩:=kG rfl (bx Try.func92 aep k! (.inl rfl) ev k!)
 refine ⟨hk,e,?_⟩
 rcases q with rfl | ⟨rfl,A⟩
 · exact ⟨gF,vP,zk,kp _ xO⟩
 · refine ⟨aN,Nat.le_refl _,?_,fun _ _ _ q=>q⟩
   rw[A _ _ gp] at zk
   rw[gp];exact zk
theorem CT:∀(k i:Nat) (C:List Gate),(iL k i C).length=C.length
 | 0,_,_=>rfl
 | k+1,i,C=>by
   rw[iL]
   cases decide (nw (C.g (k+1)) (C.g ((k+1) - 1))<0) with
   | true=>rw[ao,CT k];simp
   | false=>rfl
theorem N5 {n:Nat}:∀(k i:Nat) (C:List Gate),(eZ n k i C).length=C.length
 | 0,_,_=>rfl
 | k+1,i,C=>by rw[eZ,N5 k,CT]
end
end Go.Proofs.aH
