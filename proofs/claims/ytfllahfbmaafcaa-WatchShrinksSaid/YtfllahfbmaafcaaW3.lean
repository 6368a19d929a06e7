import Derived.Test.YtfllahfbmaafcaaW0
import Derived.Test.YtfllahfbmaafcaaW2
import Derived.Test.YtfllahfbmaafcaaW1
namespace Go.Proofs.aK
open Go.Proofs Ab
noncomputable section
set_option maxRecDepth 100000
set_option maxHeartbeats 4000000
set_option linter.unusedVariables false
set_option linter.unusedSimpArgs false
def qS:Code:=(Try.f41.body).getD .skip
theorem cE:Try.f41.body=some qS:=by kernel_rfl
def aZ (pW:List aw) (q:aw):Int:=(bif (!(e_ q.name)) then 5 else (bif (ck pW (fun y=>cY y q)) then 6 else (bif (!(fH q.ai)) then 1 else (bif (!(fH q.af)) then 1 else (bif (decide (q.af<q.ai)) then 1 else (bif (!(dk q.aH 10000)) then 1 else (bif (!(dk q.aJ 10000)) then 1 else (bif (decide (8<((q.ao.length:Nat):Int))) then 3 else (bif (!(dk q.bad ((q.ao.length:Nat):Int))) then 1 else (cA q.ao 8 (fun jx=>cQ (List.take jx q.ao) (List.g q.ao jx))))))))))))
theorem uP {d:Nat} {h:au} {qN:AV} (pW:List aw) (q:aw) (lN:aQ h qN pW) (jH:az.ok h q) (cj:Tidy h):dw (d+9) (.fn 41) [qN,(AV.agg [(AV.str q.name),(Zi q.ai),(Zi q.af),(Zi q.aH),(Zi q.aJ),(Zi q.bad),q.aA])] h= .ret (Zi (aZ pW q)) h:=by
 have BY:=lN.small
 have nt:=jH.2.small
 obtain ⟨h1,b9,cL,kt,aO,cz⟩:=jS cj (aR.cells [(AV.str q.name),(Zi q.ai),(Zi q.af),(Zi q.aH),(Zi q.aJ),(Zi q.bad),q.aA] 26 false)
 have bQ:Has h h1:=cz
 have k2:=zQ (d:=d+7) q.name jH.1 cL
 rcases Bool.eq_false_or_eq_true (!(e_ q.name)) with f0 | f0
 · have e:aZ pW q=5:=by simp only[aZ,f0,ax,ar]
   rw[e]
   exact aF rfl (bu Try.func41 cE rfl (.inr rfl) (pk (d+8) _ _ h _ h1 (NN b9 (fun i=>(Pt i))<|CN 2<|MM (aL 9 0 (AV.str q.name) aO k!)<|EE k2<|CN 2<|BC f0<|ZZ) k!) k!) bQ rfl
 · have k4:=qQ (d:=d+6) pW (fun y=>cY y q) (lN.has bQ) (fun y hy hh yy aa=>tx (d:=d+5) y q h.nx (az.mono aa ((lN.has bQ).Dp y hy)) (az.mono aa (az.mono bQ jH)) (aa _ _ aO) yy) cL
   rcases Bool.eq_false_or_eq_true (ck pW (fun y=>cY y q)) with f1 | f1
   · have e:aZ pW q=6:=by simp only[aZ,f0,f1,ax,ar]
     rw[e]
     exact aF rfl (bu Try.func41 cE rfl (.inr rfl) (pk (d+8) _ _ h _ h1 (NN b9 (fun i=>(Pt i))<|CN 2<|MM (aL 9 0 (AV.str q.name) aO k!)<|EE k2<|CN 2<|BB f0<|CN 2<|EE k4<|CC<|BC f1<|ZZ) k!) k!) bQ rfl
   · have k6:=qR (d:=d+7) q.ai cL
     rcases Bool.eq_false_or_eq_true (!(fH q.ai)) with f2 | f2
     · have e:aZ pW q=1:=by simp only[aZ,f0,f1,f2,ax,ar]
       rw[e]
       exact aF rfl (bu Try.func41 cE rfl (.inr rfl) (pk (d+8) _ _ h _ h1 (NN b9 (fun i=>(Pt i))<|CN 2<|MM (aL 9 0 (AV.str q.name) aO k!)<|EE k2<|CN 2<|BB f0<|CN 2<|EE k4<|CC<|BB f1<|CN 2<|MM (aL 3 1 (Zi q.ai) aO k!)<|EE k6<|CN 2<|BB f2<|BC f2<|ZZ) k!) k!) bQ rfl
     · have k8:=qR (d:=d+7) q.af cL
       rcases Bool.eq_false_or_eq_true (!(fH q.af)) with f3 | f3
       · have e:aZ pW q=1:=by simp only[aZ,f0,f1,f2,f3,ax,ar]
         rw[e]
         exact aF rfl (bu Try.func41 cE rfl (.inr rfl) (pk (d+8) _ _ h _ h1 (NN b9 (fun i=>(Pt i))<|CN 2<|MM (aL 9 0 (AV.str q.name) aO k!)<|EE k2<|CN 2<|BB f0<|CN 2<|EE k4<|CC<|BB f1<|CN 2<|MM (aL 3 1 (Zi q.ai) aO k!)<|EE k6<|CN 2<|BB f2<|CN 2<|MM (aL 3 2 (Zi q.af) aO k!)<|EE k8<|CN 2<|BB f3<|BC f3<|ZZ) k!) k!) bQ rfl
       · rcases Bool.eq_false_or_eq_true (decide (q.af<q.ai)) with f4 | f4
         · have qM:=of_decide_eq_true f4
           have e:aZ pW q=1:=by simp only[aZ,f0,f1,f2,f3,f4,ax,ar]
           rw[e]
           exact aF rfl (bu Try.func41 cE rfl (.inr rfl) (pk (d+8) _ _ h _ h1 (NN b9 (fun i=>(Pt i))<|CN 2<|MM (aL 9 0 (AV.str q.name) aO k!)<|EE k2<|CN 2<|BB f0<|CN 2<|EE k4<|CC<|BB f1<|CN 2<|MM (aL 3 1 (Zi q.ai) aO k!)<|EE k6<|CN 2<|BB f2<|CN 2<|MM (aL 3 2 (Zi q.af) aO k!)<|EE k8<|CN 2<|BB f3<|CN 2<|MM (aL 3 1 (Zi q.ai) aO k!)<|CN 2<|MM (aL 3 2 (Zi q.af) aO k!)<|VV (dx 3 false false .i64 q.ai q.af)<|CC<|BC f4<|ZZ) k!) k!) bQ rfl
         · have qM:=of_decide_eq_false f4
           have HG:=ku (d:=d+7) q.aH 10000 cL
           rcases Bool.eq_false_or_eq_true (!(dk q.aH 10000)) with f5 | f5
           · have e:aZ pW q=1:=by simp only[aZ,f0,f1,f2,f3,f4,f5,ax,ar]
             rw[e]
             exact aF rfl (bu Try.func41 cE rfl (.inr rfl) (pk (d+8) _ _ h _ h1 (NN b9 (fun i=>(Pt i))<|CN 2<|MM (aL 9 0 (AV.str q.name) aO k!)<|EE k2<|CN 2<|BB f0<|CN 2<|EE k4<|CC<|BB f1<|CN 2<|MM (aL 3 1 (Zi q.ai) aO k!)<|EE k6<|CN 2<|BB f2<|CN 2<|MM (aL 3 2 (Zi q.af) aO k!)<|EE k8<|CN 2<|BB f3<|CN 2<|MM (aL 3 1 (Zi q.ai) aO k!)<|CN 2<|MM (aL 3 2 (Zi q.af) aO k!)<|VV (dx 3 false false .i64 q.ai q.af)<|CC<|BC f4<|MM (aL 3 3 (Zi q.aH) aO k!)<|EE HG<|CN 2<|BB f5<|BC f5<|ZZ) k!) k!) bQ rfl
           · have YG:=ku (d:=d+7) q.aJ 10000 cL
             rcases Bool.eq_false_or_eq_true (!(dk q.aJ 10000)) with f6 | f6
             · have e:aZ pW q=1:=by simp only[aZ,f0,f1,f2,f3,f4,f5,f6,ax,ar]
               rw[e]
               exact aF rfl (bu Try.func41 cE rfl (.inr rfl) (pk (d+8) _ _ h _ h1 (NN b9 (fun i=>(Pt i))<|CN 2<|MM (aL 9 0 (AV.str q.name) aO k!)<|EE k2<|CN 2<|BB f0<|CN 2<|EE k4<|CC<|BB f1<|CN 2<|MM (aL 3 1 (Zi q.ai) aO k!)<|EE k6<|CN 2<|BB f2<|CN 2<|MM (aL 3 2 (Zi q.af) aO k!)<|EE k8<|CN 2<|BB f3<|CN 2<|MM (aL 3 1 (Zi q.ai) aO k!)<|CN 2<|MM (aL 3 2 (Zi q.af) aO k!)<|VV (dx 3 false false .i64 q.ai q.af)<|CC<|BC f4<|MM (aL 3 3 (Zi q.aH) aO k!)<|EE HG<|CN 2<|BC f5<|MM (aL 3 4 (Zi q.aJ) aO k!)<|EE YG<|CN 2<|BC f6<|ZZ) k!) k!) bQ rfl
             · have Xg:eF (some (.slice 45)) (some q.aA)=some (Zn q.ao.length):=jH.2.len
               rcases Bool.eq_false_or_eq_true (decide (8<((q.ao.length:Nat):Int))) with f7 | f7
               · have adn:=of_decide_eq_true f7
                 have e:aZ pW q=3:=by simp only[aZ,f0,f1,f2,f3,f4,f5,f6,f7,ax,ar]
                 rw[e]
                 exact aF rfl (bu Try.func41 cE rfl (.inr rfl) (pk (d+8) _ _ h _ h1 (NN b9 (fun i=>(Pt i))<|CN 2<|MM (aL 9 0 (AV.str q.name) aO k!)<|EE k2<|CN 2<|BB f0<|CN 2<|EE k4<|CC<|BB f1<|CN 2<|MM (aL 3 1 (Zi q.ai) aO k!)<|EE k6<|CN 2<|BB f2<|CN 2<|MM (aL 3 2 (Zi q.af) aO k!)<|EE k8<|CN 2<|BB f3<|CN 2<|MM (aL 3 1 (Zi q.ai) aO k!)<|CN 2<|MM (aL 3 2 (Zi q.af) aO k!)<|VV (dx 3 false false .i64 q.ai q.af)<|CC<|BC f4<|MM (aL 3 3 (Zi q.aH) aO k!)<|EE HG<|CN 2<|BC f5<|MM (aL 3 4 (Zi q.aJ) aO k!)<|EE YG<|CN 2<|BC f6<|MM (aL 24 6 q.aA aO k!)<|VV Xg<|VV (dx 3 false true .i64 ((q.ao.length:Nat):Int) 8)<|CC<|BC f7<|ZZ) k!) k!) bQ rfl
               · have adn:=of_decide_eq_false f7
                 have aar:eF (some (.slice 45)) (some q.aA)=some (Zn q.ao.length):=jH.2.len
                 have k18:=ku (d:=d+7) q.bad ((q.ao.length:Nat):Int) cL
                 rcases Bool.eq_false_or_eq_true (!(dk q.bad ((q.ao.length:Nat):Int))) with f8 | f8
                 · have e:aZ pW q=1:=by simp only[aZ,f0,f1,f2,f3,f4,f5,f6,f7,f8,ax,ar]
                   rw[e]
                   exact aF rfl (bu Try.func41 cE rfl (.inr rfl) (pk (d+8) _ _ h _ h1 (NN b9 (fun i=>(Pt i))<|CN 2<|MM (aL 9 0 (AV.str q.name) aO k!)<|EE k2<|CN 2<|BB f0<|CN 2<|EE k4<|CC<|BB f1<|CN 2<|MM (aL 3 1 (Zi q.ai) aO k!)<|EE k6<|CN 2<|BB f2<|CN 2<|MM (aL 3 2 (Zi q.af) aO k!)<|EE k8<|CN 2<|BB f3<|CN 2<|MM (aL 3 1 (Zi q.ai) aO k!)<|CN 2<|MM (aL 3 2 (Zi q.af) aO k!)<|VV (dx 3 false false .i64 q.ai q.af)<|CC<|BC f4<|MM (aL 3 3 (Zi q.aH) aO k!)<|EE HG<|CN 2<|BC f5<|MM (aL 3 4 (Zi q.aJ) aO k!)<|EE YG<|CN 2<|BC f6<|MM (aL 24 6 q.aA aO k!)<|VV Xg<|VV (dx 3 false true .i64 ((q.ao.length:Nat):Int) 8)<|CC<|BC f7<|MM (aL 3 5 (Zi q.bad) aO k!)<|CC<|MM (aL 24 6 q.aA aO k!)<|VV aar<|EE k18<|CN 2<|BC f8<|ZZ) k!) k!) bQ rfl
                 · have k20:=tv (d:=d+7) q.ao 8 (fun jx=>cQ (List.take jx q.ao) (List.g q.ao jx)) (jH.2.has bQ) (fun jx hj aV hh yy aa fa=>zR (d:=d+1) (List.take jx q.ao) (List.g q.ao jx) fa (az.mono aa ((jH.2.has bQ).ok hj)) yy) cL
                   have e:aZ pW q=(cA q.ao 8 (fun jx=>cQ (List.take jx q.ao) (List.g q.ao jx))):=by simp only[aZ,f0,f1,f2,f3,f4,f5,f6,f7,f8,ax,ar]
                   rw[e]
                   exact aF rfl (bu Try.func41 cE rfl (.inr rfl) (pk (d+8) _ _ h _ h1 (NN b9 (fun i=>(Pt i))<|CN 2<|MM (aL 9 0 (AV.str q.name) aO k!)<|EE k2<|CN 2<|BB f0<|CN 2<|EE k4<|CC<|BB f1<|CN 2<|MM (aL 3 1 (Zi q.ai) aO k!)<|EE k6<|CN 2<|BB f2<|CN 2<|MM (aL 3 2 (Zi q.af) aO k!)<|EE k8<|CN 2<|BB f3<|CN 2<|MM (aL 3 1 (Zi q.ai) aO k!)<|CN 2<|MM (aL 3 2 (Zi q.af) aO k!)<|VV (dx 3 false false .i64 q.ai q.af)<|CC<|BC f4<|MM (aL 3 3 (Zi q.aH) aO k!)<|EE HG<|CN 2<|BC f5<|MM (aL 3 4 (Zi q.aJ) aO k!)<|EE YG<|CN 2<|BC f6<|MM (aL 24 6 q.aA aO k!)<|VV Xg<|VV (dx 3 false true .i64 ((q.ao.length:Nat):Int) 8)<|CC<|BC f7<|MM (aL 3 5 (Zi q.bad) aO k!)<|CC<|MM (aL 24 6 q.aA aO k!)<|VV aar<|EE k18<|CN 2<|BC f8<|MM (aL 24 6 q.aA aO k!)<|EE k20<|CC<|ZZ) k!) k!) bQ rfl
def fe (f:Nat→Option Int):Nat→Nat→Option Int
 | 0,_=>none
 | k+1,i=>match f i with
   | some r=>some r
   | none=>fe f k (i+1)
def er (x:Int):Option Int:=bif !decide (x=0) then some x else none
def qT (f:Nat→Bool):Nat→Nat→Bool
 | 0,_=>false
 | k+1,i=>f i||qT f k (i+1)
theorem FV {f g:Nat→Option Int}:∀(k i:Nat),(∀j,i≤j→j<i+k→f j=g j)→fe f k i=fe g k i
 | 0,_,_=>rfl
 | k+1,i,h=>by
   rw[fe,fe,h i (Nat.le_refl _) o!,FV k (i+1) fun j h1 h2=>h j o! o!]
theorem any_congr {f g:Nat→Bool}:∀(k i:Nat),(∀j,i≤j→j<i+k→f j=g j)→qT f k i=qT g k i
 | 0,_,_=>rfl
 | k+1,i,h=>by
   rw[qT,qT,h i (Nat.le_refl _) o!,any_congr k (i+1) fun j h1 h2=>h j o! o!]
theorem Vp (o:Option Int):(match o with | none=>0 | some r=>r)=o.getD 0:=by cases o<;>rfl
theorem Xh {α:Type} [Inhabited α] {l:List α} {i j:Nat} (h:j<i):(l.take i).g j=l.g j:=by
 rw[List.g,List.g,List.getD_eq_getElem?_getD,List.getD_eq_getElem?_getD,List.getElem?_take_of_lt h]
theorem Pv {α:Type} {l:List α} {i:Nat} (h:i≤l.length):(l.take i).length=i:=by rw[List.length_take];omega
def tA (c:UInt8):Bool:=decide (97≤((c.toNat:Nat):Int))&&decide (((c.toNat:Nat):Int)≤122)
def digit (c:UInt8):Bool:=decide (48≤((c.toNat:Nat):Int))&&decide (((c.toNat:Nat):Int)≤57)
def dash (c:UInt8):Bool:=decide (((c.toNat:Nat):Int)=45)
theorem zT (s:List aE) (P:aE→Bool):∀(k i:Nat),(dr s P k i=none∧qT (fun j=>P (s.g j)) k i=false)∨∃n:Nat,dr s P k i=some (n:Int)∧qT (fun j=>P (s.g j)) k i=true
 | 0,_=> .inl ⟨rfl,rfl⟩
 | k+1,i=>by
   rw[dr,qT]
   cases h:P (s.g i) with
   | true=>exact .inr ⟨i,rfl,rfl⟩
   | false=>exact zT s P k (i+1)
theorem se (s:List aE) (P:aE→Bool):dN s P=qT (fun j=>P (s.g j)) s.length 0:=by
 unfold dN aK.eN
 rcases zT s P s.length 0 with ⟨h1,h2⟩ | ⟨n,h1,h2⟩
 · rw[h1,h2];rfl
 · rw[h1,h2];exact decide_eq_true (Int.natCast_nonneg n)
theorem qU {s:List aE} {i:Nat} (h:i≤s.length) (P:aE→Bool):dN (s.take i) P=qT (fun j=>P (s.g j)) i 0:=by
 rw[se,Pv h]
 exact any_congr i 0 fun j _ hj=>by rw[Xh o!]
theorem lH (P:Nat→Int) (l:List aE):∀(k i:Nat),cN P l k i=fe (fun j=>er (P j)) k i
 | 0,_=>rfl
 | k+1,i=>by
   rw[cN,fe,er,lH P l k (i+1)]
   cases (!decide (P i=0))<;>rfl
theorem sf (l:List aE) (eO:Int) (P:Nat→Int):cA l eO P=bif decide (eO<((l.length:Nat):Int)) then 3 else (fe (fun j=>er (P j)) l.length 0).getD 0:=by
 unfold cA
 rw[lH]
 cases decide (eO<((l.length:Nat):Int)) with
 | true=>rfl
 | false=>exact Vp _
theorem sA (s:List aw) (P:aw→Bool):∀(k i:Nat),(cH s P k i=none∧qT (fun j=>P (s.g j)) k i=false)∨∃n:Nat,cH s P k i=some (n:Int)∧qT (fun j=>P (s.g j)) k i=true
 | 0,_=> .inl ⟨rfl,rfl⟩
 | k+1,i=>by
   rw[cH,qT]
   cases h:P (s.g i) with
   | true=>exact .inr ⟨i,rfl,rfl⟩
   | false=>exact sA s P k (i+1)
theorem pq (s:List aw) (P:aw→Bool):ck s P=qT (fun j=>P (s.g j)) s.length 0:=by
 unfold ck aK.dt
 rcases sA s P s.length 0 with ⟨h1,h2⟩ | ⟨n,h1,h2⟩
 · rw[h1,h2];rfl
 · rw[h1,h2];exact decide_eq_true (Int.natCast_nonneg n)
def uQ (f:Nat→Bool):Nat→Nat→Bool
 | 0,_=>true
 | k+1,i=>f i&&uQ f k (i+1)
theorem all_congr {f g:Nat→Bool}:∀(k i:Nat),(∀j,i≤j→j<i+k→f j=g j)→uQ f k i=uQ g k i
 | 0,_,_=>rfl
 | k+1,i,h=>by
   rw[uQ,uQ,h i (Nat.le_refl _) o!,all_congr k (i+1) fun j h1 h2=>h j o! o!]
theorem FW (a b:Int):decide (a<b)= !decide (b≤a):=by
 by_cases h:a<b
 · rw[decide_eq_true h,decide_eq_false o!];rfl
 · rw[decide_eq_false h,decide_eq_true o!];rfl
theorem BZ (s:List UInt8):∀(k i:Nat),bx s k i=bif uQ (fun j=>tA (s.g j)||(!decide ((j:Int)=0)&&(digit (s.g j)||dash (s.g j)))) k i then none else some false
 | 0,_=>rfl
 | k+1,i=>by
   rw[bx,uQ,BZ s k (i+1),tA,digit,dash]
   generalize uQ _ k (i+1)=z
   generalize decide (97≤(((s.g i).toNat:Nat):Int))=a
   generalize decide ((((s.g i).toNat:Nat):Int)≤122)=b
   generalize decide (48≤(((s.g i).toNat:Nat):Int))=c
   generalize decide ((((s.g i).toNat:Nat):Int)≤57)=d
   generalize decide ((((s.g i).toNat:Nat):Int)=45)=e
   generalize decide ((i:Int)=0)=f
   cases a<;>cases b<;>cases c<;>cases d<;>cases e<;>cases f<;>rfl
theorem B0 (s:List UInt8):∀(k i:Nat),gX s k i=bif uQ (fun j=>tA (s.g j)||(digit (s.g j)||dash (s.g j))) k i then none else some false
 | 0,_=>rfl
 | k+1,i=>by
   rw[gX,uQ,B0 s k (i+1),tA,digit,dash]
   simp only[FW]
   generalize uQ _ k (i+1)=z
   generalize decide (97≤(((s.g i).toNat:Nat):Int))=a
   generalize decide ((((s.g i).toNat:Nat):Int)≤122)=b
   generalize decide (48≤(((s.g i).toNat:Nat):Int))=c
   generalize decide ((((s.g i).toNat:Nat):Int)≤57)=d
   generalize decide ((((s.g i).toNat:Nat):Int)=45)=e
   cases a<;>cases b<;>cases c<;>cases d<;>cases e<;>rfl
theorem JJ (s:List UInt8):e_ s=jV s:=by
 unfold e_ jV
 cases s with
 | nil=>rfl
 | cons x s=>
   rw[decide_eq_false (show ¬x::s=[] by simp),decide_eq_false (show ¬(((x::s).length:Nat):Int)=0 by simp;omega)]
   cases decide (16<(((x::s).length:Nat):Int)) with
   | true=>rfl
   | false=>
     rw[BZ,B0,List.length_cons,uQ,uQ,FW,FW]
     rw[all_congr (f:=fun j=>tA ((x::s).g j)||(!decide ((j:Int)=0)&&(digit ((x::s).g j)||dash ((x::s).g j)))) (g:=fun j=>tA ((x::s).g j)||(digit ((x::s).g j)||dash ((x::s).g j))) s.length (0+1) fun j hj _=>by
      simp only[decide_eq_false (show ¬(j:Int)=0 by omega),Bool.not_false,Bool.true_and]]
     simp only[tA]
     rw[show decide (((0:Nat):Int)=0)=true from rfl]
     generalize uQ _ s.length (0+1)=z
     generalize decide (97≤((((x::s).g 0).toNat:Nat):Int))=a
     generalize decide (((((x::s).g 0).toNat:Nat):Int)≤122)=b
     generalize digit ((x::s).g 0)=c
     generalize dash ((x::s).g 0)=e
     cases a<;>cases b<;>cases c<;>cases e<;>cases z<;>rfl
theorem FX (n:Int):fH n=nj n:=rfl
theorem JK (n:Int):eI n=rO n:=rfl
theorem uR (x m:Int):dk x m=(!decide (x<0)&& !decide (m<x)):=by
 unfold dk
 rw[FW,FW]
 cases decide (0≤x)<;>cases decide (x≤m)<;>rfl
theorem Pw (g:aE):bK g=bif fG g then 0 else 1:=by
 unfold bK fG
 rw[uR,uR,JK]
 cases decide (g.acc<0)<;>cases decide (1000000000<g.acc)<;>cases decide (g.b6<0)<;>cases decide (1000000000<g.b6)<;>cases rO g.since<;>rfl
theorem JL (q:aw) (i0:Nat):∀(k i:Nat),bE i0 q k i=bif qT (fun j=>decide ((q.ao.g j).name=(q.ao.g i0).name)) k i then some 6 else none
 | 0,_=>rfl
 | k+1,i=>by
   rw[bE,qT,JL q i0 k (i+1)]
   cases decide ((q.ao.g i).name=(q.ao.g i0).name)<;>rfl
theorem Px (q:aw) {i:Nat} (hi:i<q.ao.length):er (cQ (q.ao.take i) (q.ao.g i))=bif (!(jV (q.ao.g i).name)) then some 5 else (match bE i q i 0 with | none=>er (bK (q.ao.g i)) | some r=>some r):=by
 unfold cQ
 rw[JJ,qU o!,JL,Pw]
 simp only[fR]
 cases jV (q.ao.g i).name with
 | false=>rfl
 | true=>
   cases qT (fun j=>decide ((q.ao.g j).name=(q.ao.g i).name)) i 0 with
   | true=>rfl
   | false=>cases fG (q.ao.g i)<;>rfl
theorem JM (q:aw):∀(k i:Nat),bC q k i=fe (fun i=>bif (!(jV (q.ao.g i).name)) then some 5 else (match bE i q i 0 with | none=>er (bK (q.ao.g i)) | some r=>some r)) k i
 | 0,_=>rfl
 | k+1,i=>by
   rw[bC,fe,JM q k (i+1)]
   cases (!(jV (q.ao.g i).name)) with
   | true=>rfl
   | false=>
     cases bE i q i 0 with
     | some r=>rfl
     | none=>
       rw[er]
       cases (!decide (bK (q.ao.g i)=0))<;>rfl
theorem FY (pW:List aw) (q:aw):aZ pW q=bif (!(jV q.name)) then 5 else bif ck pW (fun y=>cY y q) then 6 else bB q:=by
 unfold aZ bB
 rw[JJ]
 cases jV q.name with
 | false=>rfl
 | true=>
   cases ck pW (fun y=>cY y q) with
   | true=>rfl
   | false=>
     rw[FX,FX,uR,uR,uR,sf,JM,FV q.ao.length 0 fun j _ hj=>Px q o!]
     cases nj q.ai with
     | false=>rfl
     | true=>cases nj q.af with
       | false=>rfl
       | true=>cases decide (q.af<q.ai) with
         | true=>rfl
         | false=>
           cases decide (q.aH<0) with
           | true=>rfl
           | false=>cases decide (10000<q.aH) with
             | true=>rfl
             | false=>cases decide (q.aJ<0) with
               | true=>rfl
               | false=>cases decide (10000<q.aJ) with
                 | true=>rfl
                 | false=>cases decide (8<((q.ao.length:Nat):Int)) with
                   | true=>rfl
                   | false=>cases decide (q.bad<0) with
                     | true=>rfl
                     | false=>cases decide (((q.ao.length:Nat):Int)<q.bad) with
                       | true=>rfl
                       | false=>exact (Vp _).symm
def jA:Code:=(Try.f60.body).getD .skip
theorem ik:Try.f60.body=some jA:=by kernel_rfl
def pr:Code:=(cX jA).getD 0 .skip
def cu (P:Nat→Int) (cM:List aB):Nat→Nat→Option (Int)
 | 0,_=>none
 | gB+1,i0=>(bif (!decide ((P i0)=0)) then some (P i0) else cu P cM gB (i0+1))
theorem gu {d:Nat} {h:au} (cT:AV) (g:FuncId) (cap:List AV) (cM:List aB) (P:Nat→Int) (eH:aQ h cT cM) (hP:∀j,j<cM.length→∀aV hh,Tidy hh→Has h hh→aQ hh aV (cM.take j)→dw d (.fn g) (aV:: .agg (az.c (cM.g j))::cap) hh= .ret (.int .i64 (P j)) hh):∀(k_ i_:Nat) (_:i_+k_=cM.length) (x:Nat→AV) (hh:au) (a_:Tidy hh) (bN:Has h hh),bh (dw (d)) pr ⟨(cT::(x 1)::(AV.func g [] cap)::rx x 3 11 (cT::(Zn cM.length)::(Zn i_)::rx x 17 14 [])),hh,[],.no⟩ (.exit 0) hh (fun y=>(cT::(y 1)::(AV.func g [] cap)::rx y 3 11 (cT::(Zn cM.length)::rx y 16 15 []))) (fun r y=>(cT::(y 1)::(AV.func g [] cap)::rx y 3 3 ((Zi r)::rx y 7 7 (cT::(Zn cM.length)::rx y 16 15 [])))) (cu P cM k_ i_)
 | 0,i0,rR,x,hh,a_,bN=>by
   have mD:=eH.small
   have q1:(decide (((i0:Nat):Int)<((cM.length:Nat):Int)))=false:=d!
   exact bh.out rfl (pk (d) _ _ hh _ hh (VV (cS 3 false false .i64 ((i0:Nat):Int) ((cM.length:Nat):Int))<|BB q1<|ZZ) k!) (Grow.refl a_) k!
 | gB+1,i0,rR,x,hh,a_,bN=>by
   have mD:=eH.small
   have q1:(decide (((i0:Nat):Int)<((cM.length:Nat):Int)))=true:=d!
   obtain ⟨p3,q4,kY⟩:=(eH.has bN).elem (i:=i0) o!
   have mU:dL env (some (.slice 43)) (some cT) (some (Zn i0))=some (AV.ptr p3 q4):=kY
   have AJ:bw env hh 43 (AV.ptr p3 q4)=some (AV.agg [(Zi (cM.g i0).aC),(Zi (cM.g i0).time),(Zi (cM.g i0).value)]):=(eH.has bN).load o! kY
   obtain ⟨h6,vV,js,Lm,vW,j0⟩:=jS a_ (aR.cells [(Zi 0),(Zi 0),(Zi 0)] 43 false)
   have mV:Has hh h6:=j0
   obtain ⟨h7,tu,mG,Ln,lO,fA⟩:=sa (t:=43) (n:=3) (i:=hh.nx) (L:=[(Zi (cM.g i0).aC),(Zi (cM.g i0).time),(Zi (cM.g i0).value)]) js vW k! rfl rfl (by simp only[AV.cells,List.all_cons,List.all_nil,Bool.and_true,Bool.and_self,ib,fL,ic,ie,ei,kR,kS,kT,kU,kV,ig])
   have mH:Has hh h7:=Has.bG mV fA a_ o!
   obtain ⟨r8,Xe,Xf⟩:=(eH.has bN).pre (t:=27) k! (i:=i0) o!
   have sl9:dW env 27 cT (none) (some (Zn i0)) (none)=some r8:=Xe
   have HG:=hP i0 o! r8 h7 mG (bN.trans mH) (Xf.has mH)
   have M1:AV.same 20 (AV.agg [(Zi (cM.g i0).aC),(Zi (cM.g i0).time),(Zi (cM.g i0).value)]) (AV.agg [(Zi (cM.g i0).aC),(Zi (cM.g i0).time),(Zi (cM.g i0).value)])=true:=ja 18 (sx (fun n=>aN n _ _) (sx (fun n=>aN n _ _) (sx (fun n=>aN n _ _) RR)))
   rcases Bool.eq_false_or_eq_true (!decide ((P i0)=0)) with f1 | f1
   · have tp:=HI f1
     exact bh.ret (P i0) (by simp only[cu,f1,ax,ar]) (pk (d) _ _ hh _ h7 (VV (cS 3 false false .i64 ((i0:Nat):Int) ((cM.length:Nat):Int))<|BC q1<|VV mU<|MM AJ<|NN vV (fun i=>(Pt i))<|CC<|SS tu<|CN 3<|QQ sl9<|MM (aL 43 0 (AV.agg [(Zi (cM.g i0).aC),(Zi (cM.g i0).time),(Zi (cM.g i0).value)]) lO k!)<|EE HG<|CC<|HH (aL 43 0 (AV.agg [(Zi (cM.g i0).aC),(Zi (cM.g i0).time),(Zi (cM.g i0).value)]) lO k!)<|HH M1<|CC<|VV (gL 31 false true .i64 (P i0) 0)<|BB f1<|CN 2<|ZZ) k!) (⟨mG,mH,by omega⟩) k!
   · have tp:=HJ f1
     have u14:=ks 3 false true i0 1 o!
     exact bh.round (by simp only[cu,f1,ax,ar]) (pk (d) _ _ hh _ h7 (VV (cS 3 false false .i64 ((i0:Nat):Int) ((cM.length:Nat):Int))<|BC q1<|VV mU<|MM AJ<|NN vV (fun i=>(Pt i))<|CC<|SS tu<|CN 3<|QQ sl9<|MM (aL 43 0 (AV.agg [(Zi (cM.g i0).aC),(Zi (cM.g i0).time),(Zi (cM.g i0).value)]) lO k!)<|EE HG<|CC<|HH (aL 43 0 (AV.agg [(Zi (cM.g i0).aC),(Zi (cM.g i0).time),(Zi (cM.g i0).value)]) lO k!)<|HH M1<|CC<|VV (gL 31 false true .i64 (P i0) 0)<|BV f1 u14<|CC<|ZZ) k!) (⟨mG,mH,by omega⟩) _ k! (fun x=>gu cT g cap cM P eH hP gB (i0+1) o! x h7 mG (bN.trans mH))
def cm (cM:List aB) (eO:Int) (P:Nat→Int):Int:=(bif (decide (eO<((cM.length:Nat):Int))) then 3 else (match (cu P cM cM.length 0) with | none=>0 | some Pr=>Pr))
theorem qV {d:Nat} {h:au} {cT:AV} {g:FuncId} {cap:List AV} (cM:List aB) (eO:Int) (P:Nat→Int) (mI:aQ h cT cM) (hP:∀j,j<cM.length→∀aV hh,Tidy hh→Has h hh→aQ hh aV (cM.take j)→dw d (.fn g) (aV:: .agg (az.c (cM.g j))::cap) hh= .ret (.int .i64 (P j)) hh) (cj:Tidy h):dw (d+1) (.fn 60) [cT,(Zi eO),(AV.func g [] cap)] h= .ret (Zi (cm cM eO P)) h:=by
 have Pu:=mI.small
 have vU:eF (some (.slice 43)) (some cT)=some (Zn cM.length):=mI.len
 rcases Bool.eq_false_or_eq_true (decide (eO<((cM.length:Nat):Int))) with f0 | f0
 · have pn:=of_decide_eq_true f0
   have e:cm cM eO P=3:=by simp only[cm,f0,ax,ar]
   rw[e]
   exact aF rfl (bu Try.func60 ik rfl (.inr rfl) (pk (d) _ _ h _ h (CN 2<|VV vU<|CC<|VV (dx 3 false false .i64 ((cM.length:Nat):Int) eO)<|BC f0<|ZZ) k!) k!) (Has.refl _) rfl
 · have pn:=of_decide_eq_false f0
   have RS:eF (some (.slice 43)) (some cT)=some (Zn cM.length):=mI.len
   cases jY:cu P cM cM.length 0 with
   | none=>
     obtain ⟨YJ,h5,ky,mF⟩:=bh.n jY (gu (d:=d) (h:=h) cT g cap cM P mI hP cM.length 0 o! (fun k_=>((cT::(Zi eO)::(AV.func g [] cap)::AV.undef::AV.undef::AV.undef::(Zi 0)::AV.undef::AV.undef::AV.undef::cT::(Zn cM.length)::(Zi eO)::(AV.bool (decide (eO<((cM.length:Nat):Int))))::cT::(Zn cM.length)::(Zi 0)::ka 14):List AV).getD k_ AV.undef) h cj (Has.refl _))
     have FT:=mF.y
     have Ps:h.nx≤h5.nx:=mF.n
     have tq:Has h h5:=mF.a
     have e:cm cM eO P=0:=by simp only[cm,f0,jY,ax,ar]
     rw[e]
     exact aF rfl (bu Try.func60 ik rfl (.inr rfl) (pk (d) _ _ h _ h5 (CN 2<|VV vU<|CC<|VV (dx 3 false false .i64 ((cM.length:Nat):Int) eO)<|BC f0<|VV RS<|CC<|LL ky<|CC<|ZZ) k!) k!) tq rfl
   | some Pr=>
     obtain ⟨YJ,h5,ky,mF⟩:=bh.r jY (gu (d:=d) (h:=h) cT g cap cM P mI hP cM.length 0 o! (fun k_=>((cT::(Zi eO)::(AV.func g [] cap)::AV.undef::AV.undef::AV.undef::(Zi 0)::AV.undef::AV.undef::AV.undef::cT::(Zn cM.length)::(Zi eO)::(AV.bool (decide (eO<((cM.length:Nat):Int))))::cT::(Zn cM.length)::(Zi 0)::ka 14):List AV).getD k_ AV.undef) h cj (Has.refl _))
     have FT:=mF.y
     have Ps:h.nx≤h5.nx:=mF.n
     have tq:Has h h5:=mF.a
     have e:cm cM eO P=Pr:=by simp only[cm,f0,jY,ax,ar]
     rw[e]
     exact aF rfl (bu Try.func60 ik rfl (.inr rfl) (pk (d) _ _ h _ h5 (CN 2<|VV vU<|CC<|VV (dx 3 false false .i64 ((cM.length:Nat):Int) eO)<|BC f0<|VV RS<|CC<|LL ky<|ZZ) k!) k!) tq rfl
def FZ:Code:=(Try.f80.body).getD .skip
theorem F0:Try.f80.body=some FZ:=by kernel_rfl
def qW (Lp:Int) (nm:Int):Bool:=(bif (decide (0≤Lp)) then (decide (Lp<nm)) else false)
theorem Py {d:Nat} {h:au} (Lp:Int) (nm:Int) (cj:Tidy h):dw (d+1) (.fn 80) [(Zi Lp),(Zi nm)] h= .ret (AV.bool (qW Lp nm)) h:=by
 rcases Bool.eq_false_or_eq_true (decide (0≤Lp)) with f0 | f0
 · have pn:=of_decide_eq_true f0
   have e:qW Lp nm=(decide (Lp<nm)):=by simp only[qW,f0,ax,ar]
   rw[e]
   exact aF rfl (bu Try.func80 F0 rfl (.inr rfl) (pk (d) _ _ h _ h (CN 2<|VV (eG 3 false true .i64 Lp 0)<|CC<|BC f0<|BC f0<|BV f0 (cS 3 false false .i64 Lp nm)<|VV (jG (decide (Lp<nm)) false f0)<|CC<|ZZ) k!) k!) (Has.refl _) rfl
 · have pn:=of_decide_eq_false f0
   have e:qW Lp nm=false:=by simp only[qW,f0,ax,ar]
   rw[e]
   exact aF rfl (bu Try.func80 F0 rfl (.inr rfl) (pk (d) _ _ h _ h (CN 2<|VV (eG 3 false true .i64 Lp 0)<|CC<|BB f0<|BB f0<|BV f0 (pH false f0)<|CC<|ZZ) k!) k!) (Has.refl _) rfl
def sh:Code:=(Try.f62.body).getD .skip
theorem iG:Try.f62.body=some sh:=by kernel_rfl
def cC (q:aw) (r:aB):Int:=(bif (!(qW r.aC ((q.ao.length:Nat):Int))) then 7 else (bif (!(eI r.time)) then 1 else (bif (!(fH r.value)) then 1 else 0)))
theorem vX {d:Nat} {h:au} (q:aw) (r:aB) (jH:az.ok h q) (h_r:az.ok h r) (cj:Tidy h):dw (d+3) (.fn 62) [(AV.agg [(AV.str q.name),(Zi q.ai),(Zi q.af),(Zi q.aH),(Zi q.aJ),(Zi q.bad),q.aA]),(AV.agg [(Zi r.aC),(Zi r.time),(Zi r.value)])] h= .ret (Zi (cC q r)) h:=by
 have nt:=jH.2.small
 obtain ⟨h1,b9,cL,kt,aO,cz⟩:=jS cj (aR.cells [(AV.str q.name),(Zi q.ai),(Zi q.af),(Zi q.aH),(Zi q.aJ),(Zi q.bad),q.aA] 26 false)
 have bQ:Has h h1:=cz
 obtain ⟨h2,nH,iH,Du,fN,gv⟩:=jS cL (aR.cells [(Zi r.aC),(Zi r.time),(Zi r.value)] 43 false)
 have im:Has h h2:=bQ.trans gv
 have RS:eF (some (.slice 45)) (some q.aA)=some (Zn q.ao.length):=jH.2.len
 have k4:=Py (d:=d+1) r.aC ((q.ao.length:Nat):Int) iH
 rcases Bool.eq_false_or_eq_true (!(qW r.aC ((q.ao.length:Nat):Int))) with f0 | f0
 · have e:cC q r=7:=by simp only[cC,f0,ax,ar]
   rw[e]
   exact aF rfl (bu Try.func62 iG rfl (.inr rfl) (pk (d+2) _ _ h _ h2 (NN b9 (fun i=>(Pt i))<|NN nH (fun i=>(Pt i))<|CN 2<|MM (aL 3 0 (Zi r.aC) fN k!)<|CC<|MM (aL 24 6 q.aA (gv _ _ aO) k!)<|VV RS<|EE k4<|CN 2<|BC f0<|ZZ) k!) k!) im rfl
 · have k6:=tk (d:=d) r.time iH
   rcases Bool.eq_false_or_eq_true (!(eI r.time)) with f1 | f1
   · have e:cC q r=1:=by simp only[cC,f0,f1,ax,ar]
     rw[e]
     exact aF rfl (bu Try.func62 iG rfl (.inr rfl) (pk (d+2) _ _ h _ h2 (NN b9 (fun i=>(Pt i))<|NN nH (fun i=>(Pt i))<|CN 2<|MM (aL 3 0 (Zi r.aC) fN k!)<|CC<|MM (aL 24 6 q.aA (gv _ _ aO) k!)<|VV RS<|EE k4<|CN 2<|BC f0<|MM (aL 3 1 (Zi r.time) fN k!)<|EE k6<|CN 2<|BB f1<|BC f1<|ZZ) k!) k!) im rfl
   · have k8:=qR (d:=d+1) r.value iH
     rcases Bool.eq_false_or_eq_true (!(fH r.value)) with f2 | f2
     · have e:cC q r=1:=by simp only[cC,f0,f1,f2,ax,ar]
       rw[e]
       exact aF rfl (bu Try.func62 iG rfl (.inr rfl) (pk (d+2) _ _ h _ h2 (NN b9 (fun i=>(Pt i))<|NN nH (fun i=>(Pt i))<|CN 2<|MM (aL 3 0 (Zi r.aC) fN k!)<|CC<|MM (aL 24 6 q.aA (gv _ _ aO) k!)<|VV RS<|EE k4<|CN 2<|BC f0<|MM (aL 3 1 (Zi r.time) fN k!)<|EE k6<|CN 2<|BC f1<|MM (aL 3 2 (Zi r.value) fN k!)<|EE k8<|CN 2<|BC f2<|ZZ) k!) k!) im rfl
     · have e:cC q r=0:=by simp only[cC,f0,f1,f2,ax,ar]
       rw[e]
       exact aF rfl (bu Try.func62 iG rfl (.inr rfl) (pk (d+2) _ _ h _ h2 (NN b9 (fun i=>(Pt i))<|NN nH (fun i=>(Pt i))<|CN 2<|MM (aL 3 0 (Zi r.aC) fN k!)<|CC<|MM (aL 24 6 q.aA (gv _ _ aO) k!)<|VV RS<|EE k4<|CN 2<|BC f0<|MM (aL 3 1 (Zi r.time) fN k!)<|EE k6<|CN 2<|BC f1<|MM (aL 3 2 (Zi r.value) fN k!)<|EE k8<|CN 2<|BC f2<|ZZ) k!) k!) im rfl
def pS:Code:=(Try.f61.body).getD .skip
theorem tC:Try.f61.body=some pS:=by kernel_rfl
def dA (pW:List aB) (r:aB) (q:aw):Int:=(cC q r)
theorem tD {d:Nat} {h:au} {qN:AV} (pW:List aB) (r:aB) (q:aw) (qB:Nat) (lN:aQ h qN pW) (h_r:az.ok h r) (jH:az.ok h q) (g_q:h.get qB=some (.cells (az.c q) 26 false)) (cj:Tidy h):dw (d+4) (.fn 61) [qN,(AV.agg [(Zi r.aC),(Zi r.time),(Zi r.value)]),(Pt qB)] h= .ret (Zi (dA pW r q)) h:=by
 have BY:=lN.small
 have nt:=jH.2.small
 obtain ⟨h1,b9,cL,kt,aO,cz⟩:=jS cj (aR.cells [(Zi r.aC),(Zi r.time),(Zi r.value)] 43 false)
 have bQ:Has h h1:=cz
 have k2:=vX (d:=d) q r (az.mono bQ jH) trivial cL
 have e:dA pW r q=(cC q r):=by simp only[dA,ax,ar]
 rw[e]
 exact aF rfl (bu Try.func61 tC rfl (.inr rfl) (pk (d+3) _ _ h _ h1 (NN b9 (fun i=>(Pt i))<|CC<|MM (aL 26 0 (AV.agg [(AV.str q.name),(Zi q.ai),(Zi q.af),(Zi q.aH),(Zi q.aJ),(Zi q.bad),q.aA]) (cz _ _ g_q) k!)<|MM (aL 43 0 (AV.agg [(Zi r.aC),(Zi r.time),(Zi r.value)]) aO k!)<|EE k2<|CC<|ZZ) k!) k!) bQ rfl
def qX:Code:=(Try.f40.body).getD .skip
theorem nu:Try.f40.body=some qX:=by kernel_rfl
def bS (q:aw) (l_:List aB):Int:=(bif (!decide ((aZ ([]:List aw) q)=0)) then (aZ ([]:List aw) q) else (cm l_ 64 (fun jx=>dA (List.take jx l_) (List.g l_ jx) q)))
theorem uS {d:Nat} {h:au} {nI:AV} (q:aw) (l_:List aB) (jH:az.ok h q) (gN:aQ h nI l_) (cj:Tidy h):dw (d+11) (.fn 40) [(AV.agg [(AV.str q.name),(Zi q.ai),(Zi q.af),(Zi q.aH),(Zi q.aJ),(Zi q.bad),q.aA]),nI] h= .ret (Zi (bS q l_)) h:=by
 have Dv:=gN.small
 have nt:=jH.2.small
 obtain ⟨h1,b9,cL,kt,aO,cz⟩:=jS cj (aR.cells [(AV.str q.name),(Zi q.ai),(Zi q.af),(Zi q.aH),(Zi q.aJ),(Zi q.bad),q.aA] 26 false)
 have bQ:Has h h1:=cz
 have k2:=uP (d:=d+1) ([]:List aw) q aQ.nil (az.mono bQ jH) cL
 rcases Bool.eq_false_or_eq_true (!decide ((aZ ([]:List aw) q)=0)) with f0 | f0
 · have pn:=HI f0
   have e:bS q l_=(aZ ([]:List aw) q):=by simp only[bS,f0,ax,ar]
   rw[e]
   exact aF rfl (bu Try.func40 nu rfl (.inr rfl) (pk (d+10) _ _ h _ h1 (NN b9 (fun i=>(Pt i))<|CC<|MM (aL 26 0 (AV.agg [(AV.str q.name),(Zi q.ai),(Zi q.af),(Zi q.aH),(Zi q.aJ),(Zi q.bad),q.aA]) aO k!)<|EE k2<|CN 2<|VV (gL 31 false true .i64 (aZ ([]:List aw) q) 0)<|BB f0<|CN 2<|ZZ) k!) k!) bQ rfl
 · have pn:=HJ f0
   have k4:=qV (d:=d+9) l_ 64 (fun jx=>dA (List.take jx l_) (List.g l_ jx) q) (gN.has bQ) (fun jx hj aV hh yy aa fa=>tD (d:=d+5) (List.take jx l_) (List.g l_ jx) q h.nx fa (az.mono aa ((gN.has bQ).ok hj)) (az.mono aa (az.mono bQ jH)) (aa _ _ aO) yy) cL
   have e:bS q l_=(cm l_ 64 (fun jx=>dA (List.take jx l_) (List.g l_ jx) q)):=by simp only[bS,f0,ax,ar]
   rw[e]
   exact aF rfl (bu Try.func40 nu rfl (.inr rfl) (pk (d+10) _ _ h _ h1 (NN b9 (fun i=>(Pt i))<|CC<|MM (aL 26 0 (AV.agg [(AV.str q.name),(Zi q.ai),(Zi q.af),(Zi q.aH),(Zi q.aJ),(Zi q.bad),q.aA]) aO k!)<|EE k2<|CN 2<|VV (gL 31 false true .i64 (aZ ([]:List aw) q) 0)<|BB f0<|CN 2<|EE k4<|CC<|ZZ) k!) k!) bQ rfl
def uT:Code:=(Try.f25.body).getD .skip
theorem mJ:Try.f25.body=some uT:=by kernel_rfl
def bH (q:aw) (l_:List aB) (t:Int):Int:=(bif (!decide ((bS q l_)=0)) then (bS q l_) else (bif (!(eI t)) then 1 else 0))
theorem zU {d:Nat} {h:au} {nI:AV} (q:aw) (l_:List aB) (t:Int) (jH:az.ok h q) (gN:aQ h nI l_) (cj:Tidy h):dw (d+12) (.fn 25) [(AV.agg [(AV.str q.name),(Zi q.ai),(Zi q.af),(Zi q.aH),(Zi q.aJ),(Zi q.bad),q.aA]),nI,(Zi t)] h= .ret (Zi (bH q l_ t)) h:=by
 have Dv:=gN.small
 have nt:=jH.2.small
 obtain ⟨h1,b9,cL,kt,aO,cz⟩:=jS cj (aR.cells [(AV.str q.name),(Zi q.ai),(Zi q.af),(Zi q.aH),(Zi q.aJ),(Zi q.bad),q.aA] 26 false)
 have bQ:Has h h1:=cz
 have k2:=uS (d:=d) q l_ (az.mono bQ jH) (gN.has bQ) cL
 rcases Bool.eq_false_or_eq_true (!decide ((bS q l_)=0)) with f0 | f0
 · have pn:=HI f0
   have e:bH q l_ t=(bS q l_):=by simp only[bH,f0,ax,ar]
   rw[e]
   exact aF rfl (bu Try.func25 mJ rfl (.inr rfl) (pk (d+11) _ _ h _ h1 (NN b9 (fun i=>(Pt i))<|CC<|MM (aL 26 0 (AV.agg [(AV.str q.name),(Zi q.ai),(Zi q.af),(Zi q.aH),(Zi q.aJ),(Zi q.bad),q.aA]) aO k!)<|CC<|EE k2<|CN 2<|VV (gL 31 false true .i64 (bS q l_) 0)<|BB f0<|CN 2<|ZZ) k!) k!) bQ rfl
 · have pn:=HJ f0
   have k4:=tk (d:=d+9) t cL
   rcases Bool.eq_false_or_eq_true (!(eI t)) with f1 | f1
   · have e:bH q l_ t=1:=by simp only[bH,f0,f1,ax,ar]
     rw[e]
     exact aF rfl (bu Try.func25 mJ rfl (.inr rfl) (pk (d+11) _ _ h _ h1 (NN b9 (fun i=>(Pt i))<|CC<|MM (aL 26 0 (AV.agg [(AV.str q.name),(Zi q.ai),(Zi q.af),(Zi q.aH),(Zi q.aJ),(Zi q.bad),q.aA]) aO k!)<|CC<|EE k2<|CN 2<|VV (gL 31 false true .i64 (bS q l_) 0)<|BC f0<|EE k4<|CC<|BC f1<|ZZ) k!) k!) bQ rfl
   · have e:bH q l_ t=0:=by simp only[bH,f0,f1,ax,ar]
     rw[e]
     exact aF rfl (bu Try.func25 mJ rfl (.inr rfl) (pk (d+11) _ _ h _ h1 (NN b9 (fun i=>(Pt i))<|CC<|MM (aL 26 0 (AV.agg [(AV.str q.name),(Zi q.ai),(Zi q.af),(Zi q.aH),(Zi q.aJ),(Zi q.bad),q.aA]) aO k!)<|CC<|EE k2<|CN 2<|VV (gL 31 false true .i64 (bS q l_) 0)<|BC f0<|EE k4<|CC<|BC f1<|ZZ) k!) k!) bQ rfl

theorem aas (q:aw):aZ ([]:List aw) q=bB q:=by
 rw[FY]
 have e:ck ([]:List aw) (fun y=>cY y q)=false:=by rw[pq];rfl
 rw[e,ar,bB]
 cases jV q.name<;>rfl
theorem H6 (q:aw) (r:aB):cC q r=ch q r:=by
 rw[cC,ch,qW]
 by_cases h:r.aC<0
 · rw[decide_eq_true h,decide_eq_false (show ¬0≤r.aC by omega)];rfl
 · rw[decide_eq_false h,decide_eq_true (show 0≤r.aC by omega)]
   by_cases h2:r.aC<(q.ao.length:Int)
   · rw[decide_eq_true h2,decide_eq_false (show ¬(q.ao.length:Int)≤r.aC by omega)];rfl
   · rw[decide_eq_false h2,decide_eq_true (show (q.ao.length:Int)≤r.aC by omega)];rfl
theorem JO (q:aw) (l:List aB):∀(k i:Nat),(match cu (fun jx=>dA (List.take jx l) (List.g l jx) q) l k i with | none=>0 | some r=>r)=bX q l k i 0
 | 0,_=>rfl
 | k+1,i=>by
   rw[cu,bX]
   simp only[decide_true,ax]
   rw[dA,H6]
   by_cases h:ch q (l.g i)=0
   · rw[decide_eq_true h,h];exact JO q l k (i+1)
   · rw[decide_eq_false h,zB q l k (i+1) _ h];rfl
theorem xg (q:aw) (l:List aB):bS q l=bY q l:=by
 rw[bS,bY,aas]
 by_cases h:bB q=0
 · rw[decide_eq_true h,h,cm]
   by_cases h2:(64:Int)<((l.length:Nat):Int)
   · rw[decide_eq_true h2,zB q l _ _ 3 (by decide)];rfl
   · rw[decide_eq_false h2];exact JO q l l.length 0
 · rw[decide_eq_false h,zB q l _ _ _ h];rfl
theorem Lq {x:Int} (h1: -9223372036854775808≤x) (h2:x<9223372036854775808):IntKind.i64.wrap x=x:=wrap_i64 h1 h2
theorem Pz {g:aE} {t:Int} (h:0≤g.since∧g.since≤100000) (t0:0≤t) (t1:t≤100000):f_ g t=eM g t:=by
 rw[f_,eM,Lq (x:=t - g.since) o! o!]
 obtain ⟨m1,m2⟩:=HX (x:=t - g.since) (y:=0) (m:=100000) o! o!
 generalize imax (t - g.since) 0=m at m1 m2 ⊢
 rw[Lq (x:=m+1000) o! o!,Lq (x:=m+1000 - 1) o! o!,Lq (x:=m+999) o! o!,show m+1000 - 1=m+999 by omega]
def Dx:Code:=(Try.f88.body).getD .skip
theorem Lr:Try.f88.body=some Dx:=by kernel_rfl
def ji (x_:Int):Bool:=(!decide (x_=x_))
theorem B1 {d:Nat} {h:au} (x_:Int) (cj:Tidy h):dw (d+1) (.fn 88) [(Zi x_)] h= .ret (AV.bool (ji x_)) h:=by
 have e:ji x_=(!decide (x_=x_)):=by simp only[ji,ax,ar]
 rw[e]
 exact aF rfl (bu Try.func88 Lr rfl (.inr rfl) (pk (d) _ _ h _ h (CN 3<|VV (gL 3 false false .i64 x_ x_)<|CC<|ZZ) k!) k!) (Has.refl _) rfl
def H7:Code:=(Try.f74.body).getD .skip
theorem rT:Try.f74.body=some H7:=by kernel_rfl
def lI (x_:Int) (y_:Int):Int:=(bif (ji x_) then (bif (ji y_) then 0 else (-1)) else (bif (ji y_) then 1 else (bif (decide (x_<y_)) then (-1) else (bif (decide (y_<x_)) then 1 else 0))))
theorem TB {d:Nat} {h:au} (x_:Int) (y_:Int) (cj:Tidy h):dw (d+2) (.fn 74) [(Zi x_),(Zi y_)] h= .ret (Zi (lI x_ y_)) h:=by
 have k1:=B1 (d:=d) x_ cj
 have k2:=B1 (d:=d) y_ cj
 rcases Bool.eq_false_or_eq_true (ji x_) with f0 | f0
 · rcases Bool.eq_false_or_eq_true (ji y_) with f1 | f1
   · have e:lI x_ y_=0:=by simp only[lI,f0,f1,ax,ar]
     rw[e]
     exact aF rfl (bu Try.func74 rT rfl (.inr rfl) (pk (d+1) _ _ h _ h (CN 2<|EE k1<|CN 2<|EE k2<|CN 2<|BC f0<|BC f1<|ZZ) k!) k!) (Has.refl _) rfl
   · have e:lI x_ y_=(-1):=by simp only[lI,f0,f1,ax,ar]
     rw[e]
     exact aF rfl (bu Try.func74 rT rfl (.inr rfl) (pk (d+1) _ _ h _ h (CN 2<|EE k1<|CN 2<|EE k2<|CN 2<|BC f0<|BC f1<|ZZ) k!) k!) (Has.refl _) rfl
 · rcases Bool.eq_false_or_eq_true (ji y_) with f1 | f1
   · have e:lI x_ y_=1:=by simp only[lI,f0,f1,ax,ar]
     rw[e]
     exact aF rfl (bu Try.func74 rT rfl (.inr rfl) (pk (d+1) _ _ h _ h (CN 2<|EE k1<|CN 2<|EE k2<|CN 2<|BC f0<|BC f1<|ZZ) k!) k!) (Has.refl _) rfl
   · rcases Bool.eq_false_or_eq_true (decide (x_<y_)) with f2 | f2
     · have uM:=of_decide_eq_true f2
       have e:lI x_ y_=(-1):=by simp only[lI,f0,f1,f2,ax,ar]
       rw[e]
       exact aF rfl (bu Try.func74 rT rfl (.inr rfl) (pk (d+1) _ _ h _ h (CN 2<|EE k1<|CN 2<|EE k2<|CN 2<|BC f0<|BB f1<|CN 2<|VV (cS 3 false false .i64 x_ y_)<|BC f2<|ZZ) k!) k!) (Has.refl _) rfl
     · have uM:=of_decide_eq_false f2
       rcases Bool.eq_false_or_eq_true (decide (y_<x_)) with f3 | f3
       · have qL:=of_decide_eq_true f3
         have e:lI x_ y_=1:=by simp only[lI,f0,f1,f2,f3,ax,ar]
         rw[e]
         exact aF rfl (bu Try.func74 rT rfl (.inr rfl) (pk (d+1) _ _ h _ h (CN 2<|EE k1<|CN 2<|EE k2<|CN 2<|BC f0<|BB f1<|CN 2<|VV (cS 3 false false .i64 x_ y_)<|BB f2<|CN 2<|VV (dx 3 false false .i64 x_ y_)<|BC f3<|ZZ) k!) k!) (Has.refl _) rfl
       · have qL:=of_decide_eq_false f3
         have e:lI x_ y_=0:=by simp only[lI,f0,f1,f2,f3,ax,ar]
         rw[e]
         exact aF rfl (bu Try.func74 rT rfl (.inr rfl) (pk (d+1) _ _ h _ h (CN 2<|EE k1<|CN 2<|EE k2<|CN 2<|BC f0<|BB f1<|CN 2<|VV (cS 3 false false .i64 x_ y_)<|BB f2<|CN 2<|VV (dx 3 false false .i64 x_ y_)<|BC f3<|ZZ) k!) k!) (Has.refl _) rfl
def F1:Code:=(Try.f73.body).getD .skip
theorem PA:Try.f73.body=some F1:=by kernel_rfl
def lC (a:Gate) (b:Gate):Int:=(lI a.time b.time)
theorem PB {d:Nat} {h:au} (a:Gate) (b:Gate) (h_a:az.ok h a) (h_b:az.ok h b) (cj:Tidy h):dw (d+3) (.fn 73) [(AV.agg [(Zi a.time),(Zi a.aj),(Zi a.ah)]),(AV.agg [(Zi b.time),(Zi b.aj),(Zi b.ah)])] h= .ret (Zi (lC a b)) h:=by
 obtain ⟨h1,b9,cL,kt,aO,cz⟩:=jS cj (aR.cells [(Zi a.time),(Zi a.aj),(Zi a.ah)] 66 false)
 have bQ:Has h h1:=cz
 obtain ⟨h2,nH,iH,Du,fN,gv⟩:=jS cL (aR.cells [(Zi b.time),(Zi b.aj),(Zi b.ah)] 66 false)
 have im:Has h h2:=bQ.trans gv
 have k3:=TB (d:=d) a.time b.time iH
 have e:lC a b=(lI a.time b.time):=by simp only[lC,ax,ar]
 rw[e]
 exact aF rfl (bu Try.func73 PA rfl (.inr rfl) (pk (d+2) _ _ h _ h2 (NN b9 (fun i=>(Pt i))<|NN nH (fun i=>(Pt i))<|CN 2<|MM (aL 3 0 (Zi a.time) (gv _ _ aO) k!)<|CC<|MM (aL 3 0 (Zi b.time) fN k!)<|EE k3<|CC<|ZZ) k!) k!) im rfl
set_option maxRecDepth 20000
section
variable {α:Type} [az α] {h:au} {l:List α} {p i:Nat} {f:TypeId} {ro:Bool}
theorem H8 {q:Nat} (hq:q=0+i*az.n α) (hi:i<l.length):∀j,j<az.n α→(l.flatMap az.c)[q+j]? =(az.c (l.g i))[j]? :=fun j hj=>by
 rw[hq,Nat.zero_add];exact gD az.len l i j hi hj
theorem H9 {q:Nat} (hq:q=0+i*az.n α) (hi:i<l.length):q+az.n α≤(l.flatMap az.c).length:=by
 rw[hq,bP az.len,Nat.zero_add,←Nat.succ_mul];exact Nat.mul_le_mul_right _ hi
theorem kG {q:Nat} (hg:h.get p=some (.cells (l.flatMap az.c) f ro)) (hq:q=0+i*az.n α) (hi:i<l.length):bw env h (az.e α) (.ptr p q)=some (.agg (az.c (l.g i))):=by
 have h2:=H8 (l:=l) hq hi
 have hl:=az.len (l.g i)
 have hn:=H9 (l:=l) hq hi
 simp only[bw,hg,fU,az.agg,az.size,hn,if_true]
 congr 2
 apply List.ext_getElem?
 intro j
 by_cases hj:j<az.n α
 · rw[List.getElem?_take_of_lt hj,List.getElem?_drop,h2 j hj]
 · rw[List.getElem?_eq_none (by rw[List.length_take];omega),List.getElem?_eq_none o!]
theorem dR {q j:Nat} {t:TypeId} {w:AV} (hg:h.get p=some (.cells (l.flatMap az.c) f ro)) (hq:q=0+i*az.n α) (hi:i<l.length) (ht:eA env t=some false) (hw:(az.c (l.g i))[j]? =some w):bw env h t (.ptr p (q+j))=some w:=by
 have hj:=(List.getElem?_eq_some_iff.1 hw).1
 rw[az.len] at hj
 simp only[bw,hg,fU,ht]
 rw[H8 (l:=l) hq hi j hj,hw]
theorem jc {q j n:Nat} {t:TypeId} {ws:List AV} (hg:h.get p=some (.cells (l.flatMap az.c) f ro)) (hq:q=0+i*az.n α) (hi:i<l.length) (ht:eA env t=some true) (hs:bT env t=some n) (hj:j+n≤az.n α) (hw:((az.c (l.g i)).drop j).take n=ws):bw env h t (.ptr p (q+j))=some (.agg ws):=by
 have h2:=H8 (l:=l) hq hi
 have hl:=az.len (l.g i)
 have hn:=H9 (l:=l) hq hi
 have hc:q+j+n≤(l.flatMap az.c).length:=by omega
 simp only[bw,hg,fU,ht,hs,hc,if_true]
 rw[←hw]
 congr 2
 apply List.ext_getElem?
 intro k
 by_cases hk:k<n
 · rw[List.getElem?_take_of_lt hk,List.getElem?_take_of_lt hk,List.getElem?_drop,List.getElem?_drop,Nat.add_assoc,h2 (j+k) o!]
 · rw[List.getElem?_eq_none (by rw[List.length_take];omega),List.getElem?_eq_none (by rw[List.length_take];omega)]
theorem Dy {j:Nat} {vs:List AV} {x:α} (hi:i<l.length) (hj:j+vs.length≤az.n α) (hx:az.c x=setFrom (az.c (l.g i)) j vs):setFrom (l.flatMap az.c) (i*az.n α+j) vs=(l.set i x).flatMap az.c:=by
 have e0:=pe hi x
 rw[hx] at e0
 rw[←e0]
 have hl:=bP az.len l
 have hb:i*az.n α+az.n α≤l.length*az.n α:=by rw[←Nat.succ_mul];exact Nat.mul_le_mul_right _ hi
 have hc:=az.len (l.g i)
 have gi:∀r,r<az.n α→(l.flatMap az.c)[i*az.n α+r]? =(az.c (l.g i))[r]? :=fun r hr=>gD az.len l i r hi hr
 have sl:(setFrom (az.c (l.g i)) j vs).length=az.n α:=by rw[←hx];exact az.len x
 apply List.ext_getElem?
 intro k
 rw[dy,dy,hl,sl]
 by_cases e:i*az.n α≤k∧k<i*az.n α+az.n α
 · obtain ⟨r,rfl⟩:∃r,k=i*az.n α+r:=⟨k - i*az.n α,by omega⟩
   rw[if_pos (c:=i*az.n α≤i*az.n α+r∧i*az.n α+r<i*az.n α+az.n α∧i*az.n α+r<l.length*az.n α) ⟨by omega,by omega,by omega⟩,Nat.add_sub_cancel_left,dy,hc]
   by_cases e2:j≤r∧r<j+vs.length
   · rw[if_pos ⟨by omega,by omega,by omega⟩,if_pos ⟨by omega,by omega,by omega⟩]
     congr 1;omega
   · rw[if_neg o!,if_neg o!,gi r o!]
 · rw[if_neg o!,if_neg o!]
theorem Has.lg {p:Nat} {h0 h h':au} (a:Has h0 h) (k:Kept p h h') (n:h0.get p=none):Has h0 h':=fun i x g=>k i x (fun e=>by subst e;rw[n] at g;cases g) (a i x g)
theorem uU {h:au} {p:Nat} {o:aR} (y:Tidy h) (g:h.get p=some o):∃h0,Tidy h0∧Has h0 h∧h0.get p=none∧h0.nx=h.nx∧(∀hk,Has h0 hk→Kept p h hk)∧∀g,Has g h→g.get p=none→Has g h0:=by
 refine ⟨h.put p none,fun i x q=>?_,fun i x q=>?_,au.bF _,rfl,fun hk a i x hi q=>a i x (by rw[au.aY (Ne.symm hi)];exact q),fun g a n i x q=>by
  by_cases e:p=i
  · subst e;rw[n] at q;cases q
  · rw[au.aY e];exact a _ _ q⟩
 · by_cases e:p=i
   · subst e;rw[au.bF] at q;cases q
   · rw[au.aY e] at q;exact y _ _ q
 · by_cases e:p=i
   · subst e;rw[au.bF] at q;cases q
   · rw[au.aY e] at q;exact q
theorem yg {h:au} {p:Nat} (y:Tidy h) (hp:h.nx≤p):h.get p=none:=by
 cases e:h.get p with
 | none=>rfl
 | some o=>have:=y _ _ e;omega
theorem uV {q j:Nat} {t:TypeId} {n:Nat} {v:AV} {x:α} (y:Tidy h) (hg:h.get p=some (.cells (l.flatMap az.c) f false)) (hq:q=0+i*az.n α) (hi:i<l.length) (hs:bT env t=some n) (hv:v.cells.length=n) (hj:j+n≤az.n α) (hk:v.cells.all AV.scalar=true) (hx:az.c x=setFrom (az.c (l.g i)) j v.cells):
 ∃h',dX env h t (.ptr p (q+j)) v=some h'∧Tidy h'∧h'.nx=h.nx∧h'.get p=some (.cells ((l.set i x).flatMap az.c) f false)∧Kept p h h':=by
 have hf:=H9 (l:=l) hq hi
 obtain ⟨h',s⟩:=uw (E:=env) (t:=t) (o:=q+j) (n:=n) (v:=v) hg hs hv o! hk
 refine ⟨h',s,o9 y s hg,qz s hg,?_,fun a w ha gw=>mu y s hg ha gw⟩
 rw[rL y s hg]
 rw[show q+j=i*az.n α+j by omega,Dy hi o! hx]
end
def uW:Code:=(Try.f92.body).getD .skip
theorem aau:Try.f92.body=some uW:=by kernel_rfl
def TC:Code:=(cX uW).getD 0 .skip
def TD:Code:=(cX uW).getD 1 .skip
def gO:Nat→Nat→List Gate→List Gate
 | 0,_,aU=>aU
 | bj+1,i1,aU=>(bif (decide ((lC (aU.g (bj+1)) (aU.g ((bj+1) - 1)))<0)) then gO bj (i1+1) ((aU.set (bj+1) (aU.g ((bj+1) - 1))).set ((bj+1) - 1) (aU.g (bj+1))) else aU)
theorem F2 {d:Nat} {h:au} (n:Nat) (op:Bool) (i0:Nat) (eu:Nat) (F3:i0<n) (cj:Tidy h) (H_:h.get eu=none):∀(k_ i_:Nat) (aU:List Gate) (_:i_+k_=i0) (_:(List.length aU=n∧n≤20)) (x:Nat→AV) (hh:au) (a_:Tidy hh) (bN:Has h hh) (nJ:h.nx≤hh.nx) (hB:hh.get eu=some (aR.cells (List.flatMap (az.c (α:=Gate)) aU) 66 false)),ey (σ:=List Gate) (ζ:=Unit) (dw (d+4)) TD ⟨((AV.slice eu 0 n n op)::(Zn (0))::(Zn n)::(AV.func 73 [] [])::rx x 4 4 ((Zn i0)::(Zn k_)::rx x 10 43 [])),hh,[],.no⟩ (.exit 2) hh (fun r z y=>((AV.slice eu 0 n n op)::(Zn (0))::(Zn n)::(AV.func 73 [] [])::rx y 4 4 ((Zn i0)::rx y 9 44 []))) (fun r z hk=>Has h hk∧hk.get eu=some (aR.cells (List.flatMap (az.c (α:=Gate)) r) 66 false)∧(List.length r=n∧n≤20)) (gO k_ i_ aU)
 | 0,i1,aU,rR,H',x,hh,a_,bN,nJ,hB=>by
   have PC:=a_ _ _ hB
   have q1:(decide (((0:Nat):Int)<((0:Nat):Int)))=false:=d!
   exact ey.out aU () rfl (pk (d+4) _ _ hh _ hh (CN 2<|VV (dx 3 false false .i64 ((0:Nat):Int) ((0:Nat):Int))<|CC<|BB q1<|BB q1<|BB q1<|BB q1<|BB q1<|BB q1<|BB q1<|BB q1<|BB q1<|BB q1<|BB q1<|BV q1 (pH false q1)<|FF<|ZZ) k!) a_ o! ⟨bN,hB,(show (List.length aU=n∧n≤20) from (by first | omega | (simp only[List.length_set];omega)))⟩ k!
 | bj+1,i1,aU,rR,H',x,hh,a_,bN,nJ,hB=>by
   have PC:=a_ _ _ hB
   have q1:(decide (((0:Nat):Int)<(((bj+1):Nat):Int)))=true:=d!
   have mU:dL env (some (.slice 66)) (some (AV.slice eu 0 n n op)) (some (Zn (bj+1)))=some (AV.ptr eu (0+(bj+1)*3)):=b7 (size:=3) k! (show (bj+1)<n by omega)
   have ld3:bw env hh 66 (AV.ptr eu (0+(bj+1)*3))=some (AV.agg [(Zi (aU.g (bj+1)).time),(Zi (aU.g (bj+1)).aj),(Zi (aU.g (bj+1)).ah)]):=kG (i:=(bj+1)) hB rfl (by first | omega | (simp only[List.length_set,List.length_append,List.length_cons,List.length_nil];omega))
   have u4:=Lc 3 false true (bj+1) 1 o! o!
   have FR:dL env (some (.slice 66)) (some (AV.slice eu 0 n n op)) (some (Zn ((bj+1) - 1)))=some (AV.ptr eu (0+((bj+1) - 1)*3)):=b7 (size:=3) k! (show ((bj+1) - 1)<n by omega)
   have ld6:bw env hh 66 (AV.ptr eu (0+((bj+1) - 1)*3))=some (AV.agg [(Zi (aU.g ((bj+1) - 1)).time),(Zi (aU.g ((bj+1) - 1)).aj),(Zi (aU.g ((bj+1) - 1)).ah)]):=kG (i:=((bj+1) - 1)) hB rfl (by first | omega | (simp only[List.length_set,List.length_append,List.length_cons,List.length_nil];omega))
   have k7:=PB (d:=d+1) (aU.g (bj+1)) (aU.g ((bj+1) - 1)) trivial trivial a_
   have c8:AV.same 20 (AV.agg [(Zi (aU.g (bj+1)).time),(Zi (aU.g (bj+1)).aj),(Zi (aU.g (bj+1)).ah)]) (AV.agg [(Zi (aU.g (bj+1)).time),(Zi (aU.g (bj+1)).aj),(Zi (aU.g (bj+1)).ah)])=true:=ja 18 (sx (fun n=>aN n _ _) (sx (fun n=>aN n _ _) (sx (fun n=>aN n _ _) RR)))
   have c9:AV.same 20 (AV.agg [(Zi (aU.g ((bj+1) - 1)).time),(Zi (aU.g ((bj+1) - 1)).aj),(Zi (aU.g ((bj+1) - 1)).ah)]) (AV.agg [(Zi (aU.g ((bj+1) - 1)).time),(Zi (aU.g ((bj+1) - 1)).aj),(Zi (aU.g ((bj+1) - 1)).ah)])=true:=ja 18 (sx (fun n=>aN n _ _) (sx (fun n=>aN n _ _) (sx (fun n=>aN n _ _) RR)))
   rcases Bool.eq_false_or_eq_true (decide ((lC (aU.g (bj+1)) (aU.g ((bj+1) - 1)))<0)) with f1 | f1
   · have tp:=of_decide_eq_true f1
     have Po:=Lc 3 false true (bj+1) 1 o! o!
     have u12:=Lc 3 false true (bj+1) 1 o! o!
     have F4:dL env (some (.slice 66)) (some (AV.slice eu 0 n n op)) (some (Zn ((bj+1) - 1)))=some (AV.ptr eu (0+((bj+1) - 1)*3)):=b7 (size:=3) k! (show ((bj+1) - 1)<n by omega)
     have xK:bw env hh 66 (AV.ptr eu (0+((bj+1) - 1)*3))=some (AV.agg [(Zi (aU.g ((bj+1) - 1)).time),(Zi (aU.g ((bj+1) - 1)).aj),(Zi (aU.g ((bj+1) - 1)).ah)]):=kG (i:=((bj+1) - 1)) hB rfl (by first | omega | (simp only[List.length_set,List.length_append,List.length_cons,List.length_nil];omega))
     have ado:dL env (some (.slice 66)) (some (AV.slice eu 0 n n op)) (some (Zn (bj+1)))=some (AV.ptr eu (0+(bj+1)*3)):=b7 (size:=3) k! (show (bj+1)<n by omega)
     have TE:bw env hh 66 (AV.ptr eu (0+(bj+1)*3))=some (AV.agg [(Zi (aU.g (bj+1)).time),(Zi (aU.g (bj+1)).aj),(Zi (aU.g (bj+1)).ah)]):=kG (i:=(bj+1)) hB rfl (by first | omega | (simp only[List.length_set,List.length_append,List.length_cons,List.length_nil];omega))
     have Xj:dL env (some (.slice 66)) (some (AV.slice eu 0 n n op)) (some (Zn (bj+1)))=some (AV.ptr eu (0+(bj+1)*3)):=b7 (size:=3) k! (show (bj+1)<n by omega)
     obtain ⟨h18,Xk,aav,aeK,aaw,Xl⟩:=uV (i:=(bj+1)) (j:=0) (t:=66) (n:=3) (v:=(AV.agg [(Zi (aU.g ((bj+1) - 1)).time),(Zi (aU.g ((bj+1) - 1)).aj),(Zi (aU.g ((bj+1) - 1)).ah)])) (x:=(aU.g ((bj+1) - 1))) a_ hB rfl (by first | omega | (simp only[List.length_set,List.length_append,List.length_cons,List.length_nil];omega)) k! rfl (by decide) (by simp [AV.cells,AV.scalar]) rfl
     have aax:dX env hh 66 (AV.ptr eu (0+(bj+1)*3)) (AV.agg [(Zi (aU.g ((bj+1) - 1)).time),(Zi (aU.g ((bj+1) - 1)).aj),(Zi (aU.g ((bj+1) - 1)).ah)])=some h18:=Xk
     have aay:Has h h18:=Has.lg bN Xl H_
     have TF:dL env (some (.slice 66)) (some (AV.slice eu 0 n n op)) (some (Zn ((bj+1) - 1)))=some (AV.ptr eu (0+((bj+1) - 1)*3)):=b7 (size:=3) k! (show ((bj+1) - 1)<n by omega)
     obtain ⟨uX,Xm,PD,aeL,aaz,Xn⟩:=uV (i:=((bj+1) - 1)) (j:=0) (t:=66) (n:=3) (v:=(AV.agg [(Zi (aU.g (bj+1)).time),(Zi (aU.g (bj+1)).aj),(Zi (aU.g (bj+1)).ah)])) (x:=(aU.g (bj+1))) aav aaw rfl (by first | omega | (simp only[List.length_set,List.length_append,List.length_cons,List.length_nil];omega)) k! rfl (by decide) (by simp [AV.cells,AV.scalar]) rfl
     have aaA:dX env h18 66 (AV.ptr eu (0+((bj+1) - 1)*3)) (AV.agg [(Zi (aU.g (bj+1)).time),(Zi (aU.g (bj+1)).aj),(Zi (aU.g (bj+1)).ah)])=some uX:=Xm
     have zV:Has h uX:=Has.lg aay Xn H_
     have u21:=Lc 3 false true (bj+1) 1 o! o!
     exact ey.round (by simp only[gO,f1,ax,ar]) (pk (d+4) _ _ hh _ uX (CN 2<|VV (dx 3 false false .i64 (((bj+1):Nat):Int) ((0:Nat):Int))<|CC<|BC q1<|BC q1<|BC q1<|BV q1 mU<|BM q1 ld3<|BC q1<|BC q1<|BV q1 u4<|BV q1 FR<|BM q1 ld6<|BB q1<|EE k7<|BV q1 (cS 3 false true .i64 (lC (aU.g (bj+1)) (aU.g ((bj+1) - 1))) 0)<|VV (jG (decide ((lC (aU.g (bj+1)) (aU.g ((bj+1) - 1)))<0)) false q1)<|HH (show bw env hh 66 (AV.ptr eu (0+(bj+1)*3))=some (AV.agg [(Zi (aU.g (bj+1)).time),(Zi (aU.g (bj+1)).aj),(Zi (aU.g (bj+1)).ah)]) from (kG (i:=(bj+1)) hB rfl (by first | omega | (simp only[List.length_set,List.length_append,List.length_cons,List.length_nil];omega))))<|HH c8<|HH (show bw env hh 66 (AV.ptr eu (0+((bj+1) - 1)*3))=some (AV.agg [(Zi (aU.g ((bj+1) - 1)).time),(Zi (aU.g ((bj+1) - 1)).aj),(Zi (aU.g ((bj+1) - 1)).ah)]) from (kG (i:=((bj+1) - 1)) hB rfl (by first | omega | (simp only[List.length_set,List.length_append,List.length_cons,List.length_nil];omega))))<|HH c9<|BB f1<|CN 4<|VV Po<|CN 2<|VV u12<|VV F4<|MM xK<|CN 2<|VV ado<|MM TE<|VV Xj<|SS aax<|VV TF<|SS aaA<|HH (show bw env hh 66 (AV.ptr eu (0+((bj+1) - 1)*3))=some (AV.agg [(Zi (aU.g ((bj+1) - 1)).time),(Zi (aU.g ((bj+1) - 1)).aj),(Zi (aU.g ((bj+1) - 1)).ah)]) from (kG (i:=((bj+1) - 1)) hB rfl (by first | omega | (simp only[List.length_set,List.length_append,List.length_cons,List.length_nil];omega))))<|HH c9<|HH (show bw env hh 66 (AV.ptr eu (0+(bj+1)*3))=some (AV.agg [(Zi (aU.g (bj+1)).time),(Zi (aU.g (bj+1)).aj),(Zi (aU.g (bj+1)).ah)]) from (kG (i:=(bj+1)) hB rfl (by first | omega | (simp only[List.length_set,List.length_append,List.length_cons,List.length_nil];omega))))<|HH c8<|CC<|VV u21<|CC<|ZZ) k!) o! _ k! (fun x=>F2 n op i0 eu F3 cj H_ bj (i1+1) ((aU.set (bj+1) (aU.g ((bj+1) - 1))).set ((bj+1) - 1) (aU.g (bj+1))) o! (show (List.length ((aU.set (bj+1) (aU.g ((bj+1) - 1))).set ((bj+1) - 1) (aU.g (bj+1)))=n∧n≤20) from (by first | omega | (simp only[List.length_set];omega))) x uX PD zV o! aaz)
   · have tp:=of_decide_eq_false f1
     exact ey.out aU () (by simp only[gO,f1,ax,ar]) (pk (d+4) _ _ hh _ hh (CN 2<|VV (dx 3 false false .i64 (((bj+1):Nat):Int) ((0:Nat):Int))<|CC<|BC q1<|BC q1<|BC q1<|BV q1 mU<|BM q1 ld3<|BC q1<|BC q1<|BV q1 u4<|BV q1 FR<|BM q1 ld6<|BB q1<|EE k7<|BV q1 (cS 3 false true .i64 (lC (aU.g (bj+1)) (aU.g ((bj+1) - 1))) 0)<|VV (jG (decide ((lC (aU.g (bj+1)) (aU.g ((bj+1) - 1)))<0)) false q1)<|HH (show bw env hh 66 (AV.ptr eu (0+(bj+1)*3))=some (AV.agg [(Zi (aU.g (bj+1)).time),(Zi (aU.g (bj+1)).aj),(Zi (aU.g (bj+1)).ah)]) from (kG (i:=(bj+1)) hB rfl (by first | omega | (simp only[List.length_set,List.length_append,List.length_cons,List.length_nil];omega))))<|HH c8<|HH (show bw env hh 66 (AV.ptr eu (0+((bj+1) - 1)*3))=some (AV.agg [(Zi (aU.g ((bj+1) - 1)).time),(Zi (aU.g ((bj+1) - 1)).aj),(Zi (aU.g ((bj+1) - 1)).ah)]) from (kG (i:=((bj+1) - 1)) hB rfl (by first | omega | (simp only[List.length_set,List.length_append,List.length_cons,List.length_nil];omega))))<|HH c9<|BB f1<|ZZ) k!) a_ o! ⟨bN,hB,(show (List.length aU=n∧n≤20) from (by first | omega | (simp only[List.length_set];omega)))⟩ k!
def ef (n:Nat):Nat→Nat→List Gate→List Gate
 | 0,_,gP=>gP
 | gB+1,i0,gP=>ef n gB (i0+1) (gO i0 0 gP)
theorem F5 {d:Nat} {h:au} (n:Nat) (op:Bool) (qY:Nat) (cj:Tidy h) (TG:h.get qY=none):∀(k_ i_:Nat) (gP:List Gate) (_:i_+k_=n) (_:(List.length gP=n∧n≤20)) (x:Nat→AV) (hh:au) (a_:Tidy hh) (bN:Has h hh) (nJ:h.nx≤hh.nx) (nK:hh.get qY=some (aR.cells (List.flatMap (az.c (α:=Gate)) gP) 66 false)),ey (σ:=List Gate) (ζ:=Unit) (dw (d+4)) TC ⟨((AV.slice qY 0 n n op)::(Zn (0))::(Zn n)::(AV.func 73 [] [])::rx x 4 4 ((Zn i_)::rx x 9 44 [])),hh,[],.no⟩ (.exit 0) hh (fun r z y=>((AV.slice qY 0 n n op)::(Zn (0))::(Zn n)::(AV.func 73 [] [])::rx y 4 49 [])) (fun r z hk=>Has h hk∧hk.get qY=some (aR.cells (List.flatMap (az.c (α:=Gate)) r) 66 false)∧(List.length r=n∧n≤20)) (ef n k_ i_ gP)
 | 0,i0,gP,rR,H',x,hh,a_,bN,nJ,nK=>by
   have Xo:=a_ _ _ nK
   have q1:(decide (((i0:Nat):Int)<((n:Nat):Int)))=false:=d!
   exact ey.out gP () rfl (pk (d+4) _ _ hh _ hh (CN 2<|VV (cS 3 false false .i64 ((i0:Nat):Int) ((n:Nat):Int))<|BB q1<|ZZ) k!) a_ o! ⟨bN,nK,(show (List.length gP=n∧n≤20) from (by first | omega | (simp only[List.length_set];omega)))⟩ k!
 | gB+1,i0,gP,rR,H',x,hh,a_,bN,nJ,nK=>by
   have Xo:=a_ _ _ nK
   have q1:(decide (((i0:Nat):Int)<((n:Nat):Int)))=true:=d!
   obtain ⟨_,Xc,h3,jo,hQ,uJ,zW,zX,TH⟩:=F2 (d:=d) (h:=h) n op i0 qY o! cj TG i0 0 gP o! (show (List.length gP=n∧n≤20) from (by first | omega | (simp only[List.length_set];omega))) (fun k_=>(((AV.slice qY 0 n n op)::(Zn (0))::(Zn n)::(AV.func 73 [] [])::rx x 4 4 ((Zn i0)::(Zn i0)::(x 10)::(x 11)::(Zn i0)::(Zn n)::(AV.bool (decide (((i0:Nat):Int)<((n:Nat):Int))))::(x 15)::(x 16)::(Zn i0)::rx x 18 35 [])):List AV).getD k_ AV.undef) hh a_ bN o! nK
   have jq:Has h h3:=zW
   have u4:=ks 3 false true i0 1 o!
   exact ey.round (by simp only[ef,ax,ar]) (pk (d+4) _ _ hh _ h3 (CN 2<|VV (cS 3 false false .i64 ((i0:Nat):Int) ((n:Nat):Int))<|BB q1<|CN 2<|LL jo<|CC<|VV u4<|CC<|ZZ) k!) o! _ k! (fun x=>F5 n op qY cj TG gB (i0+1) (gO i0 0 gP) o! (show (List.length (gO i0 0 gP)=n∧n≤20) from (by first | omega | (simp only[List.length_set];omega))) x h3 hQ jq o! zX)
theorem aaB {d:Nat} {hh:au} {p n:Nat} {op:Bool} {L:List Gate} (a_:Tidy hh) (gp:hh.get p=some (.cells (List.flatMap (az.c (α:=Gate)) L) 66 false)) (hn:L.length=n) (I4:n≤20) (Xp:1≤n):
 ∃hk,dw (d+5) (.fn 92) [.slice p 0 n n op,Zi 0,Zn n,.func 73 [] []] hh= .ret (.tuple []) hk∧Tidy hk∧hh.nx≤hk.nx∧hk.get p=some (.cells (List.flatMap (az.c (α:=Gate)) (ef n (n - 1) 1 L)) 66 false)∧Kept p hh hk:=by
 obtain ⟨h,cj,bN,hp,nJ,kp,_⟩:=uU a_ gp
 have T_p:=a_ _ _ gp
 have u1:=ks 3 false true 0 1 o!
 obtain ⟨_,Xc,h3,jo,hQ,uJ,zW,zX,TH⟩:=F5 (d:=d) (h:=h) n op p cj hp (n -(0+1)) (0+1) L o! (show (List.length L=n∧n≤20) from (by first | omega | (simp only[List.length_set];omega))) (fun k_=>(((AV.slice p 0 n n op)::(Zn (0))::(Zn n)::(AV.func 73 [] [])::AV.undef::AV.undef::AV.undef::AV.undef::(Zn (0+1))::AV.undef::(Zn (0))::(Zn (0+1))::ka 41):List AV).getD k_ AV.undef) hh a_ bN o! gp
 have jq:Has h h3:=zW
 have ev:=pk (d+4) uW ((AV.slice p 0 n n op)::(Zn (0))::(Zn n)::(AV.func 73 [] [])::ka 49) hh .normal h3 (CC<|VV u1<|CC<|LL jo<|ZZ) k!
 obtain ⟨hk,e,q⟩:=jn rfl (bu Try.func92 aau k! (.inl rfl) ev k!)
 refine ⟨hk,e,?_⟩
 rcases q with rfl | ⟨rfl,A⟩
 · exact ⟨hQ,uJ,zX,kp _ zW⟩
 · refine ⟨a_,Nat.le_refl _,?_,fun _ _ _ q=>q⟩
   rw[A _ _ gp] at zX
   rw[gp];exact zX
theorem zY:∀(k i:Nat) (C:List Gate),(gO k i C).length=C.length
 | 0,_,_=>rfl
 | k+1,i,C=>by
   rw[gO]
   cases decide (lC (C.g (k+1)) (C.g ((k+1) - 1))<0) with
   | true=>rw[ax,zY k];simp
   | false=>rfl
theorem JP {n:Nat}:∀(k i:Nat) (C:List Gate),(ef n k i C).length=C.length
 | 0,_,_=>rfl
 | k+1,i,C=>by rw[ef,JP k,zY]
end
end Go.Proofs.aK
