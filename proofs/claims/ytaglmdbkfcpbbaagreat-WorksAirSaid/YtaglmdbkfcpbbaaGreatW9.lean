import Derived.Test.YtaglmdbkfcpbbaaGreatW0
import Derived.Test.YtaglmdbkfcpbbaaGreatW5
import Derived.Test.YtaglmdbkfcpbbaaGreatW6
import Derived.Test.YtaglmdbkfcpbbaaGreatW3
import Derived.Test.YtaglmdbkfcpbbaaGreatW8
import Derived.Test.YtaglmdbkfcpbbaaGreatW2
namespace Go.Proofs.bt
open Go.Proofs Ab
set_option maxRecDepth 100000
set_option maxHeartbeats 4000000
set_option linter.unusedVariables false
set_option linter.unusedSimpArgs false
noncomputable def iS:Code:=(Tryz.f7.body).getD .skip
theorem nA:Tryz.f7.body=some iS:=by kernel_rfl
def b7 (t:aK) (ab:Int) (ae:Int):Int×Int:=(bif (decide ((ay t)=0)) then (bif (!(aF ab)) then (0,1) else (bif (!(aF ae)) then (0,1) else (bif (decide ((aA t ab ae)<0)) then (0,7) else ((aA t ab ae),0)))) else (0,(ay t)))
theorem jv {d:Nat} {h:ar} (t:aK) (ab:Int) (ae:Int) (b8:aD.ok h t) (b4:Tidy h):eD (d+3) (.fn 7) [(AV.agg [t.ak,(AV.int .i64 t.rest),(AV.int .i64 t.day)]),(AV.int .i64 ab),(AV.int .i64 ae)] h= .ret (AV.tuple [(AV.int .i64 ((b7 t ab ae).1)),(AV.int .i64 ((b7 t ab ae).2))]) h:=by
 rcases Bool.eq_false_or_eq_true (decide ((ay t)=0)) with f0 | f0
 · have fH:=of_decide_eq_true f0
   rcases Bool.eq_false_or_eq_true (!(aF ab)) with f1 | f1
   · obtain ⟨h1,bm,aL,cu,aE,bh⟩:=cj b4 (aH.cells [t.ak,(AV.int .i64 t.rest),(AV.int .i64 t.day)] 24 false)
     have aG:Has h h1:=bh
     have k2:=cg (d:=d) t (aD.mono aG b8) aL
     have k4:=a_ (d:=d+1) ab aL
     have k6:=cU (d:=d+1) t ab ae (aD.mono aG b8) aL
     have ev:=pk (d+2) iS ((AV.agg [t.ak,(AV.int .i64 t.rest),(AV.int .i64 t.day)])::(AV.int .i64 ab)::(AV.int .i64 ae)::cz 35) h .ret h1 (NN bm (fun i=>(AV.ptr i 0))<|CN 2<|MM (aw 24 0 (AV.agg [t.ak,(AV.int .i64 t.rest),(AV.int .i64 t.day)]) aE k!)<|EE k2<|CN 2<|VV (dC 28 false true .i64 (ay t) 0)<|CC<|BB f0<|CC<|BB f0<|EE k4<|BB f0<|CC<|BB f0<|CC<|BB f1<|BB f1<|BB f1<|BB f0<|VV (aX (a:=some (AV.bool true)) (b:=some AV.undef) f1)<|VV (aX (a:=some (AV.bool true)) (b:=some (AV.bool false)) f0)<|TT<|CC<|MM (aw 24 0 (AV.agg [t.ak,(AV.int .i64 t.rest),(AV.int .i64 t.day)]) aE k!)<|CN 2<|EE k6<|CN 4<|FF<|FF<|CC<|FF<|CN 2<|TT<|CN 3<|ZZ) k!
     have e:b7 t ab ae=(0,1):=by simp only[b7,f0,f1,cond_true,cond_false]
     rw[e]
     exact az rfl (bz Tryz.func7 nA k! (.inr rfl) ev k!) aG rfl
   · rcases Bool.eq_false_or_eq_true (!(aF ae)) with f2 | f2
     · obtain ⟨h1,bm,aL,cu,aE,bh⟩:=cj b4 (aH.cells [t.ak,(AV.int .i64 t.rest),(AV.int .i64 t.day)] 24 false)
       have aG:Has h h1:=bh
       have k2:=cg (d:=d) t (aD.mono aG b8) aL
       have k4:=a_ (d:=d+1) ab aL
       have k6:=a_ (d:=d+1) ae aL
       have k8:=cU (d:=d+1) t ab ae (aD.mono aG b8) aL
       have ev:=pk (d+2) iS ((AV.agg [t.ak,(AV.int .i64 t.rest),(AV.int .i64 t.day)])::(AV.int .i64 ab)::(AV.int .i64 ae)::cz 35) h .ret h1 (NN bm (fun i=>(AV.ptr i 0))<|CN 2<|MM (aw 24 0 (AV.agg [t.ak,(AV.int .i64 t.rest),(AV.int .i64 t.day)]) aE k!)<|EE k2<|CN 2<|VV (dC 28 false true .i64 (ay t) 0)<|CC<|BB f0<|CC<|BB f0<|EE k4<|BB f0<|CC<|BB f0<|CC<|BB f1<|CC<|BB f1<|EE k6<|BB f1<|CC<|BB f0<|VV (aJ (a:=some (AV.bool true)) (b:=some (AV.bool (!(aF ae)))) f1)<|VV (aX (a:=some (AV.bool (!(aF ae)))) (b:=some (AV.bool false)) f0)<|BB f2<|CC<|MM (aw 24 0 (AV.agg [t.ak,(AV.int .i64 t.rest),(AV.int .i64 t.day)]) aE k!)<|CN 2<|EE k8<|CN 4<|FF<|FF<|CC<|FF<|CN 2<|TT<|CN 3<|ZZ) k!
       have e:b7 t ab ae=(0,1):=by simp only[b7,f0,f1,f2,cond_true,cond_false]
       rw[e]
       exact az rfl (bz Tryz.func7 nA k! (.inr rfl) ev k!) aG rfl
     · rcases Bool.eq_false_or_eq_true (decide ((aA t ab ae)<0)) with f3 | f3
       · have oh:=of_decide_eq_true f3
         obtain ⟨h1,bm,aL,cu,aE,bh⟩:=cj b4 (aH.cells [t.ak,(AV.int .i64 t.rest),(AV.int .i64 t.day)] 24 false)
         have aG:Has h h1:=bh
         have k2:=cg (d:=d) t (aD.mono aG b8) aL
         have k4:=a_ (d:=d+1) ab aL
         have k6:=a_ (d:=d+1) ae aL
         have k8:=cU (d:=d+1) t ab ae (aD.mono aG b8) aL
         have ev:=pk (d+2) iS ((AV.agg [t.ak,(AV.int .i64 t.rest),(AV.int .i64 t.day)])::(AV.int .i64 ab)::(AV.int .i64 ae)::cz 35) h .ret h1 (NN bm (fun i=>(AV.ptr i 0))<|CN 2<|MM (aw 24 0 (AV.agg [t.ak,(AV.int .i64 t.rest),(AV.int .i64 t.day)]) aE k!)<|EE k2<|CN 2<|VV (dC 28 false true .i64 (ay t) 0)<|CC<|BB f0<|CC<|BB f0<|EE k4<|BB f0<|CC<|BB f0<|CC<|BB f1<|CC<|BB f1<|EE k6<|BB f1<|CC<|BB f0<|VV (aJ (a:=some (AV.bool true)) (b:=some (AV.bool (!(aF ae)))) f1)<|VV (aX (a:=some (AV.bool (!(aF ae)))) (b:=some (AV.bool false)) f0)<|BB f2<|MM (aw 24 0 (AV.agg [t.ak,(AV.int .i64 t.rest),(AV.int .i64 t.day)]) aE k!)<|CN 2<|EE k8<|CN 2<|VV (dC 28 false true .i64 (ay t) 0)<|CC<|BB f0<|CC<|BB f0<|VV (bT 3 false true .i64 (aA t ab ae) 0)<|VV (aX (a:=some (AV.bool (decide ((aA t ab ae)<0)))) (b:=some (AV.bool false)) f0)<|BB f3<|CN 3<|TT<|CN 3<|ZZ) k!
         have e:b7 t ab ae=(0,7):=by simp only[b7,f0,f1,f2,f3,cond_true,cond_false]
         rw[e]
         exact az rfl (bz Tryz.func7 nA k! (.inr rfl) ev k!) aG rfl
       · have oh:=of_decide_eq_false f3
         obtain ⟨h1,bm,aL,cu,aE,bh⟩:=cj b4 (aH.cells [t.ak,(AV.int .i64 t.rest),(AV.int .i64 t.day)] 24 false)
         have aG:Has h h1:=bh
         have k2:=cg (d:=d) t (aD.mono aG b8) aL
         have k4:=a_ (d:=d+1) ab aL
         have k6:=a_ (d:=d+1) ae aL
         have k8:=cU (d:=d+1) t ab ae (aD.mono aG b8) aL
         have Io:(!decide ((ay t)=0))=false:=d!
         have ev:=pk (d+2) iS ((AV.agg [t.ak,(AV.int .i64 t.rest),(AV.int .i64 t.day)])::(AV.int .i64 ab)::(AV.int .i64 ae)::cz 35) h .ret h1 (NN bm (fun i=>(AV.ptr i 0))<|CN 2<|MM (aw 24 0 (AV.agg [t.ak,(AV.int .i64 t.rest),(AV.int .i64 t.day)]) aE k!)<|EE k2<|CN 2<|VV (dC 28 false true .i64 (ay t) 0)<|CC<|BB f0<|CC<|BB f0<|EE k4<|BB f0<|CC<|BB f0<|CC<|BB f1<|CC<|BB f1<|EE k6<|BB f1<|CC<|BB f0<|VV (aJ (a:=some (AV.bool true)) (b:=some (AV.bool (!(aF ae)))) f1)<|VV (aX (a:=some (AV.bool (!(aF ae)))) (b:=some (AV.bool false)) f0)<|BB f2<|MM (aw 24 0 (AV.agg [t.ak,(AV.int .i64 t.rest),(AV.int .i64 t.day)]) aE k!)<|CN 2<|EE k8<|CN 2<|VV (dC 28 false true .i64 (ay t) 0)<|CC<|BB f0<|CC<|BB f0<|VV (bT 3 false true .i64 (aA t ab ae) 0)<|VV (aX (a:=some (AV.bool (decide ((aA t ab ae)<0)))) (b:=some (AV.bool false)) f0)<|BB f3<|CC<|VV (cS 28 false true .i64 (ay t) 0)<|BB Io<|CN 3<|ZZ) k!
         have e:b7 t ab ae=((aA t ab ae),0):=by simp only[b7,f0,f1,f2,f3,cond_true,cond_false]
         rw[e]
         exact az rfl (bz Tryz.func7 nA k! (.inr rfl) ev k!) aG rfl
 · have fH:=of_decide_eq_false f0
   obtain ⟨h1,bm,aL,cu,aE,bh⟩:=cj b4 (aH.cells [t.ak,(AV.int .i64 t.rest),(AV.int .i64 t.day)] 24 false)
   have aG:Has h h1:=bh
   have k2:=cg (d:=d) t (aD.mono aG b8) aL
   have k4:=cU (d:=d+1) t ab ae (aD.mono aG b8) aL
   have q5:(!decide ((ay t)=0))=true:=d!
   have ev:=pk (d+2) iS ((AV.agg [t.ak,(AV.int .i64 t.rest),(AV.int .i64 t.day)])::(AV.int .i64 ab)::(AV.int .i64 ae)::cz 35) h .ret h1 (NN bm (fun i=>(AV.ptr i 0))<|CN 2<|MM (aw 24 0 (AV.agg [t.ak,(AV.int .i64 t.rest),(AV.int .i64 t.day)]) aE k!)<|EE k2<|CN 2<|VV (dC 28 false true .i64 (ay t) 0)<|CC<|BB f0<|BB f0<|BB f0<|BB f0<|BB f0<|VV (aJ (a:=some AV.undef) (b:=some (AV.bool false)) f0)<|FF<|MM (aw 24 0 (AV.agg [t.ak,(AV.int .i64 t.rest),(AV.int .i64 t.day)]) aE k!)<|CN 2<|EE k4<|CN 2<|VV (dC 28 false true .i64 (ay t) 0)<|CC<|BB f0<|BB f0<|VV (aJ (a:=some AV.undef) (b:=some (AV.bool false)) f0)<|FF<|CC<|VV (cS 28 false true .i64 (ay t) 0)<|BB q5<|CN 3<|ZZ) k!
   have e:b7 t ab ae=(0,(ay t)):=by simp only[b7,f0,cond_true,cond_false]
   rw[e]
   exact az rfl (bz Tryz.func7 nA k! (.inr rfl) ev k!) aG rfl
def fe (f:Nat→Option Int):Nat→Nat→Option Int
 | 0,_=>none
 | k+1,i=>match f i with
   | some r=>some r
   | none=>fe f k (i+1)
def er (x:Int):Option Int:=bif !decide (x=0) then some x else none
theorem OS (o:Option Int):(match o with | none=>0 | some r=>r)=o.getD 0:=by cases o<;>rfl
theorem QG {α:Type} [Inhabited α] {l:List α} {i j:Nat} (h:j<i):(l.take i).g j=l.g j:=by
 rw[List.g,List.g,List.getD_eq_getElem?_getD,List.getD_eq_getElem?_getD,List.getElem?_take_of_lt h]
theorem K5 {α:Type} {l:List α} {i:Nat} (h:i≤l.length):(l.take i).length=i:=by rw[List.length_take];omega
def s9 (c:UInt8):Bool:=decide (97≤((c.toNat:Nat):Int))&&decide (((c.toNat:Nat):Int)≤122)
def digit (c:UInt8):Bool:=decide (48≤((c.toNat:Nat):Int))&&decide (((c.toNat:Nat):Int)≤57)
def dash (c:UInt8):Bool:=decide (((c.toNat:Nat):Int)=45)
def uv (f:Nat→Bool):Nat→Nat→Bool
 | 0,_=>true
 | k+1,i=>f i&&uv f k (i+1)
theorem all_congr {f g:Nat→Bool}:∀(k i:Nat),(∀j,i≤j→j<i+k→f j=g j)→uv f k i=uv g k i
 | 0,_,_=>rfl
 | k+1,i,h=>by
   rw[uv,uv,h i (Nat.le_refl _) (by omega),all_congr k (i+1) fun j h1 h2=>h j (by omega) (by omega)]
theorem G8 (a b:Int):decide (a<b)= !decide (b≤a):=by
 by_cases h:a<b
 · rw[decide_eq_true h,decide_eq_false (by omega)];rfl
 · rw[decide_eq_false h,decide_eq_true (by omega)];rfl
theorem AA (s:List UInt8):∀(k i:Nat),bO s k i=bif uv (fun j=>s9 (s.g j)||(!decide ((j:Int)=0)&&(digit (s.g j)||dash (s.g j)))) k i then none else some false
 | 0,_=>rfl
 | k+1,i=>by
   rw[bO,uv,AA s k (i+1),s9,digit,dash]
   generalize uv _ k (i+1)=z
   generalize decide (97≤(((s.g i).toNat:Nat):Int))=a
   generalize decide ((((s.g i).toNat:Nat):Int)≤122)=b
   generalize decide (48≤(((s.g i).toNat:Nat):Int))=c
   generalize decide ((((s.g i).toNat:Nat):Int)≤57)=d
   generalize decide ((((s.g i).toNat:Nat):Int)=45)=e
   generalize decide ((i:Int)=0)=f
   cases a<;>cases b<;>cases c<;>cases d<;>cases e<;>cases f<;>rfl
theorem AB (s:List UInt8):∀(k i:Nat),dh s k i=bif uv (fun j=>s9 (s.g j)||(digit (s.g j)||dash (s.g j))) k i then none else some false
 | 0,_=>rfl
 | k+1,i=>by
   rw[dh,uv,AB s k (i+1),s9,digit,dash]
   simp only[G8]
   generalize uv _ k (i+1)=z
   generalize decide (97≤(((s.g i).toNat:Nat):Int))=a
   generalize decide ((((s.g i).toNat:Nat):Int)≤122)=b
   generalize decide (48≤(((s.g i).toNat:Nat):Int))=c
   generalize decide ((((s.g i).toNat:Nat):Int)≤57)=d
   generalize decide ((((s.g i).toNat:Nat):Int)=45)=e
   cases a<;>cases b<;>cases c<;>cases d<;>cases e<;>rfl
theorem G9 (s:List UInt8):fO s=dS s:=by
 unfold fO dS
 cases s with
 | nil=>rfl
 | cons x s=>
   rw[decide_eq_false (show ¬x::s=[] by simp),decide_eq_false (show ¬(((x::s).length:Nat):Int)=0 by simp;omega)]
   cases decide (16<(((x::s).length:Nat):Int)) with
   | true=>rfl
   | false=>
     rw[AA,AB,List.length_cons,uv,uv,G8,G8]
     rw[all_congr (f:=fun j=>s9 ((x::s).g j)||(!decide ((j:Int)=0)&&(digit ((x::s).g j)||dash ((x::s).g j)))) (g:=fun j=>s9 ((x::s).g j)||(digit ((x::s).g j)||dash ((x::s).g j))) s.length (0+1) fun j hj _=>by
      simp only[decide_eq_false (show ¬(j:Int)=0 by omega),Bool.not_false,Bool.true_and]]
     simp only[s9]
     rw[show decide (((0:Nat):Int)=0)=true from rfl]
     generalize uv _ s.length (0+1)=z
     generalize decide (97≤((((x::s).g 0).toNat:Nat):Int))=a
     generalize decide (((((x::s).g 0).toNat:Nat):Int)≤122)=b
     generalize digit ((x::s).g 0)=c
     generalize dash ((x::s).g 0)=e
     cases a<;>cases b<;>cases c<;>cases e<;>cases z<;>rfl
theorem OT (f:Nat→Int):∀(k i:Nat),fe (fun j=>er (f j)) k i≠some 0
 | 0,_=>by simp [fe]
 | k+1,i=>by
   rw[fe,er]
   by_cases h:f i=0
   · rw[decide_eq_true h];exact OT f k (i+1)
   · rw[decide_eq_false h];intro e;exact h (Option.some.inj e)
theorem hZ (n:Int):bW n=aF n:=rfl
theorem rv {x:Int} (h:aF x=true):0≤x∧x≤100000:=jt h
theorem yR (P:Nat→Int) (l:List bK):∀(k i:Nat),dY P l k i=fe (fun j=>er (P j)) k i
 | 0,_=>rfl
 | k+1,i=>by
   rw[dY,fe,er,yR P l k (i+1)]
   cases (!decide (P i=0))<;>rfl
theorem ry (P:Nat→Int) (l:List aO):∀(k i:Nat),dI P l k i=fe (fun j=>er (P j)) k i
 | 0,_=>rfl
 | k+1,i=>by
   rw[dI,fe,er,ry P l k (i+1)]
   cases (!decide (P i=0))<;>rfl
theorem G_ (t:aK) (f:Nat→List bK):∀(k i:Nat),cD t k i=fe (fun j=>er (bY (f j) (t.rows.g j))) k i
 | 0,_=>rfl
 | k+1,i=>by
   rw[cD,fe,G_ t f k (i+1),bY,hZ,hZ,hZ]
   cases aF (t.rows.g i).ab<;>cases aF (t.rows.g i).ae<;>cases aF (t.rows.g i).out<;>rfl
theorem lR (t:aK):bw t=ay t:=by
 unfold bw ay cF
 rw[yR,G_ t (fun j=>List.take j t.rows)]
 cases decide (64<((t.rows.length:Nat):Int)) with
 | true=>rfl
 | false=>
   have nz:=OT (fun j=>bY (List.take j t.rows) (t.rows.g j)) t.rows.length 0
   cases q:fe (fun j=>er (bY (List.take j t.rows) (t.rows.g j))) t.rows.length 0 with
   | none=>rfl
   | some r=>
     have:r≠0:=fun e=>nz (by rw[q,e])
     show (bif !decide (r=0) then r else _)=r
     rw[decide_eq_false this];rfl
theorem K6 (l:List aO):∀(k i:Nat),i+k≤l.length→aS l k i 0=(fe (fun j=>er (cb (l.take j) (l.g j))) k i).getD 0
 | 0,_,_=>rfl
 | k+1,i,h=>by
   have ih:=K6 l k (i+1) (by omega)
   rw[aS,fe,cb,hZ,hZ,hZ,hZ,G9,K5 (by omega)]
   rw[show decide ((0:Int)=0)=true from rfl]
   simp only[cond_true]
   have Y9:aS l k (i+1) 5=5:=fA (by decide)
   have Y_:aS l k (i+1) 1=1:=fA (by decide)
   have Y':aS l k (i+1) 8=8:=fA (by decide)
   rw[Y9,Y_,Y',ih]
   cases dS (l.g i).worker with
   | false=>rfl
   | true=>
   cases aF (l.g i).ab with
   | false=>rfl
   | true=>
   cases aF (l.g i).aP with
   | false=>rfl
   | true=>
   cases aF (l.g i).leave with
   | false=>rfl
   | true=>
   cases aF (l.g i).out with
   | false=>rfl
   | true=>
   by_cases hi:0<i
   · rw[decide_eq_true (show 0<((i:Nat):Int) by omega),QG (show i - 1<i by omega)]
     cases decide ((l.g i).aP<(l.g (i - 1)).aP)<;>rfl
   · rw[decide_eq_false (show ¬0<((i:Nat):Int) by omega)];rfl
theorem wy (t:aK) (l:List aO):aC t l=bif !decide (bU t l=0) then ([],bU t l) else (cR t l l.length 0 [],0):=by
 unfold aC bU cV
 rw[lR,ry]
 by_cases h:ay t=0
 · rw[decide_eq_true h]
   cases decide (128<((l.length:Nat):Int)) with
   | true=>simp only[cond_true,Bool.not_true,cond_false];rw[fA (show (3:Int)≠0 by decide)]
   | false=>
     simp only[cond_true,Bool.not_true,cond_false]
     rw[h,K6 l _ 0 (by omega)]
     rw[←OS];rfl
 · rw[decide_eq_false h]
   simp only[Bool.not_false,cond_true,cond_false]
   rw[fA h]
theorem G' (t:aK) (p m:Int):∀(k i:Nat),(dp t.rows (fun y=>cA y p m) k i=none∧dy t p m k i=none)∨∃n:Nat,n<i+k∧dp t.rows (fun y=>cA y p m) k i=some (n:Int)∧dy t p m k i=some (t.rows.g n).out
 | 0,_=> .inl ⟨rfl,rfl⟩
 | k+1,i=>by
   rw[dp,dy,cA]
   have step:(dp t.rows (fun y=>cA y p m) k (i+1)=none∧dy t p m k (i+1)=none)∨∃n:Nat,n<i+(k+1)∧dp t.rows (fun y=>cA y p m) k (i+1)=some (n:Int)∧dy t p m k (i+1)=some (t.rows.g n).out:=by
    rcases G' t p m k (i+1) with h | ⟨n,h1,h2,h3⟩
    · exact .inl h
    · exact .inr ⟨n,by omega,h2,h3⟩
   cases decide (p≤(t.rows.g i).ab) with
   | false=>exact step
   | true=>
     cases decide (m≤(t.rows.g i).ae) with
     | false=>exact step
     | true=>exact .inr ⟨i,by omega,rfl,rfl⟩
theorem vz (t:aK) (p m:Int) (ho:∀j,j<t.rows.length→0≤(t.rows.g j).out):
 ((ax t p m).2=false∧aA t p m= -1)∨((ax t p m).2=true∧(ax t p m).1.out=aA t p m∧0≤aA t p m):=by
 unfold ax aA cI
 rcases G' t p m t.rows.length 0 with ⟨h1,h2⟩ | ⟨n,h0,h1,h2⟩
 · rw[h1,h2];exact .inl ⟨rfl,rfl⟩
 · rw[h1,h2]
   have:=ho n (by omega)
   refine .inr ?_
   show (bif decide ((n:Int)<0) then ((⟨0,0,0⟩:bK),false) else (t.rows.g (Int.toNat n),true)).2=true∧(bif decide ((n:Int)<0) then ((⟨0,0,0⟩:bK),false) else (t.rows.g (Int.toNat n),true)).1.out=(t.rows.g n).out∧0≤(t.rows.g n).out
   rw[decide_eq_false (show ¬(n:Int)<0 by omega)]
   exact ⟨rfl,rfl,this⟩
theorem xb {t:aK} (h:ay t=0):∀j,j<t.rows.length→0≤(t.rows.g j).out∧(t.rows.g j).out≤100000:=(my h).1
theorem Is (t:aK) (p m:Int):b6 t p m=b7 t p m:=by
 unfold b6 b7
 rw[lR,hZ,hZ]
 by_cases h:ay t=0
 · rw[decide_eq_true h]
   cases aF p with
   | false=>rfl
   | true=>cases aF m with
     | false=>rfl
     | true=>
       rcases vz t p m (fun j hj=>(xb h j hj).1) with ⟨h1,h2⟩ | ⟨h1,h2,h3⟩
       · rw[h1,h2];rfl
       · rw[h1,h2,decide_eq_false (show ¬aA t p m<0 by omega)];rfl
 · rw[decide_eq_false h];rfl
def oT (w:List UInt8) (l:List aO):List aO:=l.filter fun d=>decide (d.worker=w)
theorem drop_cons {l:List aO} {i:Nat} (h:i<l.length):l.drop i=l.g i::l.drop (i+1):=by
 rw[List.drop_eq_getElem_cons h]
 congr 1
 rw[List.g,List.getD_eq_getElem?_getD,List.getElem?_eq_getElem h];rfl
theorem s_ (l:List aO) (w:List UInt8):∀(k i:Nat) (acc:List aO),i+k=l.length→ep l w k i acc=acc++oT w (l.drop i)
 | 0,i,acc,h=>by
   rw[List.drop_eq_nil_of_le (by omega)]
   exact (List.append_nil _).symm
 | k+1,i,acc,h=>by
   rw[ep,drop_cons (show i<l.length by omega),oT,List.filter_cons]
   cases hq:decide ((l.g i).worker=w) with
   | true=>
     simp only[cond_true,if_true]
     rw[s_ l w k (i+1) _ (by omega),List.append_assoc];rfl
   | false=>
     simp only[cond_false,Bool.false_eq_true,if_false]
     rw[s_ l w k (i+1) _ (by omega)];rfl
theorem yS (l:List aO) (w:List UInt8):aM l w=oT w l:=by
 unfold aM
 rw[s_ l w _ 0 _ (by omega)];rfl
theorem It {l:List aO} {i:Nat} (h:i<l.length):l.take (i+1)=l.take i++[l.g i]:=by
 rw[List.take_add_one,List.getElem?_eq_getElem h]
 congr 1
 rw[List.g,List.getD_eq_getElem?_getD,List.getElem?_eq_getElem h];rfl
theorem yT {l:List aO} {i:Nat} (w:List UInt8) (h:i<l.length):oT w (l.take (i+1))=bif decide ((l.g i).worker=w) then oT w (l.take i)++[l.g i] else oT w (l.take i):=by
 rw[It h,oT,List.filter_append]
 cases hq:decide ((l.g i).worker=w) with
 | true=>rw[List.filter_cons,hq];rfl
 | false=>rw[List.filter_cons,hq];exact List.append_nil _
def ta (x d:aO):Int:=imax 0 (IntKind.i64.wrap ((wJ d.leave x.leave) -(imax d.aP (IntKind.i64.wrap (x.leave - 1440)))))
theorem Iu (a b:Int):imax a b=imax b a:=by unfold imax;split<;>split<;>omega
structure Ok (d:aO):Prop where
 i0:0≤d.aP
 i1:d.aP≤1000000
 l0:0≤d.leave
 l1:d.leave≤1000000
 o0:0≤d.out
 o1:d.out≤1000000
theorem uw {x d:aO} (hx:Ok x) (hd:Ok d):ta x d=max 0 (min d.leave x.leave - max d.aP (x.leave - 1440)):=by
 have:=hx.l0;have:=hx.l1;have:=hd.i0;have:=hd.i1;have:=hd.l0;have:=hd.l1
 unfold ta
 rw[wrap_i64 (show -9223372036854775808≤x.leave - 1440 by omega) (by omega)]
 have e1:wJ d.leave x.leave=min d.leave x.leave:=by unfold wJ;split<;>omega
 have e2:imax d.aP (x.leave - 1440)=max d.aP (x.leave - 1440):=by unfold imax;split<;>omega
 rw[e1,e2,wrap_i64 (by omega) (by omega)]
 unfold imax;split<;>omega
theorem DV {x d:aO} (hx:Ok x) (hd:Ok d):0≤ta x d∧ta x d≤2000000:=by
 have:=hx.l0;have:=hx.l1;have:=hd.i0;have:=hd.i1;have:=hd.l0;have:=hd.l1
 rw[uw hx hd];omega
def j3 (x:aO):List aO→Int
 | []=>0
 | d::l=>ta x d+j3 x l
theorem K7 (x:aO) (a b:List aO):j3 x (a++b)=j3 x a+j3 x b:=by
 induction a with
 | nil=>show j3 x b=0+j3 x b;omega
 | cons d a ih=>show ta x d+j3 x (a++b)=ta x d+j3 x a+j3 x b;rw[ih];omega
theorem K8 {x:aO} (hx:Ok x):∀{l:List aO},(∀d∈l,Ok d)→0≤j3 x l∧j3 x l≤2000000*(l.length:Int)
 | [],_=>by show 0≤(0:Int)∧(0:Int)≤_;simp
 | d::l,h=>by
   have a:=DV hx (h d (by simp))
   have b:=K8 hx (l:=l) fun y hy=>h y (by simp [hy])
   show 0≤ta x d+j3 x l∧ta x d+j3 x l≤_
   rw[List.length_cons]
   omega
def st (t:aK) (a:List aO) (x:aO):fj:=⟨.aI,t.rows,t.rest,t.day,.aI,a,x.worker,x.ab,x.aP,x.leave,x.out⟩
theorem K9 (t:aK) (a:List aO) (x d:aO):ja (st t a x) d=ta x d:=rfl
theorem DW (t:aK) {a:List aO} {x:aO} (hx:Ok x) (ha:∀d∈a,Ok d) (hl:a.length≤1000):∀(k i:Nat) (v:Int),i+k=a.length→0≤v→v≤2000000*(i+1:Int)→c8 (st t a x) k i v=v+j3 x (a.drop i)
 | 0,i,v,h,_,_=>by
   rw[List.drop_eq_nil_of_le (by omega)]
   show v=v+0;omega
 | k+1,i,v,h,h0,h1=>by
   have hi:i<a.length:=by omega
   have b:=DV hx (ha (a.g i) (At hi))
   rw[c8,K9,drop_cons hi]
   rw[show ((st t a x).ahead.g i)=a.g i from rfl]
   rw[wrap_i64 (by omega) (by omega)]
   rw[DW t hx ha hl k (i+1) _ (by omega) (by omega) (by push_cast;omega)]
   show v+ta x (a.g i)+j3 x (a.drop (i+1))=v+(ta x (a.g i)+j3 x (a.drop (i+1)))
   omega
theorem yU (t:aK) {a:List aO} {x:aO} (hx:Ok x) (ha:∀d∈a,Ok d) (hl:a.length≤1000):bG (st t a x)=decide (ta x x+j3 x a≤t.day):=by
 unfold bG
 have b:=DV hx hx
 rw[show ja (st t a x) (⟨(st t a x).ah,(st t a x).af,(st t a x).au,(st t a x).ag,(st t a x).aq⟩:aO)=ta x x from rfl]
 rw[DW t hx ha hl _ 0 _ (by show 0+a.length=a.length;omega) b.1 (by simp;omega)]
 rfl
def qf (w:List UInt8) (l:List aO):Nat→Int
 | 0=> -1
 | i+1=>bif decide ((l.g i).worker=w) then (i:Int) else qf w l i
theorem DX {w:List UInt8} {l:List aO}:∀{n:Nat},n≤l.length→(oT w (l.take n)=[]∧qf w l n= -1)∨(oT w (l.take n)≠ []∧0≤qf w l n∧(oT w (l.take n)).g ((oT w (l.take n)).length - 1)=l.g (Int.toNat (qf w l n)))
 | 0,_=> .inl ⟨rfl,rfl⟩
 | i+1,h=>by
   rw[yT w (show i<l.length by omega),qf]
   cases decide ((l.g i).worker=w) with
   | true=>
     refine .inr ⟨by simp,by show 0≤(i:Int);omega,?_⟩
     simp only[cond_true]
     rw[List.length_append,List.length_singleton,Nat.add_sub_cancel]
     rw[show Int.toNat (i:Int)=i from rfl,List.g,List.getD_eq_getElem?_getD,List.getElem?_append_right (Nat.le_refl _),Nat.sub_self]
     rfl
   | false=>exact DX (n:=i) (by omega)
theorem DY {l:List aO} {n:Nat} (hl:l.length≤1000) (hn:n<l.length) (hx:Ok (l.g n)) (hp:∀j,j<n→Ok (l.g j)):∀(k i:Nat),i+k=n+1→
 bj l (n:Int) k i (qf (l.g n).worker l i) (j3 (l.g n) (oT (l.g n).worker (l.take i))+(if i=n+1 then ta (l.g n) (l.g n) - ta (l.g n) (l.g n) else 0))=(qf (l.g n).worker l n,j3 (l.g n) (oT (l.g n).worker (l.take n))+ta (l.g n) (l.g n))∨i=n+1
 | 0,i,h=> .inr (by omega)
 | k+1,i,h=>by
   left
   rw[if_neg (by omega)]
   have mV:∀i,i≤n→∀d∈oT (l.g n).worker (l.take i),Ok d:=fun i hi d hd=>by
    have hd:=(List.mem_filter.1 hd).1
    obtain ⟨j,hj,rfl⟩:=List.mem_iff_getElem.1 hd
    have QH:j<i:=by rw[List.length_take] at hj;omega
    have:=hp j (by omega)
    rw[List.g,List.getD_eq_getElem?_getD,List.getElem?_eq_getElem (by omega)] at this
    rw[List.getElem_take];exact this
   have hlen:∀i,i≤n→(oT (l.g n).worker (l.take i)).length≤i:=fun i hi=>by
    have:=List.length_filter_le (fun d:aO=>decide (d.worker=(l.g n).worker)) (l.take i)
    rw[List.length_take] at this
    exact Nat.le_trans this (by omega)
   have sb:=K8 hx (mV i (by omega))
   have sl:=hlen i (by omega)
   rw[bj]
   rw[show Int.toNat (n:Int)=n from rfl]
   have fold:imax (IntKind.i64.wrap ((wJ ((l.g i).leave) ((l.g n).leave)) -(imax ((l.g i).aP) (IntKind.i64.wrap (((l.g n).leave) - 1440))))) 0=ta (l.g n) (l.g i):=Iu _ _
   rw[fold]
   by_cases hi:i=n
   · subst hi
     have b:=DV hx hx
     rw[decide_eq_true (rfl:(l.g i).worker=(l.g i).worker),decide_eq_false (show ¬(i:Int)<i by omega)]
     simp only[Bool.not_true,cond_false]
     obtain rfl:k=0:=by omega
     rw[bj,wrap_i64 (by omega) (by omega)]
     rw[Int.add_zero]
   · have lf:i<n:=by omega
     have b:=DV hx (hp i lf)
     have e1:=yT (l.g n).worker (show i<l.length by omega)
     have ih:=DY hl hn hx hp k (i+1) (by omega)
     have e2:qf (l.g n).worker l (i+1)=bif decide ((l.g i).worker=(l.g n).worker) then (i:Int) else qf (l.g n).worker l i:=rfl
     rw[decide_eq_true (show (i:Int)<n by omega)]
     rcases ih with ih | ih
     · rw[if_neg (by omega),e1,e2] at ih
       cases hq:decide ((l.g i).worker=(l.g n).worker) with
       | true=>
         rw[hq] at ih
         simp only[cond_true,Bool.not_true,cond_false] at ih ⊢
         rw[wrap_i64 (by omega) (by omega),←ih]
         rw[K7]
         congr 1
         show j3 (l.g n) (oT (l.g n).worker (l.take i))+0+ta (l.g n) (l.g i)=j3 (l.g n) (oT (l.g n).worker (l.take i))+(ta (l.g n) (l.g i)+0)+0
         omega
       | false=>
         rw[hq] at ih
         simp only[cond_false,Bool.not_false,cond_true] at ih ⊢
         exact ih
     · omega
theorem Iv {l:List aO} {n:Nat} (hl:l.length≤1000) (hn:n<l.length) (hx:Ok (l.g n)) (hp:∀j,j<n→Ok (l.g j)):
 bj l (n:Int) (n+1) 0 (-1) 0=(qf (l.g n).worker l n,j3 (l.g n) (oT (l.g n).worker (l.take n))+ta (l.g n) (l.g n)):=by
 rcases DY hl hn hx hp (n+1) 0 (by omega) with h | h
 · rw[if_neg (by omega)] at h
   exact h
 · omega
theorem ux (t:aK) (a:List aO) (x:aO):bF (st t a x)=(ax t x.ab (IntKind.i64.wrap (x.leave - x.aP))).2:=rfl
theorem AD (t:aK) (a:List aO) (x:aO):bu (st t a x)=decide ((ax t x.ab (IntKind.i64.wrap (x.leave - x.aP))).1.out≤IntKind.i64.wrap (x.out - x.leave)):=rfl
theorem pU (t:aK) (a:List aO) (x:aO):bq (st t a x)=bif decide (x.aP<x.leave) then decide (x.leave≤x.out) else false:=rfl
theorem rz (t:aK) (a:List aO) (x:aO):cd (st t a x)=bif decide (((a.length:Nat):Int)=0) then true else decide (t.rest≤IntKind.i64.wrap (x.aP -(a.g (a.length - 1)).out)):=rfl
theorem FL {l:List aO} {w:List UInt8} {n:Nat} (hn:n≤l.length) (hp:∀j,j<n→Ok (l.g j)):∀d∈oT w (l.take n),Ok d:=fun d hd=>by
 have hd:=(List.mem_filter.1 hd).1
 obtain ⟨j,hj,rfl⟩:=List.mem_iff_getElem.1 hd
 have QH:j<n:=by rw[List.length_take] at hj;omega
 have:=hp j QH
 rw[List.g,List.getD_eq_getElem?_getD,List.getElem?_eq_getElem (by omega)] at this
 rw[List.getElem_take];exact this
theorem Ha (l:List aO) (w:List UInt8):(oT w l).length≤l.length:=List.length_filter_le _ _
theorem yV (t:aK) (ho:∀j,j<t.rows.length→0≤(t.rows.g j).out) {l:List aO} {n:Nat} (hl:l.length≤1000) (hn:n<l.length) (hp:∀j,j≤n→Ok (l.g j)):
 c9 (st t (oT (l.g n).worker (l.take n)) (l.g n))=cX t l (n:Int):=by
 have hx:=hp n (Nat.le_refl _)
 have Oh:∀j,j<n→Ok (l.g j):=fun j hj=>hp j (by omega)
 have mV:=FL (w:=(l.g n).worker) (by omega) Oh
 have hlen:=Ha (l.take n) (l.g n).worker
 rw[List.length_take] at hlen
 unfold c9 cX
 rw[show Int.toNat (n:Int)=n from rfl,show Int.toNat ((n:Int)+1)=n+1 from rfl,Iv hl hn hx Oh,yU t hx mV (by omega),ux,AD,pU,rz]
 simp only
 by_cases a1:(l.g n).leave≤(l.g n).aP
 · rw[decide_eq_true a1,decide_eq_false (show ¬(l.g n).aP<(l.g n).leave by omega)];rfl
 rw[decide_eq_false a1,decide_eq_true (show (l.g n).aP<(l.g n).leave by omega)]
 by_cases a2:(l.g n).out<(l.g n).leave
 · rw[decide_eq_true a2,decide_eq_false (show ¬(l.g n).leave≤(l.g n).out by omega)];rfl
 rw[decide_eq_false a2,decide_eq_true (show (l.g n).leave≤(l.g n).out by omega)]
 rcases vz t (l.g n).ab (IntKind.i64.wrap ((l.g n).leave -(l.g n).aP)) ho with ⟨h1,h2⟩ | ⟨h1,h2,h3⟩
 · rw[h1,h2];rfl
 rw[h1,h2,decide_eq_false (show ¬aA t (l.g n).ab (IntKind.i64.wrap ((l.g n).leave -(l.g n).aP))<0 by omega)]
 by_cases a3:IntKind.i64.wrap ((l.g n).out -(l.g n).leave)<aA t (l.g n).ab (IntKind.i64.wrap ((l.g n).leave -(l.g n).aP))
 · rw[decide_eq_true a3,decide_eq_false (show ¬_ by omega)];rfl
 rw[decide_eq_false a3,decide_eq_true (show aA t (l.g n).ab (IntKind.i64.wrap ((l.g n).leave -(l.g n).aP))≤IntKind.i64.wrap ((l.g n).out -(l.g n).leave) by omega)]
 have day:decide (t.day<j3 (l.g n) (oT (l.g n).worker (List.take n l))+ta (l.g n) (l.g n))= !decide (ta (l.g n) (l.g n)+j3 (l.g n) (oT (l.g n).worker (List.take n l))≤t.day):=by
  rw[G8,Int.add_comm]
 rw[day]
 rcases DX (w:=(l.g n).worker) (l:=l) (n:=n) (by omega) with ⟨b1,b2⟩ | ⟨b1,b2,b3⟩
 · rw[b1,b2]
   cases decide (ta (l.g n) (l.g n)+j3 (l.g n) []≤t.day)<;>rfl
 · rw[decide_eq_true b2,b3,decide_eq_false (show ¬(((oT (l.g n).worker (List.take n l)).length:Nat):Int)=0 from fun e=>b1 (List.length_eq_zero_iff.1 (by omega)))]
   by_cases a4:IntKind.i64.wrap ((l.g n).aP -(l.g (Int.toNat (qf (l.g n).worker l n))).out)<t.rest
   · rw[decide_eq_true a4,decide_eq_false (show ¬_ by omega)];rfl
   · rw[decide_eq_false a4,decide_eq_true (show t.rest≤IntKind.i64.wrap ((l.g n).aP -(l.g (Int.toNat (qf (l.g n).worker l n))).out) by omega)]
     cases decide (ta (l.g n) (l.g n)+j3 (l.g n) (oT (l.g n).worker (List.take n l))≤t.day)<;>rfl
structure uy (t:aK) (l:List aO):Prop where
 UH:ay t=0
 len:l.length≤128
 ok:∀j,j<l.length→0≤(l.g j).aP∧(l.g j).aP≤100000∧0≤(l.g j).leave∧(l.g j).leave≤100000∧0≤(l.g j).out∧(l.g j).out≤100000
theorem Hb {f:Nat→Int}:∀{k i:Nat},(fe (fun j=>er (f j)) k i).getD 0=0→∀j,i≤j→j<i+k→f j=0
 | 0,i,_,j,h1,h2=>by omega
 | k+1,i,h,j,h1,h2=>by
   rw[fe,er] at h
   by_cases q:f i=0
   · rw[decide_eq_true q] at h
     by_cases e:j=i
     · rw[e];exact q
     · exact Hb (k:=k) (i:=i+1) h j (by omega) (by omega)
   · rw[decide_eq_false q] at h;exact absurd h q
theorem B1 {a:List aO} {d:aO} (h:cb a d=0):0≤d.aP∧d.aP≤100000∧0≤d.leave∧d.leave≤100000∧0≤d.out∧d.out≤100000:=by
 unfold cb at h
 rw[hZ,hZ,hZ,hZ] at h
 cases q1:fO d.worker with
 | false=>rw[q1] at h;cases h
 | true=>
 cases q2:aF d.ab with
 | false=>rw[q1,q2] at h;cases h
 | true=>
 cases q3:aF d.aP with
 | false=>rw[q1,q2,q3] at h;cases h
 | true=>
 cases q4:aF d.leave with
 | false=>rw[q1,q2,q3,q4] at h;cases h
 | true=>
 cases q5:aF d.out with
 | false=>rw[q1,q2,q3,q4,q5] at h;cases h
 | true=>
 have a1:=rv q3;have a2:=rv q4;have a3:=rv q5
 exact ⟨a1.1,a1.2,a2.1,a2.2,a3.1,a3.2⟩
theorem uy.of {t:aK} {l:List aO} (h:bU t l=0):uy t l:=by
 have len:=lF h
 unfold bU at h
 rw[lR] at h
 by_cases q:ay t=0
 · rw[decide_eq_true q] at h
   refine ⟨q,len,fun j hj=>?_⟩
   unfold cV at h
   rw[ry,decide_eq_false (show ¬(128:Int)<((l.length:Nat):Int) by omega)] at h
   have h2:(fe (fun j=>er (cb (l.take j) (l.g j))) l.length 0).getD 0=0:=by rw[←OS];exact h
   exact B1 (Hb (f:=fun j=>cb (l.take j) (l.g j)) h2 j (by omega) (by omega))
 · rw[decide_eq_false q] at h;exact absurd h q
theorem uy.Ok {t:aK} {l:List aO} (s:uy t l):∀j,j<l.length→bt.Ok (l.g j):=fun j hj=>by
 have:=s.ok j hj
 exact ⟨by omega,by omega,by omega,by omega,by omega,by omega⟩
theorem uz {t:aK} {l:List aO} (s:uy t l):∀(k i:Nat) (v:List Int),i+k=l.length→g9 t l k i v=cR t l k i v
 | 0,_,_,_=>rfl
 | k+1,i,v,h=>by
   rw[g9,cR,yS,uz s k (i+1) _ (by omega)]
   congr 3
   exact yV t (fun j hj=>(xb s.UH j hj).1) (by have:=s.len;omega) (by omega) fun j hj=>s.Ok j (by omega)
theorem AE (t:aK) (l:List aO):bM t l=aC t l:=by
 rw[wy]
 unfold bM
 by_cases h:bU t l=0
 · rw[decide_eq_true h]
   simp only[Bool.not_true,cond_false]
   rw[uz (uy.of h) _ 0 _ (by omega)]
 · rw[decide_eq_false h];rfl
noncomputable def uA:Code:=(Tryz.f34.body).getD .skip
theorem Iw:Tryz.f34.body=some uA:=by kernel_rfl
def aN (aP:Int) (worker:List UInt8) (ab:Int) (ae:Int) (row:bK):aO:=(⟨worker,ab,aP,(IntKind.i64.wrap (aP+ae)),(IntKind.i64.wrap ((IntKind.i64.wrap (aP+ae))+row.out))⟩:aO)
theorem oU {d:Nat} {h:ar} (aP:Int) (worker:List UInt8) (kW:Nat) (ab:Int) (eO:Nat) (ae:Int) (fM:Nat) (row:bK) (yW:Nat) (bf:worker.length<2^60) (yX:h.get kW=some (aH.cells [(AV.str worker)] 9 false)) (lz:h.get eO=some (aH.cells [(AV.int .i64 ab)] 3 false)) (mN:h.get fM=some (aH.cells [(AV.int .i64 ae)] 3 false)) (To:aD.ok h row) (K_:h.get yW=some (.cells (aD.c row) 67 false)) (b4:Tidy h):eD (d+1) (.fn 34) [(AV.int .i64 aP),(AV.ptr kW 0),(AV.ptr eO 0),(AV.ptr fM 0),(AV.ptr yW 0)] h= .ret (AV.agg [(AV.str ((aN aP worker ab ae row).worker)),(AV.int .i64 ((aN aP worker ab ae row).ab)),(AV.int .i64 ((aN aP worker ab ae row).aP)),(AV.int .i64 ((aN aP worker ab ae row).leave)),(AV.int .i64 ((aN aP worker ab ae row).out))]) h:=by
 obtain ⟨h1,bm,aL,cu,aE,bh⟩:=cj b4 (aH.cells [(AV.str []),(AV.int .i64 0),(AV.int .i64 0),(AV.int .i64 0),(AV.int .i64 0)] 37 false)
 have aG:Has h h1:=bh
 obtain ⟨h2,Wx,dH,lj,cM,Tp⟩:=dW (t:=37) (n:=5) (i:=h.nx) (L:=[(AV.str worker),(AV.int .i64 ab),(AV.int .i64 aP),(AV.int .i64 (IntKind.i64.wrap (aP+ae))),(AV.int .i64 (IntKind.i64.wrap ((IntKind.i64.wrap (aP+ae))+row.out)))]) aL aE k! rfl rfl (by simp only[AV.cells,List.all_cons,List.all_nil,Bool.and_true,Bool.and_self,bP,bB,bQ,bR,bl,cm,cn,cq,cr,ct,bS])
 have cB:Has h h2:=Has.aU aG Tp b4 o!
 have ev:=pk (d) uA ((AV.int .i64 aP)::(AV.ptr kW 0)::(AV.ptr eO 0)::(AV.ptr fM 0)::(AV.ptr yW 0)::cz 15) h .ret h2 (NN bm (fun i=>(AV.ptr i 0))<|MM (aw 9 0 (AV.str worker) (bh _ _ yX) k!)<|MM (aw 3 0 (AV.int .i64 ab) (bh _ _ lz) k!)<|CN 2<|MM (aw 3 0 (AV.int .i64 ae) (bh _ _ mN) k!)<|CN 2<|MM (aw 3 0 (AV.int .i64 ae) (bh _ _ mN) k!)<|CN 2<|MM (aw 3 2 (AV.int .i64 row.out) (bh _ _ K_) k!)<|CN 2<|SS Wx<|ZZ) k!
 have e:aN aP worker ab ae row=(⟨worker,ab,aP,(IntKind.i64.wrap (aP+ae)),(IntKind.i64.wrap ((IntKind.i64.wrap (aP+ae))+row.out))⟩:aO):=by simp only[aN,cond_true,cond_false]
 rw[e]
 exact az rfl (DD (a:=6) (t:=37) (i:=h.nx) Tryz.func34 Iw k! (.inr rfl) ev k! (dE cM k!)) cB rfl
noncomputable def uB:Code:=(Tryz.f36.body).getD .skip
theorem Ix:Tryz.f36.body=some uB:=by kernel_rfl
def br (later:Int) (t:aK) (ahead:List aO) (ready:Int) (worker:List UInt8) (ab:Int) (ae:Int) (row:bK):Bool:=(decide ((c9 (⟨.aI,t.rows,t.rest,t.day,.aI,ahead,((aN (IntKind.i64.wrap (ready+later)) worker ab ae row).worker),((aN (IntKind.i64.wrap (ready+later)) worker ab ae row).ab),((aN (IntKind.i64.wrap (ready+later)) worker ab ae row).aP),((aN (IntKind.i64.wrap (ready+later)) worker ab ae row).leave),((aN (IntKind.i64.wrap (ready+later)) worker ab ae row).out)⟩:fj))=0))
theorem rX {d:Nat} {h:ar} {aB:AV} (later:Int) (t:aK) (tB:Nat) (ahead:List aO) (FN:Nat) (QI:Nat) (ready:Int) (FP:Nat) (worker:List UInt8) (kW:Nat) (ab:Int) (eO:Nat) (ae:Int) (fM:Nat) (row:bK) (yW:Nat) (b8:aD.ok h t) (Wy:h.get tB=some (.cells (aD.c t) 24 false)) (iC:bD h aB ahead) (B2:h.get FN=some (aH.cells [aB] 25 false)) (OU:h.get QI=some (aH.cells [(AV.func 34 [] [(AV.ptr kW 0),(AV.ptr eO 0),(AV.ptr fM 0),(AV.ptr yW 0)])] 89 false)) (Hc:h.get FP=some (aH.cells [(AV.int .i64 ready)] 3 false)) (bf:worker.length<2^60) (yX:h.get kW=some (aH.cells [(AV.str worker)] 9 false)) (lz:h.get eO=some (aH.cells [(AV.int .i64 ab)] 3 false)) (mN:h.get fM=some (aH.cells [(AV.int .i64 ae)] 3 false)) (To:aD.ok h row) (K_:h.get yW=some (.cells (aD.c row) 67 false)) (b4:Tidy h):eD (d+7) (.fn 36) [(AV.int .i64 later),(AV.ptr tB 0),(AV.ptr FN 0),(AV.ptr QI 0),(AV.ptr FP 0)] h= .ret (AV.bool (br later t ahead ready worker ab ae row)) h:=by
 have Im:=iC.small
 have k1:=oU (d:=d+5) (IntKind.i64.wrap (ready+later)) worker kW ab eO ae fM row yW bf yX lz mN trivial K_ b4
 have Za:aD.ok h (aN (IntKind.i64.wrap (ready+later)) worker ab ae row):=bf
 have Zb:uO env 84 [(0,(AV.agg [t.ak,(AV.int .i64 t.rest),(AV.int .i64 t.day)])),(1,aB),(2,(AV.agg [(AV.str ((aN (IntKind.i64.wrap (ready+later)) worker ab ae row).worker)),(AV.int .i64 ((aN (IntKind.i64.wrap (ready+later)) worker ab ae row).ab)),(AV.int .i64 ((aN (IntKind.i64.wrap (ready+later)) worker ab ae row).aP)),(AV.int .i64 ((aN (IntKind.i64.wrap (ready+later)) worker ab ae row).leave)),(AV.int .i64 ((aN (IntKind.i64.wrap (ready+later)) worker ab ae row).out))]))]=some (AV.agg [t.ak,(AV.int .i64 t.rest),(AV.int .i64 t.day),aB,(AV.str ((aN (IntKind.i64.wrap (ready+later)) worker ab ae row).worker)),(AV.int .i64 ((aN (IntKind.i64.wrap (ready+later)) worker ab ae row).ab)),(AV.int .i64 ((aN (IntKind.i64.wrap (ready+later)) worker ab ae row).aP)),(AV.int .i64 ((aN (IntKind.i64.wrap (ready+later)) worker ab ae row).leave)),(AV.int .i64 ((aN (IntKind.i64.wrap (ready+later)) worker ab ae row).out))]):=by rcases iC.known with e_ | e_ | ⟨_,_,_,_,_,e_,_⟩<;>rw[e_]<;>kernel_rfl
 have k4:(eD (d+6)) (.fn 30) [(AV.agg [t.ak,(AV.int .i64 t.rest),(AV.int .i64 t.day),aB,(AV.str ((aN (IntKind.i64.wrap (ready+later)) worker ab ae row).worker)),(AV.int .i64 ((aN (IntKind.i64.wrap (ready+later)) worker ab ae row).ab)),(AV.int .i64 ((aN (IntKind.i64.wrap (ready+later)) worker ab ae row).aP)),(AV.int .i64 ((aN (IntKind.i64.wrap (ready+later)) worker ab ae row).leave)),(AV.int .i64 ((aN (IntKind.i64.wrap (ready+later)) worker ab ae row).out))])] h= .ret (AV.int .u8 (c9 (⟨.aI,t.rows,t.rest,t.day,.aI,ahead,((aN (IntKind.i64.wrap (ready+later)) worker ab ae row).worker),((aN (IntKind.i64.wrap (ready+later)) worker ab ae row).ab),((aN (IntKind.i64.wrap (ready+later)) worker ab ae row).aP),((aN (IntKind.i64.wrap (ready+later)) worker ab ae row).leave),((aN (IntKind.i64.wrap (ready+later)) worker ab ae row).out)⟩:fj))) h:=by have q_:=Aw (d:=d) (⟨t.ak,t.rows,t.rest,t.day,aB,ahead,((aN (IntKind.i64.wrap (ready+later)) worker ab ae row).worker),((aN (IntKind.i64.wrap (ready+later)) worker ab ae row).ab),((aN (IntKind.i64.wrap (ready+later)) worker ab ae row).aP),((aN (IntKind.i64.wrap (ready+later)) worker ab ae row).leave),((aN (IntKind.i64.wrap (ready+later)) worker ab ae row).out)⟩:fj) ⟨b8,iC,Za⟩ b4;rw[Ax] at q_;exact q_
 have c5:AV.same 20 (AV.agg [t.ak,(AV.int .i64 t.rest),(AV.int .i64 t.day)]) (AV.agg [t.ak,(AV.int .i64 t.rest),(AV.int .i64 t.day)])=true:=fq 18 (kz b8.same (kz (fun n=>aQ n _ _) (kz (fun n=>aQ n _ _) Dz)))
 have c6:AV.same 20 aB aB=true:=iC.same 19
 have c7:AV.same 20 (AV.func 34 [] [(AV.ptr kW 0),(AV.ptr eO 0),(AV.ptr fM 0),(AV.ptr yW 0)]) (AV.func 34 [] [(AV.ptr kW 0),(AV.ptr eO 0),(AV.ptr fM 0),(AV.ptr yW 0)])=true:=(by simp [AV.same,dU])
 have ev:=pk (d+6) uB ((AV.int .i64 later)::(AV.ptr tB 0)::(AV.ptr FN 0)::(AV.ptr QI 0)::(AV.ptr FP 0)::cz 12) h .ret h (CC<|MM (aw 24 0 (AV.agg [t.ak,(AV.int .i64 t.rest),(AV.int .i64 t.day)]) Wy k!)<|MM (aw 25 0 aB B2 k!)<|MM (aw 89 0 (AV.func 34 [] [(AV.ptr kW 0),(AV.ptr eO 0),(AV.ptr fM 0),(AV.ptr yW 0)]) OU k!)<|MM (aw 3 0 (AV.int .i64 ready) Hc k!)<|CN 2<|EE k1<|QQ Zb<|EE k4<|VV (dC 81 false true .u8 (c9 (⟨.aI,t.rows,t.rest,t.day,.aI,ahead,((aN (IntKind.i64.wrap (ready+later)) worker ab ae row).worker),((aN (IntKind.i64.wrap (ready+later)) worker ab ae row).ab),((aN (IntKind.i64.wrap (ready+later)) worker ab ae row).aP),((aN (IntKind.i64.wrap (ready+later)) worker ab ae row).leave),((aN (IntKind.i64.wrap (ready+later)) worker ab ae row).out)⟩:fj)) 0)<|CC<|HH (aw 24 0 (AV.agg [t.ak,(AV.int .i64 t.rest),(AV.int .i64 t.day)]) Wy k!)<|HH c5<|HH (aw 24 0 (AV.agg [t.ak,(AV.int .i64 t.rest),(AV.int .i64 t.day)]) Wy k!)<|HH c5<|HH (aw 25 0 aB B2 k!)<|HH c6<|HH (aw 25 0 aB B2 k!)<|HH c6<|HH (aw 89 0 (AV.func 34 [] [(AV.ptr kW 0),(AV.ptr eO 0),(AV.ptr fM 0),(AV.ptr yW 0)]) OU k!)<|HH c7<|HH (aw 3 0 (AV.int .i64 ready) Hc k!)<|HH (show AV.same 20 (AV.int .i64 ready) (AV.int .i64 ready)=true from aQ 19 _ _)<|ZZ) k!
 have e:br later t ahead ready worker ab ae row=(decide ((c9 (⟨.aI,t.rows,t.rest,t.day,.aI,ahead,((aN (IntKind.i64.wrap (ready+later)) worker ab ae row).worker),((aN (IntKind.i64.wrap (ready+later)) worker ab ae row).ab),((aN (IntKind.i64.wrap (ready+later)) worker ab ae row).aP),((aN (IntKind.i64.wrap (ready+later)) worker ab ae row).leave),((aN (IntKind.i64.wrap (ready+later)) worker ab ae row).out)⟩:fj))=0)):=by simp only[br,cond_true,cond_false]
 rw[e]
 exact az rfl (bz Tryz.func36 Ix k! (.inr rfl) ev k!) (Has.refl _) rfl
noncomputable def oq:Code:=(Tryz.f35.body).getD .skip
theorem FQ:Tryz.f35.body=some oq:=by kernel_rfl
noncomputable def kX:Code:=(dD oq).getD 0 .skip
def fB (P:Int→Bool):Nat→Int→Int→Int
 | 0,cY,cQ=>cY
 | eG+1,cY,cQ=>(bif (decide (cY<cQ)) then (bif (!(P (IntKind.i64.wrap (pK (IntKind.u64.wrap (cY+cQ)))))) then fB P eG ((IntKind.i64.wrap (pK (IntKind.u64.wrap (cY+cQ))))+1) cQ else fB P eG cY (IntKind.i64.wrap (pK (IntKind.u64.wrap (cY+cQ))))) else cY)
theorem ot {d:Nat} {h:ar} (g:FuncId) (cap:List AV) (P:Int→Bool) (n:Int) (hP:∀y hh,Tidy hh→Has h hh→eD d (.fn g) (.int .i64 y::cap) hh= .ret (.bool (P y)) hh) (vw:0≤n) (Ip:n≤100001) (Tq:n≤100001):∀(k_:Nat) (cY:Int) (cQ:Int) (_:(cQ - cY≤(k_:Int))) (_:((0≤cY∧cY≤100001)∧(cY≤cQ∧cQ≤100001))) (x:Nat→AV) (hh:ar) (bb:Tidy hh) (aR:Has h hh),dm (eD (d)) kX ⟨((x 0)::(AV.func g [] cap)::rx x 2 3 ((AV.int .i64 cY)::(AV.int .i64 cQ)::rx x 7 19 [])),hh,[],.no⟩ (.exit 0) hh (fun r y=>((y 0)::(AV.func g [] cap)::rx y 2 3 ((AV.int .i64 r)::rx y 6 20 []))) (fun r=>(0≤r∧r≤100001)) (fB P k_ cY cQ)
 | 0,cY,cQ,qo,KY,x,hh,bb,aR=>by
   have q1:(decide (cY<cQ))=false:=d!
   have ev:=pk (d) kX ((x 0)::(AV.func g [] cap)::rx x 2 3 ((AV.int .i64 cY)::(AV.int .i64 cQ)::rx x 7 19 [])) hh (.exit 0) hh (CN 2<|VV (bT 3 false false .i64 cY cQ)<|BB q1<|ZZ) k!
   exact dm.out cY rfl ev (cG.refl bb) (show (0≤cY∧cY≤100001) from by omega) k!
 | eG+1,cY,cQ,qo,KY,x,hh,bb,aR=>by
   rcases Bool.eq_false_or_eq_true (decide (cY<cQ)) with f0 | f0
   · have fH:=of_decide_eq_true f0
     have NT:=OG (i:=cY) (j:=cQ) o! o! o!
     obtain ⟨UI,UJ,UK⟩:=NT
     rcases Bool.eq_false_or_eq_true (!(P (IntKind.i64.wrap (pK (IntKind.u64.wrap (cY+cQ)))))) with f1 | f1
     · have w2:IntKind.i64.wrap (cY+cQ)=cY+cQ:=wrap_i64 o! o!
       have k3:=hP (IntKind.i64.wrap (pK (IntKind.u64.wrap (cY+cQ)))) hh bb aR
       have w5:IntKind.i64.wrap ((IntKind.i64.wrap (pK (IntKind.u64.wrap (cY+cQ))))+1)=(IntKind.i64.wrap (pK (IntKind.u64.wrap (cY+cQ))))+1:=wrap_i64 o! o!
       have ev:=pk (d) kX ((x 0)::(AV.func g [] cap)::rx x 2 3 ((AV.int .i64 cY)::(AV.int .i64 cQ)::rx x 7 19 [])) hh .normal hh (CN 2<|VV (bT 3 false false .i64 cY cQ)<|BB f0<|CN 2<|VV (nK 3 false false w2)<|CN 6<|EE k3<|CC<|BB f1<|CC<|VV (nK 3 false true w5)<|CC<|ZZ) k!
       exact dm.round (by simp only[fB,f0,f1,cond_true,cond_false]) ev (cG.refl bb) (fun x=>((x 0)::(AV.func g [] cap)::rx x 2 3 ((AV.int .i64 ((IntKind.i64.wrap (pK (IntKind.u64.wrap (cY+cQ))))+1))::(AV.int .i64 cQ)::rx x 7 19 []))) k! (fun x=>ot g cap P n hP vw Ip Tq eG ((IntKind.i64.wrap (pK (IntKind.u64.wrap (cY+cQ))))+1) cQ o! (show ((0≤((IntKind.i64.wrap (pK (IntKind.u64.wrap (cY+cQ))))+1)∧((IntKind.i64.wrap (pK (IntKind.u64.wrap (cY+cQ))))+1)≤100001)∧(((IntKind.i64.wrap (pK (IntKind.u64.wrap (cY+cQ))))+1)≤cQ∧cQ≤100001)) from by omega) x hh bb aR)
     · have w2:IntKind.i64.wrap (cY+cQ)=cY+cQ:=wrap_i64 o! o!
       have k3:=hP (IntKind.i64.wrap (pK (IntKind.u64.wrap (cY+cQ)))) hh bb aR
       have ev:=pk (d) kX ((x 0)::(AV.func g [] cap)::rx x 2 3 ((AV.int .i64 cY)::(AV.int .i64 cQ)::rx x 7 19 [])) hh .normal hh (CN 2<|VV (bT 3 false false .i64 cY cQ)<|BB f0<|CN 2<|VV (nK 3 false false w2)<|CN 6<|EE k3<|CC<|BB f1<|CN 2<|ZZ) k!
       exact dm.round (by simp only[fB,f0,f1,cond_true,cond_false]) ev (cG.refl bb) (fun x=>((x 0)::(AV.func g [] cap)::rx x 2 3 ((AV.int .i64 cY)::(AV.int .i64 (IntKind.i64.wrap (pK (IntKind.u64.wrap (cY+cQ)))))::rx x 7 19 []))) k! (fun x=>ot g cap P n hP vw Ip Tq eG cY (IntKind.i64.wrap (pK (IntKind.u64.wrap (cY+cQ)))) o! (show ((0≤cY∧cY≤100001)∧(cY≤(IntKind.i64.wrap (pK (IntKind.u64.wrap (cY+cQ))))∧(IntKind.i64.wrap (pK (IntKind.u64.wrap (cY+cQ))))≤100001)) from by omega) x hh bb aR)
   · have fH:=of_decide_eq_false f0
     have ev:=pk (d) kX ((x 0)::(AV.func g [] cap)::rx x 2 3 ((AV.int .i64 cY)::(AV.int .i64 cQ)::rx x 7 19 [])) hh (.exit 0) hh (CN 2<|VV (bT 3 false false .i64 cY cQ)<|BB f0<|ZZ) k!
     exact dm.out cY (by simp only[fB,f0,cond_true,cond_false]) ev (cG.refl bb) (show (0≤cY∧cY≤100001) from by omega) k!
def bp (n:Int) (P:Int→Bool):Int:=(fB P (Int.toNat (n - 0)) 0 n)
theorem pV {d:Nat} {h:ar} {g:FuncId} {cap:List AV} (n:Int) (P:Int→Bool) (hP:∀y hh,Tidy hh→Has h hh→eD d (.fn g) (.int .i64 y::cap) hh= .ret (.bool (P y)) hh) (S':0≤n) (Wo:n≤100001) (b4:Tidy h):eD (d+1) (.fn 35) [(AV.int .i64 n),(AV.func g [] cap)] h= .ret (AV.int .i64 (bp n P)) h:=by
 obtain ⟨ZN,h2,QJ,QK,UL⟩:=ot (d:=d) (h:=h) g cap P n hP o! o! o! (Int.toNat (n - 0)) 0 n o! (show ((0≤0∧0≤100001)∧(0≤n∧n≤100001)) from by omega) (fun k_=>(((AV.int .i64 n)::(AV.func g [] cap)::AV.undef::AV.undef::(AV.int .i64 0)::(AV.int .i64 0)::(AV.int .i64 n)::AV.undef::(AV.int .i64 n)::cz 17):List AV).getD k_ AV.undef) h b4 (Has.refl _)
 have dH:=QK.y
 have Zc:h.nx≤h2.nx:=QK.n
 have cB:Has h h2:=QK.a
 have ev:=pk (d) oq ((AV.int .i64 n)::(AV.func g [] cap)::cz 24) h .ret h2 (CN 4<|LL QJ<|CN 2<|ZZ) k!
 have e:bp n P=(fB P (Int.toNat (n - 0)) 0 n):=by simp only[bp,cond_true,cond_false]
 rw[e]
 exact az rfl (bz Tryz.func35 FQ k! (.inr rfl) ev k!) cB rfl
end Go.Proofs.bt
