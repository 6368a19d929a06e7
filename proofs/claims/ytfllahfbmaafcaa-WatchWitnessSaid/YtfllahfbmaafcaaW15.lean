import Derived.Test.YtfllahfbmaafcaaW13
import Derived.Test.YtfllahfbmaafcaaW14
import Derived.Test.YtfllahfbmaafcaaW0
import Derived.Test.YtfllahfbmaafcaaA7
set_option linter.unusedVariables false
set_option linter.unusedSimpArgs false
namespace Go.Proofs.aG
open Go.Proofs Ab
noncomputable section
set_option maxRecDepth 100000
set_option maxHeartbeats 4000000
theorem Oy (c:List Gate) (l:List aK):∀(k i:Nat) (v:List Int),ey c l k i v=v++(List.range' i k).map fun j=>(nA c (l.g j).time).ay
 | 0,i,v=>by rw[ey];simp
 | k+1,i,v=>by rw[ey,Oy c l k (i+1),List.range'_succ,List.map_cons,List.append_assoc];rfl
theorem abP (c:List Gate) (l:List aK) {i:Nat} (hi:i<l.length):(dC c l).g i=(nA c (l.g i).time).ay:=by
 rw[dC,Oy,List.nil_append]
 show List.getD _ i default=_
 rw[List.getD_eq_getElem?_getD,List.getElem?_map,List.getElem?_range' o!]
 simp
theorem abQ (c:List Gate) (l:List aK):(dC c l).length=l.length:=by
 rw[dC,Dh,List.length_nil];omega
section
variable {q:aD} {l:List aK} (f:RF q l) {s:Nat} (hs:s<256) {t x:Int} (t0:0≤t) (t1:t≤100000) {w:List Gate} (e:cq q l [(⟨t,x,x⟩:Gate)] ((s:Nat):Int)=some w)
include f hs t0 t1 e
theorem HY:vX q l s∧LZ q l s t x:=by
 refine Classical.byContradiction fun c=>?_
 rw[(Dm f hs t0 t1).2 c] at e
 cases e
theorem UL {i:Nat} (hi:i<l.length):(nA w (l.g i).time).ay=HX q l s t x (l.g i).time:=by
 obtain ⟨hE,hV⟩:=HY f hs t0 t1 e
 have xb:=Dl f t0 t1 hV
 obtain ⟨_,g2,_⟩:=f.read i hi
 obtain ⟨m1,m2⟩:=(Dk f hs t0 t1 (show -1000000000000≤x by omega) (show x≤1000000000000 by omega)).2 w e
 obtain ⟨j0,j1,j2⟩:=m1 (dH q (l.g i) ((s:Nat):Int)) (by rw[pe];exact List.mem_append_right _ (List.mem_map.2 ⟨_,lW hi,rfl⟩))
 rw[Fz] at j2
 obtain ⟨j,e1,e2,e3⟩:=Mw (w:=w) (t:=(l.g i).time) ⟨j0,j1,j2⟩
 have h:=(uD f hs t0 t1 hE hV g2.1 g2.2).2.2 (w.g j).aw (w.g j).ar (by rw[←e3];exact m2 j e2)
 rw[nA,e1,Int.toNat_natCast]
 exact h
theorem YZ:∀(k i:Nat) (v:List bC),i+k=l.length→(∀p∈v,(0≤p.time∧p.time≤100000)∧p.aw≤HX q l s t x p.time∧HX q l s t x p.time≤p.ar∧-1000000000000≤p.aw∧p.ar≤1000000000000)→∃W,cZ l (dC w l) ((s:Nat):Int) q k i v=some W∧∀p∈W,(0≤p.time∧p.time≤100000)∧p.aw≤HX q l s t x p.time∧HX q l s t x p.time≤p.ar∧-1000000000000≤p.aw∧p.ar≤1000000000000
 | 0,i,v,_,h=>⟨v,by rw[cZ],h⟩
 | k+1,i,v,hk,h=>by
   have hi:i<l.length:=by omega
   obtain ⟨hE,hV⟩:=HY f hs t0 t1 e
   obtain ⟨⟨g1,g1'⟩,⟨g2,g3⟩,g4,g5⟩:=f.read i hi
   have hb:=f.bad
   have lo:=UL f hs t0 t1 e hi
   have aeF:=(uD f hs t0 t1 hE hV g2 g3).2.1
   have hv:LZ q l s (l.g i).time (HX q l s t x (l.g i).time):=fun c hc=>aeF c (.inl hc)
   have yb:=Dl f g2 g3 hv
   obtain ⟨w1,w2⟩:=qF (f.aL (l.g i).aL.toNat o!) g2 g3
   rw[cZ,abP w l hi,lo]
   have ih:=YZ k (i+1) (v++[(⟨(l.g i).time,HX q l s t x (l.g i).time,HX q l s t x (l.g i).time⟩:bC)]) o! (fun p hp=>by
    rcases List.mem_append.1 hp with hp | hp
    · exact h p hp
    · rw[List.mem_singleton.1 hp]
      exact ⟨⟨g2,g3⟩,Int.le_refl _,Int.le_refl _,by simp only;omega,by simp only;omega⟩)
   rw[decide_eq_false (show ¬HX q l s t x (l.g i).time< -4000000000 by omega),decide_eq_false (show ¬4000000000<HX q l s t x (l.g i).time by omega),aj,aj,LY hs g1 o!]
   cases eb:s.testBit (l.g i).aL.toNat with
   | true=>exact ih
   | false=>
     have c:=aeF _ (.inl (.inr ⟨i,hi,eb,rfl⟩))
     rw[eY,if_pos (show (Af q (l.g i)).time≤(l.g i).time from Int.le_refl _)] at c
     have z:(l.g i).time -(Af q (l.g i)).time=0:=by show (l.g i).time -(l.g i).time=0;omega
     rw[z,Int.mul_zero,Int.mul_zero] at c
     have c1:(Af q (l.g i)).aw=(l.g i).value - cn (q.aC.g (l.g i).aL.toNat) (l.g i).time:=rfl
     have c2:(Af q (l.g i)).ar=(l.g i).value+cn (q.aC.g (l.g i).aL.toNat) (l.g i).time:=rfl
     simp only[c1,c2] at c
     rw[wrap_i64 (n:=(l.g i).value - cn (q.aC.g (l.g i).aL.toNat) (l.g i).time) o! o!,wrap_i64 (n:=(l.g i).value+cn (q.aC.g (l.g i).aL.toNat) (l.g i).time) o! o!,decide_eq_false (show ¬HX q l s t x (l.g i).time<(l.g i).value - cn (q.aC.g (l.g i).aL.toNat) (l.g i).time by omega),decide_eq_false (show ¬(l.g i).value+cn (q.aC.g (l.g i).aL.toNat) (l.g i).time<HX q l s t x (l.g i).time by omega)]
     exact ih
end
theorem Oz {q:aD} {l:List aK} (f:RF q l) {t x:Int} (t0:0≤t) (t1:t≤100000) {y:Int×List Gate} (h:pg q l [(⟨t,x,x⟩:Gate)] (q.bad+1).toNat 0=some y):aR q l t x (dD y.1) (dC y.2 l)=true:=by
 have hp:=pH f.bad.2.2
 have b:=f.bad
 obtain ⟨j,_,j2,e1⟩:=HS _ _ _ _ _ h
 obtain ⟨s,h1,h2,h3,h4⟩:=Dn f e1
 have hs:s<256:=by omega
 obtain ⟨hE,hV⟩:=HY f hs t0 t1 h4
 have xb:=Dl f t0 t1 hV
 have len:(dD ((s:Nat):Int)).length=sz s:=by rw[On hs,List.length_map];rfl
 have fs:=f.start
 have s0:=(uD f hs t0 t1 hE hV (Int.le_refl 0) o!).2.1 (JK q) (.inl (.inl rfl))
 have st:=(uD f hs t0 t1 hE hV t0 t1).2.1 ⟨t,x,x⟩ (.inr rfl)
 rw[eY,if_pos (show (JK q).time≤0 from Int.le_refl _)] at s0
 rw[eY,if_pos (Int.le_refl _)] at st
 have z:(0:Int) -(JK q).time=0:=by show (0:Int) - 0=0;omega
 rw[z,Int.mul_zero,Int.mul_zero] at s0
 simp only[Int.sub_self,Int.mul_zero] at st
 have c1:(JK q).aw=q.ai:=rfl
 have c2:(JK q).ar=q.af:=rfl
 simp only[c1,c2] at s0
 obtain ⟨W,eW,hW⟩:=YZ f hs t0 t1 h4 l.length 0 [(⟨0,q.ai,q.af⟩:bC),(⟨t,x,x⟩:bC)] o! (fun p hp=>by
  rcases List.mem_cons.1 hp with rfl | hp
  · exact ⟨⟨Int.le_refl _,by simp only;omega⟩,by simp only;omega,by simp only;omega,by simp only;omega,by simp only;omega⟩
  · rw[List.mem_singleton.1 hp]
    exact ⟨⟨t0,t1⟩,by simp only;omega,by simp only;omega,by simp only;omega,by simp only;omega⟩)
 rw[aR,h3,len,decide_eq_false (show ¬q.bad<((sz s:Nat):Int) by omega),abQ,decide_eq_true rfl]
 have ex:=abL b.2.2 h1
 rw[len] at ex
 rw[ex]
 simp only[Bool.not_true,aj,eW]
 exact PW f hs t0 t1 hE hV hW
theorem t_ {l:List Span} {x:Int}:∀(k i:Nat),i+k=l.length→dh l x k i=some true→uT l x
 | 0,i,_,h=>by rw[dh] at h;cases h
 | k+1,i,e,h=>by
   rw[dh] at h
   by_cases e1:(l.g i).ay≤x
   · rw[decide_eq_true e1,ak] at h
     by_cases e2:x≤(l.g i).aq
     · exact ⟨_,lW o!,e1,e2⟩
     · rw[decide_eq_false e2,aj] at h;exact t_ k (i+1) o! h
   · rw[decide_eq_false e1,aj] at h;exact t_ k (i+1) o! h
theorem rU {l:List Span} {x:Int}:∀(k i:Nat) (r:Bool),dh l x k i=some r→r=true
 | 0,i,r,h=>by rw[dh] at h;cases h
 | k+1,i,r,h=>by
   rw[dh] at h
   cases a:decide ((l.g i).ay≤x) with
   | false=>rw[a,aj] at h;exact rU k (i+1) r h
   | true=>
     rw[a,ak] at h
     cases b:decide (x≤(l.g i).aq) with
     | false=>rw[b,aj] at h;exact rU k (i+1) r h
     | true=>rw[b,ak] at h;cases h;rfl
theorem Dw {l:List Span} {x:Int} (h:¬uT l x):eE l x=false:=by
 rw[eE]
 cases e:dh l x l.length 0 with
 | none=>rfl
 | some r=>
   have:=rU _ _ _ e
   subst this
   exact absurd (t_ _ _ o! e) h
theorem As (q:aD) (l:List aK) (t:Int):rR q l t=ab q l t:=by
 rw[rR,ab,bj,Aj,Hl]
 by_cases a:bx q l=0
 · rw[decide_eq_true a]
   cases b:fJ t with
   | false=>rfl
   | true=>
     obtain ⟨t0,t1⟩:=Hg b
     show (rP q l t,(0:Int))=(cC q l t,0)
     rw[Ap (NU a) t0 t1]
 · rw[decide_eq_false a]
   show (bif !decide (bx q l=0) then (([],bx q l):List Span×Int) else _)=_
   rw[decide_eq_false a];rfl
theorem UM {q:aD} {l:List aK} {t:Int} (a:bj q l t=0) (f:RF q l) (t0:0≤t) (t1:t≤100000) (ep:ab q l t=(cC q l t,0)):∀(k i:Nat),i+k=(cC q l t).length→hZ q l t k i=none
 | 0,i,_=>by rw[hZ]
 | k+1,i,h=>by
   have m:(cC q l t).g i∈cC q l t:=lW o!
   have ne:=(tw f t0 t1).1.some _ m
   have one:∀x,uT (cC q l t) x→(ae q l t x).2.2.2=0∧(ae q l t x).2.2.1=true∧aR q l t x (ae q l t x).1 (ae q l t x).2.1=true:=fun x hx=>by
    cases e:pg q l [(⟨t,x,x⟩:Gate)] (q.bad+1).toNat 0 with
    | none=>exact absurd hx ((MG f t0 t1).1 e)
    | some y=>
      have ew:ae q l t x=(dD y.1,dC y.2 l,true,0):=by rw[ae,decide_eq_true a,e];rfl
      rw[ew]
      exact ⟨rfl,rfl,Oz f t0 t1 e⟩
   rw[hZ,ep]
   obtain ⟨a1,a2,a3⟩:=one _ ⟨_,m,Int.le_refl _,ne⟩
   obtain ⟨b1,b2,b3⟩:=one _ ⟨_,m,ne,Int.le_refl _⟩
   simp only[a1,a2,a3,b1,b2,b3]
   exact UM a f t0 t1 ep k (i+1) o!
theorem UN (q:aD) (l:List aK) (t x:Int):fP q l t x=true:=by
 rw[fP]
 cases fm q l with
 | true=>rfl
 | false=>
   rw[aj]
   by_cases a:bj q l t=0
   · obtain ⟨f,t0,t1⟩:=Xv a
     have ep:ab q l t=(cC q l t,0):=by rw[←As,rR,decide_eq_true a,←Ap f t0 t1];rfl
     cases e:pg q l [(⟨t,x,x⟩:Gate)] (q.bad+1).toNat 0 with
     | none=>
       have ew:ae q l t x=([],[],false,0):=by rw[ae,decide_eq_true a,e];rfl
       rw[ew,ep,Dw ((MG f t0 t1).1 e)]
       rfl
     | some y=>
       have ew:ae q l t x=(dD y.1,dC y.2 l,true,0):=by rw[ae,decide_eq_true a,e];rfl
       have ins:uT (cC q l t) x:=by
        refine Classical.byContradiction fun c=>?_
        rw[(MG f t0 t1).2 c] at e
        cases e
       rw[ew,ep,PU ins,Oz f t0 t1 e]
       simp only[decide_true,Bool.not_true,aj,UM a f t0 t1 ep (cC q l t).length 0 o!]
   · have ew:ae q l t x=([],[],false,bj q l t):=by rw[ae,decide_eq_false a];rfl
     have ep:ab q l t=([],bj q l t):=by rw[←As,rR,decide_eq_false a];rfl
     rw[ew,ep,Dw (show ¬uT [] x from xO)]
     simp only[decide_true,Bool.not_true,aj,decide_eq_false a,Bool.not_false,ak]
     rfl
open Go.ChangeShapes Go.WideShapes Go.RowKit
structure Gx (φ φ':Ph) (h h':aA) (w:World):Prop where
 ok:OK env φ' h' w
 le:φ.le φ'
 ro:xq h'
 has:Has h h'
 nx:h.nx≤h'.nx
 tidy:Tidy h'
theorem Gx.refl {φ:Ph} {h:aA} {w:World} (ok:OK env φ h w) (ro:xq h) (y:Tidy h):Gx φ φ h h w:=⟨ok,Ph.le_refl _,ro,Has.refl _,Nat.le_refl _,y⟩
theorem Gx.trans {a b c:Ph} {h1 h2 h3:aA} {w:World} (x:Gx a b h1 h2 w) (y:Gx b c h2 h3 w):Gx a c h1 h3 w:=⟨y.ok,Ph.le_trans x.le y.le,y.ro,x.has.trans y.has,Nat.le_trans x.nx y.nx,y.tidy⟩
section
variable {H:Type} (enc:TypeId×Value→H) (w:World) (base:Nat) (spare:Nat→Bool) (held:Bool)
def Small (t:TypeId) (d:DataW H):Prop:=(DataW.weights env.P t d).all (· ≤reachBytes)=true
theorem Small.all {e:TypeId}:∀{l:List (DataW H)},(DataW.weightsAll env.P e l).all (· ≤reachBytes)=true→∀d∈l,Small e d
 | [],_,d,hd=>by cases hd
 | x::l,h,d,hd=>by
   rw[DataW.weightsAll,List.all_append,Bool.and_eq_true] at h
   rcases List.mem_cons.1 hd with rfl | hd
   · exact h.1
   · exact Small.all h.2 d hd
theorem Small.struct {t:TypeId} {fs:Array Field} {parts:List (DataW H)} (ht:env.P.underlying t=some (.struct fs)) (h:Small t (.agg parts)):(DataW.weightsEach env.P (fs.toList.map (·.type)) parts).all (· ≤reachBytes)=true:=by
 unfold Small at h
 rw[DataW.weights,ht] at h
 exact h
theorem Small.cu {t:TypeId} {ts:List TypeId} {d:DataW H} {ds:List (DataW H)} (h:(DataW.weightsEach env.P (t::ts) (d::ds)).all (· ≤reachBytes)=true):Small t d∧(DataW.weightsEach env.P ts ds).all (· ≤reachBytes)=true:=by
 rw[DataW.weightsEach,List.all_append,Bool.and_eq_true] at h
 exact h
theorem OA {n:Nat} (h:n≤reachBytes):n<2^60:=Nat.lt_of_le_of_lt h (by unfold reachBytes;decide)
def vp {D:Type} (t:TypeId) (sz:Nat) (c:D→List AV) (ok:aA→D→Prop):Prop:=
 ∀(φ:Ph) (h:aA),OK env φ h w→xq h→Tidy h→∀(cs:List Value) (y:DataW H×List MemPlace) (n:Nat),cs.length=sz→Small t y.1→DataW.trod enc env.P w base spare held n t cs=some y→
  ∃φ' h' x,Gx φ φ' h h' w∧LR φ' (c x) cs∧ok h' x
variable {enc w base spare held}
theorem gv {k:IntKind} {t:TypeId} (ht:env.P.underlying t=some (.int k)):vp enc w base spare held t 1 (fun x:Int=> [.int k x]) (fun _ _=>True):=fun φ h ok ro y cs z n _ hw hv=>by
 obtain ⟨m,rfl,_,_⟩:=DataW.trod_int ht hv
 exact ⟨φ,h,m,Gx.refl ok ro y,LR.cons (VR.int k m) (LR.nil _),trivial⟩
theorem FD {t:TypeId} (ht:env.P.underlying t=some .string):vp enc w base spare held t 1 (fun x:List UInt8=> [.str x]) (fun _ x=>x.length<2^60):=fun φ h ok ro y cs z n _ hw hv=>by
 obtain ⟨s,rfl,rfl,hs⟩:=DataW.trod_string ht hv
 refine ⟨φ,h,s.data.toList,Gx.refl ok ro y,LR.cons (VR.str s) (LR.nil _),?_⟩
 unfold Small at hw
 rw[DataW.weights,List.all_cons,Bool.and_eq_true] at hw
 exact OA (of_decide_eq_true hw.1)
theorem Au {α:Type} [aF α] {t:TypeId} (ht:env.P.underlying t=some (.slice (aF.e α))) (hs:env.P.cellsOf (aF.e α)=aF.n α) (hby:0<env.P.bytesOf (aF.e α)) (hm:∀(h:aA) (x:α) m,aF.ok h x→AV.map m ∉ aF.c x)
 (he:vp enc w base spare held (aF.e α) (aF.n α) (aF.c (α:=α)) aF.ok):vp enc w base spare held t 1 (fun x:AV×List α=> [x.1]) (fun h x=>aY h x.1 x.2):=fun φ h ok ro y cs z fuel _ hw hv=>by
 have U3:=aF.pos (α:=α)
 rcases DataW.trod_slice ht hv with ⟨rfl,_⟩ | ⟨a,len,cap,elems,rest,n,_,rfl,rfl,hb,hlc,hcm,ahi,gL,_,_⟩
 · exact ⟨φ,h,(.aP,[]),Gx.refl ok ro y,LR.cons VR.aP (LR.nil _),⟨aF.size,(Nat.zero_mul _).symm,Nat.pow_pos (by decide),rfl,.inl rfl⟩,.inl rfl,fun x hx=>by cases hx⟩
 rcases Nat.eq_zero_or_pos len with h0 | h0
 · subst h0
   exact ⟨φ,h,(.ff,[]),Gx.refl ok ro y,LR.cons (VR.ff a cap) (LR.nil _),⟨aF.size,(Nat.zero_mul _).symm,Nat.pow_pos (by decide),rfl,.inl rfl⟩,.inr (.inl rfl),fun x hx=>by cases hx⟩
 have Dz:len<2^60∧(DataW.weightsAll env.P (aF.e α) (elems.map (·.1))).all (· ≤reachBytes)=true:=by
  unfold Small at hw
  rw[DataW.weights,ht] at hw
  simp only[List.all_cons,List.all_append,Bool.and_eq_true,List.length_map] at hw
  refine ⟨OA (Nat.le_trans ?_ (of_decide_eq_true hw.1)),hw.2.1⟩
  rw[ahi]
  exact Nat.le_trans (Nat.le_add_right _ _) (Nat.le_mul_of_pos_right _ hby)
 have all:∀m,m≤len→∃(φ':Ph) (h':aA) (xs:List α),Gx φ φ' h h' w∧xs.length=m∧(∀x∈xs,aF.ok h' x)∧∀(i:Nat) (x:α),xs[i]? =some x→∀j v,(aF.c x)[j]? =some v→∃y,w.cell? ((a.add (i*aF.n α)).add j)=some y∧VR φ' v y:=by
  intro m
  induction m with
  | zero=>exact fun _=>⟨φ,h,[],Gx.refl ok ro y,rfl,fun _ hx=>(by cases hx),fun i xi hx=>(by simp at hx)⟩
  | succ m ih=>
    intro ZK
    obtain ⟨φ1,h1,xs,g1,hl,hq,hx⟩:=ih o!
    have h2:=gL m o!
    rw[List.getElem?_eq_getElem o!,hs] at h2
    simp only[Option.bind_eq_some_iff] at h2
    obtain ⟨ci,hc1,hc2⟩:=h2
    obtain ⟨_,Qh,Nr⟩:=World.cells?_some hc1
    obtain ⟨φ2,h2,x,g2,Bg,js⟩:=he φ1 h1 g1.ok g1.ro g1.tidy ci _ n Qh (Small.all Dz.2 _ (List.mem_map.2 ⟨_,List.getElem_mem _,rfl⟩)) hc2
    refine ⟨φ2,h2,xs++[x],g1.trans g2,by simp [hl],fun z hz=>?_,fun i z hz=>?_⟩
    · rcases List.mem_append.1 hz with h | h
      · exact aF.mono g2.has (hq z h)
      · simp at h;subst h;exact js
    · by_cases hi:i<xs.length
      · rw[List.getElem?_append_left hi] at hz
        intro j v hj
        obtain ⟨q,e1,e2⟩:=hx i z hz j v hj
        exact ⟨q,e1,e2.mono g2.le⟩
      · rw[List.getElem?_append_right o!] at hz
        have:i - xs.length=0:=by
         have:=(List.getElem?_eq_some_iff.1 hz).1
         simp at this;omega
        rw[this] at hz
        simp at hz;subst hz
        have:i=m:=by omega
        subst this
        intro j v hj
        have nD:j<(aF.c x).length:=(List.getElem?_eq_some_iff.1 hj).1
        have U9:j<ci.length:=by rw[←Bg.1];exact nD
        exact ⟨ci[j],by rw[Nr j (by rw[Qh] at U9;exact U9),List.getElem?_eq_getElem U9],Bg.2 j v _ hj (List.getElem?_eq_getElem U9)⟩
 obtain ⟨φ1,h1,xs,g1,hl,hq,hx⟩:=all len (Nat.le_refl _)
 have B9:=dc aF.len xs
 have OB:a.spot=none:=by
  have hx0:xs[0]? =some (xs[0]'o!):=List.getElem?_eq_getElem o!
  obtain ⟨y,hy,_⟩:=hx 0 _ hx0 0 ((aF.c (xs[0]'o!))[0]'(by rw[aF.len];exact U3)) (List.getElem?_eq_getElem _)
  simp only[Nat.zero_mul,Addr.add,if_true] at hy
  unfold World.cell? at hy
  split at hy
  · cases hsp:a.spot with
    | none=>rfl
    | some _=>rw[hsp] at hy;simp at hy
  · cases hy
 have aeG:∀i j,(a.add (i*aF.n α)).add j=⟨a.block,a.off+(i*aF.n α+j),none⟩:=by
  intro i j
  obtain ⟨b,o,sp⟩:=a
  simp only at OB
  subst OB
  unfold Addr.add
  by_cases h1:i*aF.n α=0<;>by_cases h2:j=0<;>simp [h1,h2,Nat.add_assoc]
 have eF:xs.flatMap aF.c≠ []:=by
  intro e
  have:=congrArg List.length e
  rw[B9,hl] at this
  have:=Nat.mul_pos h0 U3
  simp at *
  omega
 obtain ⟨h',hn,sr,hle,ahj,aiJ,hg,hold,iH⟩:=g1.ok.show g1.ro (b:=a.block) (off:=a.off) (e:=aF.e α) eF (fun m ZK=>by
  have:AV.map m∈xs.flatMap aF.c:=by rw[ZK];simp
  obtain ⟨z,hz,hmz⟩:=List.mem_flatMap.1 this
  exact hm h1 z m (hq z hz) hmz) (fun k v hk=>by
  have Ia:k<(xs.flatMap aF.c).length:=(List.getElem?_eq_some_iff.1 hk).1
  have hdm:k/aF.n α*aF.n α+k%aF.n α=k:=by rw[Nat.mul_comm];exact Nat.div_add_mod k _
  have hi:k/aF.n α<xs.length:=by
   rw[B9] at Ia
   exact (Nat.div_lt_iff_lt_mul U3).2 Ia
  have hk2:=hk
  rw[←hdm,jU aF.len _ _ _ hi (Nat.mod_lt _ U3)] at hk2
  have hgi:xs[k/aF.n α]? =some (xs.g (k/aF.n α)):=by
   rw[List.g,List.getD_eq_getElem?_getD,List.getElem?_eq_getElem hi];rfl
  obtain ⟨y,hy,hvr⟩:=hx _ _ hgi _ v hk2
  rw[aeG,hdm] at hy
  exact ⟨y,hy,hvr⟩)
 have hVR:=VR.slice (φ:=φ1.add h1.nx ⟨a.block,a.off,0⟩) 0 len cap false iH
 have has:Has h1 h':=xy g1.tidy hn
 refine ⟨_,h',(.slice h1.nx 0 len cap false,xs),g1.trans ⟨sr,hle,ahj,has,by omega,hQ g1.tidy hn⟩,LR.cons ?_ (LR.nil _),?_⟩
 · obtain ⟨b,o,sp⟩:=a
   simp only at OB
   subst OB
   exact hVR
 · subst hl
   exact ⟨⟨aF.size,B9,Dz.1,rfl,.inr ⟨h1.nx,0,_,cap,false,_,_,true,rfl,hlc,hg,fun j _=>by rw[Nat.zero_add]⟩⟩,.inr (.inr ⟨_,_,_,_,_,rfl,fun e=>by cases e⟩),fun x hx=>aF.mono has (hq x hx)⟩
end
open Go.ChangeShapes Go.WideShapes Go.RowKit
section
variable {H:Type} {enc:TypeId×Value→H} {w:World} {base:Nat} {spare:Nat→Bool} {held:Bool}
end
open Go.ChangeShapes Go.WideShapes Go.RowKit
section
variable {H:Type} {enc:TypeId×Value→H} {w:World} {base:Nat} {spare:Nat→Bool} {held:Bool}
theorem OC:Try.prog.cellsOf 9=1:=by kernel_rfl
theorem mu:Try.prog.cellsOf 3=1:=by kernel_rfl
theorem UO:Try.prog.cellsOf 23=2:=by kernel_rfl
theorem XC:vp enc w base spare held 23 2 (aF.c (α:=Span)) aF.ok:=fun φ h0 ok ro ty cs z fuel hl hw hv=>by
 obtain ⟨xs,n,_,rfl,_,Dx,hf⟩:=DataW.trod_struct Try.underlying23 hv
 obtain ⟨c0,c1,rfl⟩:∃c0 c1,cs=[c0,c1]:=by
  match cs,hl with
  | [c0,c1],_=>exact ⟨_,_,rfl⟩
 obtain ⟨y0,y1,rfl⟩:∃y0 y1,xs=[y0,y1]:=by
  match xs,Dx with
  | [y0,y1],_=>exact ⟨_,_,rfl⟩
 have hs:=Small.struct Try.underlying23 hw
 obtain ⟨s0,hs⟩:=Small.cu hs
 have q0:DataW.trod enc Try.prog w base spare held n 3 [c0]=some y0:=by simpa [mu] using hf 0 _ rfl
 obtain ⟨φ1,h1,x0,g0,l0,o0⟩:=gv (t:=3) Try.underlying3 _ _ (Gx.refl ok ro ty).ok (Gx.refl ok ro ty).ro (Gx.refl ok ro ty).tidy _ _ _ rfl s0 q0
 have G0:=Gx.trans (Gx.refl ok ro ty) g0
 obtain ⟨s1,hs⟩:=Small.cu hs
 have q1:DataW.trod enc Try.prog w base spare held n 3 [c1]=some y1:=by simpa [mu] using hf 1 _ rfl
 obtain ⟨φ2,h2,x1,g1,l1,o1⟩:=gv (t:=3) Try.underlying3 _ _ G0.ok G0.ro G0.tidy _ _ _ rfl s1 q1
 have G1:=Gx.trans G0 g1
 have L0:=LR.mono (Ph.le_trans (Ph.le_refl _) g1.le) l0
 have L1:=LR.mono (Ph.le_refl _) l1
 exact ⟨_,_,⟨x0,x1⟩,G1,(LR.append L0 (LR.append L1 (LR.nil _))),trivial⟩
theorem UP:Try.prog.cellsOf 45=4:=by kernel_rfl
theorem XD:vp enc w base spare held 45 4 (aF.c (α:=bV)) aF.ok:=fun φ h0 ok ro ty cs z fuel hl hw hv=>by
 obtain ⟨xs,n,_,rfl,_,Dx,hf⟩:=DataW.trod_struct Try.underlying45 hv
 obtain ⟨c0,c1,c2,c3,rfl⟩:∃c0 c1 c2 c3,cs=[c0,c1,c2,c3]:=by
  match cs,hl with
  | [c0,c1,c2,c3],_=>exact ⟨_,_,_,_,rfl⟩
 obtain ⟨y0,y1,y2,y3,rfl⟩:∃y0 y1 y2 y3,xs=[y0,y1,y2,y3]:=by
  match xs,Dx with
  | [y0,y1,y2,y3],_=>exact ⟨_,_,_,_,rfl⟩
 have hs:=Small.struct Try.underlying45 hw
 obtain ⟨s0,hs⟩:=Small.cu hs
 have q0:DataW.trod enc Try.prog w base spare held n 9 [c0]=some y0:=by simpa [OC] using hf 0 _ rfl
 obtain ⟨φ1,h1,x0,g0,l0,o0⟩:=FD (t:=9) Try.underlying9 _ _ (Gx.refl ok ro ty).ok (Gx.refl ok ro ty).ro (Gx.refl ok ro ty).tidy _ _ _ rfl s0 q0
 have G0:=Gx.trans (Gx.refl ok ro ty) g0
 obtain ⟨s1,hs⟩:=Small.cu hs
 have q1:DataW.trod enc Try.prog w base spare held n 3 [c1]=some y1:=by simpa [mu] using hf 1 _ rfl
 obtain ⟨φ2,h2,x1,g1,l1,o1⟩:=gv (t:=3) Try.underlying3 _ _ G0.ok G0.ro G0.tidy _ _ _ rfl s1 q1
 have G1:=Gx.trans G0 g1
 obtain ⟨s2,hs⟩:=Small.cu hs
 have q2:DataW.trod enc Try.prog w base spare held n 3 [c2]=some y2:=by simpa [mu] using hf 2 _ rfl
 obtain ⟨φ3,h3,x2,g2,l2,o2⟩:=gv (t:=3) Try.underlying3 _ _ G1.ok G1.ro G1.tidy _ _ _ rfl s2 q2
 have G2:=Gx.trans G1 g2
 obtain ⟨s3,hs⟩:=Small.cu hs
 have q3:DataW.trod enc Try.prog w base spare held n 3 [c3]=some y3:=by simpa [mu] using hf 3 _ rfl
 obtain ⟨φ4,h4,x3,g3,l3,o3⟩:=gv (t:=3) Try.underlying3 _ _ G2.ok G2.ro G2.tidy _ _ _ rfl s3 q3
 have G3:=Gx.trans G2 g3
 have L0:=LR.mono (Ph.le_trans (Ph.le_trans (Ph.le_trans (Ph.le_refl _) g1.le) g2.le) g3.le) l0
 have L1:=LR.mono (Ph.le_trans (Ph.le_trans (Ph.le_refl _) g2.le) g3.le) l1
 have L2:=LR.mono (Ph.le_trans (Ph.le_refl _) g3.le) l2
 have L3:=LR.mono (Ph.le_refl _) l3
 exact ⟨_,_,⟨x0,x1,x2,x3⟩,G3,(LR.append L0 (LR.append L1 (LR.append L2 (LR.append L3 (LR.nil _))))),o0⟩
theorem UQ:Try.prog.cellsOf 24=1:=by kernel_rfl
theorem XE:vp enc w base spare held 24 1 (fun x:AV×List bV=> [x.1]) (fun h x=>aY h x.1 x.2):=Au (t:=24) Try.underlying24 UP (of_decide_eq_true (by kernel_rfl)) (fun _ x m _ h=>by cases x;simp [aF.c,bV.c] at h) XD
theorem UR:Try.prog.cellsOf 26=7:=by kernel_rfl
theorem XF:vp enc w base spare held 26 7 (aF.c (α:=aD)) aF.ok:=fun φ h0 ok ro ty cs z fuel hl hw hv=>by
 obtain ⟨xs,n,_,rfl,_,Dx,hf⟩:=DataW.trod_struct Try.underlying26 hv
 obtain ⟨c0,c1,c2,c3,c4,c5,c6,rfl⟩:∃c0 c1 c2 c3 c4 c5 c6,cs=[c0,c1,c2,c3,c4,c5,c6]:=by
  match cs,hl with
  | [c0,c1,c2,c3,c4,c5,c6],_=>exact ⟨_,_,_,_,_,_,_,rfl⟩
 obtain ⟨y0,y1,y2,y3,y4,y5,rfl⟩:∃y0 y1 y2 y3 y4 y5,xs=[y0,y1,y2,y3,y4,y5]:=by
  match xs,Dx with
  | [y0,y1,y2,y3,y4,y5],_=>exact ⟨_,_,_,_,_,_,rfl⟩
 have hs:=Small.struct Try.underlying26 hw
 obtain ⟨s0,hs⟩:=Small.cu hs
 have q0:DataW.trod enc Try.prog w base spare held n 9 [c0]=some y0:=by simpa [OC] using hf 0 _ rfl
 obtain ⟨φ1,h1,x0,g0,l0,o0⟩:=FD (t:=9) Try.underlying9 _ _ (Gx.refl ok ro ty).ok (Gx.refl ok ro ty).ro (Gx.refl ok ro ty).tidy _ _ _ rfl s0 q0
 have G0:=Gx.trans (Gx.refl ok ro ty) g0
 obtain ⟨s1,hs⟩:=Small.cu hs
 have q1:DataW.trod enc Try.prog w base spare held n 23 [c1,c2]=some y1:=by simpa [UO] using hf 1 _ rfl
 obtain ⟨φ2,h2,x1,g1,l1,o1⟩:=XC _ _ G0.ok G0.ro G0.tidy _ _ _ rfl s1 q1
 have G1:=Gx.trans G0 g1
 obtain ⟨s2,hs⟩:=Small.cu hs
 have q2:DataW.trod enc Try.prog w base spare held n 3 [c3]=some y2:=by simpa [mu] using hf 2 _ rfl
 obtain ⟨φ3,h3,x2,g2,l2,o2⟩:=gv (t:=3) Try.underlying3 _ _ G1.ok G1.ro G1.tidy _ _ _ rfl s2 q2
 have G2:=Gx.trans G1 g2
 obtain ⟨s3,hs⟩:=Small.cu hs
 have q3:DataW.trod enc Try.prog w base spare held n 3 [c4]=some y3:=by simpa [mu] using hf 3 _ rfl
 obtain ⟨φ4,h4,x3,g3,l3,o3⟩:=gv (t:=3) Try.underlying3 _ _ G2.ok G2.ro G2.tidy _ _ _ rfl s3 q3
 have G3:=Gx.trans G2 g3
 obtain ⟨s4,hs⟩:=Small.cu hs
 have q4:DataW.trod enc Try.prog w base spare held n 3 [c5]=some y4:=by simpa [mu] using hf 4 _ rfl
 obtain ⟨φ5,h5,x4,g4,l4,o4⟩:=gv (t:=3) Try.underlying3 _ _ G3.ok G3.ro G3.tidy _ _ _ rfl s4 q4
 have G4:=Gx.trans G3 g4
 obtain ⟨s5,hs⟩:=Small.cu hs
 have q5:DataW.trod enc Try.prog w base spare held n 24 [c6]=some y5:=by simpa [UQ] using hf 5 _ rfl
 obtain ⟨φ6,h6,x5,g5,l5,o5⟩:=XE _ _ G4.ok G4.ro G4.tidy _ _ _ rfl s5 q5
 have G5:=Gx.trans G4 g5
 have L0:=LR.mono (Ph.le_trans (Ph.le_trans (Ph.le_trans (Ph.le_trans (Ph.le_trans (Ph.le_refl _) g1.le) g2.le) g3.le) g4.le) g5.le) l0
 have L1:=LR.mono (Ph.le_trans (Ph.le_trans (Ph.le_trans (Ph.le_trans (Ph.le_refl _) g2.le) g3.le) g4.le) g5.le) l1
 have L2:=LR.mono (Ph.le_trans (Ph.le_trans (Ph.le_trans (Ph.le_refl _) g3.le) g4.le) g5.le) l2
 have L3:=LR.mono (Ph.le_trans (Ph.le_trans (Ph.le_refl _) g4.le) g5.le) l3
 have L4:=LR.mono (Ph.le_trans (Ph.le_refl _) g5.le) l4
 have L5:=LR.mono (Ph.le_refl _) l5
 exact ⟨_,_,⟨x0,x1.ay,x1.aq,x2,x3,x4,x5.1,x5.2⟩,G5,(LR.append L0 (LR.append L1 (LR.append L2 (LR.append L3 (LR.append L4 (LR.append L5 (LR.nil _))))))),⟨o0,o5⟩⟩
theorem US:Try.prog.cellsOf 43=3:=by kernel_rfl
theorem XG:vp enc w base spare held 43 3 (aF.c (α:=aK)) aF.ok:=fun φ h0 ok ro ty cs z fuel hl hw hv=>by
 obtain ⟨xs,n,_,rfl,_,Dx,hf⟩:=DataW.trod_struct Try.underlying43 hv
 obtain ⟨c0,c1,c2,rfl⟩:∃c0 c1 c2,cs=[c0,c1,c2]:=by
  match cs,hl with
  | [c0,c1,c2],_=>exact ⟨_,_,_,rfl⟩
 obtain ⟨y0,y1,y2,rfl⟩:∃y0 y1 y2,xs=[y0,y1,y2]:=by
  match xs,Dx with
  | [y0,y1,y2],_=>exact ⟨_,_,_,rfl⟩
 have hs:=Small.struct Try.underlying43 hw
 obtain ⟨s0,hs⟩:=Small.cu hs
 have q0:DataW.trod enc Try.prog w base spare held n 3 [c0]=some y0:=by simpa [mu] using hf 0 _ rfl
 obtain ⟨φ1,h1,x0,g0,l0,o0⟩:=gv (t:=3) Try.underlying3 _ _ (Gx.refl ok ro ty).ok (Gx.refl ok ro ty).ro (Gx.refl ok ro ty).tidy _ _ _ rfl s0 q0
 have G0:=Gx.trans (Gx.refl ok ro ty) g0
 obtain ⟨s1,hs⟩:=Small.cu hs
 have q1:DataW.trod enc Try.prog w base spare held n 3 [c1]=some y1:=by simpa [mu] using hf 1 _ rfl
 obtain ⟨φ2,h2,x1,g1,l1,o1⟩:=gv (t:=3) Try.underlying3 _ _ G0.ok G0.ro G0.tidy _ _ _ rfl s1 q1
 have G1:=Gx.trans G0 g1
 obtain ⟨s2,hs⟩:=Small.cu hs
 have q2:DataW.trod enc Try.prog w base spare held n 3 [c2]=some y2:=by simpa [mu] using hf 2 _ rfl
 obtain ⟨φ3,h3,x2,g2,l2,o2⟩:=gv (t:=3) Try.underlying3 _ _ G1.ok G1.ro G1.tidy _ _ _ rfl s2 q2
 have G2:=Gx.trans G1 g2
 have L0:=LR.mono (Ph.le_trans (Ph.le_trans (Ph.le_refl _) g1.le) g2.le) l0
 have L1:=LR.mono (Ph.le_trans (Ph.le_refl _) g2.le) l1
 have L2:=LR.mono (Ph.le_refl _) l2
 exact ⟨_,_,⟨x0,x1,x2⟩,G2,(LR.append L0 (LR.append L1 (LR.append L2 (LR.nil _)))),trivial⟩
theorem XH:vp enc w base spare held 27 1 (fun x:AV×List aK=> [x.1]) (fun h x=>aY h x.1 x.2):=Au (t:=27) Try.underlying27 US (of_decide_eq_true (by kernel_rfl)) (fun _ x m _ h=>by cases x;simp [aF.c,aK.c] at h) XG
end
end
end Go.Proofs.aG
