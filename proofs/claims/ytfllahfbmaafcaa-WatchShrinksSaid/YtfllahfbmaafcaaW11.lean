import Derived.Test.YtfllahfbmaafcaaW9
import Derived.Test.YtfllahfbmaafcaaW10
import Derived.Test.YtfllahfbmaafcaaW0
import Derived.Test.YtfllahfbmaafcaaA7
namespace Go.Proofs.aK
open Go.Proofs Ab
noncomputable section
set_option maxRecDepth 100000
set_option maxHeartbeats 4000000
set_option linter.unusedVariables false
set_option linter.unusedSimpArgs false
theorem Rq {l:List aB} {k:Nat} (hk:k<l.length):∀i,i<((([]:List aB)++l.take k)++l.drop (k+1)).length→∃j,j<l.length∧((([]:List aB)++l.take k)++l.drop (k+1)).g i=l.g j:=by
 intro i hi
 have m:=jT hi
 rw[List.nil_append] at m ⊢
 have:((l.take k)++l.drop (k+1)).g i∈l:=by
  rcases List.mem_append.1 m with m | m
  · exact List.mem_of_mem_take m
  · exact List.mem_of_mem_drop m
 obtain ⟨j,hj,e⟩:=List.mem_iff_getElem.1 this
 refine ⟨j,hj,?_⟩
 rw[←e]
 show _=l.getD j default
 rw[List.getD_eq_getElem?_getD,List.getElem?_eq_getElem hj];rfl
theorem Rr {l:List aB} (k:Nat):((([]:List aB)++l.take k)++l.drop (k+1)).length≤l.length:=by
 rw[List.nil_append,List.length_append,List.length_take,List.length_drop];omega
theorem Ki {q:aw} {l:List aB} {t:Int} {k:Nat} (hk:k<l.length) (h:(ay q l t).2=0):(ay q ((([]:List aB)++l.take k)++l.drop (k+1)) t).2=0:=by
 obtain ⟨a,b⟩:=vk h
 obtain ⟨a1,a2,a3⟩:=DQ a
 have:=Rr (l:=l) k
 refine Ax (IE a1 o! fun i hi=>?_) b
 obtain ⟨j,hj,e⟩:=Rq hk i hi
 rw[e];exact a3 j hj
theorem UF {q:aw} {l:List aB} {t:Int} {k:Nat} (hk:k<l.length) (h:(ay q l t).2=0):bR (ay q l t).1 (ay q ((([]:List aB)++l.take k)++l.drop (k+1)) t).1=true:=by
 refine DV h (Ki hk h) fun s h1 h2=>⟨s,h1,h2,?_⟩
 have hh:∀c,KS q ((([]:List aB)++l.take k)++l.drop (k+1)) s c→∃c',KS q l s c'∧c'.time=c.time∧c.aj≤c'.aj∧c'.ah≤c.ah:=by
  intro c hc
  refine ⟨c,?_,rfl,Int.le_refl _,Int.le_refl _⟩
  rcases hc with hc | ⟨i,hi,h1,h2⟩
  · exact .inl hc
  · obtain ⟨j,hj,e⟩:=Rq hk i hi
    rw[e] at h1 h2
    exact .inr ⟨j,hj,h1,h2⟩
 obtain ⟨x1,x2⟩:=wg (q:=q) (p:=q) rfl rfl hh
 exact ⟨x1,fun x=>x2 t x⟩
abbrev GC (q:aw):aw:=⟨q.name,q.ai,q.af,q.aH,q.aJ,(q.bad+1),.aI,q.ao⟩
theorem Kj {q:aw} {l:List aB} {t:Int} (hb:q.bad<(q.ao.length:Int)) (h:(ay q l t).2=0):(ay (GC q) l t).2=0:=by
 obtain ⟨a,b⟩:=vk h
 obtain ⟨a1,a2,a3⟩:=DQ a
 have f:=(JG a).bad
 exact Ax (IE (VN a1 rfl rfl rfl rfl rfl rfl ⟨by show 0≤q.bad+1;omega,by show q.bad+1≤_;omega⟩ (fun _=>rfl) (fun _ h=>h)) a2 fun i hi=>(VO (p:=GC q) (q:=q) rfl _).trans (a3 i hi)) b
theorem UG {q:aw} {l:List aB} {t:Int} (hb:q.bad<(q.ao.length:Int)) (h:(ay q l t).2=0):bR (ay q l t).1 (ay (GC q) l t).1=true:=by
 obtain ⟨f,_,_⟩:=nv h
 have fb:=f.bad
 refine DV h (Kj hb h) fun s h1 h2=>?_
 obtain ⟨s',b1,b2,b3⟩:=Pm (n:=q.ao.length) (b:=sz s+1) fb.2.2 o! 1 s h1 rfl
 refine ⟨s',b1,by show (sz s':Int)=q.bad+1;omega,?_⟩
 have hh:∀c,KS (GC q) l s' c→∃c',KS q l s c'∧c'.time=c.time∧c.aj≤c'.aj∧c'.ah≤c.ah:=fun c hc=>⟨c,yf f b3 hc,rfl,Int.le_refl _,Int.le_refl _⟩
 obtain ⟨x1,x2⟩:=wg (q:=GC q) (p:=q) rfl rfl hh
 exact ⟨x1,fun x=>x2 t x⟩
abbrev lq (q:aw) (k:Nat):List aE:=(([]:List aE)++q.ao).set k ({((([]:List aE)++q.ao).g k) with acc:=(IntKind.i64.wrap (Int.tdiv ((([]:List aE)++q.ao).g k).acc 2))}:aE)
abbrev AB (q:aw) (k:Nat):aw:=⟨q.name,q.ai,q.af,q.aH,q.aJ,q.bad,.aI,lq q k⟩
theorem aev {l:List aE} {k:Nat} {x:aE} (j:Nat) (hk:k<l.length):(l.set k x).g j=if j=k then x else l.g j:=by
 show (l.set k x).getD j default=_
 rw[List.getD_eq_getElem?_getD,List.getElem?_set]
 by_cases e:k=j
 · subst e;rw[if_pos rfl,if_pos hk,if_pos rfl];rfl
 · rw[if_neg e,if_neg (Ne.symm e)];rfl
theorem IQ {q:aw} {k:Nat} (hk:k<q.ao.length) (hs:bK (q.ao.g k)=0) (j:Nat):((lq q k).g j).name=(q.ao.g j).name∧((lq q k).g j).b6=(q.ao.g j).b6∧((lq q k).g j).since=(q.ao.g j).since∧(((lq q k).g j).acc=(q.ao.g j).acc∨(j=k∧((lq q k).g j).acc=(q.ao.g j).acc/2∧0≤(q.ao.g j).acc∧(q.ao.g j).acc≤1000000000)):=by
 rw[lq,List.nil_append,aev j hk]
 by_cases e:j=k
 · rw[if_pos e,e]
   rw[bK] at hs
   obtain ⟨b1,hs⟩:=d_ (by decide) hs
   obtain ⟨b2,_⟩:=d_ (by decide) hs
   have b1:=of_decide_eq_false b1;have b2:=of_decide_eq_false b2
   refine ⟨rfl,rfl,rfl,.inr ⟨rfl,?_,by omega,by omega⟩⟩
   show IntKind.i64.wrap (Int.tdiv (q.ao.g k).acc 2)=_
   rw[Int.tdiv_eq_ediv_of_nonneg o!,wrap_i64 o! o!]
 · rw[if_neg e];exact ⟨rfl,rfl,rfl,.inl rfl⟩
theorem acj {g g':aE} (h:bK g=0) (d:g'.b6=g.b6) (s:g'.since=g.since) (a:g'.acc=g.acc∨(g'.acc=g.acc/2∧0≤g.acc∧g.acc≤1000000000)):bK g'=0:=by
 rcases a with a | ⟨a,a0,a1⟩
 · rw[bK,d,s,a,←bK];exact h
 · rw[bK] at h ⊢
   rw[decide_eq_false (show ¬g.acc<0 by omega),decide_eq_false (show ¬1000000000<g.acc by omega)] at h
   rw[d,s,decide_eq_false (show ¬g'.acc<0 by omega),decide_eq_false (show ¬1000000000<g'.acc by omega)]
   exact h
theorem GD {q:aw} (h:bB q=0) {j:Nat} (hj:j<q.ao.length):bK (q.ao.g j)=0:=by
 have e:=h
 rw[bB] at e
 obtain ⟨_,e⟩:=d_ (by decide) e
 obtain ⟨_,e⟩:=d_ (by decide) e
 obtain ⟨_,e⟩:=d_ (by decide) e
 obtain ⟨_,e⟩:=d_ (by decide) e
 obtain ⟨_,e⟩:=d_ (by decide) e
 obtain ⟨_,e⟩:=d_ (by decide) e
 obtain ⟨_,e⟩:=d_ (by decide) e
 obtain ⟨_,e⟩:=d_ (by decide) e
 obtain ⟨_,e⟩:=d_ (by decide) e
 obtain ⟨_,e⟩:=d_ (by decide) e
 obtain ⟨_,e⟩:=d_ (by decide) e
 have hz:bC q q.ao.length 0=none:=by
  cases hc:bC q q.ao.length 0 with
  | none=>rfl
  | some r=>rw[hc] at e;exact absurd (hc.trans (congrArg some e)) (JF q _ _ fun _ _=>trivial)
 exact Pg q _ _ hz j (Nat.zero_le _) o!
theorem Kk {q:aw} {l:List aB} {t:Int} {k:Nat} (hk:k<q.ao.length) (h:(ay q l t).2=0):(ay (AB q k) l t).2=0:=by
 obtain ⟨a,b⟩:=vk h
 obtain ⟨a1,a2,a3⟩:=DQ a
 have f:=(JG a).bad
 have hg:=GD a1 hk
 have len:(AB q k).ao.length=q.ao.length:=by show (lq q k).length=_;rw[lq,List.length_set,List.nil_append]
 refine Ax (IE (VN a1 rfl rfl rfl rfl rfl len ⟨f.1,f.2.1⟩ (fun j=>(IQ hk hg j).1) fun j hj=>?_) a2 fun i hi=>(VO (p:=AB q k) (q:=q) len _).trans (a3 i hi)) b
 obtain ⟨_,d,s,ac⟩:=IQ hk hg j
 exact acj hj d s (ac.imp id fun ⟨_,x⟩=>x)
theorem UH {q:aw} {l:List aB} {t:Int} {k:Nat} (hk:k<q.ao.length) (h:(ay q l t).2=0):bR (ay (AB q k) l t).1 (ay q l t).1=true:=by
 have h':=Kk hk h
 obtain ⟨a,b⟩:=vk h
 obtain ⟨a1,a2,a3⟩:=DQ a
 have hg:=GD a1 hk
 obtain ⟨f,_,_⟩:=nv h
 obtain ⟨f',_,_⟩:=nv h'
 have len:(AB q k).ao.length=q.ao.length:=by show (lq q k).length=_;rw[lq,List.length_set,List.nil_append]
 refine DV h' h fun s h1 h2=>⟨s,by rw[len] at h1;exact h1,h2,?_⟩
 have hh:∀c,KS q l s c→∃c',KS (AB q k) l s c'∧c'.time=c.time∧c.aj≤c'.aj∧c'.ah≤c.ah:=by
  rintro c (rfl | ⟨j,hj,h1,rfl⟩)
  · exact ⟨_,.inl rfl,rfl,Int.le_refl _,Int.le_refl _⟩
  · refine ⟨_,.inr ⟨j,hj,h1,rfl⟩,rfl,?_⟩
    obtain ⟨g1,g2,_⟩:=f.read j hj
    have w1:=Gm (f.aC (l.g j).aC.toNat o!) g2.1 g2.2
    have w2:=Gm (f'.aC (l.g j).aC.toNat (by rw[len];omega)) g2.1 g2.2
    obtain ⟨_,d,s,ac⟩:=IQ hk hg (l.g j).aC.toNat
    have w:eM ((lq q k).g (l.g j).aC.toNat) (l.g j).time≤eM (q.ao.g (l.g j).aC.toNat) (l.g j).time:=by
     rw[w1]
     refine Int.le_trans (Int.le_of_eq w2) ?_
     show ((lq q k).g (l.g j).aC.toNat).acc+((lq q k).g (l.g j).aC.toNat).b6*(((max ((l.g j).time -((lq q k).g (l.g j).aC.toNat).since) 0)+999) /1000)≤_
     rw[d,s]
     generalize (q.ao.g (l.g j).aC.toNat).b6*(((max ((l.g j).time -(q.ao.g (l.g j).aC.toNat).since) 0)+999) /1000)=m
     omega
    show (l.g j).value - eM (q.ao.g (l.g j).aC.toNat) (l.g j).time≤(l.g j).value - eM ((lq q k).g (l.g j).aC.toNat) (l.g j).time∧(l.g j).value+eM ((lq q k).g (l.g j).aC.toNat) (l.g j).time≤(l.g j).value+eM (q.ao.g (l.g j).aC.toNat) (l.g j).time
    omega
 obtain ⟨x1,x2⟩:=wg (q:=q) (p:=AB q k) rfl rfl hh
 exact ⟨x1,fun x=>x2 t x⟩
theorem Rs (q:aw) (l:List aB) (t bO:Int) (hl:l.length<2^60):fh q l t bO=true:=by
 rw[fh]
 cases hm:dQ q l with
 | true=>rfl
 | false=>
   rw[ar]
   by_cases e0:((l.length:Nat):Int)=0
   · rw[decide_eq_true e0];rfl
   rw[decide_eq_false e0,ar]
   by_cases e1:(ay q l t).2=0
   · rw[decide_eq_true e1]
     simp only[Bool.not_true,ar]
     have md:=modn (a:=bO) (b:=((l.length:Nat):Int)) o! o!
     generalize Int.tmod (IntKind.i64.wrap ((Int.tmod bO ((l.length:Nat):Int))+((l.length:Nat):Int))) ((l.length:Nat):Int)=k at md ⊢
     have hk:k.toNat<l.length:=by omega
     rw[show (k+1).toNat=k.toNat+1 by omega]
     have g0:=Aw e1 hk
     have hg:(l.g k.toNat).aC.toNat<q.ao.length:=by omega
     rw[Ki hk e1,UF hk e1,Kk hg e1,UH hg e1]
     by_cases e2:q.bad<((q.ao.length:Nat):Int)
     · rw[Kj e2 e1,UG e2 e1,decide_eq_true e2];rfl
     · rw[decide_eq_false e2];rfl
   · rw[decide_eq_false e1,Qw e1];rfl
open Go.ChangeShapes Go.WideShapes Go.RowKit
structure Gx (φ φ':Ph) (h h':au) (w:World):Prop where
 ok:OK env φ' h' w
 le:φ.le φ'
 ro:uq h'
 has:Has h h'
 nx:h.nx≤h'.nx
 tidy:Tidy h'
theorem Gx.refl {φ:Ph} {h:au} {w:World} (ok:OK env φ h w) (ro:uq h) (y:Tidy h):Gx φ φ h h w:=⟨ok,Ph.le_refl _,ro,Has.refl _,Nat.le_refl _,y⟩
theorem Gx.trans {a b c:Ph} {h1 h2 h3:au} {w:World} (x:Gx a b h1 h2 w) (y:Gx b c h2 h3 w):Gx a c h1 h3 w:=⟨y.ok,Ph.le_trans x.le y.le,y.ro,x.has.trans y.has,Nat.le_trans x.nx y.nx,y.tidy⟩
section
variable {H:Type} (enc:TypeId×Value→H) (w:World) (base:Nat) (spare:Nat→Bool) (held:Bool)
def Small (t:TypeId) (d:DataW H):Prop:=(DataW.weights env.P t d).all (· ≤reachBytes)=true
theorem Small.all {e:TypeId}:∀{l:List (DataW H)},(DataW.weightsAll env.P e l).all (· ≤reachBytes)=true→∀d∈l,Small e d
 | [],_,d,hd=>by cases hd
 | x::l,h,d,hd=>by
   rw[DataW.weightsAll,List.all_append,Bool.and_eq_true] at h
   rcases List.mem_cons.1 hd with rfl | hd
   · exact h.1
   · exact Small.all h.2 d hd
theorem Small.struct {t:TypeId} {fs:Array Field} {parts:List (DataW H)} (ht:env.P.underlying t=some (.struct fs)) (h:Small t (.agg parts)):(DataW.weightsEach env.P (fs.toList.map (·.type)) parts).all (· ≤reachBytes)=true:=by
 unfold Small at h
 rw[DataW.weights,ht] at h
 exact h
theorem Small.bZ {t:TypeId} {ts:List TypeId} {d:DataW H} {ds:List (DataW H)} (h:(DataW.weightsEach env.P (t::ts) (d::ds)).all (· ≤reachBytes)=true):Small t d∧(DataW.weightsEach env.P ts ds).all (· ≤reachBytes)=true:=by
 rw[DataW.weightsEach,List.all_append,Bool.and_eq_true] at h
 exact h
theorem Kl {n:Nat} (h:n≤reachBytes):n<2^60:=Nat.lt_of_le_of_lt h (by unfold reachBytes;decide)
def sJ {D:Type} (t:TypeId) (sz:Nat) (c:D→List AV) (ok:au→D→Prop):Prop:=
 ∀(φ:Ph) (h:au),OK env φ h w→uq h→Tidy h→∀(cs:List Value) (y:DataW H×List MemPlace) (n:Nat),cs.length=sz→Small t y.1→DataW.trod enc env.P w base spare held n t cs=some y→
  ∃φ' h' x,Gx φ φ' h h' w∧LR φ' (c x) cs∧ok h' x
variable {enc w base spare held}
theorem eT {k:IntKind} {t:TypeId} (ht:env.P.underlying t=some (.int k)):sJ enc w base spare held t 1 (fun x:Int=> [.int k x]) (fun _ _=>True):=fun φ h ok ro y cs z n _ hw hv=>by
 obtain ⟨m,rfl,_,_⟩:=DataW.trod_int ht hv
 exact ⟨φ,h,m,Gx.refl ok ro y,LR.cons (VR.int k m) (LR.nil _),trivial⟩
theorem Ch {t:TypeId} (ht:env.P.underlying t=some .string):sJ enc w base spare held t 1 (fun x:List UInt8=> [.str x]) (fun _ x=>x.length<2^60):=fun φ h ok ro y cs z n _ hw hv=>by
 obtain ⟨s,rfl,rfl,hs⟩:=DataW.trod_string ht hv
 refine ⟨φ,h,s.data.toList,Gx.refl ok ro y,LR.cons (VR.str s) (LR.nil _),?_⟩
 unfold Small at hw
 rw[DataW.weights,List.all_cons,Bool.and_eq_true] at hw
 exact Kl (of_decide_eq_true hw.1)
theorem xw {α:Type} [az α] {t:TypeId} (ht:env.P.underlying t=some (.slice (az.e α))) (hs:env.P.cellsOf (az.e α)=az.n α) (hby:0<env.P.bytesOf (az.e α)) (hm:∀(h:au) (x:α) m,az.ok h x→AV.map m ∉ az.c x)
 (he:sJ enc w base spare held (az.e α) (az.n α) (az.c (α:=α)) az.ok):sJ enc w base spare held t 1 (fun x:AV×List α=> [x.1]) (fun h x=>aQ h x.1 x.2):=fun φ h ok ro y cs z fuel _ hw hv=>by
 have RK:=az.pos (α:=α)
 rcases DataW.trod_slice ht hv with ⟨rfl,_⟩ | ⟨a,len,cap,elems,rest,n,_,rfl,rfl,hb,Zh,hcm,aew,fB,_,_⟩
 · exact ⟨φ,h,(.aI,[]),Gx.refl ok ro y,LR.cons VR.aI (LR.nil _),⟨az.size,(Nat.zero_mul _).symm,Nat.pow_pos (by decide),rfl,.inl rfl⟩,.inl rfl,fun x hx=>by cases hx⟩
 rcases Nat.eq_zero_or_pos len with h0 | h0
 · subst h0
   exact ⟨φ,h,(.dG,[]),Gx.refl ok ro y,LR.cons (VR.dG a cap) (LR.nil _),⟨az.size,(Nat.zero_mul _).symm,Nat.pow_pos (by decide),rfl,.inl rfl⟩,.inr (.inl rfl),fun x hx=>by cases hx⟩
 have AF:len<2^60∧(DataW.weightsAll env.P (az.e α) (elems.map (·.1))).all (· ≤reachBytes)=true:=by
  unfold Small at hw
  rw[DataW.weights,ht] at hw
  simp only[List.all_cons,List.all_append,Bool.and_eq_true,List.length_map] at hw
  refine ⟨Kl (Nat.le_trans ?_ (of_decide_eq_true hw.1)),hw.2.1⟩
  rw[aew]
  exact Nat.le_trans (Nat.le_add_right _ _) (Nat.le_mul_of_pos_right _ hby)
 have all:∀m,m≤len→∃(φ':Ph) (h':au) (xs:List α),Gx φ φ' h h' w∧xs.length=m∧(∀x∈xs,az.ok h' x)∧∀(i:Nat) (x:α),xs[i]? =some x→∀j v,(az.c x)[j]? =some v→∃y,w.cell? ((a.add (i*az.n α)).add j)=some y∧VR φ' v y:=by
  intro m
  induction m with
  | zero=>exact fun _=>⟨φ,h,[],Gx.refl ok ro y,rfl,fun _ hx=>(by cases hx),fun i xi hx=>(by simp at hx)⟩
  | succ m ih=>
    intro WO
    obtain ⟨φ1,h1,xs,g1,hl,hq,hx⟩:=ih o!
    have h2:=fB m o!
    rw[List.getElem?_eq_getElem o!,hs] at h2
    simp only[Option.bind_eq_some_iff] at h2
    obtain ⟨ci,hc1,hc2⟩:=h2
    obtain ⟨_,Nw,Jv⟩:=World.cells?_some hc1
    obtain ⟨φ2,h2,x,g2,yx,iW⟩:=he φ1 h1 g1.ok g1.ro g1.tidy ci _ n Nw (Small.all AF.2 _ (List.mem_map.2 ⟨_,List.getElem_mem _,rfl⟩)) hc2
    refine ⟨φ2,h2,xs++[x],g1.trans g2,by simp [hl],fun z hz=>?_,fun i z hz=>?_⟩
    · rcases List.mem_append.1 hz with h | h
      · exact az.mono g2.has (hq z h)
      · simp at h;subst h;exact iW
    · by_cases hi:i<xs.length
      · rw[List.getElem?_append_left hi] at hz
        intro j v hj
        obtain ⟨q,e1,e2⟩:=hx i z hz j v hj
        exact ⟨q,e1,e2.mono g2.le⟩
      · rw[List.getElem?_append_right o!] at hz
        have:i - xs.length=0:=by
         have:=(List.getElem?_eq_some_iff.1 hz).1
         simp at this;omega
        rw[this] at hz
        simp at hz;subst hz
        have:i=m:=by omega
        subst this
        intro j v hj
        have mQ:j<(az.c x).length:=(List.getElem?_eq_some_iff.1 hj).1
        have RQ:j<ci.length:=by rw[←yx.1];exact mQ
        exact ⟨ci[j],by rw[Jv j (by rw[Nw] at RQ;exact RQ),List.getElem?_eq_getElem RQ],yx.2 j v _ hj (List.getElem?_eq_getElem RQ)⟩
 obtain ⟨φ1,h1,xs,g1,hl,hq,hx⟩:=all len (Nat.le_refl _)
 have xG:=bP az.len xs
 have Km:a.spot=none:=by
  have hx0:xs[0]? =some (xs[0]'o!):=List.getElem?_eq_getElem o!
  obtain ⟨y,hy,_⟩:=hx 0 _ hx0 0 ((az.c (xs[0]'o!))[0]'(by rw[az.len];exact RK)) (List.getElem?_eq_getElem _)
  simp only[Nat.zero_mul,Addr.add,if_true] at hy
  unfold World.cell? at hy
  split at hy
  · cases hsp:a.spot with
    | none=>rfl
    | some _=>rw[hsp] at hy;simp at hy
  · cases hy
 have ack:∀i j,(a.add (i*az.n α)).add j=⟨a.block,a.off+(i*az.n α+j),none⟩:=by
  intro i j
  obtain ⟨b,o,sp⟩:=a
  simp only at Km
  subst Km
  unfold Addr.add
  by_cases h1:i*az.n α=0<;>by_cases h2:j=0<;>simp [h1,h2,Nat.add_assoc]
 have dD:xs.flatMap az.c≠ []:=by
  intro e
  have:=congrArg List.length e
  rw[xG,hl] at this
  have:=Nat.mul_pos h0 RK
  simp at *
  omega
 obtain ⟨h',hn,pV,hle,aex,af1,hg,hold,fW⟩:=g1.ok.show g1.ro (b:=a.block) (off:=a.off) (e:=az.e α) dD (fun m WO=>by
  have:AV.map m∈xs.flatMap az.c:=by rw[WO];simp
  obtain ⟨z,hz,hmz⟩:=List.mem_flatMap.1 this
  exact hm h1 z m (hq z hz) hmz) (fun k v hk=>by
  have Eb:k<(xs.flatMap az.c).length:=(List.getElem?_eq_some_iff.1 hk).1
  have hdm:k/az.n α*az.n α+k%az.n α=k:=by rw[Nat.mul_comm];exact Nat.div_add_mod k _
  have hi:k/az.n α<xs.length:=by
   rw[xG] at Eb
   exact (Nat.div_lt_iff_lt_mul RK).2 Eb
  have hk2:=hk
  rw[←hdm,gD az.len _ _ _ hi (Nat.mod_lt _ RK)] at hk2
  have hgi:xs[k/az.n α]? =some (xs.g (k/az.n α)):=by
   rw[List.g,List.getD_eq_getElem?_getD,List.getElem?_eq_getElem hi];rfl
  obtain ⟨y,hy,hvr⟩:=hx _ _ hgi _ v hk2
  rw[ack,hdm] at hy
  exact ⟨y,hy,hvr⟩)
 have hVR:=VR.slice (φ:=φ1.add h1.nx ⟨a.block,a.off,0⟩) 0 len cap false fW
 have has:Has h1 h':=uv g1.tidy hn
 refine ⟨_,h',(.slice h1.nx 0 len cap false,xs),g1.trans ⟨pV,hle,aex,has,by omega,fM g1.tidy hn⟩,LR.cons ?_ (LR.nil _),?_⟩
 · obtain ⟨b,o,sp⟩:=a
   simp only at Km
   subst Km
   exact hVR
 · subst hl
   exact ⟨⟨az.size,xG,AF.1,rfl,.inr ⟨h1.nx,0,_,cap,false,_,_,true,rfl,Zh,hg,fun j _=>by rw[Nat.zero_add]⟩⟩,.inr (.inr ⟨_,_,_,_,_,rfl,fun e=>by cases e⟩),fun x hx=>az.mono has (hq x hx)⟩
end
open Go.ChangeShapes Go.WideShapes Go.RowKit
section
variable {H:Type} {enc:TypeId×Value→H} {w:World} {base:Nat} {spare:Nat→Bool} {held:Bool}
end
open Go.ChangeShapes Go.WideShapes Go.RowKit
section
variable {H:Type} {enc:TypeId×Value→H} {w:World} {base:Nat} {spare:Nat→Bool} {held:Bool}
theorem Kn:Try.prog.cellsOf 9=1:=by kernel_rfl
theorem j_:Try.prog.cellsOf 3=1:=by kernel_rfl
theorem Rt:Try.prog.cellsOf 23=2:=by kernel_rfl
theorem UI:sJ enc w base spare held 23 2 (az.c (α:=Span)) az.ok:=fun φ h0 ok ro ty cs z fuel hl hw hv=>by
 obtain ⟨xs,n,_,rfl,_,AD,hf⟩:=DataW.trod_struct Try.underlying23 hv
 obtain ⟨c0,c1,rfl⟩:∃c0 c1,cs=[c0,c1]:=by
  match cs,hl with
  | [c0,c1],_=>exact ⟨_,_,rfl⟩
 obtain ⟨y0,y1,rfl⟩:∃y0 y1,xs=[y0,y1]:=by
  match xs,AD with
  | [y0,y1],_=>exact ⟨_,_,rfl⟩
 have hs:=Small.struct Try.underlying23 hw
 obtain ⟨s0,hs⟩:=Small.bZ hs
 have q0:DataW.trod enc Try.prog w base spare held n 3 [c0]=some y0:=by simpa [j_] using hf 0 _ rfl
 obtain ⟨φ1,h1,x0,g0,l0,o0⟩:=eT (t:=3) Try.underlying3 _ _ (Gx.refl ok ro ty).ok (Gx.refl ok ro ty).ro (Gx.refl ok ro ty).tidy _ _ _ rfl s0 q0
 have G0:=Gx.trans (Gx.refl ok ro ty) g0
 obtain ⟨s1,hs⟩:=Small.bZ hs
 have q1:DataW.trod enc Try.prog w base spare held n 3 [c1]=some y1:=by simpa [j_] using hf 1 _ rfl
 obtain ⟨φ2,h2,x1,g1,l1,o1⟩:=eT (t:=3) Try.underlying3 _ _ G0.ok G0.ro G0.tidy _ _ _ rfl s1 q1
 have G1:=Gx.trans G0 g1
 have L0:=LR.mono (Ph.le_trans (Ph.le_refl _) g1.le) l0
 have L1:=LR.mono (Ph.le_refl _) l1
 exact ⟨_,_,⟨x0,x1⟩,G1,(LR.append L0 (LR.append L1 (LR.nil _))),trivial⟩
theorem Ru:Try.prog.cellsOf 45=4:=by kernel_rfl
theorem UJ:sJ enc w base spare held 45 4 (az.c (α:=aE)) az.ok:=fun φ h0 ok ro ty cs z fuel hl hw hv=>by
 obtain ⟨xs,n,_,rfl,_,AD,hf⟩:=DataW.trod_struct Try.underlying45 hv
 obtain ⟨c0,c1,c2,c3,rfl⟩:∃c0 c1 c2 c3,cs=[c0,c1,c2,c3]:=by
  match cs,hl with
  | [c0,c1,c2,c3],_=>exact ⟨_,_,_,_,rfl⟩
 obtain ⟨y0,y1,y2,y3,rfl⟩:∃y0 y1 y2 y3,xs=[y0,y1,y2,y3]:=by
  match xs,AD with
  | [y0,y1,y2,y3],_=>exact ⟨_,_,_,_,rfl⟩
 have hs:=Small.struct Try.underlying45 hw
 obtain ⟨s0,hs⟩:=Small.bZ hs
 have q0:DataW.trod enc Try.prog w base spare held n 9 [c0]=some y0:=by simpa [Kn] using hf 0 _ rfl
 obtain ⟨φ1,h1,x0,g0,l0,o0⟩:=Ch (t:=9) Try.underlying9 _ _ (Gx.refl ok ro ty).ok (Gx.refl ok ro ty).ro (Gx.refl ok ro ty).tidy _ _ _ rfl s0 q0
 have G0:=Gx.trans (Gx.refl ok ro ty) g0
 obtain ⟨s1,hs⟩:=Small.bZ hs
 have q1:DataW.trod enc Try.prog w base spare held n 3 [c1]=some y1:=by simpa [j_] using hf 1 _ rfl
 obtain ⟨φ2,h2,x1,g1,l1,o1⟩:=eT (t:=3) Try.underlying3 _ _ G0.ok G0.ro G0.tidy _ _ _ rfl s1 q1
 have G1:=Gx.trans G0 g1
 obtain ⟨s2,hs⟩:=Small.bZ hs
 have q2:DataW.trod enc Try.prog w base spare held n 3 [c2]=some y2:=by simpa [j_] using hf 2 _ rfl
 obtain ⟨φ3,h3,x2,g2,l2,o2⟩:=eT (t:=3) Try.underlying3 _ _ G1.ok G1.ro G1.tidy _ _ _ rfl s2 q2
 have G2:=Gx.trans G1 g2
 obtain ⟨s3,hs⟩:=Small.bZ hs
 have q3:DataW.trod enc Try.prog w base spare held n 3 [c3]=some y3:=by simpa [j_] using hf 3 _ rfl
 obtain ⟨φ4,h4,x3,g3,l3,o3⟩:=eT (t:=3) Try.underlying3 _ _ G2.ok G2.ro G2.tidy _ _ _ rfl s3 q3
 have G3:=Gx.trans G2 g3
 have L0:=LR.mono (Ph.le_trans (Ph.le_trans (Ph.le_trans (Ph.le_refl _) g1.le) g2.le) g3.le) l0
 have L1:=LR.mono (Ph.le_trans (Ph.le_trans (Ph.le_refl _) g2.le) g3.le) l1
 have L2:=LR.mono (Ph.le_trans (Ph.le_refl _) g3.le) l2
 have L3:=LR.mono (Ph.le_refl _) l3
 exact ⟨_,_,⟨x0,x1,x2,x3⟩,G3,(LR.append L0 (LR.append L1 (LR.append L2 (LR.append L3 (LR.nil _))))),o0⟩
theorem Rv:Try.prog.cellsOf 24=1:=by kernel_rfl
theorem UK:sJ enc w base spare held 24 1 (fun x:AV×List aE=> [x.1]) (fun h x=>aQ h x.1 x.2):=xw (t:=24) Try.underlying24 Ru (of_decide_eq_true (by kernel_rfl)) (fun _ x m _ h=>by cases x;simp [az.c,aE.c] at h) UJ
theorem Rw:Try.prog.cellsOf 26=7:=by kernel_rfl
theorem UL:sJ enc w base spare held 26 7 (az.c (α:=aw)) az.ok:=fun φ h0 ok ro ty cs z fuel hl hw hv=>by
 obtain ⟨xs,n,_,rfl,_,AD,hf⟩:=DataW.trod_struct Try.underlying26 hv
 obtain ⟨c0,c1,c2,c3,c4,c5,c6,rfl⟩:∃c0 c1 c2 c3 c4 c5 c6,cs=[c0,c1,c2,c3,c4,c5,c6]:=by
  match cs,hl with
  | [c0,c1,c2,c3,c4,c5,c6],_=>exact ⟨_,_,_,_,_,_,_,rfl⟩
 obtain ⟨y0,y1,y2,y3,y4,y5,rfl⟩:∃y0 y1 y2 y3 y4 y5,xs=[y0,y1,y2,y3,y4,y5]:=by
  match xs,AD with
  | [y0,y1,y2,y3,y4,y5],_=>exact ⟨_,_,_,_,_,_,rfl⟩
 have hs:=Small.struct Try.underlying26 hw
 obtain ⟨s0,hs⟩:=Small.bZ hs
 have q0:DataW.trod enc Try.prog w base spare held n 9 [c0]=some y0:=by simpa [Kn] using hf 0 _ rfl
 obtain ⟨φ1,h1,x0,g0,l0,o0⟩:=Ch (t:=9) Try.underlying9 _ _ (Gx.refl ok ro ty).ok (Gx.refl ok ro ty).ro (Gx.refl ok ro ty).tidy _ _ _ rfl s0 q0
 have G0:=Gx.trans (Gx.refl ok ro ty) g0
 obtain ⟨s1,hs⟩:=Small.bZ hs
 have q1:DataW.trod enc Try.prog w base spare held n 23 [c1,c2]=some y1:=by simpa [Rt] using hf 1 _ rfl
 obtain ⟨φ2,h2,x1,g1,l1,o1⟩:=UI _ _ G0.ok G0.ro G0.tidy _ _ _ rfl s1 q1
 have G1:=Gx.trans G0 g1
 obtain ⟨s2,hs⟩:=Small.bZ hs
 have q2:DataW.trod enc Try.prog w base spare held n 3 [c3]=some y2:=by simpa [j_] using hf 2 _ rfl
 obtain ⟨φ3,h3,x2,g2,l2,o2⟩:=eT (t:=3) Try.underlying3 _ _ G1.ok G1.ro G1.tidy _ _ _ rfl s2 q2
 have G2:=Gx.trans G1 g2
 obtain ⟨s3,hs⟩:=Small.bZ hs
 have q3:DataW.trod enc Try.prog w base spare held n 3 [c4]=some y3:=by simpa [j_] using hf 3 _ rfl
 obtain ⟨φ4,h4,x3,g3,l3,o3⟩:=eT (t:=3) Try.underlying3 _ _ G2.ok G2.ro G2.tidy _ _ _ rfl s3 q3
 have G3:=Gx.trans G2 g3
 obtain ⟨s4,hs⟩:=Small.bZ hs
 have q4:DataW.trod enc Try.prog w base spare held n 3 [c5]=some y4:=by simpa [j_] using hf 4 _ rfl
 obtain ⟨φ5,h5,x4,g4,l4,o4⟩:=eT (t:=3) Try.underlying3 _ _ G3.ok G3.ro G3.tidy _ _ _ rfl s4 q4
 have G4:=Gx.trans G3 g4
 obtain ⟨s5,hs⟩:=Small.bZ hs
 have q5:DataW.trod enc Try.prog w base spare held n 24 [c6]=some y5:=by simpa [Rv] using hf 5 _ rfl
 obtain ⟨φ6,h6,x5,g5,l5,o5⟩:=UK _ _ G4.ok G4.ro G4.tidy _ _ _ rfl s5 q5
 have G5:=Gx.trans G4 g5
 have L0:=LR.mono (Ph.le_trans (Ph.le_trans (Ph.le_trans (Ph.le_trans (Ph.le_trans (Ph.le_refl _) g1.le) g2.le) g3.le) g4.le) g5.le) l0
 have L1:=LR.mono (Ph.le_trans (Ph.le_trans (Ph.le_trans (Ph.le_trans (Ph.le_refl _) g2.le) g3.le) g4.le) g5.le) l1
 have L2:=LR.mono (Ph.le_trans (Ph.le_trans (Ph.le_trans (Ph.le_refl _) g3.le) g4.le) g5.le) l2
 have L3:=LR.mono (Ph.le_trans (Ph.le_trans (Ph.le_refl _) g4.le) g5.le) l3
 have L4:=LR.mono (Ph.le_trans (Ph.le_refl _) g5.le) l4
 have L5:=LR.mono (Ph.le_refl _) l5
 exact ⟨_,_,⟨x0,x1.aM,x1.aD,x2,x3,x4,x5.1,x5.2⟩,G5,(LR.append L0 (LR.append L1 (LR.append L2 (LR.append L3 (LR.append L4 (LR.append L5 (LR.nil _))))))),⟨o0,o5⟩⟩
theorem Rx:Try.prog.cellsOf 43=3:=by kernel_rfl
theorem UM:sJ enc w base spare held 43 3 (az.c (α:=aB)) az.ok:=fun φ h0 ok ro ty cs z fuel hl hw hv=>by
 obtain ⟨xs,n,_,rfl,_,AD,hf⟩:=DataW.trod_struct Try.underlying43 hv
 obtain ⟨c0,c1,c2,rfl⟩:∃c0 c1 c2,cs=[c0,c1,c2]:=by
  match cs,hl with
  | [c0,c1,c2],_=>exact ⟨_,_,_,rfl⟩
 obtain ⟨y0,y1,y2,rfl⟩:∃y0 y1 y2,xs=[y0,y1,y2]:=by
  match xs,AD with
  | [y0,y1,y2],_=>exact ⟨_,_,_,rfl⟩
 have hs:=Small.struct Try.underlying43 hw
 obtain ⟨s0,hs⟩:=Small.bZ hs
 have q0:DataW.trod enc Try.prog w base spare held n 3 [c0]=some y0:=by simpa [j_] using hf 0 _ rfl
 obtain ⟨φ1,h1,x0,g0,l0,o0⟩:=eT (t:=3) Try.underlying3 _ _ (Gx.refl ok ro ty).ok (Gx.refl ok ro ty).ro (Gx.refl ok ro ty).tidy _ _ _ rfl s0 q0
 have G0:=Gx.trans (Gx.refl ok ro ty) g0
 obtain ⟨s1,hs⟩:=Small.bZ hs
 have q1:DataW.trod enc Try.prog w base spare held n 3 [c1]=some y1:=by simpa [j_] using hf 1 _ rfl
 obtain ⟨φ2,h2,x1,g1,l1,o1⟩:=eT (t:=3) Try.underlying3 _ _ G0.ok G0.ro G0.tidy _ _ _ rfl s1 q1
 have G1:=Gx.trans G0 g1
 obtain ⟨s2,hs⟩:=Small.bZ hs
 have q2:DataW.trod enc Try.prog w base spare held n 3 [c2]=some y2:=by simpa [j_] using hf 2 _ rfl
 obtain ⟨φ3,h3,x2,g2,l2,o2⟩:=eT (t:=3) Try.underlying3 _ _ G1.ok G1.ro G1.tidy _ _ _ rfl s2 q2
 have G2:=Gx.trans G1 g2
 have L0:=LR.mono (Ph.le_trans (Ph.le_trans (Ph.le_refl _) g1.le) g2.le) l0
 have L1:=LR.mono (Ph.le_trans (Ph.le_refl _) g2.le) l1
 have L2:=LR.mono (Ph.le_refl _) l2
 exact ⟨_,_,⟨x0,x1,x2⟩,G2,(LR.append L0 (LR.append L1 (LR.append L2 (LR.nil _)))),trivial⟩
theorem UN:sJ enc w base spare held 27 1 (fun x:AV×List aB=> [x.1]) (fun h x=>aQ h x.1 x.2):=xw (t:=27) Try.underlying27 Rx (of_decide_eq_true (by kernel_rfl)) (fun _ x m _ h=>by cases x;simp [az.c,aB.c] at h) UM
end
end
end Go.Proofs.aK
