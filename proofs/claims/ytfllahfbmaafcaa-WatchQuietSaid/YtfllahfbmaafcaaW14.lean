import Derived.Test.YtfllahfbmaafcaaW0
import Derived.Test.YtfllahfbmaafcaaA7
namespace Go.Proofs.aG
open Go.Proofs Ab
noncomputable section
set_option maxRecDepth 100000
set_option maxHeartbeats 4000000
set_option linter.unusedVariables false
set_option linter.unusedSimpArgs false
open Go.ChangeShapes Go.WideShapes Go.RowKit
structure Gx (φ φ':Ph) (h h':aw) (w:World):Prop where
 ok:OK env φ' h' w
 le:φ.le φ'
 ro:wQ h'
 has:Has h h'
 nx:h.nx≤h'.nx
 tidy:Tidy h'
theorem Gx.refl {φ:Ph} {h:aw} {w:World} (ok:OK env φ h w) (ro:wQ h) (y:Tidy h):Gx φ φ h h w:=⟨ok,Ph.le_refl _,ro,Has.refl _,Nat.le_refl _,y⟩
theorem Gx.trans {a b c:Ph} {h1 h2 h3:aw} {w:World} (x:Gx a b h1 h2 w) (y:Gx b c h2 h3 w):Gx a c h1 h3 w:=⟨y.ok,Ph.le_trans x.le y.le,y.ro,x.has.trans y.has,Nat.le_trans x.nx y.nx,y.tidy⟩
section
variable {H:Type} (enc:TypeId×Value→H) (w:World) (base:Nat) (spare:Nat→Bool) (held:Bool)
def Small (t:TypeId) (d:DataW H):Prop:=(DataW.weights env.P t d).all (· ≤reachBytes)=true
theorem Small.all {e:TypeId}:∀{l:List (DataW H)},(DataW.weightsAll env.P e l).all (· ≤reachBytes)=true→∀d∈l,Small e d
 | [],_,d,hd=>by cases hd
 | x::l,h,d,hd=>by
   rw[DataW.weightsAll,List.all_append,Bool.and_eq_true] at h
   rcases List.mem_cons.1 hd with rfl | hd
   · exact h.1
   · exact Small.all h.2 d hd
theorem Small.struct {t:TypeId} {fs:Array Field} {parts:List (DataW H)} (ht:env.P.underlying t=some (.struct fs)) (h:Small t (.agg parts)):(DataW.weightsEach env.P (fs.toList.map (·.type)) parts).all (· ≤reachBytes)=true:=by
 unfold Small at h
 rw[DataW.weights,ht] at h
 exact h
theorem Small.cf {t:TypeId} {ts:List TypeId} {d:DataW H} {ds:List (DataW H)} (h:(DataW.weightsEach env.P (t::ts) (d::ds)).all (· ≤reachBytes)=true):Small t d∧(DataW.weightsEach env.P ts ds).all (· ≤reachBytes)=true:=by
 rw[DataW.weightsEach,List.all_append,Bool.and_eq_true] at h
 exact h
theorem He {n:Nat} (h:n≤reachBytes):n<2^60:=Nat.lt_of_le_of_lt h (by unfold reachBytes;decide)
def pv {D:Type} (t:TypeId) (sz:Nat) (c:D→List AV) (ok:aw→D→Prop):Prop:=
 ∀(φ:Ph) (h:aw),OK env φ h w→wQ h→Tidy h→∀(cs:List Value) (y:DataW H×List MemPlace) (n:Nat),cs.length=sz→Small t y.1→DataW.trod enc env.P w base spare held n t cs=some y→
  ∃φ' h' x,Gx φ φ' h h' w∧LR φ' (c x) cs∧ok h' x
variable {enc w base spare held}
theorem eQ {k:IntKind} {t:TypeId} (ht:env.P.underlying t=some (.int k)):pv enc w base spare held t 1 (fun x:Int=> [.int k x]) (fun _ _=>True):=fun φ h ok ro y cs z n _ hw hv=>by
 obtain ⟨m,rfl,_,_⟩:=DataW.trod_int ht hv
 exact ⟨φ,h,m,Gx.refl ok ro y,LR.cons (VR.int k m) (LR.nil _),trivial⟩
theorem E3 {t:TypeId} (ht:env.P.underlying t=some .string):pv enc w base spare held t 1 (fun x:List UInt8=> [.str x]) (fun _ x=>x.length<2^60):=fun φ h ok ro y cs z n _ hw hv=>by
 obtain ⟨s,rfl,rfl,hs⟩:=DataW.trod_string ht hv
 refine ⟨φ,h,s.data.toList,Gx.refl ok ro y,LR.cons (VR.str s) (LR.nil _),?_⟩
 unfold Small at hw
 rw[DataW.weights,List.all_cons,Bool.and_eq_true] at hw
 exact He (of_decide_eq_true hw.1)
theorem Am {α:Type} [aA α] {t:TypeId} (ht:env.P.underlying t=some (.slice (aA.e α))) (hs:env.P.cellsOf (aA.e α)=aA.n α) (hby:0<env.P.bytesOf (aA.e α)) (hm:∀(h:aw) (x:α) m,aA.ok h x→AV.map m ∉ aA.c x)
 (he:pv enc w base spare held (aA.e α) (aA.n α) (aA.c (α:=α)) aA.ok):pv enc w base spare held t 1 (fun x:AV×List α=> [x.1]) (fun h x=>aP h x.1 x.2):=fun φ h ok ro y cs z fuel _ hw hv=>by
 have Km:=aA.pos (α:=α)
 rcases DataW.trod_slice ht hv with ⟨rfl,_⟩ | ⟨a,len,cap,elems,rest,n,_,rfl,rfl,hb,ZH,hcm,ab9,fP,_,_⟩
 · exact ⟨φ,h,(.aN,[]),Gx.refl ok ro y,LR.cons VR.aN (LR.nil _),⟨aA.size,(Nat.zero_mul _).symm,Nat.pow_pos (by decide),rfl,.inl rfl⟩,.inl rfl,fun x hx=>by cases hx⟩
 rcases Nat.eq_zero_or_pos len with h0 | h0
 · subst h0
   exact ⟨φ,h,(.dQ,[]),Gx.refl ok ro y,LR.cons (VR.dQ a cap) (LR.nil _),⟨aA.size,(Nat.zero_mul _).symm,Nat.pow_pos (by decide),rfl,.inl rfl⟩,.inr (.inl rfl),fun x hx=>by cases hx⟩
 have As:len<2^60∧(DataW.weightsAll env.P (aA.e α) (elems.map (·.1))).all (· ≤reachBytes)=true:=by
  unfold Small at hw
  rw[DataW.weights,ht] at hw
  simp only[List.all_cons,List.all_append,Bool.and_eq_true,List.length_map] at hw
  refine ⟨He (Nat.le_trans ?_ (of_decide_eq_true hw.1)),hw.2.1⟩
  rw[ab9]
  exact Nat.le_trans (Nat.le_add_right _ _) (Nat.le_mul_of_pos_right _ hby)
 have all:∀m,m≤len→∃(φ':Ph) (h':aw) (xs:List α),Gx φ φ' h h' w∧xs.length=m∧(∀x∈xs,aA.ok h' x)∧∀(i:Nat) (x:α),xs[i]? =some x→∀j v,(aA.c x)[j]? =some v→∃y,w.cell? ((a.add (i*aA.n α)).add j)=some y∧VR φ' v y:=by
  intro m
  induction m with
  | zero=>exact fun _=>⟨φ,h,[],Gx.refl ok ro y,rfl,fun _ hx=>(by cases hx),fun i xi hx=>(by simp at hx)⟩
  | succ m ih=>
    intro U'
    obtain ⟨φ1,h1,xs,g1,hl,hq,hx⟩:=ih o!
    have h2:=fP m o!
    rw[List.getElem?_eq_getElem o!,hs] at h2
    simp only[Option.bind_eq_some_iff] at h2
    obtain ⟨ci,Qh,hc2⟩:=h2
    obtain ⟨_,ME,D9⟩:=World.cells?_some Qh
    obtain ⟨φ2,h2,x,g2,zt,jI⟩:=he φ1 h1 g1.ok g1.ro g1.tidy ci _ n ME (Small.all As.2 _ (List.mem_map.2 ⟨_,List.getElem_mem _,rfl⟩)) hc2
    refine ⟨φ2,h2,xs++[x],g1.trans g2,by simp [hl],fun z hz=>?_,fun i z hz=>?_⟩
    · rcases List.mem_append.1 hz with h | h
      · exact aA.mono g2.has (hq z h)
      · simp at h;subst h;exact jI
    · by_cases hi:i<xs.length
      · rw[List.getElem?_append_left hi] at hz
        intro j v hj
        obtain ⟨q,e1,e2⟩:=hx i z hz j v hj
        exact ⟨q,e1,e2.mono g2.le⟩
      · rw[List.getElem?_append_right o!] at hz
        have:i - xs.length=0:=by
         have:=(List.getElem?_eq_some_iff.1 hz).1
         simp at this;omega
        rw[this] at hz
        simp at hz;subst hz
        have:i=m:=by omega
        subst this
        intro j v hj
        have nD:j<(aA.c x).length:=(List.getElem?_eq_some_iff.1 hj).1
        have KW:j<ci.length:=by rw[←zt.1];exact nD
        exact ⟨ci[j],by rw[D9 j (by rw[ME] at KW;exact KW),List.getElem?_eq_getElem KW],zt.2 j v _ hj (List.getElem?_eq_getElem KW)⟩
 obtain ⟨φ1,h1,xs,g1,hl,hq,hx⟩:=all len (Nat.le_refl _)
 have wY:=b7 aA.len xs
 have yd:a.spot=none:=by
  have hx0:xs[0]? =some (xs[0]'o!):=List.getElem?_eq_getElem o!
  obtain ⟨y,hy,_⟩:=hx 0 _ hx0 0 ((aA.c (xs[0]'o!))[0]'(by rw[aA.len];exact Km)) (List.getElem?_eq_getElem _)
  simp only[Nat.zero_mul,Addr.add,if_true] at hy
  unfold World.cell? at hy
  split at hy
  · cases hsp:a.spot with
    | none=>rfl
    | some _=>rw[hsp] at hy;simp at hy
  · cases hy
 have US:∀i j,(a.add (i*aA.n α)).add j=⟨a.block,a.off+(i*aA.n α+j),none⟩:=by
  intro i j
  obtain ⟨b,o,sp⟩:=a
  simp only at yd
  subst yd
  unfold Addr.add
  by_cases h1:i*aA.n α=0<;>by_cases h2:j=0<;>simp [h1,h2,Nat.add_assoc]
 have eu:xs.flatMap aA.c≠ []:=by
  intro e
  have:=congrArg List.length e
  rw[wY,hl] at this
  have:=Nat.mul_pos h0 Km
  simp at *
  omega
 obtain ⟨h',hn,rz,hle,aca,air,hg,hold,gH⟩:=g1.ok.show g1.ro (b:=a.block) (off:=a.off) (e:=aA.e α) eu (fun m U'=>by
  have:AV.map m∈xs.flatMap aA.c:=by rw[U'];simp
  obtain ⟨z,hz,hmz⟩:=List.mem_flatMap.1 this
  exact hm h1 z m (hq z hz) hmz) (fun k v hk=>by
  have DM:k<(xs.flatMap aA.c).length:=(List.getElem?_eq_some_iff.1 hk).1
  have hdm:k/aA.n α*aA.n α+k%aA.n α=k:=by rw[Nat.mul_comm];exact Nat.div_add_mod k _
  have hi:k/aA.n α<xs.length:=by
   rw[wY] at DM
   exact (Nat.div_lt_iff_lt_mul Km).2 DM
  have hk2:=hk
  rw[←hdm,ie aA.len _ _ _ hi (Nat.mod_lt _ Km)] at hk2
  have hgi:xs[k/aA.n α]? =some (xs.g (k/aA.n α)):=by
   rw[List.g,List.getD_eq_getElem?_getD,List.getElem?_eq_getElem hi];rfl
  obtain ⟨y,hy,hvr⟩:=hx _ _ hgi _ v hk2
  rw[US,hdm] at hy
  exact ⟨y,hy,hvr⟩)
 have hVR:=VR.slice (φ:=φ1.add h1.nx ⟨a.block,a.off,0⟩) 0 len cap false gH
 have has:Has h1 h':=tS g1.tidy hn
 refine ⟨_,h',(.slice h1.nx 0 len cap false,xs),g1.trans ⟨rz,hle,aca,has,by omega,fT g1.tidy hn⟩,LR.cons ?_ (LR.nil _),?_⟩
 · obtain ⟨b,o,sp⟩:=a
   simp only at yd
   subst yd
   exact hVR
 · subst hl
   exact ⟨⟨aA.size,wY,As.1,rfl,.inr ⟨h1.nx,0,_,cap,false,_,_,true,rfl,ZH,hg,fun j _=>by rw[Nat.zero_add]⟩⟩,.inr (.inr ⟨_,_,_,_,_,rfl,fun e=>by cases e⟩),fun x hx=>aA.mono has (hq x hx)⟩
end
open Go.ChangeShapes Go.WideShapes Go.RowKit
section
variable {H:Type} {enc:TypeId×Value→H} {w:World} {base:Nat} {spare:Nat→Bool} {held:Bool}
theorem Ms {α:Type} {t e_:TypeId} {n_:Nat} {c_:α→List AV} {ok_:aw→α→Prop} (E9:bZ env e_=some n_) (hlen:∀x,(c_ x).length=n_) (ZL:0<n_) (ZB:∀{h h':aw} {x:α},Has h h'→ok_ h x→ok_ h' x) (hg_:∀(l:List α) (i:Nat) (hi:i<l.length),∃x,l[i]? =some x∧∀j,j<n_→(l.flatMap c_)[i*n_+j]? =(c_ x)[j]?) (ht:env.P.underlying t=some (.slice e_)) (hs:env.P.cellsOf e_=n_) (hby:0<env.P.bytesOf e_) (hm:∀(h:aw) (x:α) m,ok_ h x→AV.map m ∉ c_ x)
 (he:pv enc w base spare held e_ n_ c_ ok_):pv enc w base spare held t 1 (fun x:AV×List α=> [x.1]) (fun h x=>lZ env h e_ n_ x.1 x.2.length (x.2.flatMap c_)∧(x.1= .aN∨x.1= .dQ∨∃p o m c b,x.1= .slice p o m c b)∧∀y∈x.2,ok_ h y):=fun φ h ok ro y cs z fuel _ hw hv=>by
 have Km:=ZL
 rcases DataW.trod_slice ht hv with ⟨rfl,_⟩ | ⟨a,len,cap,elems,rest,n,_,rfl,rfl,hb,ZH,hcm,ab9,fP,_,_⟩
 · exact ⟨φ,h,(.aN,[]),Gx.refl ok ro y,LR.cons VR.aN (LR.nil _),⟨E9,(Nat.zero_mul _).symm,Nat.pow_pos (by decide),rfl,.inl rfl⟩,.inl rfl,fun x hx=>by cases hx⟩
 rcases Nat.eq_zero_or_pos len with h0 | h0
 · subst h0
   exact ⟨φ,h,(.dQ,[]),Gx.refl ok ro y,LR.cons (VR.dQ a cap) (LR.nil _),⟨E9,(Nat.zero_mul _).symm,Nat.pow_pos (by decide),rfl,.inl rfl⟩,.inr (.inl rfl),fun x hx=>by cases hx⟩
 have As:len<2^60∧(DataW.weightsAll env.P (e_) (elems.map (·.1))).all (· ≤reachBytes)=true:=by
  unfold Small at hw
  rw[DataW.weights,ht] at hw
  simp only[List.all_cons,List.all_append,Bool.and_eq_true,List.length_map] at hw
  refine ⟨He (Nat.le_trans ?_ (of_decide_eq_true hw.1)),hw.2.1⟩
  rw[ab9]
  exact Nat.le_trans (Nat.le_add_right _ _) (Nat.le_mul_of_pos_right _ hby)
 have all:∀m,m≤len→∃(φ':Ph) (h':aw) (xs:List α),Gx φ φ' h h' w∧xs.length=m∧(∀x∈xs,ok_ h' x)∧∀(i:Nat) (x:α),xs[i]? =some x→∀j v,(c_ x)[j]? =some v→∃y,w.cell? ((a.add (i*n_)).add j)=some y∧VR φ' v y:=by
  intro m
  induction m with
  | zero=>exact fun _=>⟨φ,h,[],Gx.refl ok ro y,rfl,fun _ hx=>(by cases hx),fun i xi hx=>(by simp at hx)⟩
  | succ m ih=>
    intro U'
    obtain ⟨φ1,h1,xs,g1,hl,hq,hx⟩:=ih o!
    have h2:=fP m o!
    rw[List.getElem?_eq_getElem o!,hs] at h2
    simp only[Option.bind_eq_some_iff] at h2
    obtain ⟨ci,Qh,hc2⟩:=h2
    obtain ⟨_,ME,D9⟩:=World.cells?_some Qh
    obtain ⟨φ2,h2,x,g2,zt,jI⟩:=he φ1 h1 g1.ok g1.ro g1.tidy ci _ n ME (Small.all As.2 _ (List.mem_map.2 ⟨_,List.getElem_mem _,rfl⟩)) hc2
    refine ⟨φ2,h2,xs++[x],g1.trans g2,by simp [hl],fun z hz=>?_,fun i z hz=>?_⟩
    · rcases List.mem_append.1 hz with h | h
      · exact ZB g2.has (hq z h)
      · simp at h;subst h;exact jI
    · by_cases hi:i<xs.length
      · rw[List.getElem?_append_left hi] at hz
        intro j v hj
        obtain ⟨q,e1,e2⟩:=hx i z hz j v hj
        exact ⟨q,e1,e2.mono g2.le⟩
      · rw[List.getElem?_append_right o!] at hz
        have:i - xs.length=0:=by
         have:=(List.getElem?_eq_some_iff.1 hz).1
         simp at this;omega
        rw[this] at hz
        simp at hz;subst hz
        have:i=m:=by omega
        subst this
        intro j v hj
        have nD:j<(c_ x).length:=(List.getElem?_eq_some_iff.1 hj).1
        have KW:j<ci.length:=by rw[←zt.1];exact nD
        exact ⟨ci[j],by rw[D9 j (by rw[ME] at KW;exact KW),List.getElem?_eq_getElem KW],zt.2 j v _ hj (List.getElem?_eq_getElem KW)⟩
 obtain ⟨φ1,h1,xs,g1,hl,hq,hx⟩:=all len (Nat.le_refl _)
 have wY:=b7 hlen xs
 have yd:a.spot=none:=by
  have hx0:xs[0]? =some (xs[0]'o!):=List.getElem?_eq_getElem o!
  obtain ⟨y,hy,_⟩:=hx 0 _ hx0 0 ((c_ (xs[0]'o!))[0]'(by rw[hlen];exact Km)) (List.getElem?_eq_getElem _)
  simp only[Nat.zero_mul,Addr.add,if_true] at hy
  unfold World.cell? at hy
  split at hy
  · cases hsp:a.spot with
    | none=>rfl
    | some _=>rw[hsp] at hy;simp at hy
  · cases hy
 have US:∀i j,(a.add (i*n_)).add j=⟨a.block,a.off+(i*n_+j),none⟩:=by
  intro i j
  obtain ⟨b,o,sp⟩:=a
  simp only at yd
  subst yd
  unfold Addr.add
  by_cases h1:i*n_=0<;>by_cases h2:j=0<;>simp [h1,h2,Nat.add_assoc]
 have eu:xs.flatMap c_≠ []:=by
  intro e
  have:=congrArg List.length e
  rw[wY,hl] at this
  have:=Nat.mul_pos h0 Km
  simp at *
  omega
 obtain ⟨h',hn,rz,hle,aca,air,hg,hold,gH⟩:=g1.ok.show g1.ro (b:=a.block) (off:=a.off) (e:=e_) eu (fun m U'=>by
  have:AV.map m∈xs.flatMap c_:=by rw[U'];simp
  obtain ⟨z,hz,hmz⟩:=List.mem_flatMap.1 this
  exact hm h1 z m (hq z hz) hmz) (fun k v hk=>by
  have DM:k<(xs.flatMap c_).length:=(List.getElem?_eq_some_iff.1 hk).1
  have hdm:k/n_*n_+k%n_=k:=by rw[Nat.mul_comm];exact Nat.div_add_mod k _
  have hi:k/n_<xs.length:=by
   rw[wY] at DM
   exact (Nat.div_lt_iff_lt_mul Km).2 DM
  have hk2:=hk
  obtain ⟨xk,hgi,hgj⟩:=hg_ xs _ hi
  rw[←hdm,hgj _ (Nat.mod_lt _ Km)] at hk2
  obtain ⟨y,hy,hvr⟩:=hx _ _ hgi _ v hk2
  rw[US,hdm] at hy
  exact ⟨y,hy,hvr⟩)
 have hVR:=VR.slice (φ:=φ1.add h1.nx ⟨a.block,a.off,0⟩) 0 len cap false gH
 have has:Has h1 h':=tS g1.tidy hn
 refine ⟨_,h',(.slice h1.nx 0 len cap false,xs),g1.trans ⟨rz,hle,aca,has,by omega,fT g1.tidy hn⟩,LR.cons ?_ (LR.nil _),?_⟩
 · obtain ⟨b,o,sp⟩:=a
   simp only at yd
   subst yd
   exact hVR
 · subst hl
   exact ⟨⟨E9,wY,As.1,rfl,.inr ⟨h1.nx,0,_,cap,false,_,_,true,rfl,ZH,hg,fun j _=>by rw[Nat.zero_add]⟩⟩,.inr (.inr ⟨_,_,_,_,_,rfl⟩),fun x hx=>ZB has (hq x hx)⟩
theorem Hf (k:IntKind):∀l:List Int,(l.flatMap fun x=> [AV.int k x])=zs k l
 | []=>rfl
 | x::l=>by rw[List.flatMap_cons,Hf k l];rfl
theorem XV (k:IntKind) (l:List Int) (i:Nat) (hi:i<l.length):∃x,l[i]? =some x∧∀j,j<1→(l.flatMap fun x=> [AV.int k x])[i*1+j]? =[AV.int k x][j]? :=by
 refine ⟨l[i],List.getElem?_eq_getElem hi,fun j hj=>?_⟩
 have:j=0:=by omega
 subst this
 rw[Hf,zs,List.getElem?_map,Nat.mul_one,Nat.add_zero,List.getElem?_eq_getElem hi];rfl
theorem Mt {k:IntKind} {t e:TypeId} (ht:env.P.underlying t=some (.slice e)) (hi:env.P.underlying e=some (.int k)) (E9:bZ env e=some 1) (ha:eT env e=some false) (hs:env.P.cellsOf e=1) (hby:0<env.P.bytesOf e):pv enc w base spare held t 1 (fun x:AV×List Int=> [x.1]) (fun h x=>gW h k e x.1 x.2):=fun φ h ok ro y cs z n hl hw hv=>by
 obtain ⟨φ',h',x,g,l,a,b,_⟩:=Ms (ok_:=fun _ _=>True) (c_:=fun x:Int=> [.int k x]) E9 (fun _=>rfl) (by decide) (fun _ _=>trivial) (XV k) ht hs hby (fun _ x m _ hmm=>by simp at hmm) (eQ hi) φ h ok ro y cs z n hl hw hv
 refine ⟨φ',h',x,g,l,?_⟩
 rw[Hf] at a
 exact gW.mk a ha b
end
open Go.ChangeShapes Go.WideShapes Go.RowKit
section
variable {H:Type} {enc:TypeId×Value→H} {w:World} {base:Nat} {spare:Nat→Bool} {held:Bool}
theorem Oa:Try.prog.cellsOf 9=1:=by kernel_rfl
theorem kr:Try.prog.cellsOf 3=1:=by kernel_rfl
theorem UT:Try.prog.cellsOf 23=2:=by kernel_rfl
theorem XW:pv enc w base spare held 23 2 (aA.c (α:=Span)) aA.ok:=fun φ h0 ok ro ty cs z fuel hl hw hv=>by
 obtain ⟨xs,n,_,rfl,_,C7,hf⟩:=DataW.trod_struct Try.underlying23 hv
 obtain ⟨c0,c1,rfl⟩:∃c0 c1,cs=[c0,c1]:=by
  match cs,hl with
  | [c0,c1],_=>exact ⟨_,_,rfl⟩
 obtain ⟨y0,y1,rfl⟩:∃y0 y1,xs=[y0,y1]:=by
  match xs,C7 with
  | [y0,y1],_=>exact ⟨_,_,rfl⟩
 have hs:=Small.struct Try.underlying23 hw
 obtain ⟨s0,hs⟩:=Small.cf hs
 have q0:DataW.trod enc Try.prog w base spare held n 3 [c0]=some y0:=by simpa [kr] using hf 0 _ rfl
 obtain ⟨φ1,h1,x0,g0,l0,o0⟩:=eQ (t:=3) Try.underlying3 _ _ (Gx.refl ok ro ty).ok (Gx.refl ok ro ty).ro (Gx.refl ok ro ty).tidy _ _ _ rfl s0 q0
 have G0:=Gx.trans (Gx.refl ok ro ty) g0
 obtain ⟨s1,hs⟩:=Small.cf hs
 have q1:DataW.trod enc Try.prog w base spare held n 3 [c1]=some y1:=by simpa [kr] using hf 1 _ rfl
 obtain ⟨φ2,h2,x1,g1,l1,o1⟩:=eQ (t:=3) Try.underlying3 _ _ G0.ok G0.ro G0.tidy _ _ _ rfl s1 q1
 have G1:=Gx.trans G0 g1
 have L0:=LR.mono (Ph.le_trans (Ph.le_refl _) g1.le) l0
 have L1:=LR.mono (Ph.le_refl _) l1
 exact ⟨_,_,⟨x0,x1⟩,G1,(LR.append L0 (LR.append L1 (LR.nil _))),trivial⟩
theorem UU:Try.prog.cellsOf 45=4:=by kernel_rfl
theorem XX:pv enc w base spare held 45 4 (aA.c (α:=bT)) aA.ok:=fun φ h0 ok ro ty cs z fuel hl hw hv=>by
 obtain ⟨xs,n,_,rfl,_,C7,hf⟩:=DataW.trod_struct Try.underlying45 hv
 obtain ⟨c0,c1,c2,c3,rfl⟩:∃c0 c1 c2 c3,cs=[c0,c1,c2,c3]:=by
  match cs,hl with
  | [c0,c1,c2,c3],_=>exact ⟨_,_,_,_,rfl⟩
 obtain ⟨y0,y1,y2,y3,rfl⟩:∃y0 y1 y2 y3,xs=[y0,y1,y2,y3]:=by
  match xs,C7 with
  | [y0,y1,y2,y3],_=>exact ⟨_,_,_,_,rfl⟩
 have hs:=Small.struct Try.underlying45 hw
 obtain ⟨s0,hs⟩:=Small.cf hs
 have q0:DataW.trod enc Try.prog w base spare held n 9 [c0]=some y0:=by simpa [Oa] using hf 0 _ rfl
 obtain ⟨φ1,h1,x0,g0,l0,o0⟩:=E3 (t:=9) Try.underlying9 _ _ (Gx.refl ok ro ty).ok (Gx.refl ok ro ty).ro (Gx.refl ok ro ty).tidy _ _ _ rfl s0 q0
 have G0:=Gx.trans (Gx.refl ok ro ty) g0
 obtain ⟨s1,hs⟩:=Small.cf hs
 have q1:DataW.trod enc Try.prog w base spare held n 3 [c1]=some y1:=by simpa [kr] using hf 1 _ rfl
 obtain ⟨φ2,h2,x1,g1,l1,o1⟩:=eQ (t:=3) Try.underlying3 _ _ G0.ok G0.ro G0.tidy _ _ _ rfl s1 q1
 have G1:=Gx.trans G0 g1
 obtain ⟨s2,hs⟩:=Small.cf hs
 have q2:DataW.trod enc Try.prog w base spare held n 3 [c2]=some y2:=by simpa [kr] using hf 2 _ rfl
 obtain ⟨φ3,h3,x2,g2,l2,o2⟩:=eQ (t:=3) Try.underlying3 _ _ G1.ok G1.ro G1.tidy _ _ _ rfl s2 q2
 have G2:=Gx.trans G1 g2
 obtain ⟨s3,hs⟩:=Small.cf hs
 have q3:DataW.trod enc Try.prog w base spare held n 3 [c3]=some y3:=by simpa [kr] using hf 3 _ rfl
 obtain ⟨φ4,h4,x3,g3,l3,o3⟩:=eQ (t:=3) Try.underlying3 _ _ G2.ok G2.ro G2.tidy _ _ _ rfl s3 q3
 have G3:=Gx.trans G2 g3
 have L0:=LR.mono (Ph.le_trans (Ph.le_trans (Ph.le_trans (Ph.le_refl _) g1.le) g2.le) g3.le) l0
 have L1:=LR.mono (Ph.le_trans (Ph.le_trans (Ph.le_refl _) g2.le) g3.le) l1
 have L2:=LR.mono (Ph.le_trans (Ph.le_refl _) g3.le) l2
 have L3:=LR.mono (Ph.le_refl _) l3
 exact ⟨_,_,⟨x0,x1,x2,x3⟩,G3,(LR.append L0 (LR.append L1 (LR.append L2 (LR.append L3 (LR.nil _))))),o0⟩
theorem UW:Try.prog.cellsOf 24=1:=by kernel_rfl
theorem XY:pv enc w base spare held 24 1 (fun x:AV×List bT=> [x.1]) (fun h x=>aP h x.1 x.2):=Am (t:=24) Try.underlying24 UU (of_decide_eq_true (by kernel_rfl)) (fun _ x m _ h=>by cases x;simp [aA.c,bT.c] at h) XX
theorem UX:Try.prog.cellsOf 26=7:=by kernel_rfl
theorem XZ:pv enc w base spare held 26 7 (aA.c (α:=ay)) aA.ok:=fun φ h0 ok ro ty cs z fuel hl hw hv=>by
 obtain ⟨xs,n,_,rfl,_,C7,hf⟩:=DataW.trod_struct Try.underlying26 hv
 obtain ⟨c0,c1,c2,c3,c4,c5,c6,rfl⟩:∃c0 c1 c2 c3 c4 c5 c6,cs=[c0,c1,c2,c3,c4,c5,c6]:=by
  match cs,hl with
  | [c0,c1,c2,c3,c4,c5,c6],_=>exact ⟨_,_,_,_,_,_,_,rfl⟩
 obtain ⟨y0,y1,y2,y3,y4,y5,rfl⟩:∃y0 y1 y2 y3 y4 y5,xs=[y0,y1,y2,y3,y4,y5]:=by
  match xs,C7 with
  | [y0,y1,y2,y3,y4,y5],_=>exact ⟨_,_,_,_,_,_,rfl⟩
 have hs:=Small.struct Try.underlying26 hw
 obtain ⟨s0,hs⟩:=Small.cf hs
 have q0:DataW.trod enc Try.prog w base spare held n 9 [c0]=some y0:=by simpa [Oa] using hf 0 _ rfl
 obtain ⟨φ1,h1,x0,g0,l0,o0⟩:=E3 (t:=9) Try.underlying9 _ _ (Gx.refl ok ro ty).ok (Gx.refl ok ro ty).ro (Gx.refl ok ro ty).tidy _ _ _ rfl s0 q0
 have G0:=Gx.trans (Gx.refl ok ro ty) g0
 obtain ⟨s1,hs⟩:=Small.cf hs
 have q1:DataW.trod enc Try.prog w base spare held n 23 [c1,c2]=some y1:=by simpa [UT] using hf 1 _ rfl
 obtain ⟨φ2,h2,x1,g1,l1,o1⟩:=XW _ _ G0.ok G0.ro G0.tidy _ _ _ rfl s1 q1
 have G1:=Gx.trans G0 g1
 obtain ⟨s2,hs⟩:=Small.cf hs
 have q2:DataW.trod enc Try.prog w base spare held n 3 [c3]=some y2:=by simpa [kr] using hf 2 _ rfl
 obtain ⟨φ3,h3,x2,g2,l2,o2⟩:=eQ (t:=3) Try.underlying3 _ _ G1.ok G1.ro G1.tidy _ _ _ rfl s2 q2
 have G2:=Gx.trans G1 g2
 obtain ⟨s3,hs⟩:=Small.cf hs
 have q3:DataW.trod enc Try.prog w base spare held n 3 [c4]=some y3:=by simpa [kr] using hf 3 _ rfl
 obtain ⟨φ4,h4,x3,g3,l3,o3⟩:=eQ (t:=3) Try.underlying3 _ _ G2.ok G2.ro G2.tidy _ _ _ rfl s3 q3
 have G3:=Gx.trans G2 g3
 obtain ⟨s4,hs⟩:=Small.cf hs
 have q4:DataW.trod enc Try.prog w base spare held n 3 [c5]=some y4:=by simpa [kr] using hf 4 _ rfl
 obtain ⟨φ5,h5,x4,g4,l4,o4⟩:=eQ (t:=3) Try.underlying3 _ _ G3.ok G3.ro G3.tidy _ _ _ rfl s4 q4
 have G4:=Gx.trans G3 g4
 obtain ⟨s5,hs⟩:=Small.cf hs
 have q5:DataW.trod enc Try.prog w base spare held n 24 [c6]=some y5:=by simpa [UW] using hf 5 _ rfl
 obtain ⟨φ6,h6,x5,g5,l5,o5⟩:=XY _ _ G4.ok G4.ro G4.tidy _ _ _ rfl s5 q5
 have G5:=Gx.trans G4 g5
 have L0:=LR.mono (Ph.le_trans (Ph.le_trans (Ph.le_trans (Ph.le_trans (Ph.le_trans (Ph.le_refl _) g1.le) g2.le) g3.le) g4.le) g5.le) l0
 have L1:=LR.mono (Ph.le_trans (Ph.le_trans (Ph.le_trans (Ph.le_trans (Ph.le_refl _) g2.le) g3.le) g4.le) g5.le) l1
 have L2:=LR.mono (Ph.le_trans (Ph.le_trans (Ph.le_trans (Ph.le_refl _) g3.le) g4.le) g5.le) l2
 have L3:=LR.mono (Ph.le_trans (Ph.le_trans (Ph.le_refl _) g4.le) g5.le) l3
 have L4:=LR.mono (Ph.le_trans (Ph.le_refl _) g5.le) l4
 have L5:=LR.mono (Ph.le_refl _) l5
 exact ⟨_,_,⟨x0,x1.aU,x1.aF,x2,x3,x4,x5.1,x5.2⟩,G5,(LR.append L0 (LR.append L1 (LR.append L2 (LR.append L3 (LR.append L4 (LR.append L5 (LR.nil _))))))),⟨o0,o5⟩⟩
theorem UY:Try.prog.cellsOf 43=3:=by kernel_rfl
theorem X0:pv enc w base spare held 43 3 (aA.c (α:=az)) aA.ok:=fun φ h0 ok ro ty cs z fuel hl hw hv=>by
 obtain ⟨xs,n,_,rfl,_,C7,hf⟩:=DataW.trod_struct Try.underlying43 hv
 obtain ⟨c0,c1,c2,rfl⟩:∃c0 c1 c2,cs=[c0,c1,c2]:=by
  match cs,hl with
  | [c0,c1,c2],_=>exact ⟨_,_,_,rfl⟩
 obtain ⟨y0,y1,y2,rfl⟩:∃y0 y1 y2,xs=[y0,y1,y2]:=by
  match xs,C7 with
  | [y0,y1,y2],_=>exact ⟨_,_,_,rfl⟩
 have hs:=Small.struct Try.underlying43 hw
 obtain ⟨s0,hs⟩:=Small.cf hs
 have q0:DataW.trod enc Try.prog w base spare held n 3 [c0]=some y0:=by simpa [kr] using hf 0 _ rfl
 obtain ⟨φ1,h1,x0,g0,l0,o0⟩:=eQ (t:=3) Try.underlying3 _ _ (Gx.refl ok ro ty).ok (Gx.refl ok ro ty).ro (Gx.refl ok ro ty).tidy _ _ _ rfl s0 q0
 have G0:=Gx.trans (Gx.refl ok ro ty) g0
 obtain ⟨s1,hs⟩:=Small.cf hs
 have q1:DataW.trod enc Try.prog w base spare held n 3 [c1]=some y1:=by simpa [kr] using hf 1 _ rfl
 obtain ⟨φ2,h2,x1,g1,l1,o1⟩:=eQ (t:=3) Try.underlying3 _ _ G0.ok G0.ro G0.tidy _ _ _ rfl s1 q1
 have G1:=Gx.trans G0 g1
 obtain ⟨s2,hs⟩:=Small.cf hs
 have q2:DataW.trod enc Try.prog w base spare held n 3 [c2]=some y2:=by simpa [kr] using hf 2 _ rfl
 obtain ⟨φ3,h3,x2,g2,l2,o2⟩:=eQ (t:=3) Try.underlying3 _ _ G1.ok G1.ro G1.tidy _ _ _ rfl s2 q2
 have G2:=Gx.trans G1 g2
 have L0:=LR.mono (Ph.le_trans (Ph.le_trans (Ph.le_refl _) g1.le) g2.le) l0
 have L1:=LR.mono (Ph.le_trans (Ph.le_refl _) g2.le) l1
 have L2:=LR.mono (Ph.le_refl _) l2
 exact ⟨_,_,⟨x0,x1,x2⟩,G2,(LR.append L0 (LR.append L1 (LR.append L2 (LR.nil _)))),trivial⟩
theorem X1:pv enc w base spare held 27 1 (fun x:AV×List az=> [x.1]) (fun h x=>aP h x.1 x.2):=Am (t:=27) Try.underlying27 UY (of_decide_eq_true (by kernel_rfl)) (fun _ x m _ h=>by cases x;simp [aA.c,az.c] at h) X0
theorem X2:pv enc w base spare held 30 1 (fun x:AV×List Int=> [x.1]) (fun h x=>gW h .i64 3 x.1 x.2):=Mt Try.underlying30 Try.underlying3 (by kernel_rfl) (by kernel_rfl) kr (of_decide_eq_true (by kernel_rfl))
end
end
end Go.Proofs.aG
