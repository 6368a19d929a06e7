import Derived.Test.YtijehnelcbdlgaaGreatW0
import Derived.Test.YtijehnelcbdlgaaGreatA4
namespace Go.Proofs.aM
open Go.Proofs Ab
noncomputable section
set_option maxRecDepth 100000
set_option maxHeartbeats 4000000
set_option linter.unusedVariables false
set_option linter.unusedSimpArgs false
open Go.ChangeShapes Go.WideShapes Go.RowKit
structure Gx (φ φ':Ph) (h h':az) (w:World):Prop where
 ok:OK env φ' h' w
 le:φ.le φ'
 ro:CG h'
 has:Has h h'
 nx:h.nx≤h'.nx
 tidy:Tidy h'
theorem Gx.refl {φ:Ph} {h:az} {w:World} (ok:OK env φ h w) (ro:CG h) (y:Tidy h):Gx φ φ h h w:=⟨ok,Ph.le_refl _,ro,Has.refl _,jR _,y⟩
theorem Gx.trans {a b c:Ph} {h1 h2 h3:az} {w:World} (x:Gx a b h1 h2 w) (y:Gx b c h2 h3 w):Gx a c h1 h3 w:=⟨y.ok,Ph.le_trans x.le y.le,y.ro,x.has.trans y.has,Nat.le_trans x.nx y.nx,y.tidy⟩
section
variable {H:Type} (enc:TypeId×Value→H) (w:World) (base:Nat) (spare:Nat→Bool) (held:Bool)
def Small (t:TypeId) (d:DataW H):Prop:=(DataW.weights env.P t d).all (· ≤reachBytes)=true
theorem Small.all {e:TypeId}:∀{l:List (DataW H)},(DataW.weightsAll env.P e l).all (· ≤reachBytes)=true→∀d∈l,Small e d
 | [],_,d,hd=>by cases hd
 | x::l,h,d,hd=>by
  rw[DataW.weightsAll,List.all_append,Bool.and_eq_true] at h
  rcases List.mem_cons.1 hd with rfl | hd
  · exact h.1
  · exact Small.all h.2 d hd
theorem Small.struct {t:TypeId} {fs:Array Field} {parts:List (DataW H)} (ht:env.P.underlying t=some (.struct fs)) (h:Small t (.agg parts)):(DataW.weightsEach env.P (fs.toList.map (·.type)) parts).all (· ≤reachBytes)=true:=by
 unfold Small at h
 rw[DataW.weights,ht] at h
 exact h
theorem Small.dp {t:TypeId} {ts:List TypeId} {d:DataW H} {ds:List (DataW H)} (h:(DataW.weightsEach env.P (t::ts) (d::ds)).all (· ≤reachBytes)=true):Small t d∧(DataW.weightsEach env.P ts ds).all (· ≤reachBytes)=true:=by
 rw[DataW.weightsEach,List.all_append,Bool.and_eq_true] at h
 exact h
theorem P' {n:Nat} (h:n≤reachBytes):n<2^60:=Nat.lt_of_le_of_lt h (by unfold reachBytes;decide)
theorem aO.WB {α:Type} [aK α] {h:az} {v:AV} {l:List α} {m:Nat} (x:aO h v l) (e:AV.map m=v):False:=by
 rcases x.known with rfl | rfl | ⟨p,o,n,c,b,rfl,_⟩<;>cases e
def rj {D:Type} (t:TypeId) (sz:Nat) (c:D→List AV) (ok:az→D→Prop):Prop:=
 ∀(φ:Ph) (h:az),OK env φ h w→CG h→Tidy h→∀(cs:List Value) (y:DataW H×List MemPlace) (n:Nat),cs.length=sz→Small t y.1→DataW.trod enc env.P w base spare held n t cs=some y→
  ∃φ' h' x,Gx φ φ' h h' w∧LR φ' (c x) cs∧ok h' x
variable {enc w base spare held}
theorem lV {k:IntKind} {t:TypeId} (ht:env.P.underlying t=some (.int k)):rj enc w base spare held t 1 (fun x:Int=> [.int k x]) (fun _ _=>True):=fun φ h ok ro y cs z n _ hw hv=>by
 obtain ⟨m,rfl,_,_⟩:=DataW.trod_int ht hv
 exact ⟨φ,h,m,Gx.refl ok ro y,LR.cons (VR.int k m) (LR.nil _),trivial⟩
theorem Nv {t:TypeId} (ht:env.P.underlying t=some .string):rj enc w base spare held t 1 (fun x:List UInt8=> [.str x]) (fun _ x=>x.length<2^60):=fun φ h ok ro y cs z n _ hw hv=>by
 obtain ⟨s,rfl,rfl,hs⟩:=DataW.trod_string ht hv
 refine ⟨φ,h,s.data.toList,Gx.refl ok ro y,LR.cons (VR.str s) (LR.nil _),?_⟩
 unfold Small at hw
 rw[DataW.weights,List.all_cons,Bool.and_eq_true] at hw
 exact P' (jv hw.1)
theorem uh {α:Type} [aK α] {t:TypeId} (ht:env.P.underlying t=some (.slice (aK.e α))) (hs:env.P.cellsOf (aK.e α)=aK.n α) (hby:0<env.P.bytesOf (aK.e α)) (hm:∀(h:az) (x:α) m,aK.ok h x→AV.map m ∉ aK.c x)
 (he:rj enc w base spare held (aK.e α) (aK.n α) (aK.c (α:=α)) aK.ok):rj enc w base spare held t 1 (fun x:AV×List α=> [x.1]) (fun h x=>aO h x.1 x.2):=fun φ h ok ro y cs z fuel _ hw hv=>by
 have TF:=aK.pos (α:=α)
 rcases DataW.trod_slice ht hv with ⟨rfl,_⟩ | ⟨a,len,cap,elems,rest,n,_,rfl,rfl,hb,hlc,hcm,amy,jU,_,_⟩
 · exact ⟨φ,h,(.aw,[]),Gx.refl ok ro y,LR.cons VR.aw (LR.nil _),⟨aK.size,(Nat.zero_mul _).symm,Nat.pow_pos (by decide),rfl,.inl rfl⟩,.inl rfl,fun x hx=>by cases hx⟩
 rcases Nat.eq_zero_or_pos len with h0 | h0
 · subst h0
   exact ⟨φ,h,(.fJ,[]),Gx.refl ok ro y,LR.cons (VR.fJ a cap) (LR.nil _),⟨aK.size,(Nat.zero_mul _).symm,Nat.pow_pos (by decide),rfl,.inl rfl⟩,.inr (.inl rfl),fun x hx=>by cases hx⟩
 have NQ:len<2^60∧(DataW.weightsAll env.P (aK.e α) (elems.map (·.1))).all (· ≤reachBytes)=true:=by
  unfold Small at hw
  rw[DataW.weights,ht] at hw
  simp only[List.all_cons,List.all_append,Bool.and_eq_true,List.length_map] at hw
  refine ⟨P' (Nat.le_trans ?_ (jv hw.1)),hw.2.1⟩
  rw[amy]
  exact Nat.le_trans (Nat.le_add_right _ _) (Nat.le_mul_of_pos_right _ hby)
 have all:∀m,m≤len→∃(φ':Ph) (h':az) (xs:List α),Gx φ φ' h h' w∧xs.length=m∧(∀x∈xs,aK.ok h' x)∧∀(i:Nat) (x:α),xs[i]? =some x→∀j v,(aK.c x)[j]? =some v→∃y,w.cell? ((a.add (i*aK.n α)).add j)=some y∧VR φ' v y:=by
  intro m
  induction m with
  | zero=>exact fun _=>⟨φ,h,[],Gx.refl ok ro y,rfl,fun _ hx=>(by cases hx),fun i xi hx=>(by simp at hx)⟩
  | succ m ih=>
   intro hm'
   obtain ⟨φ1,h1,xs,g1,hl,hq,hx⟩:=ih o!
   have h2:=jU m o!
   rw[List.getElem?_eq_getElem o!,hs] at h2
   simp only[Option.bind_eq_some_iff] at h2
   obtain ⟨ci,hc1,hc2⟩:=h2
   obtain ⟨_,hl2,Mp⟩:=World.cells?_some hc1
   obtain ⟨φ2,h2,x,g2,F9,qk⟩:=he φ1 h1 g1.ok g1.ro g1.tidy ci _ n hl2 (Small.all NQ.2 _ (List.mem_map.2 ⟨_,List.getElem_mem _,rfl⟩)) hc2
   refine ⟨φ2,h2,xs++[x],g1.trans g2,by simp [hl],fun z hz=>?_,fun i z hz=>?_⟩
   · rcases List.mem_append.1 hz with h | h
     · exact aK.mono g2.has (hq z h)
     · simp at h;subst h;exact qk
   · by_cases hi:i<xs.length
     · rw[List.getElem?_append_left hi] at hz
       intro j v hj
       obtain ⟨q,e1,e2⟩:=hx i z hz j v hj
       exact ⟨q,e1,e2.mono g2.le⟩
     · rw[List.getElem?_append_right o!] at hz
       have:i - xs.length=0:=by
        have:=(List.getElem?_eq_some_iff.1 hz).1
        simp at this;omega
       rw[this] at hz
       simp at hz;subst hz
       have:i=m:=by omega
       subst this
       intro j v hj
       have tu:j<(aK.c x).length:=(List.getElem?_eq_some_iff.1 hj).1
       have hj2:j<ci.length:=by rw[←F9.1];exact tu
       exact ⟨ci[j],by rw[Mp j (by rw[hl2] at hj2;exact hj2),List.getElem?_eq_getElem hj2],F9.2 j v _ hj (List.getElem?_eq_getElem hj2)⟩
 obtain ⟨φ1,h1,xs,g1,hl,hq,hx⟩:=all len (jR _)
 have CL:=dJ aK.len xs
 have Eo:a.spot=none:=by
  have hx0:xs[0]? =some (xs[0]'o!):=List.getElem?_eq_getElem o!
  obtain ⟨y,hy,_⟩:=hx 0 _ hx0 0 ((aK.c (xs[0]'o!))[0]'(by rw[aK.len];exact TF)) (List.getElem?_eq_getElem _)
  simp only[Nat.zero_mul,Addr.add,if_true] at hy
  unfold World.cell? at hy
  split at hy
  · cases hsp:a.spot with
    | none=>rfl
    | some _=>rw[hsp] at hy;simp at hy
  · cases hy
 have afd:∀i j,(a.add (i*aK.n α)).add j=⟨a.block,a.off+(i*aK.n α+j),none⟩:=by
  intro i j
  obtain ⟨b,o,sp⟩:=a
  simp only at Eo
  subst Eo
  unfold Addr.add
  by_cases h1:i*aK.n α=0<;>by_cases h2:j=0<;>simp [h1,h2,Nat.add_assoc]
 have gX:xs.flatMap aK.c≠ []:=by
  intro e
  have:=congrArg List.length e
  rw[CL,hl] at this
  have:=Nat.mul_pos h0 TF
  simp at *
  omega
 obtain ⟨h',hn,Ag,hle,amz,atW,hg,hold,j6⟩:=g1.ok.show g1.ro (b:=a.block) (off:=a.off) (e:=aK.e α) gX (fun m hm'=>by
  have:AV.map m∈xs.flatMap aK.c:=by rw[hm'];simp
  obtain ⟨z,hz,hmz⟩:=List.mem_flatMap.1 this
  exact hm h1 z m (hq z hz) hmz) (fun k v hk=>by
  have La:k<(xs.flatMap aK.c).length:=(List.getElem?_eq_some_iff.1 hk).1
  have hdm:k/aK.n α*aK.n α+k%aK.n α=k:=by rw[Nat.mul_comm];exact Nat.div_add_mod k _
  have hi:k/aK.n α<xs.length:=by
   rw[CL] at La
   exact (Nat.div_lt_iff_lt_mul TF).2 La
  have hk2:=hk
  rw[←hdm,oG aK.len _ _ _ hi (Nat.mod_lt _ TF)] at hk2
  have hgi:xs[k/aK.n α]? =some (xs.g (k/aK.n α)):=by
   rw[List.g,List.getD_eq_getElem?_getD,List.getElem?_eq_getElem hi];rfl
  obtain ⟨y,hy,hvr⟩:=hx _ _ hgi _ v hk2
  rw[afd,hdm] at hy
  exact ⟨y,hy,hvr⟩)
 have hVR:=VR.slice (φ:=φ1.add h1.nx ⟨a.block,a.off,0⟩) 0 len cap false j6
 have has:Has h1 h':=wi g1.tidy hn
 refine ⟨_,h',(.slice h1.nx 0 len cap false,xs),g1.trans ⟨Ag,hle,amz,has,by omega,mq g1.tidy hn⟩,LR.cons ?_ (LR.nil _),?_⟩
 · obtain ⟨b,o,sp⟩:=a
   simp only at Eo
   subst Eo
   exact hVR
 · subst hl
   exact ⟨⟨aK.size,CL,NQ.1,rfl,.inr ⟨h1.nx,0,_,cap,false,_,_,true,rfl,hlc,hg,fun j _=>by rw[Nat.zero_add]⟩⟩,.inr (.inr ⟨_,_,_,_,_,rfl,fun e=>by cases e⟩),fun x hx=>aK.mono has (hq x hx)⟩
end
open Go.ChangeShapes Go.WideShapes Go.RowKit
section
variable {H:Type} {enc:TypeId×Value→H} {w:World} {base:Nat} {spare:Nat→Bool} {held:Bool}
theorem V1 {α:Type} {t e_:TypeId} {n_:Nat} {c_:α→List AV} {ok_:az→α→Prop} (NA:dm env e_=some n_) (hlen:∀x,(c_ x).length=n_) (ajf:0<n_) (ajc:∀{h h':az} {x:α},Has h h'→ok_ h x→ok_ h' x) (hg_:∀(l:List α) (i:Nat) (hi:i<l.length),∃x,l[i]? =some x∧∀j,j<n_→(l.flatMap c_)[i*n_+j]? =(c_ x)[j]?) (ht:env.P.underlying t=some (.slice e_)) (hs:env.P.cellsOf e_=n_) (hby:0<env.P.bytesOf e_) (hm:∀(h:az) (x:α) m,ok_ h x→AV.map m ∉ c_ x)
 (he:rj enc w base spare held e_ n_ c_ ok_):rj enc w base spare held t 1 (fun x:AV×List α=> [x.1]) (fun h x=>nZ env h e_ n_ x.1 x.2.length (x.2.flatMap c_)∧(x.1= .aw∨x.1= .fJ∨∃p o m c b,x.1= .slice p o m c b)∧∀y∈x.2,ok_ h y):=fun φ h ok ro y cs z fuel _ hw hv=>by
 have TF:=ajf
 rcases DataW.trod_slice ht hv with ⟨rfl,_⟩ | ⟨a,len,cap,elems,rest,n,_,rfl,rfl,hb,hlc,hcm,amy,jU,_,_⟩
 · exact ⟨φ,h,(.aw,[]),Gx.refl ok ro y,LR.cons VR.aw (LR.nil _),⟨NA,(Nat.zero_mul _).symm,Nat.pow_pos (by decide),rfl,.inl rfl⟩,.inl rfl,fun x hx=>by cases hx⟩
 rcases Nat.eq_zero_or_pos len with h0 | h0
 · subst h0
   exact ⟨φ,h,(.fJ,[]),Gx.refl ok ro y,LR.cons (VR.fJ a cap) (LR.nil _),⟨NA,(Nat.zero_mul _).symm,Nat.pow_pos (by decide),rfl,.inl rfl⟩,.inr (.inl rfl),fun x hx=>by cases hx⟩
 have NQ:len<2^60∧(DataW.weightsAll env.P (e_) (elems.map (·.1))).all (· ≤reachBytes)=true:=by
  unfold Small at hw
  rw[DataW.weights,ht] at hw
  simp only[List.all_cons,List.all_append,Bool.and_eq_true,List.length_map] at hw
  refine ⟨P' (Nat.le_trans ?_ (jv hw.1)),hw.2.1⟩
  rw[amy]
  exact Nat.le_trans (Nat.le_add_right _ _) (Nat.le_mul_of_pos_right _ hby)
 have all:∀m,m≤len→∃(φ':Ph) (h':az) (xs:List α),Gx φ φ' h h' w∧xs.length=m∧(∀x∈xs,ok_ h' x)∧∀(i:Nat) (x:α),xs[i]? =some x→∀j v,(c_ x)[j]? =some v→∃y,w.cell? ((a.add (i*n_)).add j)=some y∧VR φ' v y:=by
  intro m
  induction m with
  | zero=>exact fun _=>⟨φ,h,[],Gx.refl ok ro y,rfl,fun _ hx=>(by cases hx),fun i xi hx=>(by simp at hx)⟩
  | succ m ih=>
   intro hm'
   obtain ⟨φ1,h1,xs,g1,hl,hq,hx⟩:=ih o!
   have h2:=jU m o!
   rw[List.getElem?_eq_getElem o!,hs] at h2
   simp only[Option.bind_eq_some_iff] at h2
   obtain ⟨ci,hc1,hc2⟩:=h2
   obtain ⟨_,hl2,Mp⟩:=World.cells?_some hc1
   obtain ⟨φ2,h2,x,g2,F9,qk⟩:=he φ1 h1 g1.ok g1.ro g1.tidy ci _ n hl2 (Small.all NQ.2 _ (List.mem_map.2 ⟨_,List.getElem_mem _,rfl⟩)) hc2
   refine ⟨φ2,h2,xs++[x],g1.trans g2,by simp [hl],fun z hz=>?_,fun i z hz=>?_⟩
   · rcases List.mem_append.1 hz with h | h
     · exact ajc g2.has (hq z h)
     · simp at h;subst h;exact qk
   · by_cases hi:i<xs.length
     · rw[List.getElem?_append_left hi] at hz
       intro j v hj
       obtain ⟨q,e1,e2⟩:=hx i z hz j v hj
       exact ⟨q,e1,e2.mono g2.le⟩
     · rw[List.getElem?_append_right o!] at hz
       have:i - xs.length=0:=by
        have:=(List.getElem?_eq_some_iff.1 hz).1
        simp at this;omega
       rw[this] at hz
       simp at hz;subst hz
       have:i=m:=by omega
       subst this
       intro j v hj
       have tu:j<(c_ x).length:=(List.getElem?_eq_some_iff.1 hj).1
       have hj2:j<ci.length:=by rw[←F9.1];exact tu
       exact ⟨ci[j],by rw[Mp j (by rw[hl2] at hj2;exact hj2),List.getElem?_eq_getElem hj2],F9.2 j v _ hj (List.getElem?_eq_getElem hj2)⟩
 obtain ⟨φ1,h1,xs,g1,hl,hq,hx⟩:=all len (jR _)
 have CL:=dJ hlen xs
 have Eo:a.spot=none:=by
  have hx0:xs[0]? =some (xs[0]'o!):=List.getElem?_eq_getElem o!
  obtain ⟨y,hy,_⟩:=hx 0 _ hx0 0 ((c_ (xs[0]'o!))[0]'(by rw[hlen];exact TF)) (List.getElem?_eq_getElem _)
  simp only[Nat.zero_mul,Addr.add,if_true] at hy
  unfold World.cell? at hy
  split at hy
  · cases hsp:a.spot with
    | none=>rfl
    | some _=>rw[hsp] at hy;simp at hy
  · cases hy
 have afd:∀i j,(a.add (i*n_)).add j=⟨a.block,a.off+(i*n_+j),none⟩:=by
  intro i j
  obtain ⟨b,o,sp⟩:=a
  simp only at Eo
  subst Eo
  unfold Addr.add
  by_cases h1:i*n_=0<;>by_cases h2:j=0<;>simp [h1,h2,Nat.add_assoc]
 have gX:xs.flatMap c_≠ []:=by
  intro e
  have:=congrArg List.length e
  rw[CL,hl] at this
  have:=Nat.mul_pos h0 TF
  simp at *
  omega
 obtain ⟨h',hn,Ag,hle,amz,atW,hg,hold,j6⟩:=g1.ok.show g1.ro (b:=a.block) (off:=a.off) (e:=e_) gX (fun m hm'=>by
  have:AV.map m∈xs.flatMap c_:=by rw[hm'];simp
  obtain ⟨z,hz,hmz⟩:=List.mem_flatMap.1 this
  exact hm h1 z m (hq z hz) hmz) (fun k v hk=>by
  have La:k<(xs.flatMap c_).length:=(List.getElem?_eq_some_iff.1 hk).1
  have hdm:k/n_*n_+k%n_=k:=by rw[Nat.mul_comm];exact Nat.div_add_mod k _
  have hi:k/n_<xs.length:=by
   rw[CL] at La
   exact (Nat.div_lt_iff_lt_mul TF).2 La
  have hk2:=hk
  obtain ⟨xk,hgi,hgj⟩:=hg_ xs _ hi
  rw[←hdm,hgj _ (Nat.mod_lt _ TF)] at hk2
  obtain ⟨y,hy,hvr⟩:=hx _ _ hgi _ v hk2
  rw[afd,hdm] at hy
  exact ⟨y,hy,hvr⟩)
 have hVR:=VR.slice (φ:=φ1.add h1.nx ⟨a.block,a.off,0⟩) 0 len cap false j6
 have has:Has h1 h':=wi g1.tidy hn
 refine ⟨_,h',(.slice h1.nx 0 len cap false,xs),g1.trans ⟨Ag,hle,amz,has,by omega,mq g1.tidy hn⟩,LR.cons ?_ (LR.nil _),?_⟩
 · obtain ⟨b,o,sp⟩:=a
   simp only at Eo
   subst Eo
   exact hVR
 · subst hl
   exact ⟨⟨NA,CL,NQ.1,rfl,.inr ⟨h1.nx,0,_,cap,false,_,_,true,rfl,hlc,hg,fun j _=>by rw[Nat.zero_add]⟩⟩,.inr (.inr ⟨_,_,_,_,_,rfl⟩),fun x hx=>ajc has (hq x hx)⟩
theorem Qa (k:IntKind):∀l:List Int,(l.flatMap fun x=> [AV.int k x])=zs k l
 | []=>rfl
 | x::l=>by rw[List.flatMap_cons,Qa k l];rfl
theorem ahX (k:IntKind) (l:List Int) (i:Nat) (hi:i<l.length):∃x,l[i]? =some x∧∀j,j<1→(l.flatMap fun x=> [AV.int k x])[i*1+j]? =[AV.int k x][j]? :=by
 refine ⟨l[i],List.getElem?_eq_getElem hi,fun j hj=>?_⟩
 have:j=0:=by omega
 subst this
 rw[Qa,zs,List.getElem?_map,Nat.mul_one,Nat.add_zero,List.getElem?_eq_getElem hi];rfl
theorem V2 {k:IntKind} {t e:TypeId} (ht:env.P.underlying t=some (.slice e)) (hi:env.P.underlying e=some (.int k)) (NA:dm env e=some 1) (ha:jr env e=some false) (hs:env.P.cellsOf e=1) (hby:0<env.P.bytesOf e):rj enc w base spare held t 1 (fun x:AV×List Int=> [x.1]) (fun h x=>bT h k e x.1 x.2):=fun φ h ok ro y cs z n hl hw hv=>by
 obtain ⟨φ',h',x,g,l,a,b,_⟩:=V1 (ok_:=fun _ _=>True) (c_:=fun x:Int=> [.int k x]) NA (fun _=>rfl) (by decide) (fun _ _=>trivial) (ahX k) ht hs hby (fun _ x m _ hmm=>by simp at hmm) (lV hi) φ h ok ro y cs z n hl hw hv
 refine ⟨φ',h',x,g,l,?_⟩
 rw[Qa] at a
 exact bT.mk a ha b
end
open Go.ChangeShapes Go.WideShapes Go.RowKit
section
variable {H:Type} {enc:TypeId×Value→H} {w:World} {base:Nat} {spare:Nat→Bool} {held:Bool}
theorem Yb:Tryz.prog.cellsOf 9=1:=by kernel_rfl
theorem xa:Tryz.prog.cellsOf 3=1:=by kernel_rfl
theorem afe:Tryz.prog.cellsOf 26=1:=by kernel_rfl
theorem Yc:rj enc w base spare held 26 1 (fun x:AV×List Int=> [x.1]) (fun h x=>bT h .i64 3 x.1 x.2):=V2 Tryz.underlying26 Tryz.underlying3 k! k! xa (jv k!)
theorem aff:Tryz.prog.cellsOf 50=2:=by kernel_rfl
theorem ahY:rj enc w base spare held 50 2 (aK.c (α:=ko)) aK.ok:=fun φ h0 ok ro ty cs z fuel hl hw hv=>by
 obtain ⟨xs,n,_,rfl,_,HK,hf⟩:=DataW.trod_struct Tryz.underlying50 hv
 obtain ⟨c0,c1,rfl⟩:∃c0 c1,cs=[c0,c1]:=by
  match cs,hl with
  | [c0,c1],_=>exact ⟨_,_,rfl⟩
 obtain ⟨y0,y1,rfl⟩:∃y0 y1,xs=[y0,y1]:=by
  match xs,HK with
  | [y0,y1],_=>exact ⟨_,_,rfl⟩
 have hs:=Small.struct Tryz.underlying50 hw
 obtain ⟨s0,hs⟩:=Small.dp hs
 have q0:DataW.trod enc Tryz.prog w base spare held n 3 [c0]=some y0:=by simpa [xa] using hf 0 _ rfl
 obtain ⟨φ1,h1,x0,g0,l0,o0⟩:=lV (t:=3) Tryz.underlying3 _ _ (Gx.refl ok ro ty).ok (Gx.refl ok ro ty).ro (Gx.refl ok ro ty).tidy _ _ _ rfl s0 q0
 have G0:=Gx.trans (Gx.refl ok ro ty) g0
 obtain ⟨s1,hs⟩:=Small.dp hs
 have q1:DataW.trod enc Tryz.prog w base spare held n 3 [c1]=some y1:=by simpa [xa] using hf 1 _ rfl
 obtain ⟨φ2,h2,x1,g1,l1,o1⟩:=lV (t:=3) Tryz.underlying3 _ _ G0.ok G0.ro G0.tidy _ _ _ rfl s1 q1
 have G1:=Gx.trans G0 g1
 have L0:=LR.mono (Ph.le_trans (Ph.le_refl _) g1.le) l0
 have L1:=LR.mono (Ph.le_refl _) l1
 exact ⟨_,_,⟨x0,x1⟩,G1,(LR.append L0 (LR.append L1 (LR.nil _))),trivial⟩
theorem afg:Tryz.prog.cellsOf 46=1:=by kernel_rfl
theorem ahZ:rj enc w base spare held 46 1 (fun x:AV×List ko=> [x.1]) (fun h x=>aO h x.1 x.2):=uh (t:=46) Tryz.underlying46 aff (jv k!) (fun _ x m _ h=>by cases x;simp [aK.c,ko.c] at h) ahY
theorem afh:Tryz.prog.cellsOf 48=4:=by kernel_rfl
theorem ah0:rj enc w base spare held 48 4 (aK.c (α:=Task)) aK.ok:=fun φ h0 ok ro ty cs z fuel hl hw hv=>by
 obtain ⟨xs,n,_,rfl,_,HK,hf⟩:=DataW.trod_struct Tryz.underlying48 hv
 obtain ⟨c0,c1,c2,c3,rfl⟩:∃c0 c1 c2 c3,cs=[c0,c1,c2,c3]:=by
  match cs,hl with
  | [c0,c1,c2,c3],_=>exact ⟨_,_,_,_,rfl⟩
 obtain ⟨y0,y1,y2,y3,rfl⟩:∃y0 y1 y2 y3,xs=[y0,y1,y2,y3]:=by
  match xs,HK with
  | [y0,y1,y2,y3],_=>exact ⟨_,_,_,_,rfl⟩
 have hs:=Small.struct Tryz.underlying48 hw
 obtain ⟨s0,hs⟩:=Small.dp hs
 have q0:DataW.trod enc Tryz.prog w base spare held n 9 [c0]=some y0:=by simpa [Yb] using hf 0 _ rfl
 obtain ⟨φ1,h1,x0,g0,l0,o0⟩:=Nv (t:=9) Tryz.underlying9 _ _ (Gx.refl ok ro ty).ok (Gx.refl ok ro ty).ro (Gx.refl ok ro ty).tidy _ _ _ rfl s0 q0
 have G0:=Gx.trans (Gx.refl ok ro ty) g0
 obtain ⟨s1,hs⟩:=Small.dp hs
 have q1:DataW.trod enc Tryz.prog w base spare held n 3 [c1]=some y1:=by simpa [xa] using hf 1 _ rfl
 obtain ⟨φ2,h2,x1,g1,l1,o1⟩:=lV (t:=3) Tryz.underlying3 _ _ G0.ok G0.ro G0.tidy _ _ _ rfl s1 q1
 have G1:=Gx.trans G0 g1
 obtain ⟨s2,hs⟩:=Small.dp hs
 have q2:DataW.trod enc Tryz.prog w base spare held n 26 [c2]=some y2:=by simpa [afe] using hf 2 _ rfl
 obtain ⟨φ3,h3,x2,g2,l2,o2⟩:=Yc _ _ G1.ok G1.ro G1.tidy _ _ _ rfl s2 q2
 have G2:=Gx.trans G1 g2
 obtain ⟨s3,hs⟩:=Small.dp hs
 have q3:DataW.trod enc Tryz.prog w base spare held n 46 [c3]=some y3:=by simpa [afg] using hf 3 _ rfl
 obtain ⟨φ4,h4,x3,g3,l3,o3⟩:=ahZ _ _ G2.ok G2.ro G2.tidy _ _ _ rfl s3 q3
 have G3:=Gx.trans G2 g3
 have L0:=LR.mono (Ph.le_trans (Ph.le_trans (Ph.le_trans (Ph.le_refl _) g1.le) g2.le) g3.le) l0
 have L1:=LR.mono (Ph.le_trans (Ph.le_trans (Ph.le_refl _) g2.le) g3.le) l1
 have L2:=LR.mono (Ph.le_trans (Ph.le_refl _) g3.le) l2
 have L3:=LR.mono (Ph.le_refl _) l3
 exact ⟨_,_,⟨x0,x1,x2.1,x2.2,x3.1,x3.2⟩,G3,(LR.append L0 (LR.append L1 (LR.append L2 (LR.append L3 (LR.nil _))))),⟨o0,(o2.has g3.has),o3⟩⟩
theorem afi:Tryz.prog.cellsOf 22=1:=by kernel_rfl
theorem ah2:rj enc w base spare held 22 1 (fun x:AV×List Task=> [x.1]) (fun h x=>aO h x.1 x.2):=uh (t:=22) Tryz.underlying22 afh (jv k!) (fun _ x m o h=>by
 simp only[aK.c,Task.c,List.mem_cons,List.not_mem_nil,or_false,reduceCtorEq,false_or] at h
 rcases h with h | h
 · exact bT.WB (o.2.1) h
 · exact aO.WB (o.2.2) h) ah0
theorem afj:Tryz.prog.cellsOf 52=2:=by kernel_rfl
theorem ah3:rj enc w base spare held 52 2 (aK.c (α:=Span)) aK.ok:=fun φ h0 ok ro ty cs z fuel hl hw hv=>by
 obtain ⟨xs,n,_,rfl,_,HK,hf⟩:=DataW.trod_struct Tryz.underlying52 hv
 obtain ⟨c0,c1,rfl⟩:∃c0 c1,cs=[c0,c1]:=by
  match cs,hl with
  | [c0,c1],_=>exact ⟨_,_,rfl⟩
 obtain ⟨y0,y1,rfl⟩:∃y0 y1,xs=[y0,y1]:=by
  match xs,HK with
  | [y0,y1],_=>exact ⟨_,_,rfl⟩
 have hs:=Small.struct Tryz.underlying52 hw
 obtain ⟨s0,hs⟩:=Small.dp hs
 have q0:DataW.trod enc Tryz.prog w base spare held n 3 [c0]=some y0:=by simpa [xa] using hf 0 _ rfl
 obtain ⟨φ1,h1,x0,g0,l0,o0⟩:=lV (t:=3) Tryz.underlying3 _ _ (Gx.refl ok ro ty).ok (Gx.refl ok ro ty).ro (Gx.refl ok ro ty).tidy _ _ _ rfl s0 q0
 have G0:=Gx.trans (Gx.refl ok ro ty) g0
 obtain ⟨s1,hs⟩:=Small.dp hs
 have q1:DataW.trod enc Tryz.prog w base spare held n 3 [c1]=some y1:=by simpa [xa] using hf 1 _ rfl
 obtain ⟨φ2,h2,x1,g1,l1,o1⟩:=lV (t:=3) Tryz.underlying3 _ _ G0.ok G0.ro G0.tidy _ _ _ rfl s1 q1
 have G1:=Gx.trans G0 g1
 have L0:=LR.mono (Ph.le_trans (Ph.le_refl _) g1.le) l0
 have L1:=LR.mono (Ph.le_refl _) l1
 exact ⟨_,_,⟨x0,x1⟩,G1,(LR.append L0 (LR.append L1 (LR.nil _))),trivial⟩
theorem afk:Tryz.prog.cellsOf 43=1:=by kernel_rfl
theorem ah4:rj enc w base spare held 43 1 (fun x:AV×List Span=> [x.1]) (fun h x=>aO h x.1 x.2):=uh (t:=43) Tryz.underlying43 afj (jv k!) (fun _ x m _ h=>by cases x;simp [aK.c,Span.c] at h) ah3
theorem afl:Tryz.prog.cellsOf 45=3:=by kernel_rfl
theorem ah5:rj enc w base spare held 45 3 (aK.c (α:=aR)) aK.ok:=fun φ h0 ok ro ty cs z fuel hl hw hv=>by
 obtain ⟨xs,n,_,rfl,_,HK,hf⟩:=DataW.trod_struct Tryz.underlying45 hv
 obtain ⟨c0,c1,c2,rfl⟩:∃c0 c1 c2,cs=[c0,c1,c2]:=by
  match cs,hl with
  | [c0,c1,c2],_=>exact ⟨_,_,_,rfl⟩
 obtain ⟨y0,y1,y2,rfl⟩:∃y0 y1 y2,xs=[y0,y1,y2]:=by
  match xs,HK with
  | [y0,y1,y2],_=>exact ⟨_,_,_,rfl⟩
 have hs:=Small.struct Tryz.underlying45 hw
 obtain ⟨s0,hs⟩:=Small.dp hs
 have q0:DataW.trod enc Tryz.prog w base spare held n 9 [c0]=some y0:=by simpa [Yb] using hf 0 _ rfl
 obtain ⟨φ1,h1,x0,g0,l0,o0⟩:=Nv (t:=9) Tryz.underlying9 _ _ (Gx.refl ok ro ty).ok (Gx.refl ok ro ty).ro (Gx.refl ok ro ty).tidy _ _ _ rfl s0 q0
 have G0:=Gx.trans (Gx.refl ok ro ty) g0
 obtain ⟨s1,hs⟩:=Small.dp hs
 have q1:DataW.trod enc Tryz.prog w base spare held n 3 [c1]=some y1:=by simpa [xa] using hf 1 _ rfl
 obtain ⟨φ2,h2,x1,g1,l1,o1⟩:=lV (t:=3) Tryz.underlying3 _ _ G0.ok G0.ro G0.tidy _ _ _ rfl s1 q1
 have G1:=Gx.trans G0 g1
 obtain ⟨s2,hs⟩:=Small.dp hs
 have q2:DataW.trod enc Tryz.prog w base spare held n 43 [c2]=some y2:=by simpa [afk] using hf 2 _ rfl
 obtain ⟨φ3,h3,x2,g2,l2,o2⟩:=ah4 _ _ G1.ok G1.ro G1.tidy _ _ _ rfl s2 q2
 have G2:=Gx.trans G1 g2
 have L0:=LR.mono (Ph.le_trans (Ph.le_trans (Ph.le_refl _) g1.le) g2.le) l0
 have L1:=LR.mono (Ph.le_trans (Ph.le_refl _) g2.le) l1
 have L2:=LR.mono (Ph.le_refl _) l2
 exact ⟨_,_,⟨x0,x1,x2.1,x2.2⟩,G2,(LR.append L0 (LR.append L1 (LR.append L2 (LR.nil _)))),⟨o0,o2⟩⟩
theorem afm:Tryz.prog.cellsOf 23=1:=by kernel_rfl
theorem ah6:rj enc w base spare held 23 1 (fun x:AV×List aR=> [x.1]) (fun h x=>aO h x.1 x.2):=uh (t:=23) Tryz.underlying23 afl (jv k!) (fun _ x m o h=>by
 simp only[aK.c,aR.c,List.mem_cons,List.not_mem_nil,or_false,reduceCtorEq,false_or] at h
 exact aO.WB (o.2) h) ah5
theorem afn:Tryz.prog.cellsOf 25=2:=by kernel_rfl
theorem ah7:rj enc w base spare held 25 2 (aK.c (α:=bP)) aK.ok:=fun φ h0 ok ro ty cs z fuel hl hw hv=>by
 obtain ⟨xs,n,_,rfl,_,HK,hf⟩:=DataW.trod_struct Tryz.underlying25 hv
 obtain ⟨c0,c1,rfl⟩:∃c0 c1,cs=[c0,c1]:=by
  match cs,hl with
  | [c0,c1],_=>exact ⟨_,_,rfl⟩
 obtain ⟨y0,y1,rfl⟩:∃y0 y1,xs=[y0,y1]:=by
  match xs,HK with
  | [y0,y1],_=>exact ⟨_,_,rfl⟩
 have hs:=Small.struct Tryz.underlying25 hw
 obtain ⟨s0,hs⟩:=Small.dp hs
 have q0:DataW.trod enc Tryz.prog w base spare held n 22 [c0]=some y0:=by simpa [afi] using hf 0 _ rfl
 obtain ⟨φ1,h1,x0,g0,l0,o0⟩:=ah2 _ _ (Gx.refl ok ro ty).ok (Gx.refl ok ro ty).ro (Gx.refl ok ro ty).tidy _ _ _ rfl s0 q0
 have G0:=Gx.trans (Gx.refl ok ro ty) g0
 obtain ⟨s1,hs⟩:=Small.dp hs
 have q1:DataW.trod enc Tryz.prog w base spare held n 23 [c1]=some y1:=by simpa [afm] using hf 1 _ rfl
 obtain ⟨φ2,h2,x1,g1,l1,o1⟩:=ah6 _ _ G0.ok G0.ro G0.tidy _ _ _ rfl s1 q1
 have G1:=Gx.trans G0 g1
 have L0:=LR.mono (Ph.le_trans (Ph.le_refl _) g1.le) l0
 have L1:=LR.mono (Ph.le_refl _) l1
 exact ⟨_,_,⟨x0.1,x0.2,x1.1,x1.2⟩,G1,(LR.append L0 (LR.append L1 (LR.nil _))),⟨(o0.has g1.has),o1⟩⟩
end
end
end Go.Proofs.aM
