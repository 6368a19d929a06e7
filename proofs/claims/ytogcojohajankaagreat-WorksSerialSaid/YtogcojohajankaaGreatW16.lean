import Derived.Test.YtogcojohajankaaGreatW15
import Derived.Test.YtogcojohajankaaGreatW0
namespace Go.Proofs.aJ
open Go.Proofs Ab
set_option maxRecDepth 100000
set_option maxHeartbeats 4000000
set_option linter.unusedVariables false
set_option linter.unusedSimpArgs false
open Go.ChangeShapes Go.WideShapes Go.RowKit
section
variable {H:Type} {enc:TypeId×Value→H} {w:World} {base:Nat} {spare:Nat→Bool} {held:Bool}
theorem Rd {α:Type} {t e_:TypeId} {n_:Nat} {c_:α→List AV} {ok_:aw→α→Prop} (Mc:b7 env e_=some n_) (hlen:∀x,(c_ x).length=n_) (adW:0<n_) (adT:∀{h h':aw} {x:α},Has h h'→ok_ h x→ok_ h' x) (hg_:∀(l:List α) (i:Nat) (hi:i<l.length),∃x,l[i]? =some x∧∀j,j<n_→(l.flatMap c_)[i*n_+j]? =(c_ x)[j]?) (ht:env.P.underlying t=some (.slice e_)) (hs:env.P.cellsOf e_=n_) (hby:0<env.P.bytesOf e_) (hm:∀(h:aw) (x:α) m,ok_ h x→AV.map m ∉ c_ x)
 (he:oY enc w base spare held e_ n_ c_ ok_):oY enc w base spare held t 1 (fun x:AV×List α=> [x.1]) (fun h x=>od env h e_ n_ x.1 x.2.length (x.2.flatMap c_)∧(x.1= .aD∨x.1= .fm∨∃p o m c b,x.1= .slice p o m c b)∧∀y∈x.2,ok_ h y):=fun φ h ok ro y cs z fuel _ hw hv=>by
 have Pm:=adW
 rcases DataW.trod_slice ht hv with ⟨rfl,_⟩ | ⟨a,len,cap,elems,rest,n,_,rfl,rfl,hb,hlc,hcm,agw,ie,_,_⟩
 · exact ⟨φ,h,(.aD,[]),Gx.refl ok ro y,LR.cons VR.aD (LR.nil _),⟨Mc,(Nat.zero_mul _).symm,Nat.pow_pos (by decide),rfl,.inl rfl⟩,.inl rfl,fun x hx=>by cases hx⟩
 rcases Nat.eq_zero_or_pos len with h0 | h0
 · subst h0
   exact ⟨φ,h,(.fm,[]),Gx.refl ok ro y,LR.cons (VR.fm a cap) (LR.nil _),⟨Mc,(Nat.zero_mul _).symm,Nat.pow_pos (by decide),rfl,.inl rfl⟩,.inr (.inl rfl),fun x hx=>by cases hx⟩
 have DD:len<2^60∧(DataW.weightsAll env.P (e_) (elems.map (·.1))).all (· ≤reachBytes)=true:=by
  unfold Small at hw
  rw[DataW.weights,ht] at hw
  simp only[List.all_cons,List.all_append,Bool.and_eq_true,List.length_map] at hw
  refine ⟨LY (Nat.le_trans ?_ (of_decide_eq_true hw.1)),hw.2.1⟩
  rw[agw]
  exact Nat.le_trans (Nat.le_add_right _ _) (Nat.le_mul_of_pos_right _ hby)
 have all:∀m,m≤len→∃(φ':Ph) (h':aw) (xs:List α),Gx φ φ' h h' w∧xs.length=m∧(∀x∈xs,ok_ h' x)∧∀(i:Nat) (x:α),xs[i]? =some x→∀j v,(c_ x)[j]? =some v→∃y,w.cell? ((a.add (i*n_)).add j)=some y∧VR φ' v y:=by
  intro m
  induction m with
  | zero=>exact fun _=>⟨φ,h,[],Gx.refl ok ro y,rfl,fun _ hx=>(by cases hx),fun i xi hx=>(by simp at hx)⟩
  | succ m ih=>
    intro ZU
    obtain ⟨φ1,h1,xs,g1,hl,hq,hx⟩:=ih o!
    have h2:=ie m o!
    rw[List.getElem?_eq_getElem o!,hs] at h2
    simp only[Option.bind_eq_some_iff] at h2
    obtain ⟨ci,hc1,hc2⟩:=h2
    obtain ⟨_,U5,IQ⟩:=World.cells?_some hc1
    obtain ⟨φ2,h2,x,g2,CM,rl⟩:=he φ1 h1 g1.ok g1.ro g1.tidy ci _ n U5 (Small.all DD.2 _ (List.mem_map.2 ⟨_,List.getElem_mem _,rfl⟩)) hc2
    refine ⟨φ2,h2,xs++[x],g1.trans g2,by simp [hl],fun z hz=>?_,fun i z hz=>?_⟩
    · rcases List.mem_append.1 hz with h | h
      · exact adT g2.has (hq z h)
      · simp at h;subst h;exact rl
    · by_cases hi:i<xs.length
      · rw[List.getElem?_append_left hi] at hz
        intro j v hj
        obtain ⟨q,e1,e2⟩:=hx i z hz j v hj
        exact ⟨q,e1,e2.mono g2.le⟩
      · rw[List.getElem?_append_right o!] at hz
        have:i - xs.length=0:=by
         have:=(List.getElem?_eq_some_iff.1 hz).1
         simp at this;omega
        rw[this] at hz
        simp at hz;subst hz
        have:i=m:=by omega
        subst this
        intro j v hj
        have rO:j<(c_ x).length:=(List.getElem?_eq_some_iff.1 hj).1
        have hj2:j<ci.length:=by rw[←CM.1];exact rO
        exact ⟨ci[j],by rw[IQ j (by rw[U5] at hj2;exact hj2),List.getElem?_eq_getElem hj2],CM.2 j v _ hj (List.getElem?_eq_getElem hj2)⟩
 obtain ⟨φ1,h1,xs,g1,hl,hq,hx⟩:=all len (Nat.le_refl _)
 have No:=ew hlen xs
 have BA:a.spot=none:=by
  have hx0:xs[0]? =some (xs[0]'o!):=List.getElem?_eq_getElem o!
  obtain ⟨y,hy,_⟩:=hx 0 _ hx0 0 ((c_ (xs[0]'o!))[0]'(by rw[hlen];exact Pm)) (List.getElem?_eq_getElem _)
  simp only[Nat.zero_mul,Addr.add,if_true] at hy
  unfold World.cell? at hy
  split at hy
  · cases hsp:a.spot with
    | none=>rfl
    | some _=>rw[hsp] at hy;simp at hy
  · cases hy
 have ZC:∀i j,(a.add (i*n_)).add j=⟨a.block,a.off+(i*n_+j),none⟩:=by
  intro i j
  obtain ⟨b,o,sp⟩:=a
  simp only at BA
  subst BA
  unfold Addr.add
  by_cases h1:i*n_=0<;>by_cases h2:j=0<;>simp [h1,h2,Nat.add_assoc]
 have fH:xs.flatMap c_≠ []:=by
  intro e
  have:=congrArg List.length e
  rw[No,hl] at this
  have:=Nat.mul_pos h0 Pm
  simp at *
  omega
 obtain ⟨h',hn,uy,hle,agx,alI,hg,hold,iP⟩:=g1.ok.show g1.ro (b:=a.block) (off:=a.off) (e:=e_) fH (fun m ZU=>by
  have:AV.map m∈xs.flatMap c_:=by rw[ZU];simp
  obtain ⟨z,hz,hmz⟩:=List.mem_flatMap.1 this
  exact hm h1 z m (hq z hz) hmz) (fun k v hk=>by
  have Ht:k<(xs.flatMap c_).length:=(List.getElem?_eq_some_iff.1 hk).1
  have hdm:k/n_*n_+k%n_=k:=by rw[Nat.mul_comm];exact Nat.div_add_mod k _
  have hi:k/n_<xs.length:=by
   rw[No] at Ht
   exact (Nat.div_lt_iff_lt_mul Pm).2 Ht
  have hk2:=hk
  obtain ⟨xk,hgi,hgj⟩:=hg_ xs _ hi
  rw[←hdm,hgj _ (Nat.mod_lt _ Pm)] at hk2
  obtain ⟨y,hy,hvr⟩:=hx _ _ hgi _ v hk2
  rw[ZC,hdm] at hy
  exact ⟨y,hy,hvr⟩)
 have hVR:=VR.slice (φ:=φ1.add h1.nx ⟨a.block,a.off,0⟩) 0 len cap false iP
 have has:Has h1 h':=xg g1.tidy hn
 refine ⟨_,h',(.slice h1.nx 0 len cap false,xs),g1.trans ⟨uy,hle,agx,has,by omega,m4 g1.tidy hn⟩,LR.cons ?_ (LR.nil _),?_⟩
 · obtain ⟨b,o,sp⟩:=a
   simp only at BA
   subst BA
   exact hVR
 · subst hl
   exact ⟨⟨Mc,No,DD.1,rfl,.inr ⟨h1.nx,0,_,cap,false,_,_,true,rfl,hlc,hg,fun j _=>by rw[Nat.zero_add]⟩⟩,.inr (.inr ⟨_,_,_,_,_,rfl⟩),fun x hx=>adT has (hq x hx)⟩
theorem LZ (k:IntKind):∀l:List Int,(l.flatMap fun x=> [AV.int k x])=zs k l
 | []=>rfl
 | x::l=>by rw[List.flatMap_cons,LZ k l];rfl
theorem acL (k:IntKind) (l:List Int) (i:Nat) (hi:i<l.length):∃x,l[i]? =some x∧∀j,j<1→(l.flatMap fun x=> [AV.int k x])[i*1+j]? =[AV.int k x][j]? :=by
 refine ⟨l[i],List.getElem?_eq_getElem hi,fun j hj=>?_⟩
 have:j=0:=by omega
 subst this
 rw[LZ,zs,List.getElem?_map,Nat.mul_one,Nat.add_zero,List.getElem?_eq_getElem hi];rfl
theorem Re {k:IntKind} {t e:TypeId} (ht:env.P.underlying t=some (.slice e)) (hi:env.P.underlying e=some (.int k)) (Mc:b7 env e=some 1) (ha:fY env e=some false) (hs:env.P.cellsOf e=1) (hby:0<env.P.bytesOf e):oY enc w base spare held t 1 (fun x:AV×List Int=> [x.1]) (fun h x=>bS h k e x.1 x.2):=fun φ h ok ro y cs z n hl hw hv=>by
 obtain ⟨φ',h',x,g,l,a,b,_⟩:=Rd (ok_:=fun _ _=>True) (c_:=fun x:Int=> [.int k x]) Mc (fun _=>rfl) (by decide) (fun _ _=>trivial) (acL k) ht hs hby (fun _ x m _ hmm=>by simp at hmm) (n8 hi) φ h ok ro y cs z n hl hw hv
 refine ⟨φ',h',x,g,l,?_⟩
 rw[LZ] at a
 exact bS.mk a ha b
end
open Go.ChangeShapes Go.WideShapes Go.RowKit
section
variable {H:Type} {enc:TypeId×Value→H} {w:World} {base:Nat} {spare:Nat→Bool} {held:Bool}
theorem Tc:Tryz.prog.cellsOf 9=1:=by kernel_rfl
theorem uq:Tryz.prog.cellsOf 3=1:=by kernel_rfl
theorem ZD:Tryz.prog.cellsOf 26=1:=by kernel_rfl
theorem Td:oY enc w base spare held 26 1 (fun x:AV×List Int=> [x.1]) (fun h x=>bS h .i64 3 x.1 x.2):=Re Tryz.underlying26 Tryz.underlying3 (by kernel_rfl) (by kernel_rfl) uq (of_decide_eq_true (by kernel_rfl))
theorem ZE:Tryz.prog.cellsOf 80=2:=by kernel_rfl
theorem acM:oY enc w base spare held 80 2 (aG.c (α:=jH)) aG.ok:=fun φ h0 ok ro ty cs z fuel hl hw hv=>by
 obtain ⟨xs,n,_,rfl,_,Hv,hf⟩:=DataW.trod_struct Tryz.underlying80 hv
 obtain ⟨c0,c1,rfl⟩:∃c0 c1,cs=[c0,c1]:=by
  match cs,hl with
  | [c0,c1],_=>exact ⟨_,_,rfl⟩
 obtain ⟨y0,y1,rfl⟩:∃y0 y1,xs=[y0,y1]:=by
  match xs,Hv with
  | [y0,y1],_=>exact ⟨_,_,rfl⟩
 have hs:=Small.struct Tryz.underlying80 hw
 obtain ⟨s0,hs⟩:=Small.dM hs
 have q0:DataW.trod enc Tryz.prog w base spare held n 3 [c0]=some y0:=by simpa [uq] using hf 0 _ rfl
 obtain ⟨φ1,h1,x0,g0,l0,o0⟩:=n8 (t:=3) Tryz.underlying3 _ _ (Gx.refl ok ro ty).ok (Gx.refl ok ro ty).ro (Gx.refl ok ro ty).tidy _ _ _ rfl s0 q0
 have G0:=Gx.trans (Gx.refl ok ro ty) g0
 obtain ⟨s1,hs⟩:=Small.dM hs
 have q1:DataW.trod enc Tryz.prog w base spare held n 3 [c1]=some y1:=by simpa [uq] using hf 1 _ rfl
 obtain ⟨φ2,h2,x1,g1,l1,o1⟩:=n8 (t:=3) Tryz.underlying3 _ _ G0.ok G0.ro G0.tidy _ _ _ rfl s1 q1
 have G1:=Gx.trans G0 g1
 have L0:=LR.mono (Ph.le_trans (Ph.le_refl _) g1.le) l0
 have L1:=LR.mono (Ph.le_refl _) l1
 exact ⟨_,_,⟨x0,x1⟩,G1,(LR.append L0 (LR.append L1 (LR.nil _))),trivial⟩
theorem ZF:Tryz.prog.cellsOf 37=1:=by kernel_rfl
theorem acN:oY enc w base spare held 37 1 (fun x:AV×List jH=> [x.1]) (fun h x=>aM h x.1 x.2):=rh (t:=37) Tryz.underlying37 ZE (of_decide_eq_true (by kernel_rfl)) (fun _ x m _ h=>by cases x;simp [aG.c,jH.c] at h) acM
theorem ZG:Tryz.prog.cellsOf 39=4:=by kernel_rfl
theorem acO:oY enc w base spare held 39 4 (aG.c (α:=Task)) aG.ok:=fun φ h0 ok ro ty cs z fuel hl hw hv=>by
 obtain ⟨xs,n,_,rfl,_,Hv,hf⟩:=DataW.trod_struct Tryz.underlying39 hv
 obtain ⟨c0,c1,c2,c3,rfl⟩:∃c0 c1 c2 c3,cs=[c0,c1,c2,c3]:=by
  match cs,hl with
  | [c0,c1,c2,c3],_=>exact ⟨_,_,_,_,rfl⟩
 obtain ⟨y0,y1,y2,y3,rfl⟩:∃y0 y1 y2 y3,xs=[y0,y1,y2,y3]:=by
  match xs,Hv with
  | [y0,y1,y2,y3],_=>exact ⟨_,_,_,_,rfl⟩
 have hs:=Small.struct Tryz.underlying39 hw
 obtain ⟨s0,hs⟩:=Small.dM hs
 have q0:DataW.trod enc Tryz.prog w base spare held n 9 [c0]=some y0:=by simpa [Tc] using hf 0 _ rfl
 obtain ⟨φ1,h1,x0,g0,l0,o0⟩:=JF (t:=9) Tryz.underlying9 _ _ (Gx.refl ok ro ty).ok (Gx.refl ok ro ty).ro (Gx.refl ok ro ty).tidy _ _ _ rfl s0 q0
 have G0:=Gx.trans (Gx.refl ok ro ty) g0
 obtain ⟨s1,hs⟩:=Small.dM hs
 have q1:DataW.trod enc Tryz.prog w base spare held n 3 [c1]=some y1:=by simpa [uq] using hf 1 _ rfl
 obtain ⟨φ2,h2,x1,g1,l1,o1⟩:=n8 (t:=3) Tryz.underlying3 _ _ G0.ok G0.ro G0.tidy _ _ _ rfl s1 q1
 have G1:=Gx.trans G0 g1
 obtain ⟨s2,hs⟩:=Small.dM hs
 have q2:DataW.trod enc Tryz.prog w base spare held n 26 [c2]=some y2:=by simpa [ZD] using hf 2 _ rfl
 obtain ⟨φ3,h3,x2,g2,l2,o2⟩:=Td _ _ G1.ok G1.ro G1.tidy _ _ _ rfl s2 q2
 have G2:=Gx.trans G1 g2
 obtain ⟨s3,hs⟩:=Small.dM hs
 have q3:DataW.trod enc Tryz.prog w base spare held n 37 [c3]=some y3:=by simpa [ZF] using hf 3 _ rfl
 obtain ⟨φ4,h4,x3,g3,l3,o3⟩:=acN _ _ G2.ok G2.ro G2.tidy _ _ _ rfl s3 q3
 have G3:=Gx.trans G2 g3
 have L0:=LR.mono (Ph.le_trans (Ph.le_trans (Ph.le_trans (Ph.le_refl _) g1.le) g2.le) g3.le) l0
 have L1:=LR.mono (Ph.le_trans (Ph.le_trans (Ph.le_refl _) g2.le) g3.le) l1
 have L2:=LR.mono (Ph.le_trans (Ph.le_refl _) g3.le) l2
 have L3:=LR.mono (Ph.le_refl _) l3
 exact ⟨_,_,⟨x0,x1,x2.1,x2.2,x3.1,x3.2⟩,G3,(LR.append L0 (LR.append L1 (LR.append L2 (LR.append L3 (LR.nil _))))),⟨o0,(o2.has g3.has),o3⟩⟩
theorem ZH:Tryz.prog.cellsOf 22=1:=by kernel_rfl
theorem acP:oY enc w base spare held 22 1 (fun x:AV×List Task=> [x.1]) (fun h x=>aM h x.1 x.2):=rh (t:=22) Tryz.underlying22 ZG (of_decide_eq_true (by kernel_rfl)) (fun _ x m o h=>by
 simp only[aG.c,Task.c,List.mem_cons,List.not_mem_nil,or_false,reduceCtorEq,false_or] at h
 rcases h with h | h
 · exact bS.R6 (o.2.1) h
 · exact aM.R6 (o.2.2) h) acO
theorem ZI:Tryz.prog.cellsOf 70=2:=by kernel_rfl
theorem acQ:oY enc w base spare held 70 2 (aG.c (α:=Span)) aG.ok:=fun φ h0 ok ro ty cs z fuel hl hw hv=>by
 obtain ⟨xs,n,_,rfl,_,Hv,hf⟩:=DataW.trod_struct Tryz.underlying70 hv
 obtain ⟨c0,c1,rfl⟩:∃c0 c1,cs=[c0,c1]:=by
  match cs,hl with
  | [c0,c1],_=>exact ⟨_,_,rfl⟩
 obtain ⟨y0,y1,rfl⟩:∃y0 y1,xs=[y0,y1]:=by
  match xs,Hv with
  | [y0,y1],_=>exact ⟨_,_,rfl⟩
 have hs:=Small.struct Tryz.underlying70 hw
 obtain ⟨s0,hs⟩:=Small.dM hs
 have q0:DataW.trod enc Tryz.prog w base spare held n 3 [c0]=some y0:=by simpa [uq] using hf 0 _ rfl
 obtain ⟨φ1,h1,x0,g0,l0,o0⟩:=n8 (t:=3) Tryz.underlying3 _ _ (Gx.refl ok ro ty).ok (Gx.refl ok ro ty).ro (Gx.refl ok ro ty).tidy _ _ _ rfl s0 q0
 have G0:=Gx.trans (Gx.refl ok ro ty) g0
 obtain ⟨s1,hs⟩:=Small.dM hs
 have q1:DataW.trod enc Tryz.prog w base spare held n 3 [c1]=some y1:=by simpa [uq] using hf 1 _ rfl
 obtain ⟨φ2,h2,x1,g1,l1,o1⟩:=n8 (t:=3) Tryz.underlying3 _ _ G0.ok G0.ro G0.tidy _ _ _ rfl s1 q1
 have G1:=Gx.trans G0 g1
 have L0:=LR.mono (Ph.le_trans (Ph.le_refl _) g1.le) l0
 have L1:=LR.mono (Ph.le_refl _) l1
 exact ⟨_,_,⟨x0,x1⟩,G1,(LR.append L0 (LR.append L1 (LR.nil _))),trivial⟩
theorem ZJ:Tryz.prog.cellsOf 34=1:=by kernel_rfl
theorem acR:oY enc w base spare held 34 1 (fun x:AV×List Span=> [x.1]) (fun h x=>aM h x.1 x.2):=rh (t:=34) Tryz.underlying34 ZI (of_decide_eq_true (by kernel_rfl)) (fun _ x m _ h=>by cases x;simp [aG.c,Span.c] at h) acQ
theorem ZK:Tryz.prog.cellsOf 36=3:=by kernel_rfl
theorem acS:oY enc w base spare held 36 3 (aG.c (α:=bI)) aG.ok:=fun φ h0 ok ro ty cs z fuel hl hw hv=>by
 obtain ⟨xs,n,_,rfl,_,Hv,hf⟩:=DataW.trod_struct Tryz.underlying36 hv
 obtain ⟨c0,c1,c2,rfl⟩:∃c0 c1 c2,cs=[c0,c1,c2]:=by
  match cs,hl with
  | [c0,c1,c2],_=>exact ⟨_,_,_,rfl⟩
 obtain ⟨y0,y1,y2,rfl⟩:∃y0 y1 y2,xs=[y0,y1,y2]:=by
  match xs,Hv with
  | [y0,y1,y2],_=>exact ⟨_,_,_,rfl⟩
 have hs:=Small.struct Tryz.underlying36 hw
 obtain ⟨s0,hs⟩:=Small.dM hs
 have q0:DataW.trod enc Tryz.prog w base spare held n 9 [c0]=some y0:=by simpa [Tc] using hf 0 _ rfl
 obtain ⟨φ1,h1,x0,g0,l0,o0⟩:=JF (t:=9) Tryz.underlying9 _ _ (Gx.refl ok ro ty).ok (Gx.refl ok ro ty).ro (Gx.refl ok ro ty).tidy _ _ _ rfl s0 q0
 have G0:=Gx.trans (Gx.refl ok ro ty) g0
 obtain ⟨s1,hs⟩:=Small.dM hs
 have q1:DataW.trod enc Tryz.prog w base spare held n 3 [c1]=some y1:=by simpa [uq] using hf 1 _ rfl
 obtain ⟨φ2,h2,x1,g1,l1,o1⟩:=n8 (t:=3) Tryz.underlying3 _ _ G0.ok G0.ro G0.tidy _ _ _ rfl s1 q1
 have G1:=Gx.trans G0 g1
 obtain ⟨s2,hs⟩:=Small.dM hs
 have q2:DataW.trod enc Tryz.prog w base spare held n 34 [c2]=some y2:=by simpa [ZJ] using hf 2 _ rfl
 obtain ⟨φ3,h3,x2,g2,l2,o2⟩:=acR _ _ G1.ok G1.ro G1.tidy _ _ _ rfl s2 q2
 have G2:=Gx.trans G1 g2
 have L0:=LR.mono (Ph.le_trans (Ph.le_trans (Ph.le_refl _) g1.le) g2.le) l0
 have L1:=LR.mono (Ph.le_trans (Ph.le_refl _) g2.le) l1
 have L2:=LR.mono (Ph.le_refl _) l2
 exact ⟨_,_,⟨x0,x1,x2.1,x2.2⟩,G2,(LR.append L0 (LR.append L1 (LR.append L2 (LR.nil _)))),⟨o0,o2⟩⟩
theorem ZL:Tryz.prog.cellsOf 23=1:=by kernel_rfl
theorem acT:oY enc w base spare held 23 1 (fun x:AV×List bI=> [x.1]) (fun h x=>aM h x.1 x.2):=rh (t:=23) Tryz.underlying23 ZK (of_decide_eq_true (by kernel_rfl)) (fun _ x m o h=>by
 simp only[aG.c,bI.c,List.mem_cons,List.not_mem_nil,or_false,reduceCtorEq,false_or] at h
 exact aM.R6 (o.2) h) acS
theorem ZM:Tryz.prog.cellsOf 25=2:=by kernel_rfl
theorem acU:oY enc w base spare held 25 2 (aG.c (α:=cG)) aG.ok:=fun φ h0 ok ro ty cs z fuel hl hw hv=>by
 obtain ⟨xs,n,_,rfl,_,Hv,hf⟩:=DataW.trod_struct Tryz.underlying25 hv
 obtain ⟨c0,c1,rfl⟩:∃c0 c1,cs=[c0,c1]:=by
  match cs,hl with
  | [c0,c1],_=>exact ⟨_,_,rfl⟩
 obtain ⟨y0,y1,rfl⟩:∃y0 y1,xs=[y0,y1]:=by
  match xs,Hv with
  | [y0,y1],_=>exact ⟨_,_,rfl⟩
 have hs:=Small.struct Tryz.underlying25 hw
 obtain ⟨s0,hs⟩:=Small.dM hs
 have q0:DataW.trod enc Tryz.prog w base spare held n 22 [c0]=some y0:=by simpa [ZH] using hf 0 _ rfl
 obtain ⟨φ1,h1,x0,g0,l0,o0⟩:=acP _ _ (Gx.refl ok ro ty).ok (Gx.refl ok ro ty).ro (Gx.refl ok ro ty).tidy _ _ _ rfl s0 q0
 have G0:=Gx.trans (Gx.refl ok ro ty) g0
 obtain ⟨s1,hs⟩:=Small.dM hs
 have q1:DataW.trod enc Tryz.prog w base spare held n 23 [c1]=some y1:=by simpa [ZL] using hf 1 _ rfl
 obtain ⟨φ2,h2,x1,g1,l1,o1⟩:=acT _ _ G0.ok G0.ro G0.tidy _ _ _ rfl s1 q1
 have G1:=Gx.trans G0 g1
 have L0:=LR.mono (Ph.le_trans (Ph.le_refl _) g1.le) l0
 have L1:=LR.mono (Ph.le_refl _) l1
 exact ⟨_,_,⟨x0.1,x0.2,x1.1,x1.2⟩,G1,(LR.append L0 (LR.append L1 (LR.nil _))),⟨(o0.has g1.has),o1⟩⟩
end
end Go.Proofs.aJ
