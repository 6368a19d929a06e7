import Derived.Test.YtfllahfbmaafcaaW14
import Derived.Test.YtfllahfbmaafcaaW0
namespace Go.Proofs.aH
open Go.Proofs Ab
noncomputable section
set_option maxRecDepth 100000
set_option maxHeartbeats 4000000
set_option linter.unusedVariables false
set_option linter.unusedSimpArgs false
open Go.ChangeShapes Go.WideShapes Go.RowKit
section
variable {H:Type} {enc:TypeId×Value→H} {w:World} {base:Nat} {spare:Nat→Bool} {held:Bool}
theorem M1 {α:Type} {t e_:TypeId} {n_:Nat} {c_:α→List AV} {ok_:au→α→Prop} (FN:b7 env e_=some n_) (hlen:∀x,(c_ x).length=n_) (aar:0<n_) (aao:∀{h h':au} {x:α},Has h h'→ok_ h x→ok_ h' x) (hg_:∀(l:List α) (i:Nat) (hi:i<l.length),∃x,l[i]? =some x∧∀j,j<n_→(l.flatMap c_)[i*n_+j]? =(c_ x)[j]?) (ht:env.P.underlying t=some (.slice e_)) (hs:env.P.cellsOf e_=n_) (hby:0<env.P.bytesOf e_) (hm:∀(h:au) (x:α) m,ok_ h x→AV.map m ∉ c_ x)
 (he:py enc w base spare held e_ n_ c_ ok_):py enc w base spare held t 1 (fun x:AV×List α=> [x.1]) (fun h x=>mq env h e_ n_ x.1 x.2.length (x.2.flatMap c_)∧(x.1= .aQ∨x.1= .dN∨∃p o m c b,x.1= .slice p o m c b)∧∀y∈x.2,ok_ h y):=fun φ h ok ro y cs z fuel _ hw hv=>by
 have La:=aar
 rcases DataW.trod_slice ht hv with ⟨rfl,_⟩ | ⟨a,len,cap,elems,rest,n,_,rfl,rfl,hb,hlc,hcm,acY,fZ,_,_⟩
 · exact ⟨φ,h,(.aQ,[]),Gx.refl ok ro y,LR.cons VR.aQ (LR.nil _),⟨FN,(Nat.zero_mul _).symm,Nat.pow_pos (by decide),rfl,.inl rfl⟩,.inl rfl,fun x hx=>by cases hx⟩
 rcases Nat.eq_zero_or_pos len with h0 | h0
 · subst h0
   exact ⟨φ,h,(.dN,[]),Gx.refl ok ro y,LR.cons (VR.dN a cap) (LR.nil _),⟨FN,(Nat.zero_mul _).symm,Nat.pow_pos (by decide),rfl,.inl rfl⟩,.inr (.inl rfl),fun x hx=>by cases hx⟩
 have AR:len<2^60∧(DataW.weightsAll env.P (e_) (elems.map (·.1))).all (· ≤reachBytes)=true:=by
  unfold Small at hw
  rw[DataW.weights,ht] at hw
  simp only[List.all_cons,List.all_append,Bool.and_eq_true,List.length_map] at hw
  refine ⟨HS (Nat.le_trans ?_ (of_decide_eq_true hw.1)),hw.2.1⟩
  rw[acY]
  exact Nat.le_trans (Nat.le_add_right _ _) (Nat.le_mul_of_pos_right _ hby)
 have all:∀m,m≤len→∃(φ':Ph) (h':au) (xs:List α),Gx φ φ' h h' w∧xs.length=m∧(∀x∈xs,ok_ h' x)∧∀(i:Nat) (x:α),xs[i]? =some x→∀j v,(c_ x)[j]? =some v→∃y,w.cell? ((a.add (i*n_)).add j)=some y∧VR φ' v y:=by
  intro m
  induction m with
  | zero=>exact fun _=>⟨φ,h,[],Gx.refl ok ro y,rfl,fun _ hx=>(by cases hx),fun i xi hx=>(by simp at hx)⟩
  | succ m ih=>
    intro V9
    obtain ⟨φ1,h1,xs,g1,hl,hq,hx⟩:=ih o!
    have h2:=fZ m o!
    rw[List.getElem?_eq_getElem o!,hs] at h2
    simp only[Option.bind_eq_some_iff] at h2
    obtain ⟨ci,hc1,hc2⟩:=h2
    obtain ⟨_,Nb,Ez⟩:=World.cells?_some hc1
    obtain ⟨φ2,h2,x,g2,zH,jV⟩:=he φ1 h1 g1.ok g1.ro g1.tidy ci _ n Nb (Small.all AR.2 _ (List.mem_map.2 ⟨_,List.getElem_mem _,rfl⟩)) hc2
    refine ⟨φ2,h2,xs++[x],g1.trans g2,by simp [hl],fun z hz=>?_,fun i z hz=>?_⟩
    · rcases List.mem_append.1 hz with h | h
      · exact aao g2.has (hq z h)
      · simp at h;subst h;exact jV
    · by_cases hi:i<xs.length
      · rw[List.getElem?_append_left hi] at hz
        intro j v hj
        obtain ⟨q,e1,e2⟩:=hx i z hz j v hj
        exact ⟨q,e1,e2.mono g2.le⟩
      · rw[List.getElem?_append_right o!] at hz
        have:i - xs.length=0:=by
         have:=(List.getElem?_eq_some_iff.1 hz).1
         simp at this;omega
        rw[this] at hz
        simp at hz;subst hz
        have:i=m:=by omega
        subst this
        intro j v hj
        have nR:j<(c_ x).length:=(List.getElem?_eq_some_iff.1 hj).1
        have LF:j<ci.length:=by rw[←zH.1];exact nR
        exact ⟨ci[j],by rw[Ez j (by rw[Nb] at LF;exact LF),List.getElem?_eq_getElem LF],zH.2 j v _ hj (List.getElem?_eq_getElem LF)⟩
 obtain ⟨φ1,h1,xs,g1,hl,hq,hx⟩:=all len (Nat.le_refl _)
 have xh:=ch hlen xs
 have yn:a.spot=none:=by
  have hx0:xs[0]? =some (xs[0]'o!):=List.getElem?_eq_getElem o!
  obtain ⟨y,hy,_⟩:=hx 0 _ hx0 0 ((c_ (xs[0]'o!))[0]'(by rw[hlen];exact La)) (List.getElem?_eq_getElem _)
  simp only[Nat.zero_mul,Addr.add,if_true] at hy
  unfold World.cell? at hy
  split at hy
  · cases hsp:a.spot with
    | none=>rfl
    | some _=>rw[hsp] at hy;simp at hy
  · cases hy
 have VP:∀i j,(a.add (i*n_)).add j=⟨a.block,a.off+(i*n_+j),none⟩:=by
  intro i j
  obtain ⟨b,o,sp⟩:=a
  simp only at yn
  subst yn
  unfold Addr.add
  by_cases h1:i*n_=0<;>by_cases h2:j=0<;>simp [h1,h2,Nat.add_assoc]
 have dR:xs.flatMap c_≠ []:=by
  intro e
  have:=congrArg List.length e
  rw[xh,hl] at this
  have:=Nat.mul_pos h0 La
  simp at *
  omega
 obtain ⟨h',hn,rJ,hle,acZ,ai0,hg,hold,gT⟩:=g1.ok.show g1.ro (b:=a.block) (off:=a.off) (e:=e_) dR (fun m V9=>by
  have:AV.map m∈xs.flatMap c_:=by rw[V9];simp
  obtain ⟨z,hz,hmz⟩:=List.mem_flatMap.1 this
  exact hm h1 z m (hq z hz) hmz) (fun k v hk=>by
  have Ec:k<(xs.flatMap c_).length:=(List.getElem?_eq_some_iff.1 hk).1
  have hdm:k/n_*n_+k%n_=k:=by rw[Nat.mul_comm];exact Nat.div_add_mod k _
  have hi:k/n_<xs.length:=by
   rw[xh] at Ec
   exact (Nat.div_lt_iff_lt_mul La).2 Ec
  have hk2:=hk
  obtain ⟨xk,hgi,hgj⟩:=hg_ xs _ hi
  rw[←hdm,hgj _ (Nat.mod_lt _ La)] at hk2
  obtain ⟨y,hy,hvr⟩:=hx _ _ hgi _ v hk2
  rw[VP,hdm] at hy
  exact ⟨y,hy,hvr⟩)
 have hVR:=VR.slice (φ:=φ1.add h1.nx ⟨a.block,a.off,0⟩) 0 len cap false gT
 have has:Has h1 h':=ud g1.tidy hn
 refine ⟨_,h',(.slice h1.nx 0 len cap false,xs),g1.trans ⟨rJ,hle,acZ,has,by omega,fi g1.tidy hn⟩,LR.cons ?_ (LR.nil _),?_⟩
 · obtain ⟨b,o,sp⟩:=a
   simp only at yn
   subst yn
   exact hVR
 · subst hl
   exact ⟨⟨FN,xh,AR.1,rfl,.inr ⟨h1.nx,0,_,cap,false,_,_,true,rfl,hlc,hg,fun j _=>by rw[Nat.zero_add]⟩⟩,.inr (.inr ⟨_,_,_,_,_,rfl⟩),fun x hx=>aao has (hq x hx)⟩
theorem HU (k:IntKind):∀l:List Int,(l.flatMap fun x=> [AV.int k x])=zs k l
 | []=>rfl
 | x::l=>by rw[List.flatMap_cons,HU k l];rfl
theorem YU (k:IntKind) (l:List Int) (i:Nat) (hi:i<l.length):∃x,l[i]? =some x∧∀j,j<1→(l.flatMap fun x=> [AV.int k x])[i*1+j]? =[AV.int k x][j]? :=by
 refine ⟨l[i],List.getElem?_eq_getElem hi,fun j hj=>?_⟩
 have:j=0:=by omega
 subst this
 rw[HU,zs,List.getElem?_map,Nat.mul_one,Nat.add_zero,List.getElem?_eq_getElem hi];rfl
theorem M3 {k:IntKind} {t e:TypeId} (ht:env.P.underlying t=some (.slice e)) (hi:env.P.underlying e=some (.int k)) (FN:b7 env e=some 1) (ha:eQ env e=some false) (hs:env.P.cellsOf e=1) (hby:0<env.P.bytesOf e):py enc w base spare held t 1 (fun x:AV×List Int=> [x.1]) (fun h x=>eS h k e x.1 x.2):=fun φ h ok ro y cs z n hl hw hv=>by
 obtain ⟨φ',h',x,g,l,a,b,_⟩:=M1 (ok_:=fun _ _=>True) (c_:=fun x:Int=> [.int k x]) FN (fun _=>rfl) (by decide) (fun _ _=>trivial) (YU k) ht hs hby (fun _ x m _ hmm=>by simp at hmm) (fq hi) φ h ok ro y cs z n hl hw hv
 refine ⟨φ',h',x,g,l,?_⟩
 rw[HU] at a
 exact eS.mk a ha b
end
open Go.ChangeShapes Go.WideShapes Go.RowKit
section
variable {H:Type} {enc:TypeId×Value→H} {w:World} {base:Nat} {spare:Nat→Bool} {held:Bool}
theorem OG:Try.prog.cellsOf 9=1:=by kernel_rfl
theorem kA:Try.prog.cellsOf 3=1:=by kernel_rfl
theorem VQ:Try.prog.cellsOf 23=2:=by kernel_rfl
theorem YV:py enc w base spare held 23 2 (aA.c (α:=Span)) aA.ok:=fun φ h0 ok ro ty cs z fuel hl hw hv=>by
 obtain ⟨xs,n,_,rfl,_,Dx,hf⟩:=DataW.trod_struct Try.underlying23 hv
 obtain ⟨c0,c1,rfl⟩:∃c0 c1,cs=[c0,c1]:=by
  match cs,hl with
  | [c0,c1],_=>exact ⟨_,_,rfl⟩
 obtain ⟨y0,y1,rfl⟩:∃y0 y1,xs=[y0,y1]:=by
  match xs,Dx with
  | [y0,y1],_=>exact ⟨_,_,rfl⟩
 have hs:=Small.struct Try.underlying23 hw
 obtain ⟨s0,hs⟩:=Small.cr hs
 have q0:DataW.trod enc Try.prog w base spare held n 3 [c0]=some y0:=by simpa [kA] using hf 0 _ rfl
 obtain ⟨φ1,h1,x0,g0,l0,o0⟩:=fq (t:=3) Try.underlying3 _ _ (Gx.refl ok ro ty).ok (Gx.refl ok ro ty).ro (Gx.refl ok ro ty).tidy _ _ _ rfl s0 q0
 have G0:=Gx.trans (Gx.refl ok ro ty) g0
 obtain ⟨s1,hs⟩:=Small.cr hs
 have q1:DataW.trod enc Try.prog w base spare held n 3 [c1]=some y1:=by simpa [kA] using hf 1 _ rfl
 obtain ⟨φ2,h2,x1,g1,l1,o1⟩:=fq (t:=3) Try.underlying3 _ _ G0.ok G0.ro G0.tidy _ _ _ rfl s1 q1
 have G1:=Gx.trans G0 g1
 have L0:=LR.mono (Ph.le_trans (Ph.le_refl _) g1.le) l0
 have L1:=LR.mono (Ph.le_refl _) l1
 exact ⟨_,_,⟨x0,x1⟩,G1,(LR.append L0 (LR.append L1 (LR.nil _))),trivial⟩
theorem VS:Try.prog.cellsOf 45=4:=by kernel_rfl
theorem YW:py enc w base spare held 45 4 (aA.c (α:=bV)) aA.ok:=fun φ h0 ok ro ty cs z fuel hl hw hv=>by
 obtain ⟨xs,n,_,rfl,_,Dx,hf⟩:=DataW.trod_struct Try.underlying45 hv
 obtain ⟨c0,c1,c2,c3,rfl⟩:∃c0 c1 c2 c3,cs=[c0,c1,c2,c3]:=by
  match cs,hl with
  | [c0,c1,c2,c3],_=>exact ⟨_,_,_,_,rfl⟩
 obtain ⟨y0,y1,y2,y3,rfl⟩:∃y0 y1 y2 y3,xs=[y0,y1,y2,y3]:=by
  match xs,Dx with
  | [y0,y1,y2,y3],_=>exact ⟨_,_,_,_,rfl⟩
 have hs:=Small.struct Try.underlying45 hw
 obtain ⟨s0,hs⟩:=Small.cr hs
 have q0:DataW.trod enc Try.prog w base spare held n 9 [c0]=some y0:=by simpa [OG] using hf 0 _ rfl
 obtain ⟨φ1,h1,x0,g0,l0,o0⟩:=FH (t:=9) Try.underlying9 _ _ (Gx.refl ok ro ty).ok (Gx.refl ok ro ty).ro (Gx.refl ok ro ty).tidy _ _ _ rfl s0 q0
 have G0:=Gx.trans (Gx.refl ok ro ty) g0
 obtain ⟨s1,hs⟩:=Small.cr hs
 have q1:DataW.trod enc Try.prog w base spare held n 3 [c1]=some y1:=by simpa [kA] using hf 1 _ rfl
 obtain ⟨φ2,h2,x1,g1,l1,o1⟩:=fq (t:=3) Try.underlying3 _ _ G0.ok G0.ro G0.tidy _ _ _ rfl s1 q1
 have G1:=Gx.trans G0 g1
 obtain ⟨s2,hs⟩:=Small.cr hs
 have q2:DataW.trod enc Try.prog w base spare held n 3 [c2]=some y2:=by simpa [kA] using hf 2 _ rfl
 obtain ⟨φ3,h3,x2,g2,l2,o2⟩:=fq (t:=3) Try.underlying3 _ _ G1.ok G1.ro G1.tidy _ _ _ rfl s2 q2
 have G2:=Gx.trans G1 g2
 obtain ⟨s3,hs⟩:=Small.cr hs
 have q3:DataW.trod enc Try.prog w base spare held n 3 [c3]=some y3:=by simpa [kA] using hf 3 _ rfl
 obtain ⟨φ4,h4,x3,g3,l3,o3⟩:=fq (t:=3) Try.underlying3 _ _ G2.ok G2.ro G2.tidy _ _ _ rfl s3 q3
 have G3:=Gx.trans G2 g3
 have L0:=LR.mono (Ph.le_trans (Ph.le_trans (Ph.le_trans (Ph.le_refl _) g1.le) g2.le) g3.le) l0
 have L1:=LR.mono (Ph.le_trans (Ph.le_trans (Ph.le_refl _) g2.le) g3.le) l1
 have L2:=LR.mono (Ph.le_trans (Ph.le_refl _) g3.le) l2
 have L3:=LR.mono (Ph.le_refl _) l3
 exact ⟨_,_,⟨x0,x1,x2,x3⟩,G3,(LR.append L0 (LR.append L1 (LR.append L2 (LR.append L3 (LR.nil _))))),o0⟩
theorem VT:Try.prog.cellsOf 24=1:=by kernel_rfl
theorem YX:py enc w base spare held 24 1 (fun x:AV×List bV=> [x.1]) (fun h x=>aZ h x.1 x.2):=AM (t:=24) Try.underlying24 VS (of_decide_eq_true (by kernel_rfl)) (fun _ x m _ h=>by cases x;simp [aA.c,bV.c] at h) YW
theorem VU:Try.prog.cellsOf 26=7:=by kernel_rfl
theorem YY:py enc w base spare held 26 7 (aA.c (α:=ay)) aA.ok:=fun φ h0 ok ro ty cs z fuel hl hw hv=>by
 obtain ⟨xs,n,_,rfl,_,Dx,hf⟩:=DataW.trod_struct Try.underlying26 hv
 obtain ⟨c0,c1,c2,c3,c4,c5,c6,rfl⟩:∃c0 c1 c2 c3 c4 c5 c6,cs=[c0,c1,c2,c3,c4,c5,c6]:=by
  match cs,hl with
  | [c0,c1,c2,c3,c4,c5,c6],_=>exact ⟨_,_,_,_,_,_,_,rfl⟩
 obtain ⟨y0,y1,y2,y3,y4,y5,rfl⟩:∃y0 y1 y2 y3 y4 y5,xs=[y0,y1,y2,y3,y4,y5]:=by
  match xs,Dx with
  | [y0,y1,y2,y3,y4,y5],_=>exact ⟨_,_,_,_,_,_,rfl⟩
 have hs:=Small.struct Try.underlying26 hw
 obtain ⟨s0,hs⟩:=Small.cr hs
 have q0:DataW.trod enc Try.prog w base spare held n 9 [c0]=some y0:=by simpa [OG] using hf 0 _ rfl
 obtain ⟨φ1,h1,x0,g0,l0,o0⟩:=FH (t:=9) Try.underlying9 _ _ (Gx.refl ok ro ty).ok (Gx.refl ok ro ty).ro (Gx.refl ok ro ty).tidy _ _ _ rfl s0 q0
 have G0:=Gx.trans (Gx.refl ok ro ty) g0
 obtain ⟨s1,hs⟩:=Small.cr hs
 have q1:DataW.trod enc Try.prog w base spare held n 23 [c1,c2]=some y1:=by simpa [VQ] using hf 1 _ rfl
 obtain ⟨φ2,h2,x1,g1,l1,o1⟩:=YV _ _ G0.ok G0.ro G0.tidy _ _ _ rfl s1 q1
 have G1:=Gx.trans G0 g1
 obtain ⟨s2,hs⟩:=Small.cr hs
 have q2:DataW.trod enc Try.prog w base spare held n 3 [c3]=some y2:=by simpa [kA] using hf 2 _ rfl
 obtain ⟨φ3,h3,x2,g2,l2,o2⟩:=fq (t:=3) Try.underlying3 _ _ G1.ok G1.ro G1.tidy _ _ _ rfl s2 q2
 have G2:=Gx.trans G1 g2
 obtain ⟨s3,hs⟩:=Small.cr hs
 have q3:DataW.trod enc Try.prog w base spare held n 3 [c4]=some y3:=by simpa [kA] using hf 3 _ rfl
 obtain ⟨φ4,h4,x3,g3,l3,o3⟩:=fq (t:=3) Try.underlying3 _ _ G2.ok G2.ro G2.tidy _ _ _ rfl s3 q3
 have G3:=Gx.trans G2 g3
 obtain ⟨s4,hs⟩:=Small.cr hs
 have q4:DataW.trod enc Try.prog w base spare held n 3 [c5]=some y4:=by simpa [kA] using hf 4 _ rfl
 obtain ⟨φ5,h5,x4,g4,l4,o4⟩:=fq (t:=3) Try.underlying3 _ _ G3.ok G3.ro G3.tidy _ _ _ rfl s4 q4
 have G4:=Gx.trans G3 g4
 obtain ⟨s5,hs⟩:=Small.cr hs
 have q5:DataW.trod enc Try.prog w base spare held n 24 [c6]=some y5:=by simpa [VT] using hf 5 _ rfl
 obtain ⟨φ6,h6,x5,g5,l5,o5⟩:=YX _ _ G4.ok G4.ro G4.tidy _ _ _ rfl s5 q5
 have G5:=Gx.trans G4 g5
 have L0:=LR.mono (Ph.le_trans (Ph.le_trans (Ph.le_trans (Ph.le_trans (Ph.le_trans (Ph.le_refl _) g1.le) g2.le) g3.le) g4.le) g5.le) l0
 have L1:=LR.mono (Ph.le_trans (Ph.le_trans (Ph.le_trans (Ph.le_trans (Ph.le_refl _) g2.le) g3.le) g4.le) g5.le) l1
 have L2:=LR.mono (Ph.le_trans (Ph.le_trans (Ph.le_trans (Ph.le_refl _) g3.le) g4.le) g5.le) l2
 have L3:=LR.mono (Ph.le_trans (Ph.le_trans (Ph.le_refl _) g4.le) g5.le) l3
 have L4:=LR.mono (Ph.le_trans (Ph.le_refl _) g5.le) l4
 have L5:=LR.mono (Ph.le_refl _) l5
 exact ⟨_,_,⟨x0,x1.aX,x1.aG,x2,x3,x4,x5.1,x5.2⟩,G5,(LR.append L0 (LR.append L1 (LR.append L2 (LR.append L3 (LR.append L4 (LR.append L5 (LR.nil _))))))),⟨o0,o5⟩⟩
theorem VW:Try.prog.cellsOf 43=3:=by kernel_rfl
theorem YZ:py enc w base spare held 43 3 (aA.c (α:=az)) aA.ok:=fun φ h0 ok ro ty cs z fuel hl hw hv=>by
 obtain ⟨xs,n,_,rfl,_,Dx,hf⟩:=DataW.trod_struct Try.underlying43 hv
 obtain ⟨c0,c1,c2,rfl⟩:∃c0 c1 c2,cs=[c0,c1,c2]:=by
  match cs,hl with
  | [c0,c1,c2],_=>exact ⟨_,_,_,rfl⟩
 obtain ⟨y0,y1,y2,rfl⟩:∃y0 y1 y2,xs=[y0,y1,y2]:=by
  match xs,Dx with
  | [y0,y1,y2],_=>exact ⟨_,_,_,rfl⟩
 have hs:=Small.struct Try.underlying43 hw
 obtain ⟨s0,hs⟩:=Small.cr hs
 have q0:DataW.trod enc Try.prog w base spare held n 3 [c0]=some y0:=by simpa [kA] using hf 0 _ rfl
 obtain ⟨φ1,h1,x0,g0,l0,o0⟩:=fq (t:=3) Try.underlying3 _ _ (Gx.refl ok ro ty).ok (Gx.refl ok ro ty).ro (Gx.refl ok ro ty).tidy _ _ _ rfl s0 q0
 have G0:=Gx.trans (Gx.refl ok ro ty) g0
 obtain ⟨s1,hs⟩:=Small.cr hs
 have q1:DataW.trod enc Try.prog w base spare held n 3 [c1]=some y1:=by simpa [kA] using hf 1 _ rfl
 obtain ⟨φ2,h2,x1,g1,l1,o1⟩:=fq (t:=3) Try.underlying3 _ _ G0.ok G0.ro G0.tidy _ _ _ rfl s1 q1
 have G1:=Gx.trans G0 g1
 obtain ⟨s2,hs⟩:=Small.cr hs
 have q2:DataW.trod enc Try.prog w base spare held n 3 [c2]=some y2:=by simpa [kA] using hf 2 _ rfl
 obtain ⟨φ3,h3,x2,g2,l2,o2⟩:=fq (t:=3) Try.underlying3 _ _ G1.ok G1.ro G1.tidy _ _ _ rfl s2 q2
 have G2:=Gx.trans G1 g2
 have L0:=LR.mono (Ph.le_trans (Ph.le_trans (Ph.le_refl _) g1.le) g2.le) l0
 have L1:=LR.mono (Ph.le_trans (Ph.le_refl _) g2.le) l1
 have L2:=LR.mono (Ph.le_refl _) l2
 exact ⟨_,_,⟨x0,x1,x2⟩,G2,(LR.append L0 (LR.append L1 (LR.append L2 (LR.nil _)))),trivial⟩
theorem Y0:py enc w base spare held 27 1 (fun x:AV×List az=> [x.1]) (fun h x=>aZ h x.1 x.2):=AM (t:=27) Try.underlying27 VW (of_decide_eq_true (by kernel_rfl)) (fun _ x m _ h=>by cases x;simp [aA.c,az.c] at h) YZ
theorem Y1:py enc w base spare held 30 1 (fun x:AV×List Int=> [x.1]) (fun h x=>eS h .i64 3 x.1 x.2):=M3 Try.underlying30 Try.underlying3 (by kernel_rfl) (by kernel_rfl) kA (of_decide_eq_true (by kernel_rfl))
end
end
end Go.Proofs.aH
