import Derived.Test.YtemlmndojncekaaGreatW0
import Derived.Test.YtemlmndojncekaaGreatW16
namespace Go.Proofs.aQ
open Go.Proofs Ab
noncomputable section
set_option maxRecDepth 100000
set_option maxHeartbeats 4000000
set_option linter.unusedVariables false
set_option linter.unusedSimpArgs false
open Go.ChangeShapes Go.WideShapes Go.RowKit
section
variable {H:Type} {enc:TypeId×Value→H} {w:World} {base:Nat} {spare:Nat→Bool} {held:Bool}
theorem UP:Tryz.prog.cellsOf 9=1:=by kernel_rfl
theorem vd:Tryz.prog.cellsOf 3=1:=by kernel_rfl
theorem abx:Tryz.prog.cellsOf 26=1:=by kernel_rfl
theorem UQ:px enc w base spare held 26 1 (fun x:AV×List Int=> [x.1]) (fun h x=>b8 h .i64 3 x.1 x.2):=SN Tryz.underlying26 Tryz.underlying3 (by kernel_rfl) (by kernel_rfl) vd (of_decide_eq_true (by kernel_rfl))
theorem aby:Tryz.prog.cellsOf 83=2:=by kernel_rfl
theorem aej:px enc w base spare held 83 2 (aR.c (α:=og)) aR.ok:=fun φ h0 ok ro ty cs z fuel hl hw hv=>by
 obtain ⟨xs,n,_,rfl,_,Ih,hf⟩:=DataW.trod_struct Tryz.underlying83 hv
 obtain ⟨c0,c1,rfl⟩:∃c0 c1,cs=[c0,c1]:=by
  match cs,hl with
  | [c0,c1],_=>exact ⟨_,_,rfl⟩
 obtain ⟨y0,y1,rfl⟩:∃y0 y1,xs=[y0,y1]:=by
  match xs,Ih with
  | [y0,y1],_=>exact ⟨_,_,rfl⟩
 have hs:=Small.struct Tryz.underlying83 hw
 obtain ⟨s0,hs⟩:=Small.dv hs
 have q0:DataW.trod enc Tryz.prog w base spare held n 3 [c0]=some y0:=by simpa [vd] using hf 0 _ rfl
 obtain ⟨φ1,h1,x0,g0,l0,o0⟩:=lO (t:=3) Tryz.underlying3 _ _ (Gx.refl ok ro ty).ok (Gx.refl ok ro ty).ro (Gx.refl ok ro ty).tidy _ _ _ rfl s0 q0
 have G0:=Gx.trans (Gx.refl ok ro ty) g0
 obtain ⟨s1,hs⟩:=Small.dv hs
 have q1:DataW.trod enc Tryz.prog w base spare held n 3 [c1]=some y1:=by simpa [vd] using hf 1 _ rfl
 obtain ⟨φ2,h2,x1,g1,l1,o1⟩:=lO (t:=3) Tryz.underlying3 _ _ G0.ok G0.ro G0.tidy _ _ _ rfl s1 q1
 have G1:=Gx.trans G0 g1
 have L0:=LR.mono (Ph.le_trans (Ph.le_refl _) g1.le) l0
 have L1:=LR.mono (Ph.le_refl _) l1
 exact ⟨_,_,⟨x0,x1⟩,G1,(LR.append L0 (LR.append L1 (LR.nil _))),trivial⟩
theorem abz:Tryz.prog.cellsOf 38=1:=by kernel_rfl
theorem aek:px enc w base spare held 38 1 (fun x:AV×List og=> [x.1]) (fun h x=>aW h x.1 x.2):=rQ (t:=38) Tryz.underlying38 aby (of_decide_eq_true (by kernel_rfl)) (fun _ x m _ h=>by cases x;simp [aR.c,og.c] at h) aej
theorem abA:Tryz.prog.cellsOf 40=4:=by kernel_rfl
theorem ael:px enc w base spare held 40 4 (aR.c (α:=Task)) aR.ok:=fun φ h0 ok ro ty cs z fuel hl hw hv=>by
 obtain ⟨xs,n,_,rfl,_,Ih,hf⟩:=DataW.trod_struct Tryz.underlying40 hv
 obtain ⟨c0,c1,c2,c3,rfl⟩:∃c0 c1 c2 c3,cs=[c0,c1,c2,c3]:=by
  match cs,hl with
  | [c0,c1,c2,c3],_=>exact ⟨_,_,_,_,rfl⟩
 obtain ⟨y0,y1,y2,y3,rfl⟩:∃y0 y1 y2 y3,xs=[y0,y1,y2,y3]:=by
  match xs,Ih with
  | [y0,y1,y2,y3],_=>exact ⟨_,_,_,_,rfl⟩
 have hs:=Small.struct Tryz.underlying40 hw
 obtain ⟨s0,hs⟩:=Small.dv hs
 have q0:DataW.trod enc Tryz.prog w base spare held n 9 [c0]=some y0:=by simpa [UP] using hf 0 _ rfl
 obtain ⟨φ1,h1,x0,g0,l0,o0⟩:=Ko (t:=9) Tryz.underlying9 _ _ (Gx.refl ok ro ty).ok (Gx.refl ok ro ty).ro (Gx.refl ok ro ty).tidy _ _ _ rfl s0 q0
 have G0:=Gx.trans (Gx.refl ok ro ty) g0
 obtain ⟨s1,hs⟩:=Small.dv hs
 have q1:DataW.trod enc Tryz.prog w base spare held n 3 [c1]=some y1:=by simpa [vd] using hf 1 _ rfl
 obtain ⟨φ2,h2,x1,g1,l1,o1⟩:=lO (t:=3) Tryz.underlying3 _ _ G0.ok G0.ro G0.tidy _ _ _ rfl s1 q1
 have G1:=Gx.trans G0 g1
 obtain ⟨s2,hs⟩:=Small.dv hs
 have q2:DataW.trod enc Tryz.prog w base spare held n 26 [c2]=some y2:=by simpa [abx] using hf 2 _ rfl
 obtain ⟨φ3,h3,x2,g2,l2,o2⟩:=UQ _ _ G1.ok G1.ro G1.tidy _ _ _ rfl s2 q2
 have G2:=Gx.trans G1 g2
 obtain ⟨s3,hs⟩:=Small.dv hs
 have q3:DataW.trod enc Tryz.prog w base spare held n 38 [c3]=some y3:=by simpa [abz] using hf 3 _ rfl
 obtain ⟨φ4,h4,x3,g3,l3,o3⟩:=aek _ _ G2.ok G2.ro G2.tidy _ _ _ rfl s3 q3
 have G3:=Gx.trans G2 g3
 have L0:=LR.mono (Ph.le_trans (Ph.le_trans (Ph.le_trans (Ph.le_refl _) g1.le) g2.le) g3.le) l0
 have L1:=LR.mono (Ph.le_trans (Ph.le_trans (Ph.le_refl _) g2.le) g3.le) l1
 have L2:=LR.mono (Ph.le_trans (Ph.le_refl _) g3.le) l2
 have L3:=LR.mono (Ph.le_refl _) l3
 exact ⟨_,_,⟨x0,x1,x2.1,x2.2,x3.1,x3.2⟩,G3,(LR.append L0 (LR.append L1 (LR.append L2 (LR.append L3 (LR.nil _))))),⟨o0,(o2.has g3.has),o3⟩⟩
theorem abB:Tryz.prog.cellsOf 22=1:=by kernel_rfl
theorem aem:px enc w base spare held 22 1 (fun x:AV×List Task=> [x.1]) (fun h x=>aW h x.1 x.2):=rQ (t:=22) Tryz.underlying22 abA (of_decide_eq_true (by kernel_rfl)) (fun _ x m o h=>by
 simp only[aR.c,Task.c,List.mem_cons,List.not_mem_nil,or_false,reduceCtorEq,false_or] at h
 rcases h with h | h
 · exact b8.Tz (o.2.1) h
 · exact aW.Tz (o.2.2) h) ael
theorem abC:Tryz.prog.cellsOf 72=2:=by kernel_rfl
theorem aen:px enc w base spare held 72 2 (aR.c (α:=Span)) aR.ok:=fun φ h0 ok ro ty cs z fuel hl hw hv=>by
 obtain ⟨xs,n,_,rfl,_,Ih,hf⟩:=DataW.trod_struct Tryz.underlying72 hv
 obtain ⟨c0,c1,rfl⟩:∃c0 c1,cs=[c0,c1]:=by
  match cs,hl with
  | [c0,c1],_=>exact ⟨_,_,rfl⟩
 obtain ⟨y0,y1,rfl⟩:∃y0 y1,xs=[y0,y1]:=by
  match xs,Ih with
  | [y0,y1],_=>exact ⟨_,_,rfl⟩
 have hs:=Small.struct Tryz.underlying72 hw
 obtain ⟨s0,hs⟩:=Small.dv hs
 have q0:DataW.trod enc Tryz.prog w base spare held n 3 [c0]=some y0:=by simpa [vd] using hf 0 _ rfl
 obtain ⟨φ1,h1,x0,g0,l0,o0⟩:=lO (t:=3) Tryz.underlying3 _ _ (Gx.refl ok ro ty).ok (Gx.refl ok ro ty).ro (Gx.refl ok ro ty).tidy _ _ _ rfl s0 q0
 have G0:=Gx.trans (Gx.refl ok ro ty) g0
 obtain ⟨s1,hs⟩:=Small.dv hs
 have q1:DataW.trod enc Tryz.prog w base spare held n 3 [c1]=some y1:=by simpa [vd] using hf 1 _ rfl
 obtain ⟨φ2,h2,x1,g1,l1,o1⟩:=lO (t:=3) Tryz.underlying3 _ _ G0.ok G0.ro G0.tidy _ _ _ rfl s1 q1
 have G1:=Gx.trans G0 g1
 have L0:=LR.mono (Ph.le_trans (Ph.le_refl _) g1.le) l0
 have L1:=LR.mono (Ph.le_refl _) l1
 exact ⟨_,_,⟨x0,x1⟩,G1,(LR.append L0 (LR.append L1 (LR.nil _))),trivial⟩
theorem abD:Tryz.prog.cellsOf 35=1:=by kernel_rfl
theorem aeo:px enc w base spare held 35 1 (fun x:AV×List Span=> [x.1]) (fun h x=>aW h x.1 x.2):=rQ (t:=35) Tryz.underlying35 abC (of_decide_eq_true (by kernel_rfl)) (fun _ x m _ h=>by cases x;simp [aR.c,Span.c] at h) aen
theorem abE:Tryz.prog.cellsOf 37=3:=by kernel_rfl
theorem aep:px enc w base spare held 37 3 (aR.c (α:=bJ)) aR.ok:=fun φ h0 ok ro ty cs z fuel hl hw hv=>by
 obtain ⟨xs,n,_,rfl,_,Ih,hf⟩:=DataW.trod_struct Tryz.underlying37 hv
 obtain ⟨c0,c1,c2,rfl⟩:∃c0 c1 c2,cs=[c0,c1,c2]:=by
  match cs,hl with
  | [c0,c1,c2],_=>exact ⟨_,_,_,rfl⟩
 obtain ⟨y0,y1,y2,rfl⟩:∃y0 y1 y2,xs=[y0,y1,y2]:=by
  match xs,Ih with
  | [y0,y1,y2],_=>exact ⟨_,_,_,rfl⟩
 have hs:=Small.struct Tryz.underlying37 hw
 obtain ⟨s0,hs⟩:=Small.dv hs
 have q0:DataW.trod enc Tryz.prog w base spare held n 9 [c0]=some y0:=by simpa [UP] using hf 0 _ rfl
 obtain ⟨φ1,h1,x0,g0,l0,o0⟩:=Ko (t:=9) Tryz.underlying9 _ _ (Gx.refl ok ro ty).ok (Gx.refl ok ro ty).ro (Gx.refl ok ro ty).tidy _ _ _ rfl s0 q0
 have G0:=Gx.trans (Gx.refl ok ro ty) g0
 obtain ⟨s1,hs⟩:=Small.dv hs
 have q1:DataW.trod enc Tryz.prog w base spare held n 3 [c1]=some y1:=by simpa [vd] using hf 1 _ rfl
 obtain ⟨φ2,h2,x1,g1,l1,o1⟩:=lO (t:=3) Tryz.underlying3 _ _ G0.ok G0.ro G0.tidy _ _ _ rfl s1 q1
 have G1:=Gx.trans G0 g1
 obtain ⟨s2,hs⟩:=Small.dv hs
 have q2:DataW.trod enc Tryz.prog w base spare held n 35 [c2]=some y2:=by simpa [abD] using hf 2 _ rfl
 obtain ⟨φ3,h3,x2,g2,l2,o2⟩:=aeo _ _ G1.ok G1.ro G1.tidy _ _ _ rfl s2 q2
 have G2:=Gx.trans G1 g2
 have L0:=LR.mono (Ph.le_trans (Ph.le_trans (Ph.le_refl _) g1.le) g2.le) l0
 have L1:=LR.mono (Ph.le_trans (Ph.le_refl _) g2.le) l1
 have L2:=LR.mono (Ph.le_refl _) l2
 exact ⟨_,_,⟨x0,x1,x2.1,x2.2⟩,G2,(LR.append L0 (LR.append L1 (LR.append L2 (LR.nil _)))),⟨o0,o2⟩⟩
theorem abF:Tryz.prog.cellsOf 23=1:=by kernel_rfl
theorem aeq:px enc w base spare held 23 1 (fun x:AV×List bJ=> [x.1]) (fun h x=>aW h x.1 x.2):=rQ (t:=23) Tryz.underlying23 abE (of_decide_eq_true (by kernel_rfl)) (fun _ x m o h=>by
 simp only[aR.c,bJ.c,List.mem_cons,List.not_mem_nil,or_false,reduceCtorEq,false_or] at h
 exact aW.Tz (o.2) h) aep
theorem abG:Tryz.prog.cellsOf 25=2:=by kernel_rfl
theorem aer:px enc w base spare held 25 2 (aR.c (α:=cx)) aR.ok:=fun φ h0 ok ro ty cs z fuel hl hw hv=>by
 obtain ⟨xs,n,_,rfl,_,Ih,hf⟩:=DataW.trod_struct Tryz.underlying25 hv
 obtain ⟨c0,c1,rfl⟩:∃c0 c1,cs=[c0,c1]:=by
  match cs,hl with
  | [c0,c1],_=>exact ⟨_,_,rfl⟩
 obtain ⟨y0,y1,rfl⟩:∃y0 y1,xs=[y0,y1]:=by
  match xs,Ih with
  | [y0,y1],_=>exact ⟨_,_,rfl⟩
 have hs:=Small.struct Tryz.underlying25 hw
 obtain ⟨s0,hs⟩:=Small.dv hs
 have q0:DataW.trod enc Tryz.prog w base spare held n 22 [c0]=some y0:=by simpa [abB] using hf 0 _ rfl
 obtain ⟨φ1,h1,x0,g0,l0,o0⟩:=aem _ _ (Gx.refl ok ro ty).ok (Gx.refl ok ro ty).ro (Gx.refl ok ro ty).tidy _ _ _ rfl s0 q0
 have G0:=Gx.trans (Gx.refl ok ro ty) g0
 obtain ⟨s1,hs⟩:=Small.dv hs
 have q1:DataW.trod enc Tryz.prog w base spare held n 23 [c1]=some y1:=by simpa [abF] using hf 1 _ rfl
 obtain ⟨φ2,h2,x1,g1,l1,o1⟩:=aeq _ _ G0.ok G0.ro G0.tidy _ _ _ rfl s1 q1
 have G1:=Gx.trans G0 g1
 have L0:=LR.mono (Ph.le_trans (Ph.le_refl _) g1.le) l0
 have L1:=LR.mono (Ph.le_refl _) l1
 exact ⟨_,_,⟨x0.1,x0.2,x1.1,x1.2⟩,G1,(LR.append L0 (LR.append L1 (LR.nil _))),⟨(o0.has g1.has),o1⟩⟩
end
end
end Go.Proofs.aQ
