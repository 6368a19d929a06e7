import Derived.Test.YtijehnelcbdlgaaGreatEnv
import Derived.Test.YtijehnelcbdlgaaGreatA6
import Derived.Test.YtijehnelcbdlgaaGreatA7
namespace Go.Proofs.aE
open Go.Proofs Ab
theorem Ry:(Tryz.prog.funcs.toList.all fun fn=> !(fn.name== "runtime.NumGoroutine"))=true:=by kernel_rfl
theorem Oy {α:Type} {b:Bool} {x y:Option α} {r:α} (h:(bif b then x else y)=some r):(b=true∧x=some r)∨(b=false∧y=some r):=by
 cases b
 · exact .inr ⟨rfl,h⟩
 · exact .inl ⟨rfl,h⟩
theorem Rz:kU env where
 ext:=fun f e h=>by cases h
 iN:=fun f g h=>by cases h
 names:=fun f fn h e=>by
  have hm:fn∈Tryz.prog.funcs.toList:=by
   have h:Tryz.prog.funcs[f]? =some fn:=h
   rw[←Array.getElem?_toList] at h
   exact List.mem_of_getElem? h
  have:=List.all_eq_true.1 Ry fn hm
  rw[e] at this
  simp at this
 mixed:=by kernel_rfl
noncomputable def w7 (o:jn):Bool:=match o with
 | .ret (.bool b) _=>b
 | _=>false
theorem zL {o:jn} (h:w7 o=true):∃h',o= .ret (.bool true) h':=by
 cases o with
 | ret v h'=>cases v with
   | bool b=>exact ⟨h',by rw[show b=true from h]⟩
   | _=>cases h
 | panic v h'=>cases h
 | fail _ _=>cases h
set_option maxRecDepth 100000 in
theorem runs:w7 (Fa.zI env 60 1000000 (.fn 7) [] (lS 0 []))=true:=by kernel_rfl
theorem Oz:∃h',lN env 7 [] (lS 0 []) (.bool true) h':=by
 obtain ⟨h',e⟩:=zL runs
 exact ⟨h',(HK Rz 1000000 59 (zE Rz 1000000 59)).1 7 [] (lS 0 []) (.bool true) h' (Fa.BP e)⟩
theorem abB:Fa.FR env M0:=fun f args h v h' e=>by
 rcases Oy e with ⟨h1,h2⟩ | ⟨_,h2⟩
 · obtain rfl:=Nat.eq_of_beq_eq_true h1
   cases args with
   | nil=>
     cases h2
     obtain ⟨h1,r⟩:=Oz
     exact lN.closed (E:=env) r rfl rfl h
   | cons a l=>cases h2
 · cases h2
end Go.Proofs.aE
