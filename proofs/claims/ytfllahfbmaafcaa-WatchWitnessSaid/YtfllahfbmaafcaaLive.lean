import Derived.Test.YtfllahfbmaafcaaEnv
import Derived.Test.YtfllahfbmaafcaaA6
import Derived.Test.YtfllahfbmaafcaaA7
namespace Go.Proofs.aG
open Go.Proofs Ab
theorem Su:(Try.prog.funcs.toList.all fun fn=> !(fn.name== "runtime.NumGoroutine"))=true:=by kernel_rfl
theorem EN {α:Type} {b:Bool} {x y:Option α} {r:α} (h:(bif b then x else y)=some r):(b=true∧x=some r)∨(b=false∧y=some r):=by
 cases b
 · exact .inr ⟨rfl,h⟩
 · exact .inl ⟨rfl,h⟩
theorem Sv:kM env where
 ext:=fun f e h=>by cases h
 jd:=fun f g h=>by cases h
 names:=fun f fn h e=>by
  have hm:fn∈Try.prog.funcs.toList:=by
   have h:Try.prog.funcs[f]? =some fn:=h
   rw[←Array.getElem?_toList] at h
   exact List.mem_of_getElem? h
  have:=List.all_eq_true.1 Su fn hm
  rw[e] at this
  simp at this
 mixed:=by kernel_rfl
noncomputable def xj (o:jB):Bool:=match o with
 | .ret (.bool b) _=>b
 | _=>false
theorem zQ {o:jB} (h:xj o=true):∃h',o= .ret (.bool true) h':=by
 cases o with
 | ret v h'=>cases v with
   | bool b=>exact ⟨h',by rw[show b=true from h]⟩
   | _=>cases h
 | panic v h'=>cases h
 | fail _ _=>cases h
set_option maxRecDepth 100000 in
theorem runs:xj (Fa.zN env 60 1000000 (.fn 8) [] (lU 0 []))=true:=by kernel_rfl
theorem Pn:∃h',lB env 8 [] (lU 0 []) (.bool true) h':=by
 obtain ⟨h',e⟩:=zQ runs
 exact ⟨h',(II Sv 1000000 59 (zJ Sv 1000000 59)).1 8 [] (lU 0 []) (.bool true) h' (Fa.BS e)⟩
theorem acN:Fa.GF env M0:=fun f args h v h' e=>by
 rcases EN e with ⟨h1,h2⟩ | ⟨_,h2⟩
 · obtain rfl:=Nat.eq_of_beq_eq_true h1
   cases args with
   | nil=>
     cases h2
     obtain ⟨h1,r⟩:=Pn
     exact lB.closed (E:=env) r rfl rfl h
   | cons a l=>cases h2
 · rcases EN h2 with ⟨h1,h2⟩ | ⟨_,h2⟩
   · obtain rfl:=Nat.eq_of_beq_eq_true h1
     exact Sl (E:=env) Sq WJ args h v h' h2
   · cases h2
end Go.Proofs.aG
