import Derived.Test.YtfllahfbmaafcaaEnv
import Derived.Test.YtfllahfbmaafcaaA6
import Derived.Test.YtfllahfbmaafcaaA7
namespace Go.Proofs.aK
open Go.Proofs Ab
theorem O1:(Try.prog.funcs.toList.all fun fn=> !(fn.name== "runtime.NumGoroutine"))=true:=by kernel_rfl
theorem BP {α:Type} {b:Bool} {x y:Option α} {r:α} (h:(bif b then x else y)=some r):(b=true∧x=some r)∨(b=false∧y=some r):=by
 cases b
 · exact .inr ⟨rfl,h⟩
 · exact .inl ⟨rfl,h⟩
theorem O2:iZ env where
 ext:=fun f e h=>by cases h
 gF:=fun f g h=>by cases h
 names:=fun f fn h e=>by
  have hm:fn∈Try.prog.funcs.toList:=by
   have h:Try.prog.funcs[f]? =some fn:=h
   rw[←Array.getElem?_toList] at h
   exact List.mem_of_getElem? h
  have:=List.all_eq_true.1 O1 fn hm
  rw[e] at this
  simp at this
 mixed:=by kernel_rfl
noncomputable def uj (o:gY):Bool:=match o with
 | .ret (.bool b) _=>b
 | _=>false
theorem wM {o:gY} (h:uj o=true):∃h',o= .ret (.bool true) h':=by
 cases o with
 | ret v h'=>cases v with
   | bool b=>exact ⟨h',by rw[show b=true from h]⟩
   | _=>cases h
 | panic v h'=>cases h
 | fail _ _=>cases h
set_option maxRecDepth 100000 in
theorem runs:uj (Fa.wI env 60 1000000 (.fn 8) [] (jQ 0 []))=true:=by kernel_rfl
theorem La:∃h',ju env 8 [] (jQ 0 []) (.bool true) h':=by
 obtain ⟨h',e⟩:=wM runs
 exact ⟨h',(EJ O2 1000000 59 (wE O2 1000000 59)).1 8 [] (jQ 0 []) (.bool true) h' (Fa.zh e)⟩
theorem aaj:Fa.Dg env M0:=fun f args h v h' e=>by
 rcases BP e with ⟨h1,h2⟩ | ⟨_,h2⟩
 · obtain rfl:=Nat.eq_of_beq_eq_true h1
   cases args with
   | nil=>
     cases h2
     obtain ⟨h1,r⟩:=La
     exact ju.closed (E:=env) r rfl rfl h
   | cons a l=>cases h2
 · rcases BP h2 with ⟨h1,h2⟩ | ⟨_,h2⟩
   · obtain rfl:=Nat.eq_of_beq_eq_true h1
     exact OU (E:=env) OZ Tq args h v h' h2
   · cases h2
end Go.Proofs.aK
