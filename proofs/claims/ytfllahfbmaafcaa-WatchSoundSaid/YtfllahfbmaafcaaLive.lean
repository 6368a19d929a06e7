import Derived.Test.YtfllahfbmaafcaaEnv
import Derived.Test.YtfllahfbmaafcaaA6
import Derived.Test.YtfllahfbmaafcaaA7
namespace Go.Proofs.aH
open Go.Proofs Ab
theorem SU:(Try.prog.funcs.toList.all fun fn=> !(fn.name== "runtime.NumGoroutine"))=true:=by kernel_rfl
theorem EK {α:Type} {b:Bool} {x y:Option α} {r:α} (h:(bif b then x else y)=some r):(b=true∧x=some r)∨(b=false∧y=some r):=by
 cases b
 · exact .inr ⟨rfl,h⟩
 · exact .inl ⟨rfl,h⟩
theorem SV:kh env where
 ext:=fun f e h=>by cases h
 iC:=fun f g h=>by cases h
 names:=fun f fn h e=>by
  have hm:fn∈Try.prog.funcs.toList:=by
   have h:Try.prog.funcs[f]? =some fn:=h
   rw[←Array.getElem?_toList] at h
   exact List.mem_of_getElem? h
  have:=List.all_eq_true.1 SU fn hm
  rw[e] at this
  simp at this
 mixed:=by kernel_rfl
noncomputable def wZ (o:jd):Bool:=match o with
 | .ret (.bool b) _=>b
 | _=>false
theorem zW {o:jd} (h:wZ o=true):∃h',o= .ret (.bool true) h':=by
 cases o with
 | ret v h'=>cases v with
   | bool b=>exact ⟨h',by rw[show b=true from h]⟩
   | _=>cases h
 | panic v h'=>cases h
 | fail _ _=>cases h
set_option maxRecDepth 100000 in
theorem runs:wZ (Fa.zT env 60 1000000 (.fn 8) [] (lz 0 []))=true:=by kernel_rfl
theorem Pp:∃h',kL env 8 [] (lz 0 []) (.bool true) h':=by
 obtain ⟨h',e⟩:=zW runs
 exact ⟨h',(IJ SV 1000000 59 (zP SV 1000000 59)).1 8 [] (lz 0 []) (.bool true) h' (Fa.B_ e)⟩
theorem adZ:Fa.GI env M0:=fun f args h v h' e=>by
 rcases EK e with ⟨h1,h2⟩ | ⟨_,h2⟩
 · obtain rfl:=Nat.eq_of_beq_eq_true h1
   cases args with
   | nil=>
     cases h2
     obtain ⟨h1,r⟩:=Pp
     exact kL.closed (E:=env) r rfl rfl h
   | cons a l=>cases h2
 · rcases EK h2 with ⟨h1,h2⟩ | ⟨_,h2⟩
   · obtain rfl:=Nat.eq_of_beq_eq_true h1
     exact SK (E:=env) SP XK args h v h' h2
   · cases h2
end Go.Proofs.aH
