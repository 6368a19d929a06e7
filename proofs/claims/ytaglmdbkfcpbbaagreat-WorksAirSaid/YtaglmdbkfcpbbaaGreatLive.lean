import Derived.Test.YtaglmdbkfcpbbaaGreatEnv
import Derived.Test.YtaglmdbkfcpbbaaGreatA6
import Derived.Test.YtaglmdbkfcpbbaaGreatA7
namespace Go.Proofs.bt
open Go.Proofs Ab
theorem KE:(Tryz.prog.funcs.toList.all fun fn=> !(fn.name== "runtime.NumGoroutine"))=true:=by kernel_rfl
theorem Ib {α:Type} {b:Bool} {x y:Option α} {r:α} (h:(bif b then x else y)=some r):(b=true∧x=some r)∨(b=false∧y=some r):=by
 cases b
 · exact .inr ⟨rfl,h⟩
 · exact .inl ⟨rfl,h⟩
theorem KF:jX env where
 ext:=fun f e h=>by cases h
 im:=fun f g h=>by cases h
 names:=fun f fn h e=>by
  have hm:fn∈Tryz.prog.funcs.toList:=by
   have h:Tryz.prog.funcs[f]? =some fn:=h
   rw[←Array.getElem?_toList] at h
   exact List.mem_of_getElem? h
  have:=List.all_eq_true.1 KE fn hm
  rw[e] at this
  simp at this
 mixed:=by kernel_rfl
noncomputable def tW (o:iT):Bool:=match o with
 | .ret (.bool b) _=>b
 | _=>false
theorem wa {o:iT} (h:tW o=true):∃h',o= .ret (.bool true) h':=by
 cases o with
 | ret v h'=>cases v with
   | bool b=>exact ⟨h',by rw[show b=true from h]⟩
   | _=>cases h
 | panic v h'=>cases h
 | fail _ _=>cases h
set_option maxRecDepth 100000 in
theorem runs:tW (Fa.v8 env 60 1000000 (.fn 5) [] (kM 0 []))=true:=by kernel_rfl
theorem Ic:∃h',kH env 5 [] (kM 0 []) (.bool true) h':=by
 obtain ⟨h',e⟩:=wa runs
 exact ⟨h',(CK KF 1000000 59 (vW KF 1000000 59)).1 5 [] (kM 0 []) (.bool true) h' (Fa.yj e)⟩
theorem SQ:Fa.Bz env M0:=fun f args h v h' e=>by
 rcases Ib e with ⟨h1,h2⟩ | ⟨_,h2⟩
 · obtain rfl:=Nat.eq_of_beq_eq_true h1
   cases args with
   | nil=>
     cases h2
     obtain ⟨h1,r⟩:=Ic
     exact kH.closed (E:=env) r rfl rfl h
   | cons a l=>cases h2
 · cases h2
end Go.Proofs.bt
