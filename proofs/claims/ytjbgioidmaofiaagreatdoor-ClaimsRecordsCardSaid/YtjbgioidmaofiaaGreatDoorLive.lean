import Derived.Test.YtjbgioidmaofiaaGreatDoorEnv
import Derived.Test.YtjbgioidmaofiaaGreatDoorA6
import Derived.Test.YtjbgioidmaofiaaGreatDoorA7
import Derived.Test.YtjbgioidmaofiaaGreatDoorA8
namespace Go.Proofs.aA
open Go.Proofs Ab
theorem atI:zm Tryz.prog 186 Extern.BytealgIndexByte.indexByte:=⟨_,Tryz.func186,by kernel_rfl,by kernel_rfl,by kernel_rfl,by kernel_rfl⟩
theorem atC:zm Tryz.prog 169 Extern.BytealgCount.count:=⟨_,Tryz.func169,by kernel_rfl,by kernel_rfl,by kernel_rfl,by kernel_rfl⟩
theorem LH:(Tryz.prog.funcs.toList.all fun fn=> !(fn.name== "runtime.NumGoroutine"))=true:=by kernel_rfl
theorem j9 {α:Type} {b:Bool} {x y:Option α} {r:α} (h:(bif b then x else y)=some r):(b=true∧x=some r)∨(b=false∧y=some r):=by
 cases b
 · exact .inr ⟨rfl,h⟩
 · exact .inl ⟨rfl,h⟩
theorem LI:hS env where
 ext:=fun f e h=>by
  rcases j9 h with ⟨h1,h2⟩ | ⟨_,h⟩
  · obtain rfl:=Nat.eq_of_beq_eq_true h1;obtain rfl:=Option.some.inj h2;exact A5 atI
  rcases j9 h with ⟨h1,h2⟩ | ⟨_,h⟩
  · obtain rfl:=Nat.eq_of_beq_eq_true h1;obtain rfl:=Option.some.inj h2;exact A6 atC
  cases h
 ff:=fun f g h=>by cases h
 names:=fun f fn h e=>by
  have hm:fn∈Tryz.prog.funcs.toList:=by
   have h:Tryz.prog.funcs[f]? =some fn:=h
   rw[←Array.getElem?_toList] at h
   exact List.mem_of_getElem? h
  have:=List.all_eq_true.1 LH fn hm
  rw[e] at this
  simp at this
 mixed:=by kernel_rfl
theorem ubt:∃fs,env.P.underlying 60=some (.struct fs):=⟨_,Tryz.underlying60⟩
noncomputable def rJ (o:fR):Bool:=match o with
 | .ret (.bool b) _=>b
 | _=>false
theorem ub {o:fR} (h:rJ o=true):∃h',o= .ret (.bool true) h':=by
 cases o with
 | ret v h'=>cases v with
   | bool b=>exact ⟨h',by rw[show b=true from h]⟩
   | _=>cases h
 | panic v h'=>cases h
 | fail _ _=>cases h
def ja:Ab.N':=⟨0,.u64,fL,230⟩
set_option maxRecDepth 100000 in
theorem runs:rJ (Fa.tZ env 80 1000000 (.fn 5) [] (g_ 8 [ja]))=true:=by kernel_rfl
theorem LJ:∃h',fI env 5 [] (g_ 8 [ja]) (.bool true) h':=by
 obtain ⟨h',e⟩:=ub runs
 exact ⟨h',(CH LI 1000000 79 (tV LI 1000000 79)).1 5 [] (g_ 8 [ja]) (.bool true) h' (Fa.vP e)⟩
theorem Wb:Fa.A7 env M0:=fun f args h v h' e=>by
 rcases j9 e with ⟨h1,h2⟩ | ⟨_,h2⟩
 · obtain rfl:=Nat.eq_of_beq_eq_true h1
   cases args with
   | nil=>
     have h2:(match zt 0 230 fL h with | true=>some (AV.bool true,h) | false=>none)=some (v,h'):=h2
     split at h2
     · rename_i ht
       cases h2
       obtain ⟨h1,r⟩:=LJ
       refine fI.PZ (E:=env) (L:=[(0,.cells (aJ .u64 fL) 230 true)]) r rfl rfl h fun g o hm=>?_
       obtain ⟨rfl,rfl⟩:g=0∧o= .cells (aJ .u64 fL) 230 true:=by simpa using hm
       exact ⟨by decide,⟨_,_,rfl,by decide⟩,IS ht⟩
     · cases h2
   | cons a l=>cases h2
 · rcases j9 h2 with ⟨h1,h2⟩ | ⟨_,h2⟩
   · obtain rfl:=Nat.eq_of_beq_eq_true h1
     exact Lv (E:=env) LC P0 args h v h' h2
   · rcases j9 h2 with ⟨h1,h2⟩ | ⟨_,h2⟩
     · obtain rfl:=Nat.eq_of_beq_eq_true h1
       obtain ⟨fs,hu⟩:=ubt;exact IT (E:=env) hu rfl LD LG args h v h' h2
     · rcases j9 h2 with ⟨h1,h2⟩ | ⟨_,h2⟩
       · obtain rfl:=Nat.eq_of_beq_eq_true h1
         exact FT (E:=env) LF IV args h v h' h2
       · cases h2
end Go.Proofs.aA
