import Derived.Test.YtkkpegaeikljmaaGreatDoorProg
import Derived.ProofKit
import Derived.Test.YtkkpegaeikljmaaGreatDoorA5
import Derived.Test.YtkkpegaeikljmaaGreatDoorA4
import Derived.Test.YtkkpegaeikljmaaGreatDoorIter
namespace Go.Proofs.aF
open Go.Proofs Ab
noncomputable def Yw (f:FuncId):Option (List AV→Option AV):=
 bif Nat.beq f 76 then some jk else bif Nat.beq f 140 then some qk else bif Nat.beq f 162 then some uF else bif Nat.beq f 143 then some F5 else none
noncomputable def Ay (f:FuncId):Option (List AV→ah→Option (AV×ah)):=
 bif Nat.beq f 106 then some (Kx 150 9) else bif Nat.beq f 107 then some (ad3 150 160) else none
noncomputable def env:Env:={P:=Tryz.prog,G:=8,uq:=Yw,pf:=Ay}
def afP (a:List AV) (h:ah):Option (AV×ah):=match a with | []=>some (.bool true,h) | _=>none
noncomputable def M0:Fa.MJ:=fun f a h=>bif Nat.beq f 4 then afP a h else none
noncomputable abbrev aQ (d:Nat):aE:=gE env M0 d
end Go.Proofs.aF
namespace Go.Proofs.aF
open Go.Proofs Ab
theorem jQ {α:Type} {b:Bool} {x y:Option α} {r:α} (h:(bif b then x else y)=some r):(b=true∧x=some r)∨(b=false∧y=some r):=by
 cases b
 · exact .inr ⟨rfl,h⟩
 · exact .inl ⟨rfl,h⟩
theorem atA:zJ Tryz.prog 76 add64Entry:=⟨_,Tryz.func76,by kernel_rfl,by kernel_rfl,by kernel_rfl,by kernel_rfl⟩
theorem atS:zJ Tryz.prog 140 X4:=⟨_,Tryz.func140,by kernel_rfl,by kernel_rfl,by kernel_rfl,by kernel_rfl⟩
theorem atI:zJ Tryz.prog 162 Extern.BytealgIndexByte.indexByte:=⟨_,Tryz.func162,by kernel_rfl,by kernel_rfl,by kernel_rfl,by kernel_rfl⟩
theorem atC:zJ Tryz.prog 143 Extern.BytealgCount.count:=⟨_,Tryz.func143,by kernel_rfl,by kernel_rfl,by kernel_rfl,by kernel_rfl⟩
theorem Yx:(Tryz.prog.funcs.toList.all fun fn=> !(fn.name== "runtime.NumGoroutine"))=true:=by kernel_rfl
theorem Gq:jZ env where
 ext:=fun f e h=>by
  rcases jQ h with ⟨h1,h2⟩ | ⟨_,h⟩
  · obtain rfl:=Nat.eq_of_beq_eq_true h1;obtain rfl:=Option.some.inj h2;exact X3 atA
  rcases jQ h with ⟨h1,h2⟩ | ⟨_,h⟩
  · obtain rfl:=Nat.eq_of_beq_eq_true h1;obtain rfl:=Option.some.inj h2;exact X5 atS
  rcases jQ h with ⟨h1,h2⟩ | ⟨_,h⟩
  · obtain rfl:=Nat.eq_of_beq_eq_true h1;obtain rfl:=Option.some.inj h2;exact Ku atI
  rcases jQ h with ⟨h1,h2⟩ | ⟨_,h⟩
  · obtain rfl:=Nat.eq_of_beq_eq_true h1;obtain rfl:=Option.some.inj h2;exact Kv atC
  cases h
 pf:=fun f g h=>by
  rcases jQ h with ⟨h1,h2⟩ | ⟨_,h⟩
  · obtain rfl:=Nat.eq_of_beq_eq_true h1;obtain rfl:=Option.some.inj h2
    exact Rz (E:=env) Tryz.underlying9 (by kernel_rfl) Tryz.VA Tryz.Vw
  rcases jQ h with ⟨h1,h2⟩ | ⟨_,h⟩
  · obtain rfl:=Nat.eq_of_beq_eq_true h1;obtain rfl:=Option.some.inj h2
    exact Ye (E:=env) Tryz.VB Tryz.Vz
  cases h
 names:=fun f fn h e=>by
  have hm:fn∈Tryz.prog.funcs.toList:=by
   have h:Tryz.prog.funcs[f]? =some fn:=h
   rw[←Array.getElem?_toList] at h
   exact List.mem_of_getElem? h
  have:=List.all_eq_true.1 Yx fn hm
  rw[e] at this
  simp at this
 mixed:=by kernel_rfl
abbrev W7 (m:Bool) (a b c d:Int) (u:Int):AV:= .agg [.bool m,.int .u64 a,.int .u64 b,.int .u64 c,.int .u64 d,.ax,.int .i64 u]
abbrev R7 (m:Bool) (a b c d:Int) (u:Int) (n:Bool) (e f g h:Int) (v:Int):AV:= .agg [.bool m,.int .u64 a,.int .u64 b,.int .u64 c,.int .u64 d,.ax,.int .i64 u,.bool n,.int .u64 e,.int .u64 f,.int .u64 g,.int .u64 h,.ax,.int .i64 v]
def Bx:List (Nat×List AV×AV):=
 [(12,[.str [49,47,50],.str [49,47,51]],.tuple [.str [53,47,54],.int .i64 0])
 ,(16,[.str [49,32,120,32,60,61,32,51,10,45,49,32,120,32,60,61,32,48,10],.str [10]],.tuple [.str [49,32,120,32,60,61,32,51],.str [45,49,32,120,32,60,61,32,48,10],.bool true])
 ,(102,[.str [49,32,120,32,60,61,32,51],.str [32]],.int .i64 3)
 ,(103,[.str [49,32,120,32,60,61,32,51],.str [32]],.int .i64 1)
 ,(103,[.str [120,32,60,61,32,51],.str [32]],.int .i64 1)
 ,(103,[.str [60,61,32,51],.str [32]],.int .i64 2)
 ,(30,[.str [51]],.tuple [R7 false 3 0 0 0 1 false 1 0 0 0 1,.bool true])
 ,(30,[.str [49]],.tuple [R7 false 1 0 0 0 1 false 1 0 0 0 1,.bool true])
 ,(16,[.str [45,49,32,120,32,60,61,32,48,10],.str [10]],.tuple [.str [45,49,32,120,32,60,61,32,48],.str [],.bool true])
 ,(102,[.str [45,49,32,120,32,60,61,32,48],.str [32]],.int .i64 3)
 ,(103,[.str [45,49,32,120,32,60,61,32,48],.str [32]],.int .i64 2)
 ,(103,[.str [120,32,60,61,32,48],.str [32]],.int .i64 1)
 ,(103,[.str [60,61,32,48],.str [32]],.int .i64 2)
 ,(30,[.str [48]],.tuple [R7 false 0 0 0 0 0 false 1 0 0 0 1,.bool true])
 ,(30,[.str [45,49]],.tuple [R7 true 1 0 0 0 1 false 1 0 0 0 1,.bool true])
 ,(144,[.str [120]],.bool true)
 ,(145,[R7 false 1 0 0 0 1 false 1 0 0 0 1],.int .i64 1)
 ,(105,[.str [49]],.bool true)
 ,(105,[.str [51]],.bool true)
 ,(145,[R7 true 1 0 0 0 1 false 1 0 0 0 1],.int .i64 (-1))
 ,(105,[.str [45,49]],.bool true)
 ,(105,[.str [48]],.bool true)
 ,(30,[.str [50]],.tuple [R7 false 2 0 0 0 1 false 1 0 0 0 1,.bool true])
 ,(145,[R7 false 2 0 0 0 1 false 1 0 0 0 1],.int .i64 1)
 ,(105,[.str [50]],.bool true)
 ,(109,[W7 false 1 0 0 0 1,W7 false 1 0 0 0 1],W7 false 1 0 0 0 1)
 ,(110,[R7 false 3 0 0 0 1 false 1 0 0 0 1,W7 false 1 0 0 0 1],W7 false 3 0 0 0 1)
 ,(151,[.str [120],.str [120]],.bool false)
 ,(110,[R7 false 1 0 0 0 1 false 1 0 0 0 1,W7 false 1 0 0 0 1],W7 false 1 0 0 0 1)
 ,(48,[W7 false 3 0 0 0 1,W7 false 1 0 0 0 1],W7 false 1 0 0 0 1)
 ,(21,[W7 false 1 0 0 0 1],.int .i64 1)
 ,(80,[W7 false 1 0 0 0 1],W7 false 1 0 0 0 1)
 ,(49,[W7 false 3 0 0 0 1,W7 false 1 0 0 0 1],W7 false 3 0 0 0 1)
 ,(49,[W7 false 1 0 0 0 1,W7 false 1 0 0 0 1],W7 false 1 0 0 0 1)
 ,(23,[W7 false 1 0 0 0 1,W7 false 1 0 0 0 1],R7 false 1 0 0 0 1 false 1 0 0 0 1)
 ,(110,[R7 false 0 0 0 0 0 false 1 0 0 0 1,W7 false 1 0 0 0 1],W7 false 0 0 0 0 0)
 ,(110,[R7 true 1 0 0 0 1 false 1 0 0 0 1,W7 false 1 0 0 0 1],W7 true 1 0 0 0 1)
 ,(48,[W7 false 0 0 0 0 0,W7 true 1 0 0 0 1],W7 false 1 0 0 0 1)
 ,(49,[W7 false 0 0 0 0 0,W7 false 1 0 0 0 1],W7 false 0 0 0 0 0)
 ,(49,[W7 true 1 0 0 0 1,W7 false 1 0 0 0 1],W7 true 1 0 0 0 1)
 ,(110,[R7 false 2 0 0 0 1 false 1 0 0 0 1,W7 false 1 0 0 0 1],W7 false 2 0 0 0 1)
 ,(48,[W7 false 0 0 0 0 0,W7 false 2 0 0 0 1],W7 false 2 0 0 0 1)
 ,(21,[W7 false 2 0 0 0 1],.int .i64 1)
 ,(80,[W7 false 2 0 0 0 1],W7 false 2 0 0 0 1)
 ,(49,[W7 false 0 0 0 0 0,W7 false 2 0 0 0 1],W7 false 0 0 0 0 0)
 ,(49,[W7 false 2 0 0 0 1,W7 false 2 0 0 0 1],W7 false 1 0 0 0 1)
 ,(23,[W7 false 1 0 0 0 1,W7 false 2 0 0 0 1],R7 false 1 0 0 0 1 false 2 0 0 0 1)
 ,(19,[.int .i64 1],W7 false 1 0 0 0 1)
 ,(75,[.int .u64 1,.int .u64 1],.tuple [.int .u64 0,.int .u64 1])
 ,(75,[.int .u64 3,.int .u64 1],.tuple [.int .u64 0,.int .u64 3])
 ,(21,[W7 false 0 0 0 0 0],.int .i64 0)
 ,(21,[W7 true 3 0 0 0 1],.int .i64 (-1))
 ,(75,[.int .u64 1,.int .u64 3],.tuple [.int .u64 0,.int .u64 3])
 ,(60,[W7 false 0 0 0 0 0,W7 false 1 0 0 0 1],W7 false 1 0 0 0 1)
 ,(23,[W7 false 3 0 0 0 1,W7 false 1 0 0 0 1],R7 false 3 0 0 0 1 false 1 0 0 0 1)
 ,(24,[R7 false 3 0 0 0 1 false 1 0 0 0 1],.tuple [.str [51],.int .i64 0])
 ,(19,[.int .i64 0],W7 false 0 0 0 0 0)
 ,(56,[W7 false 0 0 0 0 0],R7 false 0 0 0 0 0 false 1 0 0 0 1)
 ,(120,[R7 false 1 0 0 0 1 false 1 0 0 0 1,R7 false 1 0 0 0 1 false 2 0 0 0 1],R7 false 2 0 0 0 1 false 1 0 0 0 1)
 ,(160,[R7 false 1 0 0 0 1 false 1 0 0 0 1,R7 false 2 0 0 0 1 false 1 0 0 0 1],R7 false 2 0 0 0 1 false 1 0 0 0 1)
 ,(24,[R7 false 2 0 0 0 1 false 1 0 0 0 1],.tuple [.str [50],.int .i64 0])
 ,(24,[R7 false 0 0 0 0 0 false 1 0 0 0 1],.tuple [.str [48],.int .i64 0])
 ,(120,[R7 false 3 0 0 0 1 false 1 0 0 0 1,R7 false 1 0 0 0 1 false 2 0 0 0 1],R7 false 6 0 0 0 1 false 1 0 0 0 1)
 ,(24,[R7 false 6 0 0 0 1 false 1 0 0 0 1],.tuple [.str [54],.int .i64 0])]
def TG:List (Nat×List AV×AV)→Nat→List AV→Option AV
 | [],_,_=>none
 | (g,a,v)::l,f,args=>bif Nat.beq g f&&dL (AV.same 20) a args then some v else TG l f args
def ahT:List Nat→Nat→Bool
 | [],_=>false
 | g::l,f=>bif Nat.beq g f then true else ahT l f
def ahU (h:ah):Option AV→Option (AV×ah)
 | some v=>some (v,h)
 | none=>none
theorem Jm:∀{l:List (Nat×List AV×AV)} {f:Nat} {a:List AV} {v:AV},TG l f a=some v→(f,a,v)∈l
 | (g,b,u)::l,f,a,v,h=>by
   unfold TG at h
   rcases jQ h with ⟨h1,h2⟩ | ⟨_,h2⟩
   · rw[Bool.and_eq_true] at h1
     obtain rfl:=Nat.eq_of_beq_eq_true h1.1
     rw[lF (AV.uC 20) h1.2,Option.some.inj h2]
     exact List.mem_cons_self
   · exact List.mem_cons_of_mem _ (Jm h2)
noncomputable def ends (x:AV) (o:z_):Bool:=match o with
 | .ret v _=>AV.same 20 v x
 | _=>false
theorem TH {x:AV} {o:z_} (h:ends x o=true):∃h',o= .ret x h':=by
 cases o with
 | ret v h'=>exact ⟨h',by rw[AV.uC 20 v x h]⟩
 | panic v h'=>cases h
 | fail _ _=>cases h
noncomputable def EN (e:Nat×List AV×AV):Bool:=ends e.2.2 (jF env 60 1000000 (.fn e.1) e.2.1 (j7 8 []))&&(e.2.1.all (AV.plain 20)&&AV.plain 20 e.2.2)
set_option maxRecDepth 100000 in
theorem ahV:((Bx.drop 0).take 16).all EN=true:=by kernel_rfl
set_option maxRecDepth 100000 in
theorem ahW:((Bx.drop 16).take 16).all EN=true:=by kernel_rfl
set_option maxRecDepth 100000 in
theorem ahX:((Bx.drop 32).take 16).all EN=true:=by kernel_rfl
set_option maxRecDepth 100000 in
theorem ahY:((Bx.drop 48).take 16).all EN=true:=by kernel_rfl
theorem acD:Bx.all EN=true:=by
 have cut:∀(n:Nat) (l:List (Nat×List AV×AV)),(l.take n).all EN=true→(l.drop n).all EN=true→l.all EN=true:=fun n l h1 h2=>by
  rw[←List.take_append_drop n l,List.all_append,h1,h2];rfl
 have nx:∀(k n:Nat),((Bx.drop k).take n).all EN=true→(Bx.drop (k+n)).all EN=true→(Bx.drop k).all EN=true:=fun k n h1 h2=>cut n _ h1 (by rw[List.drop_drop];exact h2)
 exact nx 0 16 ahV (nx 16 16 ahW (nx 32 16 ahX (nx 48 16 ahY rfl)))
end Go.Proofs.aF
