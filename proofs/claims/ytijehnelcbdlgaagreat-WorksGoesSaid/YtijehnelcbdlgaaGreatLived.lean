import Derived.Test.YtijehnelcbdlgaaGreatEnv
import Derived.Test.YtijehnelcbdlgaaGreatA4
import Derived.Test.YtijehnelcbdlgaaGreatA5
namespace Go.Proofs.aM
open Go.Proofs Ab Fa
theorem abr:(Tryz.prog.funcs.toList.all fun fn=> !(fn.name== "runtime.NumGoroutine"))=true:=by kernel_rfl
theorem Mz {α:Type} {b:Bool} {x y:Option α} {r:α} (h:(bif b then x else y)=some r):(b=true∧x=some r)∨(b=false∧y=some r):=by
 cases b
 · exact .inr ⟨rfl,h⟩
 · exact .inl ⟨rfl,h⟩
theorem Ws:ml env where
 ext:=fun f e h=>by cases h
 zC:=fun f g h=>by cases h
 names:=fun f fn h e=>by
  have hm:fn∈Tryz.prog.funcs.toList:=by
   have h:Tryz.prog.funcs[f]? =some fn:=h
   rw[←Array.getElem?_toList] at h
   exact List.mem_of_getElem? h
  have:=List.all_eq_true.1 abr fn hm
  rw[e] at this
  simp at this
 mixed:=by kernel_rfl
def TZ:Nat×aN:=(60,.cells [.int .i64 0,.int .i64 4,.int .i64 7] 3 false)
def kb1:Nat×aN:=(440,.cells [.int .i64 9,.aw,.int .i64 0] 28 false)
def kb2:Nat×aN:=(1,.cells [.int .i64 0,.int .i64 1] 50 false)
def kb3:Nat×aN:=(2,.cells [.int .i64 5,.int .i64 6] 52 false)
def kb4:Nat×aN:=(3,.cells [.str [114,105,103],.int .i64 1,.slice 2 0 1 1 false] 45 false)
def kb5:Nat×aN:=(6,.cells [.str [100,114,105,108,108],.int .i64 4,.aw,.slice 1 0 1 1 false,.str [98,108,97,115,116],.int .i64 1,.slice 4 0 1 1 false,.aw,.str [109,117,99,107],.int .i64 3,.slice 5 0 1 1 false,.slice 1 0 1 1 false] 48 false)
def kb6:Nat×aN:=(560,.cells [.str [114,105,103],.int .i64 1,.slice 570 0 2 2 true] 45 false)
def kb7:Nat×aN:=(570,.cells [.int .i64 2,.int .i64 3,.int .i64 5,.int .i64 6] 52 false)
def kb8:Nat×aN:=(577,.cells [.int .i64 7,.int .i64 11,.int .i64 12] 3 false)
def kb9:Nat×aN:=(7,.cells [.slice 6 0 3 3 false,.slice 3 0 1 1 false] 25 false)
def YA:Nat×aN:=(659,.cells [.slice 555 0 3 3 true,.slice 560 0 1 1 true] 25 false)
def af4:Nat×aN:=(867,.cells [.int .i64 1,.int .i64 6,.int .i64 6,.int .i64 0,.int .i64 9,.int .i64 9] 64 false)
def ajE:Nat×aN:=(441,.cells [.int .i64 0,.int .i64 4,.int .i64 7] 3 false)
def anv:Nat×aN:=(442,.cells [.slice 6 0 3 3 false,.slice 3 0 1 1 false] 25 false)
def anw:Nat×aN:=(443,.cells [.aw,.aw] 25 false)
def anx:Nat×aN:=(665,.cells [.slice 660 0 1 1 false,.slice 661 0 2 2 false] 59 false)
def anz:Nat×aN:=(666,.cells [.int .i64 1,.int .i64 0,.int .i64 0] 67 false)
def aim:N8:=⟨18,[.agg [.slice 6 0 3 3 false,.slice 3 0 1 1 false],.slice 8 0 3 3 false],9,
 [kb2,
 kb3,
 kb4,
 (4,.cells [.int .i64 0] 3 false),
 (5,.cells [.int .i64 1] 3 false),
 kb5,
 kb9,
 (8,.cells [.int .i64 2,.int .i64 0,.int .i64 1] 3 false)],
 .tuple [.slice 60 0 3 3 false,.int .i64 0],122,
 [kb2,
 kb3,
 kb4,
 (4,.cells [.int .i64 0] 3 false),
 (5,.cells [.int .i64 1] 3 false),
 kb5,
 kb9,
 TZ]⟩
def Wt:N8:=⟨19,[.agg [.slice 6 0 3 3 false,.slice 3 0 1 1 false],.slice 60 0 3 3 false],122,
 [kb2,
 kb3,
 kb4,
 (4,.cells [.int .i64 0] 3 false),
 (5,.cells [.int .i64 1] 3 false),
 kb5,
 kb9,
 TZ],
 .tuple [.int .i64 10,.int .i64 0],212,
 [kb2,
 kb3,
 kb4,
 (4,.cells [.int .i64 0] 3 false),
 (5,.cells [.int .i64 1] 3 false),
 kb5,
 kb9,
 TZ]⟩
def abt:N8:=⟨8,[.agg [.slice 6 0 3 3 false,.slice 3 0 1 1 false]],212,
 [kb2,
 kb3,
 kb4,
 (4,.cells [.int .i64 0] 3 false),
 (5,.cells [.int .i64 1] 3 false),
 kb5,
 kb9,
 TZ],
 .tuple [.agg [.int .i64 9,.aw,.int .i64 0],.int .i64 0],440,
 [kb2,
 kb3,
 kb4,
 (4,.cells [.int .i64 0] 3 false),
 (5,.cells [.int .i64 1] 3 false),
 kb5,
 kb9,
 TZ]⟩
def Wu:N8:=⟨34,[.agg [.slice 6 0 3 3 false,.slice 3 0 1 1 false],.slice 441 0 3 3 false,.int .i64 2,.int .i64 0,.int .i64 3],444,
 [kb2,
 kb3,
 kb4,
 (4,.cells [.int .i64 0] 3 false),
 (5,.cells [.int .i64 1] 3 false),
 kb5,
 TZ,
 kb1,
 ajE,
 anv,
 anw],
 .int .i64 0,535,
 [kb2,
 kb3,
 kb4,
 (4,.cells [.int .i64 0] 3 false),
 (5,.cells [.int .i64 1] 3 false),
 kb5,
 TZ,
 kb1,
 ajE,
 anv,
 anw]⟩
def Wv:N8:=⟨13,[.agg [.slice 6 0 3 3 false,.slice 3 0 1 1 false],.slice 441 0 3 3 false,.int .i64 2,.int .i64 0,.int .i64 3],442,
 [kb2,
 kb3,
 kb4,
 (4,.cells [.int .i64 0] 3 false),
 (5,.cells [.int .i64 1] 3 false),
 kb5,
 TZ,
 kb1,
 ajE],
 .tuple [.agg [.slice 555 0 3 3 true,.slice 560 0 1 1 true],.slice 577 0 3 3 false,.int .i64 0],659,
 [TZ,
 kb1,
 kb6,
 kb7,
 kb8]⟩
def Ww:N8:=⟨51,[.agg [.slice 761 0 2 2 true,.slice 753 0 1 1 true,.slice 767 0 2 2 true,.slice 759 0 1 1 true],.int .i64 0],768,
 [TZ,
 kb1,
 kb6,
 kb7,
 kb8,
 YA,
 anx,
 anz,
 (749,.cells [.int .i64 0,.int .i64 2,.int .i64 6,.int .i64 100000] 52 false),
 (753,.cells [.int .i64 3] 3 false),
 (757,.cells [.int .i64 3,.int .i64 100000] 52 false),
 (759,.cells [.slice 757 0 1 1 true] 43 false),
 (761,.cells [.int .i64 1,.int .i64 0] 3 false),
 (765,.cells [.int .i64 1,.int .i64 100000] 52 false),
 (767,.cells [.slice 749 0 2 2 true,.slice 765 0 1 1 true] 43 false)],
 .tuple [.slice 867 0 2 2 true,.bool true],870,
 [TZ,
 kb1,
 kb6,
 kb7,
 kb8,
 YA,
 anx,
 anz,
 af4]⟩
def Wx:N8:=⟨20,[.agg [.slice 660 0 1 1 false,.slice 661 0 2 2 false],.slice 664 0 1 1 false,.agg [.int .i64 1,.int .i64 0,.int .i64 0]],665,
 [TZ,
 kb1,
 kb6,
 kb7,
 kb8,
 YA,
 (660,.cells [.int .i64 3] 3 false),
 (661,.cells [.int .i64 1,.int .i64 1] 3 false),
 (663,.cells [.int .i64 0,.int .i64 0,.int .i64 0,.int .i64 1,.int .i64 3,.int .i64 5] 64 false),
 (664,.cells [.slice 663 0 2 2 false] 60 false)],
 .tuple [.slice 867 0 2 2 true,.int .i64 0],870,
 [TZ,
 kb1,
 kb6,
 kb7,
 kb8,
 YA,
 af4]⟩
def Wy:N8:=⟨21,[.agg [.slice 870 0 1 1 false,.int .i64 30,.int .i64 100],.slice 872 0 1 1 false,.str [97,110,110],.int .i64 100,.int .i64 60,.int .i64 0],873,
 [TZ,
 kb1,
 kb6,
 kb7,
 kb8,
 YA,
 af4,
 (870,.cells [.int .i64 100,.int .i64 60,.int .i64 10] 69 false),
 (872,.cells [.str [97,110,110],.int .i64 100,.int .i64 0,.int .i64 50,.int .i64 60] 74 false)],
 .tuple [.agg [.str [97,110,110],.int .i64 100,.int .i64 1390,.int .i64 1450,.int .i64 1460],.int .i64 0],1421,
 [TZ,
 kb1,
 kb6,
 kb7,
 kb8,
 YA,
 af4]⟩
end Go.Proofs.aM
