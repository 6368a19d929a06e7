import Derived.Laws.BitsLemmas
import Derived.Laws.RangeString
import Derived.Defers
import Derived.AtR
import Derived.RangeFuncNested
import Derived.Test.YtmbkbhleedecdaaGreatDoorA1
set_option linter.unusedVariables false
set_option linter.unusedSimpArgs false
section
namespace Go.Ab
variable {E:Env}
def JB (E:Env) (φ:Ph) (h:ax) (w:World) (r:Result Value) (v:AV) (h':ax):Prop:=
 ∃φ' w' v',r= .ok v' w'∧VR φ' v v'∧OK E φ' h' w'∧Fr φ h w φ' h' w'
theorem AR {φ:Ph} {vs:List AV} {qG:List Value} (h:LR φ vs qG) (hs:vs.all AV.scalar=true):∀v∈qG,v.oneCell'=true:=by
 intro v hv
 obtain ⟨i,hi⟩:=List.getElem?_of_mem hv
 have hil:i<vs.length:=by rw[h.1];exact (List.getElem?_eq_some_iff.1 hi).1
 have:=h.2 i vs[i] v (by simp [hil]) hi
 exact this.scalar (List.all_eq_true.1 hs _ (List.getElem_mem hil))
theorem ua {φ:Ph} {h:ax} {w:World} (ok:OK E φ h w) {i:Nat} {cs:List AV} {e:TypeId} (hg:h.get i=some (.cells cs e false)) {l:Loc} (hφ:φ i=some l)
 {vs:List AV} {qG:List Value} (hl:LR φ vs qG) (o:Nat) (hle:o+vs.length≤cs.length) (MJ:vs.all AV.scalar=true):
 ∃w',(storeCells ⟨l.dY,l.off+o,none⟩ qG).run E.P w= .ok () w'∧OK E φ (h.put i (some (.cells (setFrom cs o vs) e false))) w'∧
  Fr φ h w φ (h.put i (some (.cells (setFrom cs o vs) e false))) w':=by
 obtain ⟨C,e',lo,hi,hb,hc⟩:=ok.cells hg hφ
 have Jb:=hc.size
 have hlen:=hl.1
 have gB:=pP (P:=E.P) hb (l.off+o) qG (by omega) (fun k h1 h2=>hc.free rfl k (by omega) (by omega)) (AR hl MJ)
 refine ⟨_,gB,?_⟩
 obtain ⟨h1,h2,h3⟩:=sj qG w l.dY (l.off+o)
 refine ok.change hg rfl hφ ?_ (fun c ea=>j4 qG (Ne.symm ea) _) (pO _ _ _ _) h1 h2 h3
 refine ⟨j3 C (l.off+o) qG,e',lo,hi,pN qG hb _,⟨?_,fun k x hk=>?_,fun _ k a b=>hc.free rfl k a (by rw[hH] at b;exact b),fun h=>by cases h⟩,fun _=>by have q:=hc.shape rfl;rw[hH,pa];exact q⟩
 · rw[hH,pa];exact Jb
 · rw[fl] at hk
   rw[vl]
   split at hk
   · rename_i YT
     rw[if_pos (by omega)]
     obtain ⟨y,hy,hr⟩:=hl.get hk
     exact ⟨y,by rw[show l.off+k -(l.off+o)=k - o by omega];exact hy,hr⟩
   · rename_i YT
     have hkl:k<cs.length:=(List.getElem?_eq_some_iff.1 hk).1
     rw[if_neg (by omega)]
     exact hc.val k x hk
theorem JC {φ:Ph} {h h':ax} {w:World} (ok:OK E φ h w) {t:TypeId} {av xv:AV} {a' x':Value} (ha:VR φ av a') (hx:VR φ xv x') (e:bY E h t av xv=some h'):
 ∃w',(Instr.storeAt t a' x').run E.P w= .ok () w'∧OK E φ h' w'∧Fr φ h w φ h' w':=by
 unfold bY at e
 split at e
 · rename_i i o
   cases ha with
   | @ptr _ l _ hφ=>
   split at e
   · rename_i cs el n hg hn
     split at e
     · rename_i hc
       simp at e;subst e
       obtain ⟨w',gB,my,nf⟩:=ua ok hg hφ hx.cells o (by omega) hc.2.2
       refine ⟨w',?_,my,nf⟩
       have hs:x'.cells.size=n:=by have:=hx.cells.1;simp at this;omega
       simp only[Instr.storeAt,Instr.sureAddr,Sem.run_bind,Sem.run_pure,Result.andThen_ok,storeVar,ef hn,hs,ne_eq,not_true_eq_false,if_false,gB]
     · simp at e
   · simp at e
 · simp at e
theorem AS {φ:Ph} {h:ax} {w:World} (ok:OK E φ h w) {size n:Nat} {x:AV} {x':Value} (hx:VR φ x x') {new:List AV} (e:g_ h size n x=some new) (hn:rQ x=some n∨True):
 ∃rT:List Value,LR φ new rT∧∀w',w'.heap=w.heap→(Builtin.firstCells size n x').run E.P w'= .ok rT.toArray w':=by
 unfold g_ at e
 split at e
 · split at e
   · rename_i h0
     simp at e;subst e
     cases hx
     exact ⟨[],LR.nil φ,fun w' _=>by simp [Builtin.firstCells]⟩
   · simp at e
 · split at e
   · rename_i h0
     simp at e;subst e
     cases hx
     exact ⟨[],LR.nil φ,fun w' _=>by subst h0;simp only[Builtin.firstCells,Nat.zero_mul];rfl⟩
   · simp at e
 · rename_i i o len _ _
   split at e
   · split at e
     · rename_i h0
       simp at e;subst e
       cases hx
       exact ⟨[],LR.nil φ,fun w' _=>by subst h0;simp only[Builtin.firstCells,Nat.zero_mul];rfl⟩
     · split at e
       · rename_i cs el ro hg
         split at e
         · rename_i hle
           simp at e;subst e
           cases hx with
           | @slice _ l _ _ _ _ hφ=>
           obtain ⟨C,e',lo,hi,hb,hc⟩:=ok.cells hg hφ
           obtain ⟨vs,Zo,C_,AM⟩:=hc.range o (n*size) hle
           refine ⟨vs,AM,fun w' hw=>?_⟩
           rw[←hw] at hb
           have AP:=nb (P:=E.P) hb (l.off+o) vs C_
           rw[Zo] at AP
           simp only[Builtin.firstCells,AP]
         · simp at e
       · simp at e
   · simp at e
 · rename_i s
   split at e
   · rename_i qQ
     simp at e;subst e
     generalize Jy:AV.str s=s0 at hx
     cases hx<;>cases Jy
     rename_i s'
     refine ⟨(s'.data.toList.take n).map (fun b=>Value.int .u8 b.toNat),⟨by simp,fun i p q hp hq=>?_⟩,fun w' _=>?_⟩
     · rw[←List.map_take,List.getElem?_map] at hp
       rw[List.getElem?_map] at hq
       cases hb:(s'.data.toList.take n)[i]? with
       | none=>rw[hb] at hp;simp at hp
       | some b=>
         rw[hb] at hp hq
         simp at hp hq
         subst hp;subst hq
         exact .int _ _
     · simp only[Builtin.firstCells,Sem.run_pure]
       congr 1
       apply Array.ext'
       simp
   · simp at e
 · simp at e
end Go.Ab
namespace Go.Ab
variable {E:Env}
theorem OK.reuse {φ:Ph} {h h':ax} {w w':World} (ok:OK E φ h w) {i:Nat} {o o':aK} {l l':Loc} (hg:h.get i=some o) (C8:o.rw=true) (hl:φ i=some l) (hb:l'.dY=l.dY)
 (hn:(h.put i none).new o'=some h') (ho:OR E (φ.add h.nx l') o' l' w'.heap[l.dY]?) (nB:∀c,c≠l.dY→w'.heap[c]? =w.heap[c]?) (fm:w'.heap.size=w.heap.size)
 (Wu:w'.os=w.os) (AI:w'.tape=w.tape) (oR:w'.output=w.output):
 OK E (φ.add h.nx l') h' w'∧Fr φ h w (φ.add h.nx l') h' w':=by
 obtain ⟨lr,YQ,AJ,hold⟩:=ax.lq hn
 have hpn:(h.put i none).nx=h.nx:=rfl
 rw[hpn] at YQ AJ hold
 have Ep:φ h.nx=none:=by
  cases e:φ h.nx with
  | none=>rfl
  | some m=>exact absurd (ok.zf _ _ e) (Nat.lt_irrefl _)
 have hle:φ.le (φ.add h.nx l'):=fun j m hm=>by
  unfold Ph.add;split
  · rename_i e;subst e;rw[Ep] at hm;simp at hm
  · exact hm
 have fG:∀j p,h'.get j=some p→(j=h.nx∧p=o')∨(j≠h.nx∧j≠i∧h.get j=some p):=fun j p hj=>by
  by_cases e:j=h.nx
  · subst e;rw[AJ] at hj;simp at hj;exact .inl ⟨rfl,hj.symm⟩
  · rw[hold j e] at hj
    by_cases e':i=j
    · subst e';rw[ax.cn] at hj;simp at hj
    · rw[ax.bP e'] at hj;exact .inr ⟨e,Ne.symm e',hj⟩
 have j5:∀j,j≠h.nx→(φ.add h.nx l') j=φ j:=fun j hj=>by simp [Ph.add,hj]
 have hI:(φ.add h.nx l') h.nx=some l':=by simp [Ph.add]
 refine ⟨⟨fun j m hm=>?_,?_,fun g hg=>hle _ _ (ok.uG g hg),fun j p m hj hm=>?_,fun j k p q m n hj hk hm rS hw hbb=>?_⟩,
  ⟨hle,fun j hj=>j5 j (by omega),by omega,Wu,AI,oR,Nat.le_of_eq fm.symm,fun b _ Zf=>nB b (fun e=>Zf i o l hg C8 hl e.symm),fun j p m hj hr hm=>?_⟩⟩
 · rw[YQ]
   by_cases e:j=h.nx
   · omega
   · rw[j5 j e] at hm;have:=ok.zf j m hm;omega
 · have:=ok.nx;omega
 · rcases fG j p hj with ⟨rfl,rfl⟩ | ⟨ea,Er,oQ⟩
   · rw[hI] at hm;simp at hm;subst hm;exact hb▸ho
   · rw[j5 j ea] at hm
     rw[nB _ (fun e=>Er (ok.inj j i p o m l oQ hg hm hl (.inr C8) e))]
     exact (ok.live j p m oQ hm).mono hle
 · rcases fG j p hj with ⟨rfl,rfl⟩ | ⟨ea,hni,oQ⟩<;>rcases fG k q hk with ⟨rfl,rfl⟩ | ⟨Er,abQ,GI⟩
   · rfl
   · rw[hI] at hm;simp at hm;subst hm
     rw[j5 k Er] at rS
     exact absurd (ok.inj k i q o n l GI hg rS hl (.inr C8) (hbb.symm.trans hb)) abQ
   · rw[hI] at rS;simp at rS;subst rS
     rw[j5 j ea] at hm
     exact absurd (ok.inj j i p o m l oQ hg hm hl (.inr C8) (hbb.trans hb)) hni
   · rw[j5 j ea] at hm;rw[j5 k Er] at rS;exact ok.inj _ _ _ _ _ _ oQ GI hm rS hw hbb
 · rcases fG j p hj with ⟨rfl,rfl⟩ | ⟨ea,hni,oQ⟩
   · rw[hI] at hm;simp at hm;subst hm;exact .inr ⟨i,o,l,hg,C8,hl,hb.symm⟩
   · rw[j5 j ea] at hm;exact .inr ⟨j,p,m,oQ,hr,hm,rfl⟩
theorem DE:∀(rounds c JD:Nat),c<JD→Builtin.growBy JD rounds c≤2*JD+1000
 | 0,c,n,h=>by simp [Builtin.growBy];omega
 | r+1,c,n,h=>by
   simp only[Builtin.growBy]
   split
   · omega
   · by_cases hc:c+(c+768) /4<n
     · exact DE r _ n hc
     · cases r with
       | zero=>simp only[Builtin.growBy];omega
       | succ r=>simp only[Builtin.growBy];rw[if_pos (by omega)];omega
theorem nextslicecap_le {n c:Nat} (h:c<n):Builtin.nextslicecap n c≤4*n+4096:=by
 unfold Builtin.nextslicecap
 split
 · omega
 · split
   · omega
   · have:=DE 4 c n h;omega
theorem nE (z:Array Value) (n:Nat):(Builtin.zeroCells z n).size=n*z.size:=by simp [Builtin.zeroCells]
theorem rL {P:Program} {w:World} {sT xT ty elem:TypeId} {xd:TypeDesc} (hs:P.underlying sT=some (.slice elem)) (hx:P.underlying xT=some xd) (S2:∀k,xd≠ .int k)
 {size bytes n:Nat} (fm:(P.info? elem).map (·.size)=some size) (fW:(P.info? elem).map (·.bytes)=some bytes) {z:Value} (hz:∀w,(zeroValue elem).run P w= .ok z w) (S3:z.cells.size=size)
 {base:Option Addr} {len cap:Nat} {x':Value} (hn:∀w,(Builtin.lenOf x').run P w= .ok n w) {old new:List Value} (hold:∀w',w'.heap=w.heap→(Builtin.firstCells size len (.slice base len cap)).run P w'= .ok old.toArray w')
 (AJ:∀w',w'.heap=w.heap→(Builtin.firstCells size n x').run P w'= .ok new.toArray w') (lr:cap<len+n) (C4:(4*(len+n)+4096)*(bytes+1)≤1099511627776) (SC:old.length=len*size) (Oy:new.length=n*size):
 ∃nc:Nat,∃C:Array Value,len+n≤nc∧(∃rest,C.toList=old++new++rest)∧C.size=nc*size∧
  (Builtin.append_ #[sT,xT] ty #[.slice base len cap,x']).run P w= .ok (.slice (some ⟨w.heap.size,0,none⟩) (len+n) nc) (w.drew.alloc (.cells C elem)):=by
 let nc:=(Question.appendCap (len+n) cap elem).cut (w.tape w.drawn (.appendCap (len+n) cap elem))
 have N6:len+n≤nc:=by show len+n≤len+n+_;omega
 let C:Array Value:=old.toArray++new.toArray++Builtin.zeroCells z.cells (nc -(len+n))
 refine ⟨nc,C,N6,⟨(Builtin.zeroCells z.cells (nc -(len+n))).toList,by simp [C]⟩,?_,?_⟩
 · simp only[C,Array.size_append,nE,S3,List.size_toArray,SC,Oy]
   rw[←Nat.add_mul,←Nat.add_mul];congr 1;omega
 · obtain ⟨inf,GP,hb⟩:=qb fW w
   obtain ⟨abR,Oz,Ve⟩:=qb fW w.drew
   have WA:(match xd with | .int _=>true | _=>false)=false:=by cases xd<;>first | rfl | exact absurd rfl (S2 _)
   have S4:¬len+n≤cap:=by omega
   have WB:=nextslicecap_le lr
   have hmul:(4*(len+n)+4096)*(bytes+1)=(4*(len+n)+4096)*bytes+(4*(len+n)+4096):=by rw[Nat.mul_add,Nat.mul_one]
   have JE:¬Builtin.nextslicecap (len+n) cap*bytes>2^48:=by
    have:Builtin.nextslicecap (len+n) cap*bytes≤(4*(len+n)+4096)*bytes:=Nat.mul_le_mul_right _ WB
    omega
   have WC:IntKind.i64.max=9223372036854775807:=by decide
   have ED:¬(((len+n:Nat):Int) >IntKind.i64.max):=by rw[WC];omega
   have o1:=hold w.drew rfl
   have n1:=AJ w.drew rfl
   have z1:=hz w.drew
   have hf:((!false)=true)=True:=by simp
   simp only[Builtin.append_,List.getElem?_toArray,List.getElem?_cons_zero,List.getElem?_cons_succ,Sem.run_bind,Sem.run_pure,Result.andThen_ok,run_underlying hs,run_underlying hx,ef fm,Bool.false_eq_true,if_false,hn,S4,GP]
   rw[if_neg (fun h=>ED h.1)]
   simp only[Sem.run_bind,GP,hb,Result.andThen_ok]
   rw[if_neg JE]
   simp only[Sem.run_bind,run_choose,Question.forced,Bool.false_eq_true,if_false,World.drew_eq,Result.andThen_ok,Oz,run_askRoom,o1,hf,if_true,n1,z1,newRow,run_newObj,World.alloc_eq,Sem.run_pure]
   rfl
theorem qe {P:Program} {w w':World} {sT xT ty elem:TypeId} {xd:TypeDesc} (hs:P.underlying sT=some (.slice elem)) (hx:P.underlying xT=some xd) (S2:∀k,xd≠ .int k)
 {size n:Nat} (fm:(P.info? elem).map (·.size)=some size) {b O len cap:Nat} {x':Value} (hn:∀w,(Builtin.lenOf x').run P w= .ok n w) {new:List Value}
 (AJ:(Builtin.firstCells size n x').run P w= .ok new.toArray w) (hle:len+n≤cap) (il:(storeCells ⟨b,O+len*size,none⟩ new).run P w= .ok () w'):
 (Builtin.append_ #[sT,xT] ty #[.slice (some ⟨b,O,none⟩) len cap,x']).run P w= .ok (.slice (some ⟨b,O,none⟩) (len+n) cap) w':=by
 have WA:(match xd with | .int _=>true | _=>false)=false:=by cases xd<;>first | rfl | exact absurd rfl (S2 _)
 have hf:((!false)=true)=True:=by simp
 simp only[Builtin.append_,List.getElem?_toArray,List.getElem?_cons_zero,List.getElem?_cons_succ,Sem.run_bind,Sem.run_pure,Result.andThen_ok,run_underlying hs,run_underlying hx,ef fm,hf,Bool.false_eq_true,if_false,if_true,hn,hle,AJ,tZ,il]
theorem wo {φ:Ph} {h h':ax} {w:World} (ok:OK E φ h w) {new:List AV} {elem:TypeId} (hn:h.new (.cells new elem false)=some h') {l:List Value} (hl:LR φ new l)
 {size nc n bytes:Nat} (fm:b_ E elem=some size) (fW:iu E elem=some bytes) {C:Array Value} {rest:List Value} (hC:C.toList=l++rest) (N4:C.size=nc*size) (N6:n≤nc) (hll:l.length=n*size):
 JB E φ h w (.ok (.slice (some ⟨w.heap.size,0,none⟩) n nc) (w.drew.alloc (.cells C elem))) (.slice h.nx 0 n n true) h':=by
 have Oy:new.length=n*size:=by rw[hl.1,hll]
 obtain ⟨my,nf,hle⟩:=ok.fresh (w':=w.drew.alloc (.cells C elem)) hn ⟨w.heap.size,0,nc - n⟩ (by
  refine ⟨C,elem,0,0,by rw[show (w.drew.alloc (.cells C elem)).heap=w.heap.push (.cells C elem) from rfl];simp,⟨?_,fun k x hk=>?_,fun _ k _ _=>by omega,fun _ _ _=>rfl⟩,fun _=>⟨rfl,rfl,fun _ _ z=>by rw[fW] at z;cases z⟩⟩
  · simp only[fC,fm,Option.getD_some,Oy,N4,Nat.zero_add]
    rw[←Nat.add_mul];exact Nat.mul_le_mul_right _ (by omega)
  · obtain ⟨y,hy,hr⟩:=hl.get hk
    have hkl:k<l.length:=(List.getElem?_eq_some_iff.1 hy).1
    refine ⟨y,?_,hr.mono (fun i m hm=>?_)⟩
    · have:C.toList[k]? =some y:=by rw[hC,List.getElem?_append_left hkl];exact hy
      simpa using this
    · unfold Ph.add
      split
      · rename_i e;subst e;exact absurd (ok.zf _ _ hm) (Nat.lt_irrefl _)
      · exact hm)
  (fun c ea hc=>by
   have:(w.drew.alloc (.cells C elem)).heap[c]? =w.heap[c]? :=by
    rw[show (w.drew.alloc (.cells C elem)).heap=w.heap.push (.cells C elem) from rfl,Array.getElem?_push,if_neg (by simpa using ea)]
   exact this) (by simp) (Nat.le_refl _) rfl rfl rfl
 refine ⟨_,_,_,rfl,?_,my,nf⟩
 have:=VR.slice (φ:=φ.add h.nx ⟨w.heap.size,0,nc - n⟩) (i:=h.nx) (l:=⟨w.heap.size,0,nc - n⟩) 0 n n true (by simp [Ph.add])
 simp only[fA,if_true] at this
 rw[show n+(nc - n)=nc by omega] at this
 exact this
theorem Fr.S5 {φ φ':Ph} {h h':ax} {w w':World} {i:Nat} (f:Fr φ (h.put i none) w φ' h' w'):Fr φ h w φ' h' w':=by
 have fG:∀j p,(h.put i none).get j=some p→h.get j=some p:=fun j p hj=>by
  by_cases e:i=j
  · subst e;rw[ax.cn] at hj;simp at hj
  · rw[ax.bP e] at hj;exact hj
 exact ⟨f.ext,f.old,f.nx,f.os,f.tape,f.output,f.size,fun b hb hn=>f.zX b hb (fun j p m hj=>hn j p m (fG j p hj)),
  fun j p m hj hr hm=>(f.own j p m hj hr hm).imp id (fun ⟨k,q,n,a,b⟩=>⟨k,q,n,fG k q a,b⟩)⟩
theorem nG {φ:Ph} {x:AV} {n:Nat} (h:rQ x=some n) {x':Value} (hx:VR φ x x') (P:Program) (w:World):(Builtin.lenOf x').run P w= .ok n w:=by
 cases x<;>simp [rQ] at h
 · subst h
   generalize Jy:AV.str _=s0 at hx
   cases hx<;>cases Jy
   rfl
 · cases hx;subst h;rfl
 · cases hx;subst h;rfl
 · cases hx;subst h;rfl
theorem z6 {P:Program} {w:World} {sT xT ty elem:TypeId} {kx:IntKind} (hs:P.underlying sT=some (.slice elem)) (hx:P.underlying xT=some (.int kx))
 {size bytes:Nat} (fm:(P.info? elem).map (·.size)=some size) (fW:(P.info? elem).map (·.bytes)=some bytes) {z:Value} (hz:∀w,(zeroValue elem).run P w= .ok z w) (S3:z.cells.size=size)
 {k:IntKind} {n:Int} (hn:0<n) (SD:0<size) (C4:(4*n.toNat+4096)*(bytes+1)≤1099511627776):
 ∃nc:Nat,∃C:Array Value,n.toNat≤nc∧(∃rest,C.toList=(Builtin.zeroCells z.cells n.toNat).toList++rest)∧C.size=nc*size∧
  (Builtin.append_ #[sT,xT] ty #[.slice none 0 0,.int k n]).run P w= .ok (.slice (some ⟨w.heap.size,0,none⟩) n.toNat nc) (w.drew.alloc (.cells C elem)):=by
 let nc:=(Question.appendCap (0+n.toNat) 0 elem).cut (w.tape w.drawn (.appendCap (0+n.toNat) 0 elem))
 have N6:n.toNat≤nc:=by show n.toNat≤0+n.toNat+_;omega
 let C:Array Value:= #[]++Builtin.zeroCells z.cells n.toNat++Builtin.zeroCells z.cells (nc -(0+n.toNat))
 refine ⟨nc,C,N6,⟨(Builtin.zeroCells z.cells (nc -(0+n.toNat))).toList,by simp [C]⟩,?_,?_⟩
 · simp only[C,Array.size_append,nE,S3,Array.size_empty,Nat.zero_add]
   rw[←Nat.add_mul];congr 1;omega
 · obtain ⟨inf,GP,hb⟩:=qb fW w
   obtain ⟨abR,Oz,Ve⟩:=qb fW w.drew
   have hmul:(4*n.toNat+4096)*(bytes+1)=(4*n.toNat+4096)*bytes+(4*n.toNat+4096):=by rw[Nat.mul_add,Nat.mul_one]
   have Oy:n.toNat≤1099511627776:=by omega
   have Zs:IntKind.i64.wrap n=n:=by
    rw[IntKind.wrap_i64];omega
   have abS:¬n<0:=by omega
   have C5:n*(bytes:Int)=((n.toNat*bytes:Nat):Int):=by rw[Int.natCast_mul,Int.toNat_of_nonneg (by omega)]
   have hle:n.toNat*bytes≤(4*n.toNat+4096)*bytes:=Nat.mul_le_mul_right _ (by omega)
   have Zt:¬n*(bytes:Int) >2^48:=by rw[C5];omega
   have S4:¬0+n.toNat≤0:=by omega
   have WB:=nextslicecap_le (show 0<0+n.toNat by omega)
   have JE:¬Builtin.nextslicecap (0+n.toNat) 0*bytes>2^48:=by
    have:Builtin.nextslicecap (0+n.toNat) 0*bytes≤(4*(0+n.toNat)+4096)*bytes:=Nat.mul_le_mul_right _ WB
    rw[Nat.zero_add] at this
    rw[Nat.zero_add]
    omega
   have WC:IntKind.i64.max=9223372036854775807:=by decide
   have ED:¬(((0+n.toNat:Nat):Int) >IntKind.i64.max):=by rw[WC];omega
   have hns:¬n.toNat*size=0:=by
    have h1:0<n.toNat:=by omega
    have:=Nat.mul_pos h1 SD;omega
   have z1:=hz w.drew
   have hf:((!true)=true)=False:=by simp
   have hai:∀w,(asInt (.int k n)).run P w= .ok n w:=fun _=>rfl
   simp only[Builtin.append_,List.getElem?_toArray,List.getElem?_cons_zero,List.getElem?_cons_succ,Sem.run_bind,Sem.run_pure,Result.andThen_ok,run_underlying hs,run_underlying hx,ef fm,if_true,hai,Zs]
   rw[if_neg abS]
   simp only[Sem.run_bind,GP,hb,Result.andThen_ok]
   rw[if_neg Zt]
   simp only[Sem.run_bind,Sem.run_pure,Result.andThen_ok]
   rw[if_neg S4]
   simp only[Sem.run_bind,Result.andThen_ok,GP,hb]
   rw[if_neg (fun h=>ED h.1)]
   simp only[Sem.run_bind,GP,hb,Result.andThen_ok]
   rw[if_neg JE]
   simp only[Sem.run_bind,run_choose,Question.forced,Bool.false_eq_true,if_false,World.drew_eq,Result.andThen_ok,Oz,run_askRoom,Builtin.firstCells,hf,if_neg hns,z1,newRow,run_newObj,World.alloc_eq,Sem.run_pure]
   simp only[nc,C,Nat.zero_add]
   rfl
theorem GQ {φ:Ph} {h h':ax} {w:World} (ok:OK E φ h w) {argTypes:Array TypeId} {s x v:AV} (e:gq E h argTypes s x=some (v,h')) {s' x':Value} (hs:VR φ s s') (hx:VR φ x x') (ty:TypeId):
 JB E φ h w ((Builtin.append_ argTypes ty #[s',x']).run E.P w) v h':=by
 unfold gq at e
 split at e
 · rename_i sT xT hsT hxT
   split at e
   · rename_i elem xd YU YV
     split at e
     · rename_i hint
       cases xd<;>simp [pM] at hint
       have key:(Builtin.append_ argTypes ty #[s',x']).run E.P w=(Builtin.append_ #[sT,xT] ty #[s',x']).run E.P w:=by
        unfold Builtin.append_;simp only[hsT,hxT];rfl
       rw[key]
       unfold se at e
       split at e
       · rename_i k0 k size bytes z fm fW hzero
         split at e
         · rename_i hc
           obtain ⟨hk,SD,C4,Wy⟩:=hc
           split at e
           · rename_i h1 zn
             simp at e;obtain ⟨rfl,rfl⟩:=e
             cases hs;cases hx
             obtain ⟨z',yb,jn⟩:=hQ hzero
             have S3:z'.cells.size=size:=by have:=(yb φ).cells.1;simp at this;omega
             obtain ⟨nc,C,N6,⟨rest,hC⟩,N4,gB⟩:=z6 (P:=E.P) (w:=w) (ty:=ty) (k:=k0) YU YV fm (tY _ fW) jn S3 hk SD C4
             rw[gB]
             exact wo (n:=k.toNat) ok zn (l:=(Builtin.zeroCells z'.cells k.toNat).toList) (JA (yb φ).cells k.toNat) fm fW hC N4 N6 (by rw[Array.length_toList,nE,S3])
           · simp at e
         · simp at e
       · simp at e
     rename_i Zu
     have S2:∀k,xd≠ .int k:=fun k he=>by subst he;simp [pM] at Zu
     split at e
     · rename_i size bytes n fm fW hlen
       split at e
       · rename_i new z AT hzero
         split at e
         · rename_i hc
           obtain ⟨Wy,MJ,Vf⟩:=hc
           obtain ⟨z',yb,jn⟩:=hQ hzero
           have S3:z'.cells.size=size:=by have:=(yb φ).cells.1;simp at this;omega
           obtain ⟨rT,Da,wq⟩:=AS ok hx AT (.inr trivial)
           have Oy:rT.length=n*size:=by rw[←Da.1];exact Vf
           have key:(Builtin.append_ argTypes ty #[s',x']).run E.P w=(Builtin.append_ #[sT,xT] ty #[s',x']).run E.P w:=by
            unfold Builtin.append_;simp only[hsT,hxT];rfl
           rw[key]
           split at e
           ·
            cases hs
            split at e
            · rename_i Zl
              simp at e;obtain ⟨rfl,rfl⟩:=e
              subst Zl
              refine ⟨φ,w,_,?_,.aX,ok,Fr.refl φ h w⟩
              have WA:(match xd with | .int _=>true | _=>false)=false:=by cases xd<;>first | rfl | exact absurd rfl (S2 _)
              have hf:((!false)=true)=True:=by simp
              have hn1:=wq w rfl
              simp only[Builtin.append_,List.getElem?_toArray,List.getElem?_cons_zero,List.getElem?_cons_succ,Sem.run_bind,Sem.run_pure,Result.andThen_ok,run_underlying YU,run_underlying YV,ef fm,hf,Bool.false_eq_true,if_false,if_true,nG hlen hx,hn1,Nat.le_refl,Nat.add_zero]
            · rename_i Zl
              split at e
              · rename_i C4
                split at e
                · rename_i h1 zn
                  simp at e;obtain ⟨rfl,rfl⟩:=e
                  obtain ⟨nc,C,N6,⟨rest,hC⟩,N4,gB⟩:=rL (P:=E.P) (w:=w) (ty:=ty) YU YV S2 fm (tY _ fW) jn S3 (base:=none) (len:=0) (cap:=0) (fun w=>nG hlen hx E.P w) (old:=[]) (fun w' _=>by simp [Builtin.firstCells]) (fun w' hw=>wq w' hw) (by omega) (by simpa using C4) (by simp) Oy
                  have:=wo (n:=n) ok zn (l:=[]++rT) (by simpa using Da) (by simpa using fm) fW (by simpa using hC) N4 (by omega) (by simp [Oy])
                  rw[gB]
                  simp only[Nat.zero_add] at this ⊢
                  exact this
                · simp at e
              · simp at e
           · rename_i i o len cap op
             cases hs with
             | @slice _ l _ _ _ _ hφ=>
             split at e
             · rename_i cs el hg
               split at e
               ·
                rename_i Zv
                split at e
                · rename_i hle
                  simp at e;obtain ⟨rfl,rfl⟩:=e
                  have Ww:cap≤fA op cap l.gU:=by unfold fA;split<;>omega
                  obtain ⟨w',il,my,nf⟩:=ua ok hg hφ Da (o+len*size) (by rw[Vf,Nat.add_assoc,←Nat.add_mul];exact hle) MJ
                  refine ⟨φ,w',_,qe (P:=E.P) YU YV S2 fm (fun w=>nG hlen hx E.P w) (wq w rfl) (by omega) (by rw[Nat.add_assoc];exact il),?_,my,nf⟩
                  have:=VR.slice (φ:=φ) o (len+n) cap op hφ
                  exact this
                · simp at e
               · rename_i Zv
                 split at e
                 · rename_i Jw
                   obtain ⟨C4,SC,p6⟩:=Jw
                   split at e
                   · rename_i h1 zn
                     simp at e;obtain ⟨rfl,rfl⟩:=e
                     obtain ⟨C0,e0,lo,hi,Wz,YW⟩:=ok.cells hg hφ
                     obtain ⟨S6,GR,Zw,JF⟩:=YW.range o (len*size) SC
                     have S7:∀cp w',w'.heap=w.heap→(Builtin.firstCells size len (.slice (some ⟨l.dY,l.off+o,none⟩) len cp)).run E.P w'= .ok S6.toArray w':=fun cp w' hw=>by
                      rw[←hw] at Wz
                      have AP:=nb (P:=E.P) Wz (l.off+o) S6 Zw
                      rw[GR] at AP
                      simp only[Builtin.firstCells,AP]
                     by_cases YT:len+n≤fA op cap l.gU
                     ·
                      have abT:op=true:=by
                       cases op with
                       | true=>rfl
                       | false=>simp [fA] at YT;omega
                      subst abT
                      obtain ⟨rfl,Zk,ho0⟩:=p6 rfl
                      simp only[fA,if_true] at YT ⊢
                      simp only[if_true] at zn
                      have Jb:=YW.size
                      simp only[fC,fm,Option.getD_some] at Jb
                      have hmul:(len+n)*size≤(cap+l.gU)*size:=Nat.mul_le_mul_right _ YT
                      have e1:(len+n)*size=len*size+n*size:=Nat.add_mul _ _ _
                      have e2:(cap+l.gU)*size=cap*size+l.gU*size:=Nat.add_mul _ _ _
                      have il:=pP (P:=E.P) Wz (l.off+o+len*size) rT (by omega) (fun k k1 k2=>YW.free rfl k (by omega) (by simp only[fC,fm,Option.getD_some];omega)) (AR Da MJ)
                      obtain ⟨p1,p2,p3⟩:=sj rT w l.dY (l.off+o+len*size)
                      obtain ⟨my,nf⟩:=ok.reuse (w':=w.setCells l.dY (l.off+o+len*size) rT) (l':=⟨l.dY,l.off+o,cap+l.gU -(len+n)⟩) hg rfl hφ rfl zn (by
                       refine ⟨j3 C0 (l.off+o+len*size) rT,e0,lo,hi,pN rT Wz _,⟨?_,fun k x hk=>?_,fun _ k a b=>YW.free rfl k (by simp at a;omega) ?_,fun h=>by cases h⟩,fun _=>⟨(YW.shape rfl).1,by show l.off+o=0;have:=(YW.shape rfl).2.1;omega,fun _ _ z=>by rw[fW] at z;cases z⟩⟩
                       · simp only[fC,fm,Option.getD_some,pa,List.length_append,JF.1,GR,Da.1,Oy]
                         rw[Nat.sub_mul];omega
                       · show ∃y,(j3 C0 (l.off+o+len*size) rT)[l.off+o+k]? =some y∧_
                         rw[vl]
                         by_cases hk1:k<len*size
                         · rw[List.getElem?_append_left (by rw[JF.1,GR];exact hk1)] at hk
                           obtain ⟨y,hy,hr⟩:=JF.get hk
                           rw[if_neg (by omega)]
                           exact ⟨y,Zw k y hy,hr.mono (fun j m hm=>by
                            unfold Ph.add
                            split
                            · rename_i ej;subst ej;exact absurd (ok.zf _ _ hm) (Nat.lt_irrefl _)
                            · exact hm)⟩
                         · rw[List.getElem?_append_right (by rw[JF.1,GR];omega)] at hk
                           obtain ⟨y,hy,hr⟩:=Da.get hk
                           have hyl:k -((List.take (len*size) (List.drop o cs)).length)<rT.length:=(List.getElem?_eq_some_iff.1 hy).1
                           rw[JF.1,GR] at hyl hy
                           rw[if_pos (by omega)]
                           exact ⟨y,by rw[show l.off+o+k -(l.off+o+len*size)=k - len*size by omega];exact hy,hr.mono (fun j m hm=>by
                            unfold Ph.add
                            split
                            · rename_i ej;subst ej;exact absurd (ok.zf _ _ hm) (Nat.lt_irrefl _)
                            · exact hm)⟩
                       · simp only[fC,fm,Option.getD_some,List.length_append,JF.1,GR,Da.1,Oy] at b ⊢
                         rw[Nat.sub_mul] at b;omega)
                       (fun c ea=>j4 rT (Ne.symm ea) _) (pO _ _ _ _) p1 p2 p3
                      refine ⟨_,_,_,qe (P:=E.P) YU YV S2 fm (fun w=>nG hlen hx E.P w) (wq w rfl) YT il,?_,my,nf⟩
                      have:=VR.slice (φ:=φ.add h.nx ⟨l.dY,l.off+o,cap+l.gU -(len+n)⟩) (i:=h.nx) (l:=⟨l.dY,l.off+o,cap+l.gU -(len+n)⟩) 0 (len+n) (len+n) true (by simp [Ph.add])
                      simp only[fA,if_true] at this
                      rw[show len+n+(cap+l.gU -(len+n))=cap+l.gU by omega] at this
                      exact this
                     ·
                      obtain ⟨nc,C,N6,⟨rest,hC⟩,N4,gB⟩:=rL (P:=E.P) (w:=w) (ty:=ty) YU YV S2 fm (tY _ fW) jn S3 (base:=some ⟨l.dY,l.off+o,none⟩) (len:=len) (cap:=fA op cap l.gU) (fun w=>nG hlen hx E.P w) (old:=S6) (fun w' hw=>S7 _ w' hw) (fun w' hw=>wq w' hw) (by omega) C4 GR Oy
                      rw[gB]
                      have AM:=JF.append Da
                      have hll:(S6++rT).length=(len+n)*size:=by rw[List.length_append,GR,Oy,Nat.add_mul]
                      cases op with
                      | false=>exact wo ok zn AM fm fW hC N4 N6 hll
                      | true=>
                        obtain ⟨φ',w',v',a1,a2,a3,a4⟩:=wo ok.kill zn AM fm fW hC N4 N6 hll
                        exact ⟨φ',w',v',a1,a2,a3,a4.S5⟩
                   · simp at e
                 · simp at e
             · simp at e
           · simp at e
         · simp at e
       · simp at e
     · simp at e
   · simp at e
 · simp at e
end Go.Ab
end
section
namespace Go.Ab
variable {E:Env}
theorem MK {φ:Ph} {h h':ax} {w:World} (ok:OK E φ h w) {argTypes:Array TypeId} {s d v:AV} (e:uZ E h argTypes d s=some (v,h')) {s' d':Value} (hd:VR φ d d') (hs:VR φ s s') (ty:TypeId):
 JB E φ h w ((Builtin.copy_ argTypes ty #[d',s']).run E.P w) v h':=by
 unfold uZ at e
 split at e
 · rename_i dT hdT
   split at e
   · rename_i elem m hu hm
     split at e
     · rename_i size fm
       simp at e;obtain ⟨rfl,rfl⟩:=e
       cases hd
       refine ⟨φ,w,_,?_,.int .i64 0,ok,Fr.refl φ h w⟩
       have h0:Nat.min m 0=0:=Nat.min_eq_right (Nat.zero_le _)
       obtain ⟨rT,_,wq⟩:∃rT:List Value,True∧(Builtin.firstCells size 0 s').run E.P w= .ok rT.toArray w:=by
        cases s<;>simp [rQ] at hm
        · generalize Jy:AV.str _=s0 at hs
          cases hs<;>cases Jy
          refine ⟨[],trivial,?_⟩
          simp [Builtin.firstCells]
        · cases hs;exact ⟨[],trivial,by simp [Builtin.firstCells]⟩
        · cases hs;exact ⟨[],trivial,by simp [Builtin.firstCells,loadCells,loadCellsFrom]⟩
        · cases hs;exact ⟨[],trivial,by simp [Builtin.firstCells,loadCells,loadCellsFrom]⟩
       simp only[Builtin.copy_,hdT,List.getElem?_toArray,List.getElem?_cons_zero,List.getElem?_cons_succ,Sem.run_bind,Result.andThen_ok,run_underlying hu,nG hm hs,h0,ef fm,wq,Sem.run_pure]
       rfl
     · rename_i size i o len _ _ fm
       split at e
       · rename_i new cs el AT hg
         split at e
         · rename_i hc
           simp at e;obtain ⟨rfl,rfl⟩:=e
           cases hd with
           | @slice _ l _ _ _ _ hφ=>
           obtain ⟨rT,Da,wq⟩:=AS ok hs AT (.inr trivial)
           obtain ⟨w',il,my,nf⟩:=ua ok hg hφ Da o hc.1 hc.2
           refine ⟨φ,w',_,?_,.int .i64 _,my,nf⟩
           have h0:Nat.min m len=min m len:=rfl
           simp only[Builtin.copy_,hdT,List.getElem?_toArray,List.getElem?_cons_zero,List.getElem?_cons_succ,Sem.run_bind,Result.andThen_ok,run_underlying hu,nG hm hs,h0,ef fm,wq w rfl,il,Sem.run_pure]
           rfl
         · simp at e
       · simp at e
     · simp at e
   · simp at e
 · simp at e
theorem GS {w:World} {b n:Nat} {C:Array Value} {e:TypeId} (h:w.heap[b]? =some (.cells C e)):(w.freeze ⟨b,n,none⟩ 1).heap[b]? =some (.cells C e (n,n+1)):=by
 simp [World.freeze,Array.getElem?_modify,h]
theorem EF {w:World} {b c n:Nat} (h:b≠c):(w.freeze ⟨b,n,none⟩ 1).heap[c]? =w.heap[c]? :=by
 simp [World.freeze,Array.getElem?_modify,h]
theorem GU (w:World) (b n:Nat):(w.freeze ⟨b,n,none⟩ 1).heap.size=w.heap.size:=by simp [World.freeze]
theorem ML {φ:Ph} {h h':ax} {w:World} (ok:OK E φ h w) {src dst:TypeId} {x:AV} {v:AV} (e:Dx E h src dst (some x)=some (v,h')) {x':Value} (hx:VR φ x x'):
 JB E φ h w ((convert src dst x').run E.P w) v h':=by
 unfold Dx at e
 split at e
 · rename_i el s hs hd wh
   simp at wh;subst wh
   generalize Jy:AV.str s=s0 at hx
   cases hx<;>cases Jy
   rename_i s'
   split at e
   · rename_i h1 he hn
     split at e
     · rename_i Jb
       simp at e;obtain ⟨rfl,rfl⟩:=e
       have e1:s'.size=s'.data.toList.length:=by cases s';rfl
       let nc:=(Question.appendCap s'.size 0 el).cut (w.tape w.drawn (.appendCap s'.size 0 el))
       have N6:s'.size≤nc:=by show s'.size≤s'.size+_;omega
       let C:Array Value:=(s'.data.map fun b=>Value.int .u8 b.toNat)++Array.replicate (nc - s'.size) (.int .u8 0)
       have N4:C.size=nc:=by
        have e0:s'.size=s'.data.size:=rfl
        have:C.size=s'.data.size+(nc - s'.size):=by simp only[C,Array.size_append,Array.size_map,Array.size_replicate]
        omega
       have C6:(w.drew.alloc (.cells C el)).heap=w.heap.push (.cells C el):=rfl
       have Zx:(w.drew.alloc (.cells C el)).heap[w.heap.size]? =some (.cells C el):=by rw[C6];simp
       obtain ⟨my,nf,hle⟩:=ok.fresh (w':=(w.drew.alloc (.cells C el)).freeze ⟨w.heap.size,nc,none⟩ 1) hn ⟨w.heap.size,0,nc - s'.size⟩ (by
        refine ⟨C,el,nc,nc+1,GS Zx,⟨?_,fun k x hk=>?_,fun _ k _ b=>?_,fun _ _ _=>rfl⟩,fun _=>⟨rfl,rfl,fun fs z=>by rw[he] at z;cases z⟩⟩
        · simp only[fC,Jb,Option.getD_some,N4,List.length_map];rw[←e1];omega
        · rw[List.getElem?_map] at hk
          cases hb:s'.data.toList[k]? with
          | none=>rw[hb] at hk;simp at hk
          | some b=>
            rw[hb] at hk;simp at hk;subst hk
            have hkl:k<s'.data.toList.length:=(List.getElem?_eq_some_iff.1 hb).1
            refine ⟨.int .u8 b.toNat,?_,.int _ _⟩
            have:C[0+k]? =(s'.data.map fun b=>Value.int .u8 b.toNat)[k]? :=by
             simp only[C,Nat.zero_add];rw[Array.getElem?_append_left (by simpa using hkl)]
            show C[0+k]? =_
            rw[this]
            rw[Array.getElem?_map]
            have Ve:s'.data[k]? =some b:=by simpa using hb
            rw[Ve];rfl
        · simp only[fC,Jb,Option.getD_some,List.length_map] at b;rw[←e1] at b;omega)
        (fun c ea hc=>by
         rw[EF (Ne.symm ea),C6,Array.getElem?_push,if_neg (by omega)]) (by rw[GU,C6];simp) (Nat.le_refl _) rfl rfl rfl
       refine ⟨_,_,.slice (some ⟨w.heap.size,0,none⟩) s'.size nc,?_,?_,my,nf⟩
       · have hsh:(w.drew.alloc (.cells C el)).shape? w.heap.size=some (el,nc):=by
          simp only[World.shape?,Zx,N4]
         simp only[convert,Sem.run_bind,run_underlying hs,run_underlying hd,Result.andThen_ok,run_underlying he,Conv.stringToBytes,run_choose,Question.forced,Bool.false_eq_true,if_false,World.drew_eq,newRow,run_newObj,World.alloc_eq,Sem.run_pure,markStringish]
         rw[show (Question.appendCap s'.size 0 el).cut (w.tape w.drawn (Question.appendCap s'.size 0 el))=nc from rfl,show (Array.map (fun b=>Value.int .u8 b.toNat) s'.data++Array.replicate (nc - s'.size) (Value.int .u8 0))=C from rfl]
         simp only[World.size_drew,run_shape,hsh,Result.andThen_ok,run_freeze]
       · have:=VR.slice (φ:=φ.add h.nx ⟨w.heap.size,0,nc - s'.size⟩) (i:=h.nx) (l:=⟨w.heap.size,0,nc - s'.size⟩) 0 s'.size s'.size true (by simp [Ph.add])
         simp only[fA,if_true] at this
         rw[show s'.size+(nc - s'.size)=nc by omega] at this
         exact this
     · simp at e
   · simp at e
 · simp at e
theorem qR {φ:Ph} {v:AV} {v':Value} (hv:VR φ v v') {k':Value}:∀{es:List gO} {gr:List MapEntry} (_:GH φ es gr) (i:Nat) (_:∀e,es[i]? =some e→VR φ e.key k'),
 GH φ (dN es i v) (gr.modify i fun e=>{e with key:=k',val:=v'})
 | [],gr,h,i,_=>by
   cases gr with
   | nil=>simpa [dN] using h
   | cons _ _=>simp [GH] at h
 | e::es,gr,h,i,hk=>by
   obtain ⟨hl,C_⟩:=h
   cases gr with
   | nil=>simp at hl
   | cons y ys=>
     have h0:=C_ 0 e y (by simp) (by simp)
     have nD:GH φ es ys:=⟨by simpa using hl,fun i a b p q=>C_ (i+1) a b (by simpa using p) (by simpa using q)⟩
     cases i with
     | zero=>
       simp only[dN,List.modify_zero_cons]
       refine ⟨by simpa using hl,fun j a b p q=>?_⟩
       cases j with
       | zero=>simp at p q;subst p;subst q;exact ⟨hk e (by simp),hv,h0.born⟩
       | succ j=>simp at p q;exact nD.2 j a b p q
     | succ i=>
       simp only[dN,List.modify_succ_cons]
       obtain ⟨g1,g2⟩:=qR hv nD i (fun e he=>hk e (by simpa using he))
       refine ⟨by simp [g1],fun j a b p q=>?_⟩
       cases j with
       | zero=>simp at p q;subst p;subst q;exact h0
       | succ j=>simp at p;exact g2 j a b p (by simpa using q)
theorem S8 (s:ByteArray):(s==s)=true:=by cases s;rename_i d;show (d==d)=true;simp
theorem EG {φ:Ph} {k j:AV} (e:Dv k j=some true) {k' j':Value} (h:VR φ k k') (h':VR φ j j'):Instr.sameBits 10000 j' k'=true∧j'=k':=by
 unfold Dv at e
 split at e
 · generalize hs:AV.str _=s at h
   generalize qO:AV.str _=s' at h'
   cases h<;>cases hs
   cases h'<;>cases qO
   rename_i s s'
   simp at e
   have:s'=s:=by cases s;cases s';simp_all
   subst this
   exact ⟨by simp only[Instr.sameBits];exact S8 _,rfl⟩
 · cases h;cases h'
   split at e
   · rename_i yd
     simp at e;subst e;subst yd
     exact ⟨by simp [Instr.sameBits],rfl⟩
   · simp at e
 · cases h;cases h'
   simp at e;subst e
   exact ⟨by simp [Instr.sameBits],rfl⟩
 · simp at e
theorem so {φ:Ph} {h h':ax} {w:World} (ok:OK E φ h w) {t:TypeId} {m k v:AV} {m' k' v':Value} (hm:VR φ m m') (hk:VR φ k k') (hv:VR φ v v') (e:ez E h t m k v=some h'):
 ∃w',(Instr.mapUpdate t m' k' v').run E.P w= .ok () w'∧OK E φ h' w'∧Fr φ h w φ h' w':=by
 unfold ez at e
 split at e
 · rename_i key elem i hu
   cases hm with
   | @map _ l hφ=>
   split at e
   · rename_i es clock hg
     split at e
     · rename_i yd
       have EC:∃d,E.P.underlying key=some d∧gW (some d) k=true:=by
        cases hd:E.P.underlying key with
        | none=>rw[hd] at yd;simp [gW] at yd
        | some d=>rw[hd] at yd;exact ⟨d,rfl,yd⟩
       obtain ⟨d,hd,yp⟩:=EC
       have Ap:=ok.live i _ l hg hφ
       obtain ⟨Gq,gr,hb,gC⟩:=Ap
       have zk:(getObj l.dY).run E.P w= .ok (.map gr clock) w:=by simp [getObj,Sem.run,hb]
       have EB:=qP (P:=E.P) hd yp hk false 9999 w
       have rU:∀o':Obj,(setObj l.dY o').run E.P w= .ok () {w with heap:=w.heap.setIfInBounds l.dY o'}:=fun o'=>by simp [setObj,Sem.run,hb]
       have WD:∀(o:aK) (o':Obj),OR E φ o l (some o')→o.rw=true→OK E φ (h.put i (some o)) {w with heap:=w.heap.setIfInBounds l.dY o'}∧Fr φ h w φ (h.put i (some o)) {w with heap:=w.heap.setIfInBounds l.dY o'}:=fun o o' ho C8=>by
        have lr:l.dY<w.heap.size:=by
         rcases Nat.lt_or_ge l.dY w.heap.size with a | a
         · exact a
         · rw[Array.getElem?_eq_none a] at hb;simp at hb
        exact ok.change hg rfl hφ (by simp [lr];exact ho) (fun c ea=>by simp [Ne.symm ea]) (by simp) rfl rfl rfl
       split at e
       · rename_i j v0 hf
         obtain ⟨r',h1,h2⟩:=qd yp hk gC hf
         cases r' with
         | none=>exact h2.elim
         | some q=>
         obtain ⟨j',v1⟩:=q
         obtain ⟨rfl,C_,_,OA,vn,GV⟩:=h2
         simp at e;subst e
         obtain ⟨y,hy⟩:∃y,gr.toList[j]? =some y:=by
          have lr:j<es.length:=by simpa using (List.getElem?_eq_some_iff.1 vn).1
          exact ⟨gr.toList[j]'(by rw[←gC.1];exact lr),by simp⟩
         have S9:=gC.2 j OA y (by simpa using vn) hy
         obtain ⟨Zy,OB⟩:=EG GV hk S9.key
         have OC:gr[j]? =some y:=by simpa using hy
         obtain ⟨my,nf⟩:=WD (.map (dN es j v) clock) (.map (gr.modify j fun e=>{e with key:=k',val:=v'}) clock) ⟨Gq,_,rfl,by
          have:=qR hv gC j (k':=k') (fun e he=>by
           have:e=OA:=by
            have h3:es[j]? =some OA:=by simpa using vn
            rw[h3] at he;simp at he;exact he.symm
           subst this;rw[←OB];exact S9.key)
          simpa using this⟩ rfl
         refine ⟨_,?_,my,nf⟩
         simp only[Instr.mapUpdate,Sem.run_bind,run_underlying hu,Result.andThen_ok,zk,EB,Instr.findKey,run_underlying hd,h1,Sem.run_pure,OC,Option.map_some,Option.getD_some,Instr.keyThatStays,Zy,if_true,rU _]
       · rename_i hf
         obtain ⟨r',h1,h2⟩:=qd yp hk gC hf
         cases r' with
         | some q=>exact h2.elim
         | none=>
         simp at e;subst e
         obtain ⟨my,nf⟩:=WD (.map (es++[{key:=k,val:=v,born:=clock}]) (clock+1)) (.map (gr.push {key:=k',val:=v',born:=clock}) (clock+1)) ⟨Gq,_,rfl,by
          refine ⟨by simp [gC.1],fun j a b p q=>?_⟩
          rw[Array.toList_push] at q
          by_cases hj:j<es.length
          · rw[List.getElem?_append_left hj] at p
            rw[List.getElem?_append_left (by rw[←gC.1];exact hj)] at q
            exact gC.2 j a b p q
          · rw[List.getElem?_append_right (by omega)] at p
            rw[List.getElem?_append_right (by rw[←gC.1];omega),←gC.1] at q
            cases Vg:j - es.length with
            | zero=>rw[Vg] at p q;simp at p q;subst p;subst q;exact ⟨hk,hv,rfl⟩
            | succ n=>rw[Vg] at p;simp at p⟩ rfl
         refine ⟨_,?_,my,nf⟩
         simp only[Instr.mapUpdate,Sem.run_bind,run_underlying hu,Result.andThen_ok,zk,EB,Instr.findKey,run_underlying hd,h1,Sem.run_pure,rU _]
       · simp at e
     · split at e
       · rename_i yd
         have EC:∃d,E.P.underlying key=some d∧iZ E (some d) k=true:=by
          cases hd:E.P.underlying key with
          | none=>rw[hd] at yd;simp [iZ] at yd
          | some d=>rw[hd] at yd;exact ⟨d,rfl,yd⟩
         obtain ⟨d,hd,yp⟩:=EC
         have Ap:=ok.live i _ l hg hφ
         obtain ⟨Gq,gr,hb,gC⟩:=Ap
         have zk:(getObj l.dY).run E.P w= .ok (.map gr clock) w:=by simp [getObj,Sem.run,hb]
         have EB:=pe hd yp hk false 9998 w
         have rU:∀o':Obj,(setObj l.dY o').run E.P w= .ok () {w with heap:=w.heap.setIfInBounds l.dY o'}:=fun o'=>by simp [setObj,Sem.run,hb]
         have WD:∀(o:aK) (o':Obj),OR E φ o l (some o')→o.rw=true→OK E φ (h.put i (some o)) {w with heap:=w.heap.setIfInBounds l.dY o'}∧Fr φ h w φ (h.put i (some o)) {w with heap:=w.heap.setIfInBounds l.dY o'}:=fun o o' ho C8=>by
          have lr:l.dY<w.heap.size:=by
           rcases Nat.lt_or_ge l.dY w.heap.size with a | a
           · exact a
           · rw[Array.getElem?_eq_none a] at hb;simp at hb
          exact ok.change hg rfl hφ (by simp [lr];exact ho) (fun c ea=>by simp [Ne.symm ea]) (by simp) rfl rfl rfl
         split at e
         · rename_i j v0 hf
           obtain ⟨r',h1,h2⟩:=l6 hk gC hf
           cases r' with
           | none=>exact h2.elim
           | some q=>
           obtain ⟨j',v1⟩:=q
           obtain ⟨rfl,C_,_,OA,vn,GV⟩:=h2
           simp at e;subst e
           obtain ⟨y,hy⟩:∃y,gr.toList[j]? =some y:=by
            have lr:j<es.length:=by simpa using (List.getElem?_eq_some_iff.1 vn).1
            exact ⟨gr.toList[j]'(by rw[←gC.1];exact lr),by simp⟩
           have S9:=gC.2 j OA y (by simpa using vn) hy
           obtain ⟨Zy,OB⟩:=GV hk S9.key
           have OC:gr[j]? =some y:=by simpa using hy
           obtain ⟨my,nf⟩:=WD (.map (dN es j v) clock) (.map (gr.modify j fun e=>{e with key:=k',val:=v'}) clock) ⟨Gq,_,rfl,by
            have:=qR hv gC j (k':=k') (fun e he=>by
             have:e=OA:=by
              have h3:es[j]? =some OA:=by simpa using vn
              rw[h3] at he;simp at he;exact he.symm
             subst this;rw[←OB];exact S9.key)
            simpa using this⟩ rfl
           refine ⟨_,?_,my,nf⟩
           simp only[Instr.mapUpdate,Sem.run_bind,run_underlying hu,Result.andThen_ok,zk,EB,jK hd yp hk (h1 w),Sem.run_pure,OC,Option.map_some,Option.getD_some,Instr.keyThatStays,Zy,if_true,rU _]
         · rename_i hf
           obtain ⟨r',h1,h2⟩:=l6 hk gC hf
           cases r' with
           | some q=>exact h2.elim
           | none=>
           simp at e;subst e
           obtain ⟨my,nf⟩:=WD (.map (es++[{key:=k,val:=v,born:=clock}]) (clock+1)) (.map (gr.push {key:=k',val:=v',born:=clock}) (clock+1)) ⟨Gq,_,rfl,by
            refine ⟨by simp [gC.1],fun j a b p q=>?_⟩
            rw[Array.toList_push] at q
            by_cases hj:j<es.length
            · rw[List.getElem?_append_left hj] at p
              rw[List.getElem?_append_left (by rw[←gC.1];exact hj)] at q
              exact gC.2 j a b p q
            · rw[List.getElem?_append_right (by omega)] at p
              rw[List.getElem?_append_right (by rw[←gC.1];omega),←gC.1] at q
              cases Vg:j - es.length with
              | zero=>rw[Vg] at p q;simp at p q;subst p;subst q;exact ⟨hk,hv,rfl⟩
              | succ n=>rw[Vg] at p;simp at p⟩ rfl
           refine ⟨_,?_,my,nf⟩
           simp only[Instr.mapUpdate,Sem.run_bind,run_underlying hu,Result.andThen_ok,zk,EB,jK hd yp hk (h1 w),Sem.run_pure,rU _]
         · simp at e
       · simp at e
   · simp at e
 · simp at e
theorem EH {φ:Ph} {k':Value} {es:List gO} {gr:List MapEntry} (h:GH φ es gr) (i:Nat) (hk:∀e,es[i]? =some e→VR φ e.key k'):
 GH φ es (gr.modify i fun e=>{e with key:=k'}):=by
 obtain ⟨hl,hv⟩:=h
 refine ⟨by rw[List.length_modify];exact hl,fun j a b p q=>?_⟩
 rw[List.getElem?_modify] at q
 by_cases e:i=j
 · subst e
   cases hb:gr[i]? with
   | none=>rw[hb] at q;simp at q
   | some y=>
     rw[hb] at q;simp at q;subst q
     have r:=hv i a y p hb
     exact ⟨hk a p,r.val,r.born⟩
 · have q':gr[j]? =some b:=by simpa [e] using q
   exact hv j a b p q'
theorem wu:∀(es:List gO) (i j:Nat) (v:AV),(dN es i v)[j]? =if i=j then (es[j]?).map (fun e=>{e with val:=v}) else es[j]?
 | [],i,j,v=>by cases i<;>simp [dN]
 | e::es,0,0,v=>by simp [dN]
 | e::es,0,j+1,v=>by simp [dN]
 | e::es,i+1,0,v=>by simp [dN]
 | e::es,i+1,j+1,v=>by simp [dN,wu es i j v]
theorem rM:∀(es:List gO) (i:Nat) (v:AV),(dN es i v).length=es.length
 | [],i,v=>by cases i<;>simp [dN]
 | e::es,0,v=>by simp [dN]
 | e::es,i+1,v=>by simp [dN,rM es i v]
theorem JG {φ:Ph} {v:AV} {v':Value} (hv:VR φ v v') {es:List gO} {gr:List MapEntry} (h:GH φ es gr) (i:Nat):
 GH φ (dN es i v) (gr.modify i fun e=>{e with val:=v'}):=by
 obtain ⟨hl,C_⟩:=h
 refine ⟨by rw[List.length_modify,rM];exact hl,fun j a b p q=>?_⟩
 rw[List.getElem?_modify] at q
 rw[wu] at p
 by_cases e:i=j
 · subst e
   cases hb:gr[i]? with
   | none=>rw[hb] at q;simp at q
   | some y=>
     rw[hb] at q;simp at q;subst q
     cases ha:es[i]? with
     | none=>rw[ha] at p;simp at p
     | some x=>
       rw[ha] at p;simp at p;subst p
       have r:=C_ i x y ha hb
       exact ⟨r.key,hv,r.born⟩
 · have q':gr[j]? =some b:=by simpa [e] using q
   have p':es[j]? =some a:=by simpa [e] using p
   exact C_ j a b p' q'
theorem OK.JH {φ:Ph} {h:ax} {w:World} (ok:OK E φ h w) {i:Nat} {es es2:List gO} {clock clock2:Nat} {MN:Array MapEntry} {l:Loc} {O:Obj} (hg:h.get i=some (.map es clock)) (hφ:φ i=some l) (Gq:l.off=0) (hb:w.heap[l.dY]? =some O) (he:GH φ es2 MN.toList):
 OK E φ (h.put i (some (.map es2 clock2))) {w with heap:=w.heap.setIfInBounds l.dY (.map MN clock2)}∧Fr φ h w φ (h.put i (some (.map es2 clock2))) {w with heap:=w.heap.setIfInBounds l.dY (.map MN clock2)}:=by
 have lr:l.dY<w.heap.size:=by
  rcases Nat.lt_or_ge l.dY w.heap.size with a | a
  · exact a
  · rw[Array.getElem?_eq_none a] at hb;simp at hb
 exact ok.change hg rfl hφ (by simp [lr];exact ⟨Gq,_,rfl,he⟩) (fun c ea=>by simp [Ne.symm ea]) (by simp) rfl rfl rfl
theorem Db {φ:Ph} {h h':ax} {w:World} (ok:OK E φ h w) {t:TypeId} {m k v:AV} {m' k':Value} (hm:VR φ m m') (hk:VR φ k k') (e:tW E h t m k=some (v,h')):
 JB E φ h w ((Instr.mapEntry t m' k').run E.P w) v h':=by
 unfold tW at e
 split at e
 · rename_i key elem i hu
   cases hm with
   | @map _ l hφ=>
   split at e
   · rename_i es clock hg
     split at e
     · rename_i yd
       have EC:∃d,E.P.underlying key=some d∧iZ E (some d) k=true:=by
        cases hd:E.P.underlying key with
        | none=>rw[hd] at yd;simp [iZ] at yd
        | some d=>rw[hd] at yd;exact ⟨d,rfl,yd⟩
       obtain ⟨d,hd,yp⟩:=EC
       have Ap:=ok.live i _ l hg hφ
       obtain ⟨Gq,gr,hb,gC⟩:=Ap
       have zk:(getObj l.dY).run E.P w= .ok (.map gr clock) w:=by simp [getObj,Sem.run,hb]
       have EB:=pe hd yp hk false 9998 w
       have rU:∀o':Obj,(setObj l.dY o').run E.P w= .ok () {w with heap:=w.heap.setIfInBounds l.dY o'}:=fun o'=>by simp [setObj,Sem.run,hb]
       split at e
       · rename_i j v0 hf
         obtain ⟨r',h1,h2⟩:=l6 hk gC hf
         cases r' with
         | none=>exact h2.elim
         | some q=>
         obtain ⟨j',v1⟩:=q
         obtain ⟨rfl,C_,_,OA,vn,GV⟩:=h2
         have Li:es[j]? =some OA:=by simpa using vn
         rw[Li] at e
         simp at e;obtain ⟨rfl,rfl⟩:=e
         obtain ⟨y,hy⟩:∃y,gr.toList[j]? =some y:=by
          have lr:j<es.length:=by simpa using (List.getElem?_eq_some_iff.1 Li).1
          exact ⟨gr.toList[j]'(by rw[←gC.1];exact lr),by simp⟩
         have S9:=gC.2 j OA y Li hy
         obtain ⟨Zy,OB⟩:=GV hk S9.key
         have OC:gr[j]? =some y:=by simpa using hy
         obtain ⟨my,nf⟩:=ok.JH (MN:=gr.modify j fun e=>{e with key:=k'}) (clock2:=clock) hg hφ Gq hb (by
          have:=EH gC j (k':=k') (fun e he=>by
           have:e=OA:=by rw[Li] at he;simp at he;exact he.symm
           subst this;rw[←OB];exact S9.key)
          simpa using this)
         refine ⟨φ,_,.tuple #[v1,goInt y.born],?_,VR.tuple' (LR.cons C_ (LR.cons (by rw[←S9.born];exact .int _ _) (LR.nil φ))),my,nf⟩
         simp only[Instr.mapEntry,Sem.run_bind,run_underlying hu,Result.andThen_ok,zk,EB,jK hd yp hk (h1 w),Sem.run_pure,OC,Option.map_some,Option.getD_some,Instr.keyThatStays,Zy,if_true,rU _]
       · rename_i hf
         obtain ⟨r',h1,h2⟩:=l6 hk gC hf
         cases r' with
         | some q=>exact h2.elim
         | none=>
         split at e
         · rename_i z hz
           simp at e;obtain ⟨rfl,rfl⟩:=e
           obtain ⟨z',yb,jn⟩:=hQ hz
           obtain ⟨my,nf⟩:=ok.JH (MN:=gr.push {key:=k',val:=z',born:=clock}) (clock2:=clock+1) (es2:=es++[{key:=k,val:=z,born:=clock}]) hg hφ Gq hb (by
            refine ⟨by simp [gC.1],fun j a b p q=>?_⟩
            rw[Array.toList_push] at q
            by_cases hj:j<es.length
            · rw[List.getElem?_append_left hj] at p
              rw[List.getElem?_append_left (by rw[←gC.1];exact hj)] at q
              exact gC.2 j a b p q
            · rw[List.getElem?_append_right (by omega)] at p
              rw[List.getElem?_append_right (by rw[←gC.1];omega),←gC.1] at q
              cases Vg:j - es.length with
              | zero=>rw[Vg] at p q;simp at p q;subst p;subst q;exact ⟨hk,yb φ,rfl⟩
              | succ n=>rw[Vg] at p;simp at p)
           refine ⟨φ,_,.tuple #[z',goInt clock],?_,VR.tuple' (LR.cons (yb φ) (LR.cons (.int _ _) (LR.nil φ))),my,nf⟩
           simp only[Instr.mapEntry,Sem.run_bind,run_underlying hu,Result.andThen_ok,zk,EB,jK hd yp hk (h1 w),Sem.run_pure,jn,rU _]
         · simp at e
       · simp at e
     · simp at e
   · simp at e
 · simp at e
theorem MO {φ:Ph} {es:List gO} {gr:List MapEntry} (h:GH φ es gr) (p:Int→Bool):gr.findIdx? (fun e=>p (e.born:Int))=es.findIdx? (fun e=>p (e.born:Int)):=by
 have hm:gr.map (fun e=>(e.born:Int))=es.map (fun e=>(e.born:Int)):=by
  apply List.ext_getElem?
  intro j
  rw[List.getElem?_map,List.getElem?_map]
  by_cases hj:j<es.length
  · have h1:es[j]? =some es[j]:=by simp [hj]
    have oQ:j<gr.length:=by rw[←h.1];exact hj
    have h2:gr[j]? =some gr[j]:=by simp [oQ]
    rw[h1,h2,Option.map_some,Option.map_some,(h.2 j _ _ h1 h2).born]
  · rw[List.getElem?_eq_none (by rw[←h.1];omega),List.getElem?_eq_none (by omega)];rfl
 have a:=congrArg (List.findIdx? p) hm
 rw[List.findIdx?_map,List.findIdx?_map] at a
 exact a
theorem z7 {φ:Ph} {h h':ax} {w:World} (ok:OK E φ h w) {t:TypeId} {m s x:AV} {m' s' x':Value} (hm:VR φ m m') (hs:VR φ s s') (hx:VR φ x x') (e:o_ h m s x=some h'):
 ∃w',(Instr.entryStore t m' s' x').run E.P w= .ok () w'∧OK E φ h' w'∧Fr φ h w φ h' w':=by
 unfold o_ at e
 split at e
 · rename_i i kd n
   cases hm with
   | @map _ l hφ=>
   cases hs with
   | int=>
   split at e
   · rename_i es clock hg
     split at e
     · rename_i j hj
       simp at e;subst e
       obtain ⟨Gq,gr,hb,gC⟩:=ok.live i _ l hg hφ
       have zk:(getObj l.dY).run E.P w= .ok (.map gr clock) w:=by simp [getObj,Sem.run,hb]
       have rU:∀o':Obj,(setObj l.dY o').run E.P w= .ok () {w with heap:=w.heap.setIfInBounds l.dY o'}:=fun o'=>by simp [setObj,Sem.run,hb]
       have oQ:gr.findIdx? (fun e=>(e.born:Int)==n)=some j:=by
        have:=MO gC (fun b=>b==n)
        rw[hj] at this
        cases gr;rw[List.findIdx?_toArray];exact this
       obtain ⟨my,nf⟩:=ok.JH (MN:=gr.modify j fun e=>{e with val:=x'}) (clock2:=clock) hg hφ Gq hb (by
        have:=JG hx gC j
        simpa using this)
       refine ⟨_,?_,my,nf⟩
       have e0:(Instr.entryStore t (.map (some l.dY)) (.int kd n) x').run E.P w=(setObj l.dY (.map (gr.modify j fun e=>{e with val:=x'}) clock)).run E.P w:=by
        have ha:(asInt (.int kd n)).run E.P w= .ok n w:=rfl
        simp only[Instr.entryStore,Sem.run_bind,Result.andThen_ok,zk,ha,Sem.run_pure,oQ]
       rw[e0];exact rU _
     · simp at e
   · simp at e
 · simp at e
theorem EI {s:ByteArray} {pos:Nat} {b:UInt8} (h:s.data.toList[pos]? =some b) (hb:b.toNat<128):Utf8.decode s pos=(b.toNat,1):=by
 have hl:pos<s.size:=(List.getElem?_eq_some_iff.1 h).1
 have Ve:s[pos]'hl=b:=by
  have:=(List.getElem?_eq_some_iff.1 h).2
  rw[←this];rfl
 rw[decode_ascii s pos hl (by rw[Ve];exact hb),Ve]
set_option linter.unusedSimpArgs false in
theorem MP {φ:Ph} {h h':ax} {w:World} (ok:OK E φ h w) {it v:AV} {b:Bool} (e:Dw h it b=some (v,h')) {it':Value} (hit:VR φ it it') (ty:TypeId):
 JB E φ h w ((Instr.next it' b ty).run E.P w) v h':=by
 unfold Dw at e
 split at e
 · rename_i r
   cases hit with
   | @ptr _ l _ hφ=>
   split at e
   · rename_i s pos hg
     have Ap:=ok.live r _ l hg hφ
     obtain ⟨Gq,s',hb,qO⟩:=Ap
     have zk:(getObj l.dY).run E.P w= .ok (.stringIter s' pos) w:=by simp [getObj,Sem.run,hb]
     have e1:s'.size=s.length:=by rw[←qO];cases s';rfl
     split at e
     · rename_i lr
       split at e
       · rename_i c hc
         split at e
         · rename_i abU
           simp at e;obtain ⟨rfl,rfl⟩:=e
           have rU:(setObj l.dY (.stringIter s' (pos+1))).run E.P w= .ok () {w with heap:=w.heap.setIfInBounds l.dY (.stringIter s' (pos+1))}:=by simp [setObj,Sem.run,hb]
           have abV:l.dY<w.heap.size:=by
            rcases Nat.lt_or_ge l.dY w.heap.size with a | a
            · exact a
            · rw[Array.getElem?_eq_none a] at hb;simp at hb
           obtain ⟨my,nf⟩:=ok.change (w':={w with heap:=w.heap.setIfInBounds l.dY (.stringIter s' (pos+1))}) (o':= .uX s (pos+1)) hg rfl hφ (by simp [abV];exact ⟨Gq,s',rfl,qO⟩) (fun c ea=>by simp [Array.getElem?_setIfInBounds,Ne.symm ea]) (by simp) rfl rfl rfl
           refine ⟨φ,_,.tuple #[.bool true,.int .i64 pos,.int .i32 c.toNat],?_,VR.tuple' (gN:=[.bool true,.int .i64 pos,.int .i32 c.toNat]) (.cons (.bool true) (.cons (.int _ _) (.cons (.int _ _) (.nil φ)))),my,nf⟩
           have abW:=EI (s:=s') (pos:=pos) (b:=c) (by rw[qO];exact hc) abU
           have h0:l.off+0=0:=by omega
           simp only[Instr.next,h0,Sem.run_bind,zk,Result.andThen_ok,e1,lr,if_true,abW,rU,Sem.run_pure,goInt]
         · simp at e
       · simp at e
     · rename_i lr
       simp at e;obtain ⟨rfl,rfl⟩:=e
       refine ⟨φ,w,.tuple #[.bool false],?_,VR.tuple' (gN:=[.bool false]) (.cons (.bool false) (.nil φ)),ok,Fr.refl φ h w⟩
       have h0:l.off+0=0:=by omega
       simp only[Instr.next,h0,Sem.run_bind,zk,Result.andThen_ok,e1,lr,if_false,Sem.run_pure]
   · rename_i s1 s2 s3 hg
     have Ap:=ok.live r _ l hg hφ
     obtain ⟨Gq,hb⟩:=Ap
     have zk:(getObj l.dY).run E.P w= .ok (.mapIter none s1 s2.toArray s3) w:=by simp [getObj,Sem.run,hb]
     simp at e;obtain ⟨rfl,rfl⟩:=e
     refine ⟨φ,w,.tuple #[.bool false],?_,VR.tuple' (gN:=[.bool false]) (.cons (.bool false) (.nil φ)),ok,Fr.refl φ h w⟩
     have h0:l.off+0=0:=by omega
     simp only[Instr.next,h0,Sem.run_bind,zk,Result.andThen_ok,Sem.run_pure]
   · simp at e
 · simp at e
end Go.Ab
end
section
namespace Go.Ab
variable {E:Env}
def DR (φ:Ph):ny→Deferred→Prop
 | .call f args,d'=>∃cap,d'.target= .fn (.func f) cap∧LR φ args (d'.args++cap).toList
 | .YN r,d'=>∃l,φ r=some l∧d'.target= .collected l.dY
def Vh (φ:Ph):List ny→List Deferred→Prop
 | [],[]=>True
 | d::ds,d'::yq=>DR φ d d'∧Vh φ ds yq
 | _,_=>False
theorem DR.mono {φ φ':Ph} (hle:φ.le φ') {d:ny} {d':Deferred} (h:DR φ d d'):DR φ' d d':=by
 cases d with
 | call f args=>obtain ⟨c,a,b⟩:=h;exact ⟨c,a,b.mono hle⟩
 | YN r=>obtain ⟨l,a,b⟩:=h;exact ⟨l,hle _ _ a,b⟩
theorem Vh.mono {φ φ':Ph} (hle:φ.le φ'):∀{ds:List ny} {yq:List Deferred} (_:Vh φ ds yq),Vh φ' ds yq
 | [],[],_=>trivial
 | _::_,_::_,h=>⟨h.1.mono hle,Vh.mono hle h.2⟩
structure SR (φ:Ph) (ts:List AV) (ds:List ny) (a:Act):Prop where
 ts:LR φ ts a.tmps.toList
 ds:Vh φ ds a.defers
theorem SR.mono {φ φ':Ph} (hle:φ.le φ') {ts:List AV} {ds:List ny} {a:Act} (h:SR φ ts ds a):SR φ' ts ds a:=⟨h.ts.mono hle,h.ds.mono hle⟩
def mP (φ:Ph) (b:Frame) (K:Bool→List Frame):RC→Prop
 | .no=>b.roundOf=none∧∀fr:Frame,fr.kind=b.kind→tryRecover fr (K false)=none
 | .iJ v=>b.roundOf=none∧(∃v',VR φ v v'∧∀fr:Frame,fr.kind=b.kind→tryRecover fr (K false)=some (v',K true))∧∀fr:Frame,fr.kind=b.kind→tryRecover fr (K true)=none
 | .done=>b.roundOf=none∧∀fr:Frame,fr.kind=b.kind→tryRecover fr (K true)=none
 | .Gp l=>∃ll,φ l=some ll∧b.roundOf=some ll.dY
def cur (K:Bool→List Frame):RC→List Frame
 | .done=>K true
 | _=>K false
def RC.nH:RC→Bool
 | .Gp _=>true
 | _=>false
theorem mP.mono {φ φ':Ph} (hle:φ.le φ') {b:Frame} {K:Bool→List Frame}:∀{rc:RC} (_:mP φ b K rc),mP φ' b K rc
 | .no,h=>h
 | .iJ _,h=>let ⟨n,⟨v',a,b⟩,c⟩:=h;⟨n,⟨v',a.mono hle,b⟩,c⟩
 | .done,h=>h
 | .Gp _,h=>let ⟨l,a,b⟩:=h;⟨l,hle _ _ a,b⟩
theorem mP.plain {φ:Ph} {b:Frame} {K:Bool→List Frame} {rc:RC} (h:mP φ b K rc) (hn:rc.nH=false):b.roundOf=none:=by
 cases rc with
 | no=>exact h.1
 | iJ v=>exact h.1
 | done=>exact h.1
 | Gp l=>simp [RC.nH] at hn
inductive WE (φ:Ph):jY→Exit→Prop
 | normal:WE φ .normal .normal
 | exit (id:Nat):WE φ (.exit id) (.exit id)
 | ret:WE φ .ret .ret
 | panic (v:AV) (v':Value) (h:VR φ v v'):WE φ (.panic v) (.panic [{v:=v',recovered:=false}])
def jZ (E:Env) (f:FuncId) (args:List AV) (h:ax) (v:AV) (h':ax):Prop:=
 ∀(φ:Ph) (w:World) (vs:List Value),OK E φ h w→LR φ args vs→(callFunc f vs.toArray).run E.P w= .ok (.enter f vs.toArray) w∧
  ∀cs,∃φ' w' v' fr,VR φ' v v'∧OK E φ' h' w'∧Fr φ h w φ' h' w'∧
   Steps E.P (lone (Frame.enter E.P f vs.toArray .normal) cs w) (lone fr cs w')∧fr.fn=f∧fr.leaving E.P w' (.returned v')
def Lj (E:Env) (f:FuncId) (args:List AV) (h:ax) (v:AV) (h':ax):Prop:=
 ∀(φ:Ph) (w:World) (vs:List Value),OK E φ h w→LR φ args vs→(callFunc f vs.toArray).run E.P w= .ok (.enter f vs.toArray) w∧
  ∀cs,∃φ' w' v' fr,VR φ' v v'∧OK E φ' h' w'∧Fr φ h w φ' h' w'∧
   Steps E.P (lone (Frame.enter E.P f vs.toArray .normal) cs w) (lone fr cs w')∧fr.fn=f∧fr.leaving E.P w' (.panicked [{v:=v',recovered:=false}])
inductive nI (E:Env) (φ:Ph) (w:World):Fn→List Value→Next→Frame→Prop
 | fn (f:FuncId) (vs:List Value) (hr:(callFunc f vs.toArray).run E.P w= .ok (.enter f vs.toArray) w):nI E φ w (.fn f) vs (.enter f vs.toArray) (Frame.enter E.P f vs.toArray .normal)
 | ze (l:Nat) (ll:Loc) (hl:φ l=some ll) (vs:List Value) (f:FuncId) (tmps:Array Value) (assign body:Code) (hr:(Instr.yield ll.dY vs.toArray).run E.P w= .ok (.round ll.dY f tmps assign body) w):
  nI E φ w (.ze l) vs (.round ll.dY f tmps assign body) (Frame.round ll.dY f tmps assign body .normal)
def OD (φ:Ph):Fn→Prop
 | .fn _=>True
 | .ze l=>∃ll,φ l=some ll
def JI (E:Env) (F:Fn) (args:List AV) (h:ax) (v:AV) (h':ax):Prop:=
 ∀(φ:Ph) (w:World) (vs:List Value),OK E φ h w→OD φ F→LR φ args vs→∃n start,nI E φ w F vs n start∧
  ∀c cs,∃φ' w' v',VR φ' v v'∧OK E φ' h' w'∧Fr φ h w φ' h' w'∧Steps E.P (lone start (c::cs) w) (lone (c.finish v') cs w')
def JJ (E:Env) (F:Fn) (args:List AV) (h:ax) (v:AV) (h':ax):Prop:=
 ∀(φ:Ph) (w:World) (vs:List Value),OK E φ h w→OD φ F→LR φ args vs→∃n start,nI E φ w F vs n start∧
  ∀c cs,∃φ' w' v',VR φ' v v'∧OK E φ' h' w'∧Fr φ h w φ' h' w'∧Steps E.P (lone start (c::cs) w) (lone (c.raise [{v:=v',recovered:=false}]) cs w')
theorem jZ.any {f:FuncId} {args:List AV} {h:ax} {v:AV} {h':ax} (r:jZ E f args h v h'):JI E (.fn f) args h v h':=fun φ w vs ok _ hl=>by
 obtain ⟨h1,h2⟩:=r φ w vs ok hl
 refine ⟨_,_,.fn f vs h1,fun c cs=>?_⟩
 obtain ⟨φ',w',v',fr,x1,x2,x3,x4,_,x5⟩:=h2 (c::cs)
 exact ⟨φ',w',v',x1,x2,x3,x4.trans (.one (step_leave_returned x5))⟩
theorem Lj.any {f:FuncId} {args:List AV} {h:ax} {v:AV} {h':ax} (r:Lj E f args h v h'):JJ E (.fn f) args h v h':=fun φ w vs ok _ hl=>by
 obtain ⟨h1,h2⟩:=r φ w vs ok hl
 refine ⟨_,_,.fn f vs h1,fun c cs=>?_⟩
 obtain ⟨φ',w',v',fr,x1,x2,x3,x4,_,x5⟩:=h2 (c::cs)
 exact ⟨φ',w',v',x1,x2,x3,x4.trans (.one (step_leave_panicked x5))⟩
structure hS (E:Env) (call:a_):Prop where
 ret:∀f args h v h',call f args h= .ret v h'→JI E f args h v h'
 panic:∀f args h v h',call f args h= .panic v h'→JJ E f args h v h'
structure kn (E:Env):Prop where
 ext:Vd E
 ir:∀f g,E.ir f=some g→∀args h v h',g args h=some (v,h')→jZ E f args h v h'
 names:∀(f:FuncId) (fn:Func),E.P.funcs[f]? =some fn→fn.name≠ "runtime.NumGoroutine"
 mixed:E.P.follows .mixedOrders=true
theorem OE {φ:Ph} {ts:List AV} {a:Act} (h:LR φ ts a.tmps.toList) (d:Option Tmp) {v:AV} {v':Value} (hv:VR φ v v'):LR φ (dB ts d v) (a.put d v').tmps.toList:=by
 cases d with
 | none=>exact h
 | some d=>simp only[dB,Act.put,Array.toList_setIfInBounds];exact h.set hv d
theorem put_defers (a:Act) (d:Option Tmp) (v:Value):(a.put d v).defers=a.defers:=by cases d<;>rfl
theorem SR.put {φ:Ph} {ts:List AV} {ds:List ny} {a:Act} (h:SR φ ts ds a) (d:Option Tmp) {v:AV} {v':Value} (hv:VR φ v v'):SR φ (dB ts d v) ds (a.put d v'):=
 ⟨OE h.ts d hv,by rw[put_defers];exact h.ds⟩
theorem vo {φ:Ph} {ops:Array Oper} {ts:List AV} {a:Act} (h:LR φ ts a.tmps.toList) (o:Oper):Region.wanted o (yielded ops a.tmps)=cm ops ts o:=by
 unfold Region.wanted cm
 cases o.guard with
 | none=>rfl
 | some g=>
   obtain ⟨j,want⟩:=g
   simp only[yielded]
   cases hd:(ops[j]?).bind (·.dst) with
   | none=>simp
   | some d=>
     simp only[Option.bind_some]
     cases hx:ts[d]? with
     | none=>
       have:a.tmps[d]? =none:=by
        have h1:=List.getElem?_eq_none_iff.1 hx
        rw[h.1] at h1
        have:=List.getElem?_eq_none_iff.2 h1
        simpa using this
       simp [this]
     | some x=>
       obtain ⟨y,hy,hv⟩:=h.get hx
       have OC:a.tmps[d]? =some y:=by simpa using hy
       rw[OC]
       cases hv with
       | any _ h=>cases y<;>first | (simp;done) | cases h
       | _=>simp
section
variable {b:Frame} {a:Act} {k:List Item} {cs:List Frame} {w:World} {ops:Array Oper} {i:Nat} {rest:List Nat} {o:Oper}
theorem ub (ho:ops[i]? =some o) (v:Value):(b.atR a (.inRegion ops (i::rest)::k)).finish v=b.atR (a.put o.dst v) (.inRegion ops rest::k):=by
 rw[Frame.finish_atR,ho];rfl
theorem mz {P:Program} (kz:o.semAt b.roundOf a.eval=execOp a.eval o) (ho:ops[i]? =some o) (hw:Region.wanted o (yielded ops a.tmps)=true) {v:Value} {w':World} (hr:(execOp a.eval o).run P w= .ok (.value v) w'):
 step P (lone (b.atR a (.inRegion ops (i::rest)::k)) cs w)= .next (lone (b.atR (a.put o.dst v) (.inRegion ops rest::k)) cs w'):=by
 rw[←ub ho]
 exact step_lone_go (by rw[stepGR_op (rest:=rest) ho hw,kz];simp [stepG.apply,hr])
theorem GW {P:Program} (kz:o.semAt b.roundOf a.eval=execOp a.eval o) (ho:ops[i]? =some o) (hw:Region.wanted o (yielded ops a.tmps)=true) {w':World} (hr:(execOp a.eval o).run P w= .ok .skip w'):
 step P (lone (b.atR a (.inRegion ops (i::rest)::k)) cs w)= .next (lone (b.atR (a.put o.dst undef) (.inRegion ops rest::k)) cs w'):=by
 rw[←ub ho]
 exact step_lone_go (by rw[stepGR_op (rest:=rest) ho hw,kz];simp [stepG.apply,hr])
theorem go_enter {φ:Ph} (kz:o.semAt b.roundOf a.eval=execOp a.eval o) (ho:ops[i]? =some o) (hw:Region.wanted o (yielded ops a.tmps)=true) {F:Fn} {vs:List Value} {n:Next} {start:Frame} (hp:nI E φ w F vs n start) (hr:(execOp a.eval o).run E.P w= .ok n w):
 step E.P (lone (b.atR a (.inRegion ops (i::rest)::k)) cs w)= .next (lone start (b.atR a (.inRegion ops (i::rest)::k)::cs) w):=by
 cases hp with
 | fn f vs _=>exact step_lone_go (by rw[stepGR_op (rest:=rest) ho hw,kz];simp [stepG.apply,hr,Frame.atR])
 | ze l ll hl vs f tmps assign body _=>exact step_lone_go (by rw[stepGR_op (rest:=rest) ho hw,kz];simp [stepG.apply,hr,Frame.atR])
theorem OF {P:Program} (kz:o.semAt b.roundOf a.eval=execOp a.eval o) (ho:ops[i]? =some o) (hw:Region.wanted o (yielded ops a.tmps)=true) {v:Value} {w':World} (hr:(execOp a.eval o).run P w= .halt (.panic v) w'):
 step P (lone (b.atR a (.inRegion ops (i::rest)::k)) cs w)= .next (lone {b.atR a (.inRegion ops (i::rest)::k) with mode:= .panicking [{v,recovered:=false}]} cs w'):=by
 rw[←Frame.raise_atR]
 exact step_lone_go (by rw[stepGR_op (rest:=rest) ho hw,kz];simp [stepG.apply,hr])
theorem MQ {P:Program} (kz:o.semAt b.roundOf a.eval=execOp a.eval o) (ho:ops[i]? =some o) (hw:Region.wanted o (yielded ops a.tmps)=true) {d:Deferred} {w':World} (hr:(execOp a.eval o).run P w= .ok (.defer d) w'):
 step P (lone (b.atR a (.inRegion ops (i::rest)::k)) cs w)= .next (lone (b.atR ({a with defers:=d::a.defers}.put o.dst undef) (.inRegion ops rest::k)) cs w'):=by
 have:({b.atR a (.inRegion ops (i::rest)::k) with defers:=d::a.defers}:Frame).finish undef=
  b.atR ({a with defers:=d::a.defers}.put o.dst undef) (.inRegion ops rest::k):=by
  have:=Frame.finish_atR b {a with defers:=d::a.defers} ops i rest k undef
  rw[ho] at this;exact this
 refine step_lone_go ?_
 rw[stepGR_op (rest:=rest) ho hw,kz]
 simp only[stepG.apply,Sem.runT_eq,hr,GStep.bare_after]
 exact congrArg (fun fr=>GStep.go {frame:=fr,callers:=cs,status:= .running,dying:=none} w') this
theorem JK {P:Program} (yr:b.roundOf=none) (kz:o.semAt b.roundOf a.eval=execOp a.eval o) (ho:ops[i]? =some o) (hw:Region.wanted o (yielded ops a.tmps)=true) {w':World} (hr:(execOp a.eval o).run P w= .ok .recover w') {v:Value} {gN:List Frame}
 (ht:tryRecover (b.atR a (.inRegion ops (i::rest)::k)) cs=some (v,gN)):
 step P (lone (b.atR a (.inRegion ops (i::rest)::k)) cs w)= .next (lone (b.atR (a.put o.dst v) (.inRegion ops rest::k)) gN w'):=by
 rw[←ub ho]
 refine step_lone_go ?_
 rw[stepGR_op (rest:=rest) ho hw,kz]
 have OG:(b.atR a (.inRegion ops (i::rest)::k)).roundOf=none:=yr
 simp only[stepG.apply,Sem.runT_eq,if_true,hr,GStep.bare_after,OG,ht,GStep.bare_go]
theorem va {P:Program} (yr:b.roundOf=none) (kz:o.semAt b.roundOf a.eval=execOp a.eval o) (ho:ops[i]? =some o) (hw:Region.wanted o (yielded ops a.tmps)=true) {w':World} (hr:(execOp a.eval o).run P w= .ok .recover w')
 (ht:tryRecover (b.atR a (.inRegion ops (i::rest)::k)) cs=none):
 step P (lone (b.atR a (.inRegion ops (i::rest)::k)) cs w)= .next (lone (b.atR (a.put o.dst .nilIface) (.inRegion ops rest::k)) cs w'):=by
 rw[←ub ho]
 refine step_lone_go ?_
 rw[stepGR_op (rest:=rest) ho hw,kz]
 have OG:(b.atR a (.inRegion ops (i::rest)::k)).roundOf=none:=yr
 simp only[stepG.apply,Sem.runT_eq,if_true,hr,GStep.bare_after,OG,ht,GStep.bare_go]
end
def Zz (P:Program) (m:Machine) (b:Frame) (ops:Array Oper) (rest:List Nat) (k:List Item) (cs:List Frame):Exit→Act→World→Prop
 | .normal,a,w=>Steps P m (lone (b.atR a (.inRegion ops rest::k)) cs w)
 | .panic chain,a,w=>∃todo,Steps P m (lone {b.atR a todo with mode:= .panicking chain} cs w)
 | _,_,_=>False
def Lk (φ:Ph):Fn→Target→List Value→List Value→Prop
 | .fn f,t,vs,all=>∃cap:List Value,t= .fn (.func f) cap.toArray∧all=vs++cap
 | .ze l,t,vs,all=>∃ll,φ l=some ll∧t= .fn (.yield ll.dY) #[]∧all=vs
theorem Lk.ZA {φ:Ph} {F:Fn} {t:Target} {vs all:List Value} (h:Lk φ F t vs all):OD φ F:=by
 cases F with
 | fn f=>trivial
 | ze l=>obtain ⟨ll,h,_⟩:=h;exact ⟨ll,h⟩
theorem AU {φ:Ph} (hg:GL E φ) {ts:List AV} {a:Act} (ht:LR φ ts a.tmps.toList) {c:Call} {f:Fn} {args:List AV} (h:callee E ts c=some (f,args)) (ty:TypeId):
 ∃(t:Target) (vs all:List Value),LR φ args all∧Lk φ f t vs all∧∀w,(resolve a.eval c ty).run E.P w= .ok {target:=t,args:=vs.toArray} w:=by
 unfold callee at h
 split at h
 · rename_i x hcx
   split at h
   · rename_i g first captured as_ hx has
     simp at h;obtain ⟨rfl,rfl⟩:=h
     have h1:=mN hg ht hx
     have h2:=hJ hg ht has
     generalize kR:a.eval x=cv at h1
     obtain ⟨S_,gN,rfl,hf,hc⟩:=h1.AE
     refine ⟨.fn (.func g) gN.toList.toArray,S_.toList++c.args.toList.map a.eval,_,?_,⟨gN.toList,rfl,rfl⟩,fun w=>?_⟩
     · rw[List.append_assoc]
       have:=(hf.append h2).append hc
       simpa [List.append_assoc] using this
     · simp [resolve,hcx,Deferred.ofValue,kR,map_toArray]
   · rename_i l as_ hx has
     simp at h;obtain ⟨rfl,rfl⟩:=h
     have h1:=mN hg ht hx
     have h2:=hJ hg ht has
     generalize kR:a.eval x=cv at h1
     cases h1 with
     | yield hl=>
       refine ⟨_,c.args.toList.map a.eval,_,h2,⟨_,hl,rfl,rfl⟩,fun w=>?_⟩
       simp [resolve,hcx,Deferred.ofValue,kR,map_toArray]
   · simp at h
 · simp at h
theorem Dc {φ:Ph} {w:World} {F:Fn} {t:Target} {vs all:List Value} (ht:Lk φ F t vs all) {n:Next} {start:Frame} (hp:nI E φ w F all n start):(invoke t vs.toArray).run E.P w= .ok n w:=by
 cases hp with
 | fn f qG hr=>
   obtain ⟨cap,rfl,rfl⟩:=ht
   simpa [invoke] using hr
 | ze l ll hl qG f tmps assign body hr=>
   obtain ⟨ll',SE,rfl,rfl⟩:=ht
   rw[hl] at SE;simp at SE;subst SE
   simpa [invoke] using hr
theorem qS {φ:Ph} {b:Frame} {K:Bool→List Frame} {rc:RC} (gu:mP φ b K rc) {o:Oper} (h:rc.nH=false∨∀c,o.op≠ .defer c) (ρ:Operand→Value):o.semAt b.roundOf ρ=execOp ρ o:=by
 rcases h with h | h
 · rw[gu.plain h];rfl
 · exact Oper.semAt_eq _ _ _ h
end Go.Ab
end
section
namespace Go.Ab
variable {E:Env}
theorem AW {rc:RC} (h:∀l,rc= .Gp l→False):rc.nH=false:=by
 cases rc<;>first | rfl | exact (h _ rfl).elim
theorem OK.gl {φ:Ph} {h:ax} {w:World} (ok:OK E φ h w):GL E φ:=ok.uG
inductive sq (E:Env) (call:a_) (φ:Ph) (ts:List AV) (h:ax) (rc:RC) (o:Oper) (a:Act) (w:World):yh→Prop
 | val (v:AV) (h':ax) (φ':Ph) (w':World) (v':Value) (hv:VR φ' v v') (ok:OK E φ' h' w') (fr:Fr φ h w φ' h' w')
  (run:(execOp a.eval o).run E.P w= .ok (.value v') w'):sq E call φ ts h rc o a w (.val v h')
 | skip (h':ax) (φ':Ph) (w':World) (ok:OK E φ' h' w') (fr:Fr φ h w φ' h' w')
  (run:(execOp a.eval o).run E.P w= .ok .skip w'):sq E call φ ts h rc o a w (.val AV.undef h')
 | enter (v:AV) (h':ax) (F:Fn) (args:List AV) (all:List Value) (hr:JI E F args h v h') (hf:OD φ F) (hl:LR φ args all)
  (run:∀n start,nI E φ w F all n start→(execOp a.eval o).run E.P w= .ok n w):sq E call φ ts h rc o a w (.val v h')
 | S' (v:AV) (h':ax) (F:Fn) (args:List AV) (all:List Value) (hr:JJ E F args h v h') (hf:OD φ F) (hl:LR φ args all)
  (run:∀n start,nI E φ w F all n start→(execOp a.eval o).run E.P w= .ok n w):sq E call φ ts h rc o a w (.panic v h')
 | defer (d:ny) (d':Deferred) (C5:rc.nH=false) (hd:DR φ d d') (run:(execOp a.eval o).run E.P w= .ok (.defer d') w):sq E call φ ts h rc o a w (.defer d)
 | panic (v:AV) (v':Value) (hv:VR φ v v') (run:(execOp a.eval o).run E.P w= .halt (.panic v') w):sq E call φ ts h rc o a w (.panic v h)
 | rK (v:AV) (gu:rc= .iJ v) (run:(execOp a.eval o).run E.P w= .ok .recover w):sq E call φ ts h rc o a w (.rK v)
 | OH (gu:∀v,rc≠ .iJ v) (C5:rc.nH=false) (run:(execOp a.eval o).run E.P w= .ok .recover w):sq E call φ ts h rc o a w (.val .nilIface h)
 | fail (why:String) (q:Option Oper):sq E call φ ts h rc o a w (.fail why q)
theorem GX {t:TypeId} {name:String} {f:FuncId} (h:wc E t name=some f) (v:Value) (w:World):(method (E.P.types.size+Made.depth) t v name).run E.P w= .ok (f,v) w:=by
 unfold wc at h
 split at h
 · rename_i i hi
   split at h
   · rename_i m hm
     split at h
     · rename_i hp
       split at h
       · simp at h
       · rename_i g d ea hf hu
         simp at h;subst h
         have MH:m.path.toList=[]:=by simpa using hp
         have e:E.P.types.size+Made.depth=(E.P.types.size+99)+1:=rfl
         rw[e,method]
         have hti:(typeInfo t).run E.P w= .ok i w:=by simp [typeInfo,hi]
         simp only[Sem.run_bind,hti,Result.andThen_ok,hm,MH,follow,Sem.run_pure,hf,receiverAt,run_underlying hu]
         cases d with
         | pointer x=>exact absurd rfl (ea x)
         | _=>simp [Place.get]
       · simp at h
     · simp at h
   · simp at h
 · simp at h
theorem sr {call:a_} {φ:Ph} {ts:List AV} {h:ax} {rc:RC} {o:Oper} {a:Act} {w:World} {s:Sem Value} {v:AV} {h':ax} (hd:JB E φ h w (s.run E.P w) v h')
 (he:execOp a.eval o=(do pure (.value (←s)):Sem Next)):sq E call φ ts h rc o a w (.val v h'):=by
 obtain ⟨φ',w',v',hr,hv,ok,fr⟩:=hd
 exact .val v h' φ' w' v' hv ok fr (by rw[he];exact fi hr)
set_option maxHeartbeats 1000000 in
theorem vp (hE:kn E) {call:a_} (cN:hS E call) {φ:Ph} {ts:List AV} {h:ax} {rc:RC} {o:Oper} {a:Act} {w:World} (ht:LR φ ts a.tmps.toList) (ok:OK E φ h w):
 sq E call φ ts h rc o a w (cZ E call ts h rc o):=by
 have ev:∀{x:Operand} {v:AV},dA E ts x=some v→VR φ v (a.eval x):=fun h=>mN ok.gl ht h
 obtain ⟨dst,op,ty,pos,after,guard⟩:=o
 unfold cZ
 simp only
 split
 ·
  split
  · rename_i ha hx
    split
    · rename_i h' il
      obtain ⟨w',hr,my,nf⟩:=JC ok (ev ha) (ev hx) il
      exact .skip h' φ w' my nf (by simp [execOp,hr])
    · exact .fail _ _
  · exact .fail _ _
 ·
  split
  · rename_i hm hk hx
    split
    · rename_i h' il
      obtain ⟨w',hr,my,nf⟩:=so ok (ev hm) (ev hk) (ev hx) il
      exact .skip h' φ w' my nf (by simp [execOp,hr])
    · exact .fail _ _
  · exact .fail _ _
 ·
  split
  · rename_i hm hk hx
    split
    · rename_i h' il
      obtain ⟨w',hr,my,nf⟩:=so ok (ev hm) (ev hk) (ev hx) il
      exact .skip h' φ w' my nf (by simp [execOp,hr])
    · exact .fail _ _
  · exact .fail _ _
 ·
  split
  · rename_i hm hk
    split
    · rename_i v h' hc
      exact sr (Db ok (ev hm) (ev hk) hc) rfl
    · exact .fail _ _
  · exact .fail _ _
 ·
  rename_i tt mm bb xx
  split
  · rename_i hm hk hx
    split
    · rename_i h' il
      obtain ⟨w',hr,my,nf⟩:=z7 (t:=tt) ok (ev hm) (ev hk) (ev hx) il
      exact .skip h' φ w' my nf (by simp [execOp,hr])
    · exact .fail _ _
  · exact .fail _ _
 ·
  rename_i src dst x
  split
  · rename_i v h' hc
    cases hx:dA E ts x with
    | none=>rw[hx] at hc;simp [Dx] at hc
    | some xv=>
      rw[hx] at hc
      exact sr (ML ok hc (ev hx)) rfl
  · exact .fail _ _
 ·
  split
  · rename_i hi
    split
    · rename_i hn
      exact sr (MP ok hn (ev hi) ty) rfl
    · exact .fail _ _
  · exact .fail _ _
 ·
  split
  · rename_i hx
    have h1:=ev hx
    generalize kR:a.eval _=cv at h1
    cases h1 with
    | iface t1 v1 v' hv=>
    exact .panic _ _ (.iface _ _ v' hv) (by simp [execOp,kR,Instr.panic])
  · exact .fail _ _
 ·
  split
  · exact .fail _ _
  · rename_i f args C5 hc
    obtain ⟨t,vs,all,hl,⟨cap,rfl,rfl⟩,hr⟩:=AU ok.gl ht hc ty
    exact .defer _ {target:= .fn (.func f) cap.toArray,args:=vs.toArray} (AW C5) ⟨cap.toArray,rfl,by simpa using hl⟩ (by simp [execOp,hr])
  · exact .fail _ _
 ·
  rename_i c
  split
  ·
   rename_i Dd
   split
   · rename_i s x has
     have hl:=hJ ok.gl ht has
     obtain ⟨s',r1,ZB,hs,hl1⟩:=hl.b4
     obtain ⟨x',r2,hr2,hx,Vi⟩:=hl1.b4
     have h0:c.args.map a.eval= #[s',x']:=by rw[map_toArray,ZB,hr2,Vi.gH]
     split
     · rename_i hap
       exact sr (GQ ok hap hs hx ty) (by simp [execOp,resolve,Dd,invoke,builtin,h0])
     · exact .fail _ _
   · exact .fail _ _
  ·
   rename_i Dd
   split
   · rename_i s x has
     have hl:=hJ ok.gl ht has
     obtain ⟨s',r1,ZB,hs,hl1⟩:=hl.b4
     obtain ⟨x',r2,hr2,hx,Vi⟩:=hl1.b4
     have h0:c.args.map a.eval= #[s',x']:=by rw[map_toArray,ZB,hr2,Vi.gH]
     split
     · rename_i hap
       exact sr (MK ok hap hs hx ty) (by simp [execOp,resolve,Dd,invoke,builtin,h0])
     · exact .fail _ _
   · exact .fail _ _
  ·
   rename_i Dd
   have gB:(execOp a.eval ⟨dst,.call c,ty,pos,after,guard⟩).run E.P w= .ok .recover w:=by simp [execOp,resolve,Dd,invoke,builtin]
   split
   · exact .rK _ rfl gB
   · exact .fail _ _
   · rename_i ea C5
     exact .OH (fun v e=>ea v e) (AW C5) gB
  ·
   rename_i fo Dd
   split
   · rename_i F args hc
     obtain ⟨t,vs,all,hl,htg,hr⟩:=AU ok.gl ht hc ty
     have gB:∀n start,nI E φ w F all n start→(execOp a.eval ⟨dst,.call c,ty,pos,after,guard⟩).run E.P w= .ok n w:=fun n start hp=>by
      have:=Dc htg hp
      simp [execOp,hr,this]
     split
     · rename_i g hg
       split
       · rename_i v h' hgv
         cases F with
         | fn f=>exact .enter v h' (.fn f) args all (hE.ir f g hg args h v h' hgv).any trivial hl gB
         | ze l=>simp [jH] at hg
       · exact .fail _ _
     · split
       · rename_i v h' kR
         exact .enter v h' F args all (cN.ret F args h v h' kR) htg.ZA hl gB
       · rename_i v h' kR
         exact .S' v h' F args all (cN.panic F args h v h' kR) htg.ZA hl gB
       · exact .fail _ _
   · exact .fail _ _
  ·
   rename_i r name Dd
   split
   · rename_i t x args hx has
     split
     · rename_i f hm
       have h1:=ev hx
       generalize kR:a.eval r=cv at h1
       cases h1 with
       | iface t1 v1 v' hv=>
       have hl:LR φ (x::args) (v'::c.args.toList.map a.eval):= .cons hv (hJ ok.gl ht has)
       have gB:∀n start,nI E φ w (.fn f) (v'::c.args.toList.map a.eval) n start→(execOp a.eval ⟨dst,.call c,ty,pos,after,guard⟩).run E.P w= .ok n w:=fun n start hp=>by
        cases hp with
        | fn f qG hr=>
        have e1:(#[v']++(c.args.map a.eval))=(v'::c.args.toList.map a.eval).toArray:=by rw[map_toArray];simp
        have e2:(#[Value.iface t v']++c.args.map a.eval).extract 1 (#[Value.iface t v']++c.args.map a.eval).size=c.args.map a.eval:=by
         apply Array.ext';simp
         exact List.take_of_length_le (by simp)
        have e3:(#[Value.iface t v']++c.args.map a.eval)[0]? =some (Value.iface t v'):=by rw[Array.getElem?_append];rfl
        simp only[execOp,resolve,Dd,kR,Sem.run_bind,Sem.run_pure,Result.andThen_ok,invoke,e3,e2,callMethod,run_program,GX hm,e1,hr]
       split
       · rename_i v h' WG
         exact .enter v h' (.fn f) _ _ (cN.ret (.fn f) _ h v h' WG) trivial hl gB
       · rename_i v h' WG
         exact .S' v h' (.fn f) _ _ (cN.panic (.fn f) _ h v h' WG) trivial hl gB
       · exact .fail _ _
     · exact .fail _ _
   · exact .fail _ _
  · exact .fail _ _
 · exact .fail _ _
structure ZC (E:Env) (φ:Ph) (h:ax) (w:World) (b:Frame) (K:Bool→List Frame) (ops:Array Oper) (rest:List Nat) (k:List Item) (m:Machine) (e:jY) (s':St):Prop where
 is:∃φ' w' a' e',WE φ' e e'∧SR φ' s'.ts s'.ds a'∧OK E φ' s'.h w'∧Fr φ h w φ' s'.h w'∧mP φ' b K s'.rc∧Zz E.P m b ops rest k (cur K s'.rc) e' a' w'
set_option maxHeartbeats 1000000 in
theorem DF (hE:kn E) {call:a_} (cN:hS E call) {ops:Array Oper} {i:Nat} {rest:List Nat} {o:Oper} (ho:ops[i]? =some o) {s s':St} {e:jY} (p6:En E call s o= .ok e s')
 {φ:Ph} {a:Act} {w:World} {b:Frame} {k:List Item} {K:Bool→List Frame} (hs:SR φ s.ts s.ds a) (ok:OK E φ s.h w) (gu:mP φ b K s.rc) (hw:Region.wanted o (yielded ops a.tmps)=true):
 ZC E φ s.h w b K ops rest k (lone (b.atR a (.inRegion ops (i::rest)::k)) (cur K s.rc) w) e s':=by
 have kz:(s.rc.nH=false∨∀c,o.op≠ .defer c)→o.semAt b.roundOf a.eval=execOp a.eval o:=fun h=>qS gu h _
 unfold En at p6
 split at p6
 · rename_i v hp
   have oS:s.rc.nH=false∨∀c,o.op≠ .defer c:= .inr (fun c e=>by rw[e] at hp;simp [bp] at hp)
   simp at p6;obtain ⟨rfl,rfl⟩:=p6
   obtain ⟨v',hv,hr⟩:=zi hE.ext ok.gl hs.ts hp
   exact ⟨φ,w,_,_,.normal,hs.put o.dst hv,ok,Fr.refl _ _ _,gu,.one (mz (kz oS) ho hw (hr w))⟩
 · split at p6
   · rename_i v hp
     have oS:s.rc.nH=false∨∀c,o.op≠ .defer c:= .inr (fun c e=>by rw[e] at hp;simp [dE] at hp)
     simp at p6;obtain ⟨rfl,rfl⟩:=p6
     obtain ⟨v',hv,hr⟩:=zm ok.gl ok hs.ts hp
     exact ⟨φ,w,_,_,.normal,hs.put o.dst hv,ok,Fr.refl _ _ _,gu,.one (mz (kz oS) ho hw (hr w rfl))⟩
   · split at p6
     · rename_i obj mk hp
       have oS:s.rc.nH=false∨∀c,o.op≠ .defer c:= .inr (fun c e=>by rw[e] at hp;simp [dZ] at hp)
       split at p6
       · rename_i h' hn
         simp at p6;obtain ⟨rfl,rfl⟩:=p6
         obtain ⟨O,mk',GY,hr⟩:=wm ok.gl hs.ts hp
         obtain ⟨my,nf,hle⟩:=ok.fresh (w':=w.alloc O) hn ⟨w.heap.size,0,0⟩ (by
          have:=GY.obj (φ.add s.h.nx ⟨w.heap.size,0,0⟩) w.heap.size (fun i m hm=>by
           unfold Ph.add;split
           · rename_i e;subst e;exact absurd (ok.zf _ _ hm) (Nat.lt_irrefl _)
           · exact hm)
          rw[show (w.alloc O).heap=w.heap.push O from rfl]
          simpa using this)
          (fun c ea hc=>by rw[show (w.alloc O).heap=w.heap.push O from rfl,Array.getElem?_push,if_neg (by simpa using ea)]) (by simp) (Nat.le_refl _) rfl rfl rfl
         have hv:=GY.val (φ.add s.h.nx ⟨w.heap.size,0,0⟩) s.h.nx w.heap.size hle (by simp [Ph.add])
         exact ⟨_,_,_,_,.normal,(hs.mono hle).put o.dst hv,my,nf,gu.mono hle,.one (mz (kz oS) ho hw (hr w))⟩
       · simp at p6
     · have ss:=vp hE cN (rc:=s.rc) (o:=o) hs.ts ok
       have oS:(∃d,cZ E call s.ts s.h s.rc o= .defer d)∨(∃why q,cZ E call s.ts s.h s.rc o= .fail why q)∨(s.rc.nH=false∨∀c,o.op≠ .defer c):=by
        by_cases hd:∃c,o.op= .defer c
        · obtain ⟨c,hd⟩:=hd
          unfold cZ
          simp only[hd]
          split
          · exact .inr (.inl ⟨_,_,rfl⟩)
          · exact .inl ⟨_,rfl⟩
          · exact .inr (.inl ⟨_,_,rfl⟩)
        · exact .inr (.inr (.inr (fun c e=>hd ⟨c,e⟩)))
       generalize cZ E call s.ts s.h s.rc o=eo at p6 ss oS
       cases ss with
       | val v h' φ' w' v' hv r6 fr run=>
         have oS:=(oS.resolve_left (by simp)).resolve_left (by simp)
         simp at p6;obtain ⟨rfl,rfl⟩:=p6
         exact ⟨φ',w',_,_,.normal,(hs.mono fr.ext).put o.dst hv,r6,fr,gu.mono fr.ext,.one (mz (kz oS) ho hw run)⟩
       | skip h' φ' w' r6 fr run=>
         have oS:=(oS.resolve_left (by simp)).resolve_left (by simp)
         simp at p6;obtain ⟨rfl,rfl⟩:=p6
         exact ⟨φ',w',_,_,.normal,(hs.mono fr.ext).put o.dst (VR.undef φ'),r6,fr,gu.mono fr.ext,.one (GW (kz oS) ho hw run)⟩
       | enter v h' F args all hr hf hl run=>
         have oS:=(oS.resolve_left (by simp)).resolve_left (by simp)
         simp at p6;obtain ⟨rfl,rfl⟩:=p6
         obtain ⟨n,start,hp,il⟩:=hr φ w all ok hf hl
         obtain ⟨φ',w',v',hv,r6,fr,iR⟩:=il (b.atR a (.inRegion ops (i::rest)::k)) (cur K s.rc)
         rw[ub ho] at iR
         exact ⟨φ',w',_,_,.normal,(hs.mono fr.ext).put o.dst hv,r6,fr,gu.mono fr.ext,.head (go_enter (kz oS) ho hw hp (run n start hp)) iR⟩
       | S' v h' F args all hr hf hl run=>
         have oS:=(oS.resolve_left (by simp)).resolve_left (by simp)
         simp at p6;obtain ⟨rfl,rfl⟩:=p6
         obtain ⟨n,start,hp,il⟩:=hr φ w all ok hf hl
         obtain ⟨φ',w',v',hv,r6,fr,iR⟩:=il (b.atR a (.inRegion ops (i::rest)::k)) (cur K s.rc)
         rw[Frame.raise_atR] at iR
         exact ⟨φ',w',a,_,.panic v v' hv,hs.mono fr.ext,r6,fr,gu.mono fr.ext,.inRegion ops (i::rest)::k,.head (go_enter (kz oS) ho hw hp (run n start hp)) iR⟩
       | defer d d' C5 hd run=>
         simp at p6;obtain ⟨rfl,rfl⟩:=p6
         have h1:SR φ s.ts (d::s.ds) {a with defers:=d'::a.defers}:=⟨hs.ts,hd,hs.ds⟩
         exact ⟨φ,w,_,_,.normal,h1.put o.dst (VR.undef φ),ok,Fr.refl _ _ _,gu,.one (MQ (qS gu (.inl C5) _) ho hw run)⟩
       | panic v v' hv run=>
         have oS:=(oS.resolve_left (by simp)).resolve_left (by simp)
         simp at p6;obtain ⟨rfl,rfl⟩:=p6
         exact ⟨φ,w,a,_,.panic v v' hv,hs,ok,Fr.refl _ _ _,gu,_,.one (OF (kz oS) ho hw run)⟩
       | rK v abX run=>
         simp at p6;obtain ⟨rfl,rfl⟩:=p6
         rw[abX] at gu ⊢
         have OI:=gu.plain rfl
         have ZD:=qS gu (o:=o) (.inl rfl) a.eval
         obtain ⟨_,⟨v',hv,htr⟩,ZE⟩:=gu
         exact ⟨φ,w,_,_,.normal,hs.put o.dst hv,ok,Fr.refl _ _ _,⟨OI,ZE⟩,.one (JK OI ZD ho hw run (htr _ rfl))⟩
       | OH ea C5 run=>
         simp at p6;obtain ⟨rfl,rfl⟩:=p6
         have Ep:∀fr:Frame,fr.kind=b.kind→tryRecover fr (cur K s.rc)=none:=by
          cases EJ:s.rc with
          | no=>rw[EJ] at gu;exact gu.2
          | iJ v=>exact absurd EJ (ea v)
          | done=>rw[EJ] at gu;exact gu.2
          | Gp l=>rw[EJ] at C5;simp [RC.nH] at C5
         exact ⟨φ,w,_,_,.normal,hs.put o.dst .nilIface,ok,Fr.refl _ _ _,gu,.one (va (gu.plain C5) (qS gu (.inl C5) _) ho hw run (Ep _ rfl))⟩
       | fail why q=>simp at p6
end Go.Ab
end
