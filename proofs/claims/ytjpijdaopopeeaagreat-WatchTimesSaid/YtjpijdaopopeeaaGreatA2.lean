import Derived.Laws.BitsLemmas
import Derived.Laws.RangeString
import Derived.Defers
import Derived.AtR
import Derived.RangeFuncNested
import Derived.Test.YtjpijdaopopeeaaGreatA1
set_option linter.unusedVariables false
set_option linter.unusedSimpArgs false
section
namespace Go.Ab
variable {E:Env}
def Done (E:Env) (φ:Ph) (h:Heap) (w:World) (r:Result Value) (v:AV) (h':Heap):Prop:=
 ∃φ' w' v',r= .ok v' w'∧VR φ' v v'∧OK E φ' h' w'∧Fr φ h w φ' h' w'
theorem all_scalar {φ:Ph} {vs:List AV} {vs':List Value} (h:LR φ vs vs') (hs:vs.all AV.scalar=true):∀v∈vs',v.oneCell'=true:=by
 intro v hv
 obtain ⟨i,hi⟩:=List.getElem?_of_mem hv
 have hil:i<vs.length:=by rw[h.1];exact (List.getElem?_eq_some_iff.1 hi).1
 have:=h.2 i vs[i] v (by simp [hil]) hi
 exact this.scalar (List.all_eq_true.1 hs _ (List.getElem_mem hil))
theorem write_run {φ:Ph} {h:Heap} {w:World} (ok:OK E φ h w) {i:Nat} {cs:List AV} {e:TypeId} (hg:h.get i=some (.cells cs e false)) {l:Loc} (hφ:φ i=some l)
 {vs:List AV} {vs':List Value} (hl:LR φ vs vs') (o:Nat) (hle:o+vs.length≤cs.length) (hsc:vs.all AV.scalar=true):
 ∃w',(storeCells ⟨l.blk,l.off+o,none⟩ vs').run E.P w= .ok () w'∧OK E φ (h.put i (some (.cells (setFrom cs o vs) e false))) w'∧
  Fr φ h w φ (h.put i (some (.cells (setFrom cs o vs) e false))) w':=by
 obtain ⟨C,e',lo,hi,hb,hc⟩:=ok.cells hg hφ
 have hsz:=hc.size
 have hlen:=hl.1
 have hrun:=run_store_row (P:=E.P) hb (l.off+o) vs' (by omega) (fun k h1 h2=>hc.free rfl k (by omega) (by omega)) (all_scalar hl hsc)
 refine ⟨_,hrun,?_⟩
 obtain ⟨h1,h2,h3⟩:=os_setCells vs' w l.blk (l.off+o)
 refine ok.change hg rfl hφ ?_ (fun c hne=>heap_setCells_other vs' (Ne.symm hne) _) (size_setCells _ _ _ _) h1 h2 h3
 refine ⟨setArr C (l.off+o) vs',e',lo,hi,heap_setCells vs' hb _,?_,fun k x hk=>?_,fun _ k a b=>hc.free rfl k a (by rw[setFrom_length] at b;exact b),fun h=>by cases h⟩
 · rw[setFrom_length,setArr_size];exact hsz
 · rw[setFrom_get] at hk
   rw[setArr_get]
   split at hk
   · rename_i hin
     rw[if_pos (by omega)]
     obtain ⟨y,hy,hr⟩:=hl.get hk
     exact ⟨y,by rw[show l.off+k -(l.off+o)=k - o by omega];exact hy,hr⟩
   · rename_i hin
     have hkl:k<cs.length:=(List.getElem?_eq_some_iff.1 hk).1
     rw[if_neg (by omega)]
     exact hc.val k x hk
theorem storeA_run {φ:Ph} {h h':Heap} {w:World} (ok:OK E φ h w) {t:TypeId} {av xv:AV} {a' x':Value} (ha:VR φ av a') (hx:VR φ xv x') (e:storeA E h t av xv=some h'):
 ∃w',(Instr.storeAt t a' x').run E.P w= .ok () w'∧OK E φ h' w'∧Fr φ h w φ h' w':=by
 unfold storeA at e
 split at e
 · rename_i i o
   cases ha with
   | @ptr _ l _ hφ=>
   split at e
   · rename_i cs el n hg hn
     split at e
     · rename_i hc
       simp at e;subst e
       obtain ⟨w',hrun,hok,hfr⟩:=write_run ok hg hφ hx.cells o (by omega) hc.2.2
       refine ⟨w',?_,hok,hfr⟩
       have hs:x'.cells.size=n:=by have:=hx.cells.1;simp at this;omega
       simp only[Instr.storeAt,Instr.sureAddr,Sem.run_bind,Sem.run_pure,Result.andThen_ok,storeVar,run_size hn,hs,ne_eq,not_true_eq_false,if_false,hrun]
     · simp at e
   · simp at e
 · simp at e
theorem firstA_run {φ:Ph} {h:Heap} {w:World} (ok:OK E φ h w) {size n:Nat} {x:AV} {x':Value} (hx:VR φ x x') {new:List AV} (e:firstA h size n x=some new) (hn:lenA x=some n∨True):
 ∃new':List Value,LR φ new new'∧∀w',w'.heap=w.heap→(Builtin.firstCells size n x').run E.P w'= .ok new'.toArray w':=by
 unfold firstA at e
 split at e
 · split at e
   · rename_i h0
     simp at e;subst e
     cases hx
     exact ⟨[],LR.nil φ,fun w' _=>by simp [Builtin.firstCells]⟩
   · simp at e
 · split at e
   · rename_i h0
     simp at e;subst e
     cases hx
     exact ⟨[],LR.nil φ,fun w' _=>by subst h0;simp only[Builtin.firstCells,Nat.zero_mul];rfl⟩
   · simp at e
 · rename_i i o len _ _
   split at e
   · split at e
     · rename_i h0
       simp at e;subst e
       cases hx
       exact ⟨[],LR.nil φ,fun w' _=>by subst h0;simp only[Builtin.firstCells,Nat.zero_mul];rfl⟩
     · split at e
       · rename_i cs el ro hg
         split at e
         · rename_i hle
           simp at e;subst e
           cases hx with
           | @slice _ l _ _ _ _ hφ=>
           obtain ⟨C,e',lo,hi,hb,hc⟩:=ok.cells hg hφ
           obtain ⟨vs,hvl,hvv,hlr⟩:=hc.range o (n*size) hle
           refine ⟨vs,hlr,fun w' hw=>?_⟩
           rw[←hw] at hb
           have hrow:=run_load_row (P:=E.P) hb (l.off+o) vs hvv
           rw[hvl] at hrow
           simp only[Builtin.firstCells,hrow]
         · simp at e
       · simp at e
   · simp at e
 · rename_i s
   split at e
   · rename_i hs1
     simp at e;subst e
     generalize hss:AV.str s=s0 at hx
     cases hx<;>cases hss
     rename_i s'
     refine ⟨(s'.data.toList.take n).map (fun b=>Value.int .u8 b.toNat),⟨by simp,fun i p q hp hq=>?_⟩,fun w' _=>?_⟩
     · rw[←List.map_take,List.getElem?_map] at hp
       rw[List.getElem?_map] at hq
       cases hb:(s'.data.toList.take n)[i]? with
       | none=>rw[hb] at hp;simp at hp
       | some b=>
         rw[hb] at hp hq
         simp at hp hq
         subst hp;subst hq
         exact .int _ _
     · simp only[Builtin.firstCells,Sem.run_pure]
       congr 1
       apply Array.ext'
       simp
   · simp at e
 · simp at e
end Go.Ab
namespace Go.Ab
variable {E:Env}
theorem OK.reuse {φ:Ph} {h h':Heap} {w w':World} (ok:OK E φ h w) {i:Nat} {o o':AObj} {l l':Loc} (hg:h.get i=some o) (hrw:o.rw=true) (hl:φ i=some l) (hb:l'.blk=l.blk)
 (hn:(h.put i none).new o'=some h') (ho:OR E (φ.add h.nx l') o' l' w'.heap[l.blk]?) (hother:∀c,c≠l.blk→w'.heap[c]? =w.heap[c]?) (hsize:w'.heap.size=w.heap.size)
 (hos:w'.os=w.os) (htape:w'.tape=w.tape) (hout:w'.output=w.output):
 OK E (φ.add h.nx l') h' w'∧Fr φ h w (φ.add h.nx l') h' w':=by
 obtain ⟨hlt,hnx,hnew,hold⟩:=Heap.new_some hn
 have hpn:(h.put i none).nx=h.nx:=rfl
 rw[hpn] at hnx hnew hold
 have hno:φ h.nx=none:=by
  cases e:φ h.nx with
  | none=>rfl
  | some m=>exact absurd (ok.dom _ _ e) (Nat.lt_irrefl _)
 have hle:φ.le (φ.add h.nx l'):=fun j m hm=>by
  unfold Ph.add;split
  · rename_i e;subst e;rw[hno] at hm;simp at hm
  · exact hm
 have hget:∀j p,h'.get j=some p→(j=h.nx∧p=o')∨(j≠h.nx∧j≠i∧h.get j=some p):=fun j p hj=>by
  by_cases e:j=h.nx
  · subst e;rw[hnew] at hj;simp at hj;exact .inl ⟨rfl,hj.symm⟩
  · rw[hold j e] at hj
    by_cases e':i=j
    · subst e';rw[Heap.get_put_same] at hj;simp at hj
    · rw[Heap.get_put_other e'] at hj;exact .inr ⟨e,Ne.symm e',hj⟩
 have hadd:∀j,j≠h.nx→(φ.add h.nx l') j=φ j:=fun j hj=>by simp [Ph.add,hj]
 have hself:(φ.add h.nx l') h.nx=some l':=by simp [Ph.add]
 refine ⟨⟨fun j m hm=>?_,?_,fun g hg=>hle _ _ (ok.glob g hg),fun j p m hj hm=>?_,fun j k p q m n hj hk hm hn'' hw hbb=>?_⟩,
  ⟨hle,fun j hj=>hadd j (by omega),by omega,hos,htape,hout,Nat.le_of_eq hsize.symm,fun b _ hn'=>hother b (fun e=>hn' i o l hg hrw hl e.symm),fun j p m hj hr hm=>?_⟩⟩
 · rw[hnx]
   by_cases e:j=h.nx
   · omega
   · rw[hadd j e] at hm;have:=ok.dom j m hm;omega
 · have:=ok.nx;omega
 · rcases hget j p hj with ⟨rfl,rfl⟩ | ⟨hne,hne',hj'⟩
   · rw[hself] at hm;simp at hm;subst hm;exact hb▸ho
   · rw[hadd j hne] at hm
     rw[hother _ (fun e=>hne' (ok.inj j i p o m l hj' hg hm hl (.inr hrw) e))]
     exact (ok.live j p m hj' hm).mono hle
 · rcases hget j p hj with ⟨rfl,rfl⟩ | ⟨hne,hni,hj'⟩<;>rcases hget k q hk with ⟨rfl,rfl⟩ | ⟨hne',hni',hk'⟩
   · rfl
   · rw[hself] at hm;simp at hm;subst hm
     rw[hadd k hne'] at hn''
     exact absurd (ok.inj k i q o n l hk' hg hn'' hl (.inr hrw) (hbb.symm.trans hb)) hni'
   · rw[hself] at hn'';simp at hn'';subst hn''
     rw[hadd j hne] at hm
     exact absurd (ok.inj j i p o m l hj' hg hm hl (.inr hrw) (hbb.trans hb)) hni
   · rw[hadd j hne] at hm;rw[hadd k hne'] at hn'';exact ok.inj _ _ _ _ _ _ hj' hk' hm hn'' hw hbb
 · rcases hget j p hj with ⟨rfl,rfl⟩ | ⟨hne,hni,hj'⟩
   · rw[hself] at hm;simp at hm;subst hm;exact .inr ⟨i,o,l,hg,hrw,hl,hb.symm⟩
   · rw[hadd j hne] at hm;exact .inr ⟨j,p,m,hj',hr,hm,rfl⟩
theorem growBy_le:∀(rounds c newLen:Nat),c<newLen→Builtin.growBy newLen rounds c≤2*newLen+1000
 | 0,c,n,h=>by simp [Builtin.growBy];omega
 | r+1,c,n,h=>by
   simp only[Builtin.growBy]
   split
   · omega
   · by_cases hc:c+(c+768) /4<n
     · exact growBy_le r _ n hc
     · cases r with
       | zero=>simp only[Builtin.growBy];omega
       | succ r=>simp only[Builtin.growBy];rw[if_pos (by omega)];omega
theorem nextslicecap_le {n c:Nat} (h:c<n):Builtin.nextslicecap n c≤4*n+4096:=by
 unfold Builtin.nextslicecap
 split
 · omega
 · split
   · omega
   · have:=growBy_le 4 c n h;omega
theorem zeroCells_size (z:Array Value) (n:Nat):(Builtin.zeroCells z n).size=n*z.size:=by simp [Builtin.zeroCells]
theorem append_grow_run {P:Program} {w:World} {sT xT ty elem:TypeId} {xd:TypeDesc} (hs:P.underlying sT=some (.slice elem)) (hx:P.underlying xT=some xd) (hxd:∀k,xd≠ .int k)
 {size bytes n:Nat} (hsize:(P.info? elem).map (·.size)=some size) (hbytes:(P.info? elem).map (·.bytes)=some bytes) {z:Value} (hz:∀w,(zeroValue elem).run P w= .ok z w) (hzs:z.cells.size=size)
 {base:Option Addr} {len cap:Nat} {x':Value} (hn:∀w,(Builtin.lenOf x').run P w= .ok n w) {old new:List Value} (hold:∀w',w'.heap=w.heap→(Builtin.firstCells size len (.slice base len cap)).run P w'= .ok old.toArray w')
 (hnew:∀w',w'.heap=w.heap→(Builtin.firstCells size n x').run P w'= .ok new.toArray w') (hlt:cap<len+n) (hsm:(4*(len+n)+4096)*(bytes+1)≤1099511627776) (hol:old.length=len*size) (hnl:new.length=n*size):
 ∃nc:Nat,∃C:Array Value,len+n≤nc∧(∃rest,C.toList=old++new++rest)∧C.size=nc*size∧
  (Builtin.append_ #[sT,xT] ty #[.slice base len cap,x']).run P w= .ok (.slice (some ⟨w.heap.size,0,none⟩) (len+n) nc) (w.drew.alloc (.cells C elem)):=by
 let nc:=(Question.appendCap (len+n) cap elem).cut (w.tape w.drawn (.appendCap (len+n) cap elem))
 have hnc:len+n≤nc:=by show len+n≤len+n+_;omega
 let C:Array Value:=old.toArray++new.toArray++Builtin.zeroCells z.cells (nc -(len+n))
 refine ⟨nc,C,hnc,⟨(Builtin.zeroCells z.cells (nc -(len+n))).toList,by simp [C]⟩,?_,?_⟩
 · simp only[C,Array.size_append,zeroCells_size,hzs,List.size_toArray,hol,hnl]
   rw[←Nat.add_mul,←Nat.add_mul];congr 1;omega
 · obtain ⟨inf,hinf,hb⟩:=run_bytes hbytes w
   obtain ⟨inf',hinf',hb'⟩:=run_bytes hbytes w.drew
   have hxm:(match xd with | .int _=>true | _=>false)=false:=by cases xd<;>first | rfl | exact absurd rfl (hxd _)
   have hcap:¬len+n≤cap:=by omega
   have hnsc:=nextslicecap_le hlt
   have hmul:(4*(len+n)+4096)*(bytes+1)=(4*(len+n)+4096)*bytes+(4*(len+n)+4096):=by rw[Nat.mul_add,Nat.mul_one]
   have hsmall:¬Builtin.nextslicecap (len+n) cap*bytes>2^48:=by
    have:Builtin.nextslicecap (len+n) cap*bytes≤(4*(len+n)+4096)*bytes:=Nat.mul_le_mul_right _ hnsc
    omega
   have hi64:IntKind.i64.max=9223372036854775807:=by decide
   have hbig:¬(((len+n:Nat):Int) >IntKind.i64.max):=by rw[hi64];omega
   have o1:=hold w.drew rfl
   have n1:=hnew w.drew rfl
   have z1:=hz w.drew
   have hf:((!false)=true)=True:=by simp
   simp only[Builtin.append_,List.getElem?_toArray,List.getElem?_cons_zero,List.getElem?_cons_succ,Sem.run_bind,Sem.run_pure,Result.andThen_ok,run_underlying hs,run_underlying hx,run_size hsize,Bool.false_eq_true,if_false,hn,hcap,hinf]
   rw[if_neg (fun h=>hbig h.1)]
   simp only[Sem.run_bind,hinf,hb,Result.andThen_ok]
   rw[if_neg hsmall]
   simp only[Sem.run_bind,run_choose,Question.forced,Bool.false_eq_true,if_false,World.drew_eq,Result.andThen_ok,hinf',run_askRoom,o1,hf,if_true,n1,z1,newRow,run_newObj,World.alloc_eq,Sem.run_pure]
   rfl
theorem append_place_run {P:Program} {w w':World} {sT xT ty elem:TypeId} {xd:TypeDesc} (hs:P.underlying sT=some (.slice elem)) (hx:P.underlying xT=some xd) (hxd:∀k,xd≠ .int k)
 {size n:Nat} (hsize:(P.info? elem).map (·.size)=some size) {b O len cap:Nat} {x':Value} (hn:∀w,(Builtin.lenOf x').run P w= .ok n w) {new:List Value}
 (hnew:(Builtin.firstCells size n x').run P w= .ok new.toArray w) (hle:len+n≤cap) (hst:(storeCells ⟨b,O+len*size,none⟩ new).run P w= .ok () w'):
 (Builtin.append_ #[sT,xT] ty #[.slice (some ⟨b,O,none⟩) len cap,x']).run P w= .ok (.slice (some ⟨b,O,none⟩) (len+n) cap) w':=by
 have hxm:(match xd with | .int _=>true | _=>false)=false:=by cases xd<;>first | rfl | exact absurd rfl (hxd _)
 have hf:((!false)=true)=True:=by simp
 simp only[Builtin.append_,List.getElem?_toArray,List.getElem?_cons_zero,List.getElem?_cons_succ,Sem.run_bind,Sem.run_pure,Result.andThen_ok,run_underlying hs,run_underlying hx,run_size hsize,hf,Bool.false_eq_true,if_false,if_true,hn,hle,hnew,add_off,hst]
theorem grown_OK {φ:Ph} {h h':Heap} {w:World} (ok:OK E φ h w) {new:List AV} {elem:TypeId} (hn:h.new (.cells new elem false)=some h') {l:List Value} (hl:LR φ new l)
 {size nc n:Nat} (hsize:sizeT E elem=some size) {C:Array Value} {rest:List Value} (hC:C.toList=l++rest) (hCs:C.size=nc*size) (hnc:n≤nc) (hll:l.length=n*size):
 Done E φ h w (.ok (.slice (some ⟨w.heap.size,0,none⟩) n nc) (w.drew.alloc (.cells C elem))) (.slice h.nx 0 n n true) h':=by
 have hnl:new.length=n*size:=by rw[hl.1,hll]
 obtain ⟨hok,hfr,hle⟩:=ok.fresh (w':=w.drew.alloc (.cells C elem)) hn ⟨w.heap.size,0,nc - n⟩ (by
  refine ⟨C,elem,0,0,by rw[show (w.drew.alloc (.cells C elem)).heap=w.heap.push (.cells C elem) from rfl];simp,?_,fun k x hk=>?_,fun _ k _ _=>by omega,fun _ _ _=>rfl⟩
  · simp only[slackCells,hsize,Option.getD_some,hnl,hCs,Nat.zero_add]
    rw[←Nat.add_mul];exact Nat.mul_le_mul_right _ (by omega)
  · obtain ⟨y,hy,hr⟩:=hl.get hk
    have hkl:k<l.length:=(List.getElem?_eq_some_iff.1 hy).1
    refine ⟨y,?_,hr.mono (fun i m hm=>?_)⟩
    · have:C.toList[k]? =some y:=by rw[hC,List.getElem?_append_left hkl];exact hy
      simpa using this
    · unfold Ph.add
      split
      · rename_i e;subst e;exact absurd (ok.dom _ _ hm) (Nat.lt_irrefl _)
      · exact hm)
  (fun c hne hc=>by
   have:(w.drew.alloc (.cells C elem)).heap[c]? =w.heap[c]? :=by
    rw[show (w.drew.alloc (.cells C elem)).heap=w.heap.push (.cells C elem) from rfl,Array.getElem?_push,if_neg (by simpa using hne)]
   exact this) (by simp) (Nat.le_refl _) rfl rfl rfl
 refine ⟨_,_,_,rfl,?_,hok,hfr⟩
 have:=VR.slice (φ:=φ.add h.nx ⟨w.heap.size,0,nc - n⟩) (i:=h.nx) (l:=⟨w.heap.size,0,nc - n⟩) 0 n n true (by simp [Ph.add])
 simp only[capOf,if_true] at this
 rw[show n+(nc - n)=nc by omega] at this
 exact this
theorem Fr.of_kill {φ φ':Ph} {h h':Heap} {w w':World} {i:Nat} (f:Fr φ (h.put i none) w φ' h' w'):Fr φ h w φ' h' w':=by
 have hget:∀j p,(h.put i none).get j=some p→h.get j=some p:=fun j p hj=>by
  by_cases e:i=j
  · subst e;rw[Heap.get_put_same] at hj;simp at hj
  · rw[Heap.get_put_other e] at hj;exact hj
 exact ⟨f.ext,f.old,f.nx,f.os,f.tape,f.output,f.size,fun b hb hn=>f.keep b hb (fun j p m hj=>hn j p m (hget j p hj)),
  fun j p m hj hr hm=>(f.own j p m hj hr hm).imp id (fun ⟨k,q,n,a,b⟩=>⟨k,q,n,hget k q a,b⟩)⟩
theorem lenA_run {φ:Ph} {x:AV} {n:Nat} (h:lenA x=some n) {x':Value} (hx:VR φ x x') (P:Program) (w:World):(Builtin.lenOf x').run P w= .ok n w:=by
 cases x<;>simp [lenA] at h
 · subst h
   generalize hss:AV.str _=s0 at hx
   cases hx<;>cases hss
   rfl
 · cases hx;subst h;rfl
 · cases hx;subst h;rfl
 · cases hx;subst h;rfl
theorem append_make_run {P:Program} {w:World} {sT xT ty elem:TypeId} {kx:IntKind} (hs:P.underlying sT=some (.slice elem)) (hx:P.underlying xT=some (.int kx))
 {size bytes:Nat} (hsize:(P.info? elem).map (·.size)=some size) (hbytes:(P.info? elem).map (·.bytes)=some bytes) {z:Value} (hz:∀w,(zeroValue elem).run P w= .ok z w) (hzs:z.cells.size=size)
 {k:IntKind} {n:Int} (hn:0<n) (hs0:0<size) (hsm:(4*n.toNat+4096)*(bytes+1)≤1099511627776):
 ∃nc:Nat,∃C:Array Value,n.toNat≤nc∧(∃rest,C.toList=(Builtin.zeroCells z.cells n.toNat).toList++rest)∧C.size=nc*size∧
  (Builtin.append_ #[sT,xT] ty #[.slice none 0 0,.int k n]).run P w= .ok (.slice (some ⟨w.heap.size,0,none⟩) n.toNat nc) (w.drew.alloc (.cells C elem)):=by
 let nc:=(Question.appendCap (0+n.toNat) 0 elem).cut (w.tape w.drawn (.appendCap (0+n.toNat) 0 elem))
 have hnc:n.toNat≤nc:=by show n.toNat≤0+n.toNat+_;omega
 let C:Array Value:= #[]++Builtin.zeroCells z.cells n.toNat++Builtin.zeroCells z.cells (nc -(0+n.toNat))
 refine ⟨nc,C,hnc,⟨(Builtin.zeroCells z.cells (nc -(0+n.toNat))).toList,by simp [C]⟩,?_,?_⟩
 · simp only[C,Array.size_append,zeroCells_size,hzs,Array.size_empty,Nat.zero_add]
   rw[←Nat.add_mul];congr 1;omega
 · obtain ⟨inf,hinf,hb⟩:=run_bytes hbytes w
   obtain ⟨inf',hinf',hb'⟩:=run_bytes hbytes w.drew
   have hmul:(4*n.toNat+4096)*(bytes+1)=(4*n.toNat+4096)*bytes+(4*n.toNat+4096):=by rw[Nat.mul_add,Nat.mul_one]
   have hnl:n.toNat≤1099511627776:=by omega
   have hwrap:IntKind.i64.wrap n=n:=by
    rw[IntKind.wrap_i64];omega
   have hneg:¬n<0:=by omega
   have hnb:n*(bytes:Int)=((n.toNat*bytes:Nat):Int):=by rw[Int.natCast_mul,Int.toNat_of_nonneg (by omega)]
   have hle:n.toNat*bytes≤(4*n.toNat+4096)*bytes:=Nat.mul_le_mul_right _ (by omega)
   have hbig0:¬n*(bytes:Int) >2^48:=by rw[hnb];omega
   have hcap:¬0+n.toNat≤0:=by omega
   have hnsc:=nextslicecap_le (show 0<0+n.toNat by omega)
   have hsmall:¬Builtin.nextslicecap (0+n.toNat) 0*bytes>2^48:=by
    have:Builtin.nextslicecap (0+n.toNat) 0*bytes≤(4*(0+n.toNat)+4096)*bytes:=Nat.mul_le_mul_right _ hnsc
    rw[Nat.zero_add] at this
    rw[Nat.zero_add]
    omega
   have hi64:IntKind.i64.max=9223372036854775807:=by decide
   have hbig:¬(((0+n.toNat:Nat):Int) >IntKind.i64.max):=by rw[hi64];omega
   have hns:¬n.toNat*size=0:=by
    have h1:0<n.toNat:=by omega
    have:=Nat.mul_pos h1 hs0;omega
   have z1:=hz w.drew
   have hf:((!true)=true)=False:=by simp
   have hai:∀w,(asInt (.int k n)).run P w= .ok n w:=fun _=>rfl
   simp only[Builtin.append_,List.getElem?_toArray,List.getElem?_cons_zero,List.getElem?_cons_succ,Sem.run_bind,Sem.run_pure,Result.andThen_ok,run_underlying hs,run_underlying hx,run_size hsize,if_true,hai,hwrap]
   rw[if_neg hneg]
   simp only[Sem.run_bind,hinf,hb,Result.andThen_ok]
   rw[if_neg hbig0]
   simp only[Sem.run_bind,Sem.run_pure,Result.andThen_ok]
   rw[if_neg hcap]
   simp only[Sem.run_bind,Result.andThen_ok,hinf,hb]
   rw[if_neg (fun h=>hbig h.1)]
   simp only[Sem.run_bind,hinf,hb,Result.andThen_ok]
   rw[if_neg hsmall]
   simp only[Sem.run_bind,run_choose,Question.forced,Bool.false_eq_true,if_false,World.drew_eq,Result.andThen_ok,hinf',run_askRoom,Builtin.firstCells,hf,if_neg hns,z1,newRow,run_newObj,World.alloc_eq,Sem.run_pure]
   simp only[nc,C,Nat.zero_add]
   rfl
theorem appendA_run {φ:Ph} {h h':Heap} {w:World} (ok:OK E φ h w) {argTypes:Array TypeId} {s x v:AV} (e:appendA E h argTypes s x=some (v,h')) {s' x':Value} (hs:VR φ s s') (hx:VR φ x x') (ty:TypeId):
 Done E φ h w ((Builtin.append_ argTypes ty #[s',x']).run E.P w) v h':=by
 unfold appendA at e
 split at e
 · rename_i sT xT hsT hxT
   split at e
   · rename_i elem xd hus hux
     split at e
     · rename_i hint
       cases xd<;>simp [isIntD] at hint
       have key:(Builtin.append_ argTypes ty #[s',x']).run E.P w=(Builtin.append_ #[sT,xT] ty #[s',x']).run E.P w:=by
        unfold Builtin.append_;simp only[hsT,hxT];rfl
       rw[key]
       unfold appendMakeA at e
       split at e
       · rename_i k0 k size bytes z hsize hbytes hzero
         split at e
         · rename_i hc
           obtain ⟨hk,hs0,hsm,hzl⟩:=hc
           split at e
           · rename_i h1 hnewh
             simp at e;obtain ⟨rfl,rfl⟩:=e
             cases hs;cases hx
             obtain ⟨z',hzr,hzrun⟩:=zeroT_run hzero
             have hzs:z'.cells.size=size:=by have:=(hzr φ).cells.1;simp at this;omega
             obtain ⟨nc,C,hnc,⟨rest,hC⟩,hCs,hrun⟩:=append_make_run (P:=E.P) (w:=w) (ty:=ty) (k:=k0) hus hux hsize hbytes hzrun hzs hk hs0 hsm
             rw[hrun]
             exact grown_OK (n:=k.toNat) ok hnewh (l:=(Builtin.zeroCells z'.cells k.toNat).toList) (rep_LR (hzr φ).cells k.toNat) hsize hC hCs hnc (by rw[Array.length_toList,zeroCells_size,hzs])
           · simp at e
         · simp at e
       · simp at e
     rename_i hnint
     have hxd:∀k,xd≠ .int k:=fun k he=>by subst he;simp [isIntD] at hnint
     split at e
     · rename_i size bytes n hsize hbytes hlen
       split at e
       · rename_i new z hfirst hzero
         split at e
         · rename_i hc
           obtain ⟨hzl,hsc,hnewl⟩:=hc
           obtain ⟨z',hzr,hzrun⟩:=zeroT_run hzero
           have hzs:z'.cells.size=size:=by have:=(hzr φ).cells.1;simp at this;omega
           obtain ⟨new',hnlr,hnrun⟩:=firstA_run ok hx hfirst (.inr trivial)
           have hnl:new'.length=n*size:=by rw[←hnlr.1];exact hnewl
           have key:(Builtin.append_ argTypes ty #[s',x']).run E.P w=(Builtin.append_ #[sT,xT] ty #[s',x']).run E.P w:=by
            unfold Builtin.append_;simp only[hsT,hxT];rfl
           rw[key]
           split at e
           ·
            cases hs
            split at e
            · rename_i hn0
              simp at e;obtain ⟨rfl,rfl⟩:=e
              subst hn0
              refine ⟨φ,w,_,?_,.nilslice,ok,Fr.refl φ h w⟩
              have hxm:(match xd with | .int _=>true | _=>false)=false:=by cases xd<;>first | rfl | exact absurd rfl (hxd _)
              have hf:((!false)=true)=True:=by simp
              have hn1:=hnrun w rfl
              simp only[Builtin.append_,List.getElem?_toArray,List.getElem?_cons_zero,List.getElem?_cons_succ,Sem.run_bind,Sem.run_pure,Result.andThen_ok,run_underlying hus,run_underlying hux,run_size hsize,hf,Bool.false_eq_true,if_false,if_true,lenA_run hlen hx,hn1,Nat.le_refl,Nat.add_zero]
            · rename_i hn0
              split at e
              · rename_i hsm
                split at e
                · rename_i h1 hnewh
                  simp at e;obtain ⟨rfl,rfl⟩:=e
                  obtain ⟨nc,C,hnc,⟨rest,hC⟩,hCs,hrun⟩:=append_grow_run (P:=E.P) (w:=w) (ty:=ty) hus hux hxd hsize hbytes hzrun hzs (base:=none) (len:=0) (cap:=0) (fun w=>lenA_run hlen hx E.P w) (old:=[]) (fun w' _=>by simp [Builtin.firstCells]) (fun w' hw=>hnrun w' hw) (by omega) (by simpa using hsm) (by simp) hnl
                  have:=grown_OK (n:=n) ok hnewh (l:=[]++new') (by simpa using hnlr) (by simpa using hsize) (by simpa using hC) hCs (by omega) (by simp [hnl])
                  rw[hrun]
                  simp only[Nat.zero_add] at this ⊢
                  exact this
                · simp at e
              · simp at e
           · rename_i i o len cap op
             cases hs with
             | @slice _ l _ _ _ _ hφ=>
             split at e
             · rename_i cs el hg
               split at e
               ·
                rename_i hroom
                split at e
                · rename_i hle
                  simp at e;obtain ⟨rfl,rfl⟩:=e
                  have hcc:cap≤capOf op cap l.slack:=by unfold capOf;split<;>omega
                  obtain ⟨w',hst,hok,hfr⟩:=write_run ok hg hφ hnlr (o+len*size) (by rw[hnewl,Nat.add_assoc,←Nat.add_mul];exact hle) hsc
                  refine ⟨φ,w',_,append_place_run (P:=E.P) hus hux hxd hsize (fun w=>lenA_run hlen hx E.P w) (hnrun w rfl) (by omega) (by rw[Nat.add_assoc];exact hst),?_,hok,hfr⟩
                  have:=VR.slice (φ:=φ) o (len+n) cap op hφ
                  exact this
                · simp at e
               · rename_i hroom
                 split at e
                 · rename_i hcnd
                   obtain ⟨hsm,hol,hop⟩:=hcnd
                   split at e
                   · rename_i h1 hnewh
                     simp at e;obtain ⟨rfl,rfl⟩:=e
                     obtain ⟨C0,e0,lo,hi,hb0,hc0⟩:=ok.cells hg hφ
                     obtain ⟨old',hol',holv,holr⟩:=hc0.range o (len*size) hol
                     have hfirst0:∀cp w',w'.heap=w.heap→(Builtin.firstCells size len (.slice (some ⟨l.blk,l.off+o,none⟩) len cp)).run E.P w'= .ok old'.toArray w':=fun cp w' hw=>by
                      rw[←hw] at hb0
                      have hrow:=run_load_row (P:=E.P) hb0 (l.off+o) old' holv
                      rw[hol'] at hrow
                      simp only[Builtin.firstCells,hrow]
                     by_cases hin:len+n≤capOf op cap l.slack
                     ·
                      have hopt:op=true:=by
                       cases op with
                       | true=>rfl
                       | false=>simp [capOf] at hin;omega
                      subst hopt
                      obtain ⟨rfl,hext⟩:=hop rfl
                      simp only[capOf,if_true] at hin ⊢
                      simp only[if_true] at hnewh
                      have hsz:=hc0.size
                      simp only[slackCells,hsize,Option.getD_some] at hsz
                      have hmul:(len+n)*size≤(cap+l.slack)*size:=Nat.mul_le_mul_right _ hin
                      have e1:(len+n)*size=len*size+n*size:=Nat.add_mul _ _ _
                      have e2:(cap+l.slack)*size=cap*size+l.slack*size:=Nat.add_mul _ _ _
                      have hst:=run_store_row (P:=E.P) hb0 (l.off+o+len*size) new' (by omega) (fun k k1 k2=>hc0.free rfl k (by omega) (by simp only[slackCells,hsize,Option.getD_some];omega)) (all_scalar hnlr hsc)
                      obtain ⟨p1,p2,p3⟩:=os_setCells new' w l.blk (l.off+o+len*size)
                      obtain ⟨hok,hfr⟩:=ok.reuse (w':=w.setCells l.blk (l.off+o+len*size) new') (l':=⟨l.blk,l.off+o,cap+l.slack -(len+n)⟩) hg rfl hφ rfl hnewh (by
                       refine ⟨setArr C0 (l.off+o+len*size) new',e0,lo,hi,heap_setCells new' hb0 _,?_,fun k x hk=>?_,fun _ k a b=>hc0.free rfl k (by simp at a;omega) ?_,fun h=>by cases h⟩
                       · simp only[slackCells,hsize,Option.getD_some,setArr_size,List.length_append,holr.1,hol',hnlr.1,hnl]
                         rw[Nat.sub_mul];omega
                       · show ∃y,(setArr C0 (l.off+o+len*size) new')[l.off+o+k]? =some y∧_
                         rw[setArr_get]
                         by_cases hk1:k<len*size
                         · rw[List.getElem?_append_left (by rw[holr.1,hol'];exact hk1)] at hk
                           obtain ⟨y,hy,hr⟩:=holr.get hk
                           rw[if_neg (by omega)]
                           exact ⟨y,holv k y hy,hr.mono (fun j m hm=>by
                            unfold Ph.add
                            split
                            · rename_i ej;subst ej;exact absurd (ok.dom _ _ hm) (Nat.lt_irrefl _)
                            · exact hm)⟩
                         · rw[List.getElem?_append_right (by rw[holr.1,hol'];omega)] at hk
                           obtain ⟨y,hy,hr⟩:=hnlr.get hk
                           have hyl:k -((List.take (len*size) (List.drop o cs)).length)<new'.length:=(List.getElem?_eq_some_iff.1 hy).1
                           rw[holr.1,hol'] at hyl hy
                           rw[if_pos (by omega)]
                           exact ⟨y,by rw[show l.off+o+k -(l.off+o+len*size)=k - len*size by omega];exact hy,hr.mono (fun j m hm=>by
                            unfold Ph.add
                            split
                            · rename_i ej;subst ej;exact absurd (ok.dom _ _ hm) (Nat.lt_irrefl _)
                            · exact hm)⟩
                       · simp only[slackCells,hsize,Option.getD_some,List.length_append,holr.1,hol',hnlr.1,hnl] at b ⊢
                         rw[Nat.sub_mul] at b;omega)
                       (fun c hne=>heap_setCells_other new' (Ne.symm hne) _) (size_setCells _ _ _ _) p1 p2 p3
                      refine ⟨_,_,_,append_place_run (P:=E.P) hus hux hxd hsize (fun w=>lenA_run hlen hx E.P w) (hnrun w rfl) hin hst,?_,hok,hfr⟩
                      have:=VR.slice (φ:=φ.add h.nx ⟨l.blk,l.off+o,cap+l.slack -(len+n)⟩) (i:=h.nx) (l:=⟨l.blk,l.off+o,cap+l.slack -(len+n)⟩) 0 (len+n) (len+n) true (by simp [Ph.add])
                      simp only[capOf,if_true] at this
                      rw[show len+n+(cap+l.slack -(len+n))=cap+l.slack by omega] at this
                      exact this
                     ·
                      obtain ⟨nc,C,hnc,⟨rest,hC⟩,hCs,hrun⟩:=append_grow_run (P:=E.P) (w:=w) (ty:=ty) hus hux hxd hsize hbytes hzrun hzs (base:=some ⟨l.blk,l.off+o,none⟩) (len:=len) (cap:=capOf op cap l.slack) (fun w=>lenA_run hlen hx E.P w) (old:=old') (fun w' hw=>hfirst0 _ w' hw) (fun w' hw=>hnrun w' hw) (by omega) hsm hol' hnl
                      rw[hrun]
                      have hlr:=holr.append hnlr
                      have hll:(old'++new').length=(len+n)*size:=by rw[List.length_append,hol',hnl,Nat.add_mul]
                      cases op with
                      | false=>exact grown_OK ok hnewh hlr hsize hC hCs hnc hll
                      | true=>
                        obtain ⟨φ',w',v',a1,a2,a3,a4⟩:=grown_OK ok.kill hnewh hlr hsize hC hCs hnc hll
                        exact ⟨φ',w',v',a1,a2,a3,a4.of_kill⟩
                   · simp at e
                 · simp at e
             · simp at e
           · simp at e
         · simp at e
       · simp at e
     · simp at e
   · simp at e
 · simp at e
end Go.Ab
end
section
namespace Go.Ab
variable {E:Env}
theorem copyA_run {φ:Ph} {h h':Heap} {w:World} (ok:OK E φ h w) {argTypes:Array TypeId} {s d v:AV} (e:copyA E h argTypes d s=some (v,h')) {s' d':Value} (hd:VR φ d d') (hs:VR φ s s') (ty:TypeId):
 Done E φ h w ((Builtin.copy_ argTypes ty #[d',s']).run E.P w) v h':=by
 unfold copyA at e
 split at e
 · rename_i dT hdT
   split at e
   · rename_i elem m hu hm
     split at e
     · rename_i size hsize
       simp at e;obtain ⟨rfl,rfl⟩:=e
       cases hd
       refine ⟨φ,w,_,?_,.int .i64 0,ok,Fr.refl φ h w⟩
       have h0:Nat.min m 0=0:=Nat.min_eq_right (Nat.zero_le _)
       obtain ⟨new',_,hnrun⟩:∃new':List Value,True∧(Builtin.firstCells size 0 s').run E.P w= .ok new'.toArray w:=by
        cases s<;>simp [lenA] at hm
        · generalize hss:AV.str _=s0 at hs
          cases hs<;>cases hss
          refine ⟨[],trivial,?_⟩
          simp [Builtin.firstCells]
        · cases hs;exact ⟨[],trivial,by simp [Builtin.firstCells]⟩
        · cases hs;exact ⟨[],trivial,by simp [Builtin.firstCells,loadCells,loadCellsFrom]⟩
        · cases hs;exact ⟨[],trivial,by simp [Builtin.firstCells,loadCells,loadCellsFrom]⟩
       simp only[Builtin.copy_,hdT,List.getElem?_toArray,List.getElem?_cons_zero,List.getElem?_cons_succ,Sem.run_bind,Result.andThen_ok,run_underlying hu,lenA_run hm hs,h0,run_size hsize,hnrun,Sem.run_pure]
       rfl
     · rename_i size i o len _ _ hsize
       split at e
       · rename_i new cs el hfirst hg
         split at e
         · rename_i hc
           simp at e;obtain ⟨rfl,rfl⟩:=e
           cases hd with
           | @slice _ l _ _ _ _ hφ=>
           obtain ⟨new',hnlr,hnrun⟩:=firstA_run ok hs hfirst (.inr trivial)
           obtain ⟨w',hst,hok,hfr⟩:=write_run ok hg hφ hnlr o hc.1 hc.2
           refine ⟨φ,w',_,?_,.int .i64 _,hok,hfr⟩
           have h0:Nat.min m len=min m len:=rfl
           simp only[Builtin.copy_,hdT,List.getElem?_toArray,List.getElem?_cons_zero,List.getElem?_cons_succ,Sem.run_bind,Result.andThen_ok,run_underlying hu,lenA_run hm hs,h0,run_size hsize,hnrun w rfl,hst,Sem.run_pure]
           rfl
         · simp at e
       · simp at e
     · simp at e
   · simp at e
 · simp at e
theorem freeze_heap {w:World} {b n:Nat} {C:Array Value} {e:TypeId} (h:w.heap[b]? =some (.cells C e)):(w.freeze ⟨b,n,none⟩ 1).heap[b]? =some (.cells C e (n,n+1)):=by
 simp [World.freeze,Array.getElem?_modify,h]
theorem freeze_other {w:World} {b c n:Nat} (h:b≠c):(w.freeze ⟨b,n,none⟩ 1).heap[c]? =w.heap[c]? :=by
 simp [World.freeze,Array.getElem?_modify,h]
theorem freeze_size (w:World) (b n:Nat):(w.freeze ⟨b,n,none⟩ 1).heap.size=w.heap.size:=by simp [World.freeze]
theorem convA_run {φ:Ph} {h h':Heap} {w:World} (ok:OK E φ h w) {src dst:TypeId} {x:AV} {v:AV} (e:convA E h src dst (some x)=some (v,h')) {x':Value} (hx:VR φ x x'):
 Done E φ h w ((convert src dst x').run E.P w) v h':=by
 unfold convA at e
 split at e
 · rename_i el s hs hd hxs
   simp at hxs;subst hxs
   generalize hss:AV.str s=s0 at hx
   cases hx<;>cases hss
   rename_i s'
   split at e
   · rename_i h1 he hn
     split at e
     · rename_i hsz
       simp at e;obtain ⟨rfl,rfl⟩:=e
       have e1:s'.size=s'.data.toList.length:=by cases s';rfl
       let nc:=(Question.appendCap s'.size 0 el).cut (w.tape w.drawn (.appendCap s'.size 0 el))
       have hnc:s'.size≤nc:=by show s'.size≤s'.size+_;omega
       let C:Array Value:=(s'.data.map fun b=>Value.int .u8 b.toNat)++Array.replicate (nc - s'.size) (.int .u8 0)
       have hCs:C.size=nc:=by
        have e0:s'.size=s'.data.size:=rfl
        have:C.size=s'.data.size+(nc - s'.size):=by simp only[C,Array.size_append,Array.size_map,Array.size_replicate]
        omega
       have hw1:(w.drew.alloc (.cells C el)).heap=w.heap.push (.cells C el):=rfl
       have hw1n:(w.drew.alloc (.cells C el)).heap[w.heap.size]? =some (.cells C el):=by rw[hw1];simp
       obtain ⟨hok,hfr,hle⟩:=ok.fresh (w':=(w.drew.alloc (.cells C el)).freeze ⟨w.heap.size,nc,none⟩ 1) hn ⟨w.heap.size,0,nc - s'.size⟩ (by
        refine ⟨C,el,nc,nc+1,freeze_heap hw1n,?_,fun k x hk=>?_,fun _ k _ b=>?_,fun _ _ _=>rfl⟩
        · simp only[slackCells,hsz,Option.getD_some,hCs,List.length_map];rw[←e1];omega
        · rw[List.getElem?_map] at hk
          cases hb:s'.data.toList[k]? with
          | none=>rw[hb] at hk;simp at hk
          | some b=>
            rw[hb] at hk;simp at hk;subst hk
            have hkl:k<s'.data.toList.length:=(List.getElem?_eq_some_iff.1 hb).1
            refine ⟨.int .u8 b.toNat,?_,.int _ _⟩
            have:C[0+k]? =(s'.data.map fun b=>Value.int .u8 b.toNat)[k]? :=by
             simp only[C,Nat.zero_add];rw[Array.getElem?_append_left (by simpa using hkl)]
            show C[0+k]? =_
            rw[this]
            rw[Array.getElem?_map]
            have hb':s'.data[k]? =some b:=by simpa using hb
            rw[hb'];rfl
        · simp only[slackCells,hsz,Option.getD_some,List.length_map] at b;rw[←e1] at b;omega)
        (fun c hne hc=>by
         rw[freeze_other (Ne.symm hne),hw1,Array.getElem?_push,if_neg (by omega)]) (by rw[freeze_size,hw1];simp) (Nat.le_refl _) rfl rfl rfl
       refine ⟨_,_,.slice (some ⟨w.heap.size,0,none⟩) s'.size nc,?_,?_,hok,hfr⟩
       · have hsh:(w.drew.alloc (.cells C el)).shape? w.heap.size=some (el,nc):=by
          simp only[World.shape?,hw1n,hCs]
         simp only[convert,Sem.run_bind,run_underlying hs,run_underlying hd,Result.andThen_ok,run_underlying he,Conv.stringToBytes,run_choose,Question.forced,Bool.false_eq_true,if_false,World.drew_eq,newRow,run_newObj,World.alloc_eq,Sem.run_pure,markStringish]
         rw[show (Question.appendCap s'.size 0 el).cut (w.tape w.drawn (Question.appendCap s'.size 0 el))=nc from rfl,show (Array.map (fun b=>Value.int .u8 b.toNat) s'.data++Array.replicate (nc - s'.size) (Value.int .u8 0))=C from rfl]
         simp only[World.size_drew,run_shape,hsh,Result.andThen_ok,run_freeze]
       · have:=VR.slice (φ:=φ.add h.nx ⟨w.heap.size,0,nc - s'.size⟩) (i:=h.nx) (l:=⟨w.heap.size,0,nc - s'.size⟩) 0 s'.size s'.size true (by simp [Ph.add])
         simp only[capOf,if_true] at this
         rw[show s'.size+(nc - s'.size)=nc by omega] at this
         exact this
     · simp at e
   · simp at e
 · simp at e
theorem setEntry_ESR {φ:Ph} {v:AV} {v':Value} (hv:VR φ v v') {k':Value}:∀{es:List AEntry} {es':List MapEntry} (_:ESR φ es es') (i:Nat) (_:∀e,es[i]? =some e→VR φ e.key k'),
 ESR φ (setEntry es i v) (es'.modify i fun e=>{e with key:=k',val:=v'})
 | [],es',h,i,_=>by
   cases es' with
   | nil=>simpa [setEntry] using h
   | cons _ _=>simp [ESR] at h
 | e::es,es',h,i,hk=>by
   obtain ⟨hl,hvv⟩:=h
   cases es' with
   | nil=>simp at hl
   | cons y ys=>
     have h0:=hvv 0 e y (by simp) (by simp)
     have hrest:ESR φ es ys:=⟨by simpa using hl,fun i a b p q=>hvv (i+1) a b (by simpa using p) (by simpa using q)⟩
     cases i with
     | zero=>
       simp only[setEntry,List.modify_zero_cons]
       refine ⟨by simpa using hl,fun j a b p q=>?_⟩
       cases j with
       | zero=>simp at p q;subst p;subst q;exact ⟨hk e (by simp),hv,h0.born⟩
       | succ j=>simp at p q;exact hrest.2 j a b p q
     | succ i=>
       simp only[setEntry,List.modify_succ_cons]
       obtain ⟨g1,g2⟩:=setEntry_ESR hv hrest i (fun e he=>hk e (by simpa using he))
       refine ⟨by simp [g1],fun j a b p q=>?_⟩
       cases j with
       | zero=>simp at p q;subst p;subst q;exact h0
       | succ j=>simp at p;exact g2 j a b p (by simpa using q)
theorem ba_refl (s:ByteArray):(s==s)=true:=by cases s;rename_i d;show (d==d)=true;simp
theorem sameBits_key {φ:Ph} {k j:AV} (e:keyEq k j=some true) {k' j':Value} (h:VR φ k k') (h':VR φ j j'):Instr.sameBits 10000 j' k'=true∧j'=k':=by
 unfold keyEq at e
 split at e
 · generalize hs:AV.str _=s at h
   generalize hs':AV.str _=s' at h'
   cases h<;>cases hs
   cases h'<;>cases hs'
   rename_i s s'
   simp at e
   have:s'=s:=by cases s;cases s';simp_all
   subst this
   exact ⟨by simp only[Instr.sameBits];exact ba_refl _,rfl⟩
 · cases h;cases h'
   split at e
   · rename_i hkk
     simp at e;subst e;subst hkk
     exact ⟨by simp [Instr.sameBits],rfl⟩
   · simp at e
 · cases h;cases h'
   simp at e;subst e
   exact ⟨by simp [Instr.sameBits],rfl⟩
 · simp at e
theorem mapUpdateA_run {φ:Ph} {h h':Heap} {w:World} (ok:OK E φ h w) {t:TypeId} {m k v:AV} {m' k' v':Value} (hm:VR φ m m') (hk:VR φ k k') (hv:VR φ v v') (e:mapUpdateA E h t m k v=some h'):
 ∃w',(Instr.mapUpdate t m' k' v').run E.P w= .ok () w'∧OK E φ h' w'∧Fr φ h w φ h' w':=by
 unfold mapUpdateA at e
 split at e
 · rename_i key elem i hu
   cases hm with
   | @map _ l hφ=>
   split at e
   · rename_i es clock hg
     split at e
     · rename_i hkk
       have hkey:∃d,E.P.underlying key=some d∧keyKind (some d) k=true:=by
        cases hd:E.P.underlying key with
        | none=>rw[hd] at hkk;simp [keyKind] at hkk
        | some d=>rw[hd] at hkk;exact ⟨d,rfl,hkk⟩
       obtain ⟨d,hd,hkd⟩:=hkey
       have hor:=ok.live i _ l hg hφ
       obtain ⟨h00,es',hb,hesr⟩:=hor
       have hgo:(getObj l.blk).run E.P w= .ok (.map es' clock) w:=by simp [getObj,Sem.run,hb]
       have hck:=checkKey_run (P:=E.P) hd hkd hk false 9999 w
       have hset:∀o':Obj,(setObj l.blk o').run E.P w= .ok () {w with heap:=w.heap.setIfInBounds l.blk o'}:=fun o'=>by simp [setObj,Sem.run,hb]
       have hch:∀(o:AObj) (o':Obj),OR E φ o l (some o')→o.rw=true→OK E φ (h.put i (some o)) {w with heap:=w.heap.setIfInBounds l.blk o'}∧Fr φ h w φ (h.put i (some o)) {w with heap:=w.heap.setIfInBounds l.blk o'}:=fun o o' ho hrw=>by
        have hlt:l.blk<w.heap.size:=by
         rcases Nat.lt_or_ge l.blk w.heap.size with a | a
         · exact a
         · rw[Array.getElem?_eq_none a] at hb;simp at hb
        exact ok.change hg rfl hφ (by simp [hlt];exact ho) (fun c hne=>by simp [Ne.symm hne]) (by simp) rfl rfl rfl
       split at e
       · rename_i j v0 hf
         obtain ⟨r',h1,h2⟩:=findA_run hkd hk hesr hf
         cases r' with
         | none=>exact h2.elim
         | some q=>
         obtain ⟨j',v1⟩:=q
         obtain ⟨rfl,hvv,_,ent,hent,hentk⟩:=h2
         simp at e;subst e
         obtain ⟨y,hy⟩:∃y,es'.toList[j]? =some y:=by
          have hlt:j<es.length:=by simpa using (List.getElem?_eq_some_iff.1 hent).1
          exact ⟨es'.toList[j]'(by rw[←hesr.1];exact hlt),by simp⟩
         have hey:=hesr.2 j ent y (by simpa using hent) hy
         obtain ⟨hsb,hkeq⟩:=sameBits_key hentk hk hey.key
         have hy':es'[j]? =some y:=by simpa using hy
         obtain ⟨hok,hfr⟩:=hch (.map (setEntry es j v) clock) (.map (es'.modify j fun e=>{e with key:=k',val:=v'}) clock) ⟨h00,_,rfl,by
          have:=setEntry_ESR hv hesr j (k':=k') (fun e he=>by
           have:e=ent:=by have h3:es[j]? =some ent:=by simpa using hent
                          rw[h3] at he;simp at he;exact he.symm
           subst this;rw[←hkeq];exact hey.key)
          simpa using this⟩ rfl
         refine ⟨_,?_,hok,hfr⟩
         simp only[Instr.mapUpdate,Sem.run_bind,run_underlying hu,Result.andThen_ok,hgo,hck,Instr.findKey,run_underlying hd,h1,Sem.run_pure,hy',Option.map_some,Option.getD_some,Instr.keyThatStays,hsb,if_true,hset _]
       · rename_i hf
         obtain ⟨r',h1,h2⟩:=findA_run hkd hk hesr hf
         cases r' with
         | some q=>exact h2.elim
         | none=>
         simp at e;subst e
         obtain ⟨hok,hfr⟩:=hch (.map (es++[{key:=k,val:=v,born:=clock}]) (clock+1)) (.map (es'.push {key:=k',val:=v',born:=clock}) (clock+1)) ⟨h00,_,rfl,by
          refine ⟨by simp [hesr.1],fun j a b p q=>?_⟩
          rw[Array.toList_push] at q
          by_cases hj:j<es.length
          · rw[List.getElem?_append_left hj] at p
            rw[List.getElem?_append_left (by rw[←hesr.1];exact hj)] at q
            exact hesr.2 j a b p q
          · rw[List.getElem?_append_right (by omega)] at p
            rw[List.getElem?_append_right (by rw[←hesr.1];omega),←hesr.1] at q
            cases hjj:j - es.length with
            | zero=>rw[hjj] at p q;simp at p q;subst p;subst q;exact ⟨hk,hv,rfl⟩
            | succ n=>rw[hjj] at p;simp at p⟩ rfl
         refine ⟨_,?_,hok,hfr⟩
         simp only[Instr.mapUpdate,Sem.run_bind,run_underlying hu,Result.andThen_ok,hgo,hck,Instr.findKey,run_underlying hd,h1,Sem.run_pure,hset _]
       · simp at e
     · simp at e
   · simp at e
 · simp at e
theorem ascii_decode {s:ByteArray} {pos:Nat} {b:UInt8} (h:s.data.toList[pos]? =some b) (hb:b.toNat<128):Utf8.decode s pos=(b.toNat,1):=by
 have hl:pos<s.size:=(List.getElem?_eq_some_iff.1 h).1
 have hb':s[pos]'hl=b:=by
  have:=(List.getElem?_eq_some_iff.1 h).2
  rw[←this];rfl
 rw[decode_ascii s pos hl (by rw[hb'];exact hb),hb']
set_option linter.unusedSimpArgs false in
theorem nextA_run {φ:Ph} {h h':Heap} {w:World} (ok:OK E φ h w) {it v:AV} {b:Bool} (e:nextA h it b=some (v,h')) {it':Value} (hit:VR φ it it') (ty:TypeId):
 Done E φ h w ((Instr.next it' b ty).run E.P w) v h':=by
 unfold nextA at e
 split at e
 · rename_i r
   cases hit with
   | @ptr _ l _ hφ=>
   split at e
   · rename_i s pos hg
     have hor:=ok.live r _ l hg hφ
     obtain ⟨h00,s',hb,hs'⟩:=hor
     have hgo:(getObj l.blk).run E.P w= .ok (.stringIter s' pos) w:=by simp [getObj,Sem.run,hb]
     have e1:s'.size=s.length:=by rw[←hs'];cases s';rfl
     split at e
     · rename_i hlt
       split at e
       · rename_i c hc
         split at e
         · rename_i hasc
           simp at e;obtain ⟨rfl,rfl⟩:=e
           have hset:(setObj l.blk (.stringIter s' (pos+1))).run E.P w= .ok () {w with heap:=w.heap.setIfInBounds l.blk (.stringIter s' (pos+1))}:=by simp [setObj,Sem.run,hb]
           have hblt:l.blk<w.heap.size:=by
            rcases Nat.lt_or_ge l.blk w.heap.size with a | a
            · exact a
            · rw[Array.getElem?_eq_none a] at hb;simp at hb
           obtain ⟨hok,hfr⟩:=ok.change (w':={w with heap:=w.heap.setIfInBounds l.blk (.stringIter s' (pos+1))}) (o':= .siter s (pos+1)) hg rfl hφ (by simp [hblt];exact ⟨h00,s',rfl,hs'⟩) (fun c hne=>by simp [Array.getElem?_setIfInBounds,Ne.symm hne]) (by simp) rfl rfl rfl
           refine ⟨φ,_,.tuple #[.bool true,.int .i64 pos,.int .i32 c.toNat],?_,VR.tuple' (cs':=[.bool true,.int .i64 pos,.int .i32 c.toNat]) (.cons (.bool true) (.cons (.int _ _) (.cons (.int _ _) (.nil φ)))),hok,hfr⟩
           have hdec:=ascii_decode (s:=s') (pos:=pos) (b:=c) (by rw[hs'];exact hc) hasc
           have h0:l.off+0=0:=by omega
           simp only[Instr.next,h0,Sem.run_bind,hgo,Result.andThen_ok,e1,hlt,if_true,hdec,hset,Sem.run_pure,goInt]
         · simp at e
       · simp at e
     · rename_i hlt
       simp at e;obtain ⟨rfl,rfl⟩:=e
       refine ⟨φ,w,.tuple #[.bool false],?_,VR.tuple' (cs':=[.bool false]) (.cons (.bool false) (.nil φ)),ok,Fr.refl φ h w⟩
       have h0:l.off+0=0:=by omega
       simp only[Instr.next,h0,Sem.run_bind,hgo,Result.andThen_ok,e1,hlt,if_false,Sem.run_pure]
   · rename_i s1 s2 s3 hg
     have hor:=ok.live r _ l hg hφ
     obtain ⟨h00,hb⟩:=hor
     have hgo:(getObj l.blk).run E.P w= .ok (.mapIter none s1 s2.toArray s3) w:=by simp [getObj,Sem.run,hb]
     simp at e;obtain ⟨rfl,rfl⟩:=e
     refine ⟨φ,w,.tuple #[.bool false],?_,VR.tuple' (cs':=[.bool false]) (.cons (.bool false) (.nil φ)),ok,Fr.refl φ h w⟩
     have h0:l.off+0=0:=by omega
     simp only[Instr.next,h0,Sem.run_bind,hgo,Result.andThen_ok,Sem.run_pure]
   · simp at e
 · simp at e
end Go.Ab
end
section
namespace Go.Ab
variable {E:Env}
def DR (φ:Ph):ADef→Deferred→Prop
 | .call f args,d'=>∃cap,d'.target= .fn (.func f) cap∧LR φ args (d'.args++cap).toList
 | .col r,d'=>∃l,φ r=some l∧d'.target= .collected l.blk
def DsR (φ:Ph):List ADef→List Deferred→Prop
 | [],[]=>True
 | d::ds,d'::ds'=>DR φ d d'∧DsR φ ds ds'
 | _,_=>False
theorem DR.mono {φ φ':Ph} (hle:φ.le φ') {d:ADef} {d':Deferred} (h:DR φ d d'):DR φ' d d':=by
 cases d with
 | call f args=>obtain ⟨c,a,b⟩:=h;exact ⟨c,a,b.mono hle⟩
 | col r=>obtain ⟨l,a,b⟩:=h;exact ⟨l,hle _ _ a,b⟩
theorem DsR.mono {φ φ':Ph} (hle:φ.le φ'):∀{ds:List ADef} {ds':List Deferred} (_:DsR φ ds ds'),DsR φ' ds ds'
 | [],[],_=>trivial
 | _::_,_::_,h=>⟨h.1.mono hle,DsR.mono hle h.2⟩
structure SR (φ:Ph) (ts:List AV) (ds:List ADef) (a:Act):Prop where
 ts:LR φ ts a.tmps.toList
 ds:DsR φ ds a.defers
theorem SR.mono {φ φ':Ph} (hle:φ.le φ') {ts:List AV} {ds:List ADef} {a:Act} (h:SR φ ts ds a):SR φ' ts ds a:=⟨h.ts.mono hle,h.ds.mono hle⟩
def RCok (φ:Ph) (b:Frame) (K:Bool→List Frame):RC→Prop
 | .no=>b.roundOf=none∧∀fr:Frame,fr.kind=b.kind→tryRecover fr (K false)=none
 | .pend v=>b.roundOf=none∧(∃v',VR φ v v'∧∀fr:Frame,fr.kind=b.kind→tryRecover fr (K false)=some (v',K true))∧∀fr:Frame,fr.kind=b.kind→tryRecover fr (K true)=none
 | .done=>b.roundOf=none∧∀fr:Frame,fr.kind=b.kind→tryRecover fr (K true)=none
 | .bar l=>∃ll,φ l=some ll∧b.roundOf=some ll.blk
def cur (K:Bool→List Frame):RC→List Frame
 | .done=>K true
 | _=>K false
def RC.isBar:RC→Bool
 | .bar _=>true
 | _=>false
theorem RCok.mono {φ φ':Ph} (hle:φ.le φ') {b:Frame} {K:Bool→List Frame}:∀{rc:RC} (_:RCok φ b K rc),RCok φ' b K rc
 | .no,h=>h
 | .pend _,h=>let ⟨n,⟨v',a,b⟩,c⟩:=h;⟨n,⟨v',a.mono hle,b⟩,c⟩
 | .done,h=>h
 | .bar _,h=>let ⟨l,a,b⟩:=h;⟨l,hle _ _ a,b⟩
theorem RCok.plain {φ:Ph} {b:Frame} {K:Bool→List Frame} {rc:RC} (h:RCok φ b K rc) (hn:rc.isBar=false):b.roundOf=none:=by
 cases rc with
 | no=>exact h.1
 | pend v=>exact h.1
 | done=>exact h.1
 | bar l=>simp [RC.isBar] at hn
inductive ExR (φ:Ph):AEx→Exit→Prop
 | normal:ExR φ .normal .normal
 | exit (id:Nat):ExR φ (.exit id) (.exit id)
 | ret:ExR φ .ret .ret
 | panic (v:AV) (v':Value) (h:VR φ v v'):ExR φ (.panic v) (.panic [{v:=v',recovered:=false}])
def RetOK (E:Env) (f:FuncId) (args:List AV) (h:Heap) (v:AV) (h':Heap):Prop:=
 ∀(φ:Ph) (w:World) (vs:List Value),OK E φ h w→LR φ args vs→(callFunc f vs.toArray).run E.P w= .ok (.enter f vs.toArray) w∧
  ∀cs,∃φ' w' v' fr,VR φ' v v'∧OK E φ' h' w'∧Fr φ h w φ' h' w'∧
   Steps E.P (lone (Frame.enter E.P f vs.toArray .normal) cs w) (lone fr cs w')∧fr.fn=f∧fr.leaving E.P w' (.returned v')
def PanOK (E:Env) (f:FuncId) (args:List AV) (h:Heap) (v:AV) (h':Heap):Prop:=
 ∀(φ:Ph) (w:World) (vs:List Value),OK E φ h w→LR φ args vs→(callFunc f vs.toArray).run E.P w= .ok (.enter f vs.toArray) w∧
  ∀cs,∃φ' w' v' fr,VR φ' v v'∧OK E φ' h' w'∧Fr φ h w φ' h' w'∧
   Steps E.P (lone (Frame.enter E.P f vs.toArray .normal) cs w) (lone fr cs w')∧fr.fn=f∧fr.leaving E.P w' (.panicked [{v:=v',recovered:=false}])
inductive Pushes (E:Env) (φ:Ph) (w:World):Fn→List Value→Next→Frame→Prop
 | fn (f:FuncId) (vs:List Value) (hr:(callFunc f vs.toArray).run E.P w= .ok (.enter f vs.toArray) w):Pushes E φ w (.fn f) vs (.enter f vs.toArray) (Frame.enter E.P f vs.toArray .normal)
 | yld (l:Nat) (ll:Loc) (hl:φ l=some ll) (vs:List Value) (f:FuncId) (tmps:Array Value) (assign body:Code) (hr:(Instr.yield ll.blk vs.toArray).run E.P w= .ok (.round ll.blk f tmps assign body) w):
  Pushes E φ w (.yld l) vs (.round ll.blk f tmps assign body) (Frame.round ll.blk f tmps assign body .normal)
def FnOK (φ:Ph):Fn→Prop
 | .fn _=>True
 | .yld l=>∃ll,φ l=some ll
def RetOK' (E:Env) (F:Fn) (args:List AV) (h:Heap) (v:AV) (h':Heap):Prop:=
 ∀(φ:Ph) (w:World) (vs:List Value),OK E φ h w→FnOK φ F→LR φ args vs→∃n start,Pushes E φ w F vs n start∧
  ∀c cs,∃φ' w' v',VR φ' v v'∧OK E φ' h' w'∧Fr φ h w φ' h' w'∧Steps E.P (lone start (c::cs) w) (lone (c.finish v') cs w')
def PanOK' (E:Env) (F:Fn) (args:List AV) (h:Heap) (v:AV) (h':Heap):Prop:=
 ∀(φ:Ph) (w:World) (vs:List Value),OK E φ h w→FnOK φ F→LR φ args vs→∃n start,Pushes E φ w F vs n start∧
  ∀c cs,∃φ' w' v',VR φ' v v'∧OK E φ' h' w'∧Fr φ h w φ' h' w'∧Steps E.P (lone start (c::cs) w) (lone (c.raise [{v:=v',recovered:=false}]) cs w')
theorem RetOK.any {f:FuncId} {args:List AV} {h:Heap} {v:AV} {h':Heap} (r:RetOK E f args h v h'):RetOK' E (.fn f) args h v h':=fun φ w vs ok _ hl=>by
 obtain ⟨h1,h2⟩:=r φ w vs ok hl
 refine ⟨_,_,.fn f vs h1,fun c cs=>?_⟩
 obtain ⟨φ',w',v',fr,x1,x2,x3,x4,_,x5⟩:=h2 (c::cs)
 exact ⟨φ',w',v',x1,x2,x3,x4.trans (.one (step_leave_returned x5))⟩
theorem PanOK.any {f:FuncId} {args:List AV} {h:Heap} {v:AV} {h':Heap} (r:PanOK E f args h v h'):PanOK' E (.fn f) args h v h':=fun φ w vs ok _ hl=>by
 obtain ⟨h1,h2⟩:=r φ w vs ok hl
 refine ⟨_,_,.fn f vs h1,fun c cs=>?_⟩
 obtain ⟨φ',w',v',fr,x1,x2,x3,x4,_,x5⟩:=h2 (c::cs)
 exact ⟨φ',w',v',x1,x2,x3,x4.trans (.one (step_leave_panicked x5))⟩
structure CallOK (E:Env) (call:CallF):Prop where
 ret:∀f args h v h',call f args h= .ret v h'→RetOK' E f args h v h'
 panic:∀f args h v h',call f args h= .panic v h'→PanOK' E f args h v h'
structure EnvOK (E:Env):Prop where
 ext:ExtOK E
 special:∀f g,E.special f=some g→∀args h v h',g args h=some (v,h')→RetOK E f args h v h'
 names:∀(f:FuncId) (fn:Func),E.P.funcs[f]? =some fn→fn.name≠ "runtime.NumGoroutine"
 mixed:E.P.follows .mixedOrders=true
theorem put_LR {φ:Ph} {ts:List AV} {a:Act} (h:LR φ ts a.tmps.toList) (d:Option Tmp) {v:AV} {v':Value} (hv:VR φ v v'):LR φ (putT ts d v) (a.put d v').tmps.toList:=by
 cases d with
 | none=>exact h
 | some d=>simp only[putT,Act.put,Array.toList_setIfInBounds];exact h.set hv d
theorem put_defers (a:Act) (d:Option Tmp) (v:Value):(a.put d v).defers=a.defers:=by cases d<;>rfl
theorem SR.put {φ:Ph} {ts:List AV} {ds:List ADef} {a:Act} (h:SR φ ts ds a) (d:Option Tmp) {v:AV} {v':Value} (hv:VR φ v v'):SR φ (putT ts d v) ds (a.put d v'):=
 ⟨put_LR h.ts d hv,by rw[put_defers];exact h.ds⟩
theorem wantedA_eq {φ:Ph} {ops:Array Oper} {ts:List AV} {a:Act} (h:LR φ ts a.tmps.toList) (o:Oper):Region.wanted o (yielded ops a.tmps)=wantedA ops ts o:=by
 unfold Region.wanted wantedA
 cases o.guard with
 | none=>rfl
 | some g=>
   obtain ⟨j,want⟩:=g
   simp only[yielded]
   cases hd:(ops[j]?).bind (·.dst) with
   | none=>simp
   | some d=>
     simp only[Option.bind_some]
     cases hx:ts[d]? with
     | none=>
       have:a.tmps[d]? =none:=by
        have h1:=List.getElem?_eq_none_iff.1 hx
        rw[h.1] at h1
        have:=List.getElem?_eq_none_iff.2 h1
        simpa using this
       simp [this]
     | some x=>
       obtain ⟨y,hy,hv⟩:=h.get hx
       have hy':a.tmps[d]? =some y:=by simpa using hy
       rw[hy']
       cases hv with
       | any _ h=>cases y<;>first | (simp;done) | cases h
       | _=>simp
section
variable {b:Frame} {a:Act} {k:List Item} {cs:List Frame} {w:World} {ops:Array Oper} {i:Nat} {rest:List Nat} {o:Oper}
theorem fin_atR (ho:ops[i]? =some o) (v:Value):(b.atR a (.inRegion ops (i::rest)::k)).finish v=b.atR (a.put o.dst v) (.inRegion ops rest::k):=by
 rw[Frame.finish_atR,ho];rfl
theorem go_value {P:Program} (hsem:o.semAt b.roundOf a.eval=execOp a.eval o) (ho:ops[i]? =some o) (hw:Region.wanted o (yielded ops a.tmps)=true) {v:Value} {w':World} (hr:(execOp a.eval o).run P w= .ok (.value v) w'):
 step P (lone (b.atR a (.inRegion ops (i::rest)::k)) cs w)= .next (lone (b.atR (a.put o.dst v) (.inRegion ops rest::k)) cs w'):=by
 rw[←fin_atR ho]
 exact step_lone_go (by rw[stepGR_op (rest:=rest) ho hw,hsem];simp [stepG.apply,hr])
theorem go_skip' {P:Program} (hsem:o.semAt b.roundOf a.eval=execOp a.eval o) (ho:ops[i]? =some o) (hw:Region.wanted o (yielded ops a.tmps)=true) {w':World} (hr:(execOp a.eval o).run P w= .ok .skip w'):
 step P (lone (b.atR a (.inRegion ops (i::rest)::k)) cs w)= .next (lone (b.atR (a.put o.dst undef) (.inRegion ops rest::k)) cs w'):=by
 rw[←fin_atR ho]
 exact step_lone_go (by rw[stepGR_op (rest:=rest) ho hw,hsem];simp [stepG.apply,hr])
theorem go_enter {φ:Ph} (hsem:o.semAt b.roundOf a.eval=execOp a.eval o) (ho:ops[i]? =some o) (hw:Region.wanted o (yielded ops a.tmps)=true) {F:Fn} {vs:List Value} {n:Next} {start:Frame} (hp:Pushes E φ w F vs n start) (hr:(execOp a.eval o).run E.P w= .ok n w):
 step E.P (lone (b.atR a (.inRegion ops (i::rest)::k)) cs w)= .next (lone start (b.atR a (.inRegion ops (i::rest)::k)::cs) w):=by
 cases hp with
 | fn f vs _=>exact step_lone_go (by rw[stepGR_op (rest:=rest) ho hw,hsem];simp [stepG.apply,hr,Frame.atR])
 | yld l ll hl vs f tmps assign body _=>exact step_lone_go (by rw[stepGR_op (rest:=rest) ho hw,hsem];simp [stepG.apply,hr,Frame.atR])
theorem go_pan {P:Program} (hsem:o.semAt b.roundOf a.eval=execOp a.eval o) (ho:ops[i]? =some o) (hw:Region.wanted o (yielded ops a.tmps)=true) {v:Value} {w':World} (hr:(execOp a.eval o).run P w= .halt (.panic v) w'):
 step P (lone (b.atR a (.inRegion ops (i::rest)::k)) cs w)= .next (lone {b.atR a (.inRegion ops (i::rest)::k) with mode:= .panicking [{v,recovered:=false}]} cs w'):=by
 rw[←Frame.raise_atR]
 exact step_lone_go (by rw[stepGR_op (rest:=rest) ho hw,hsem];simp [stepG.apply,hr])
theorem go_defers {P:Program} (hsem:o.semAt b.roundOf a.eval=execOp a.eval o) (ho:ops[i]? =some o) (hw:Region.wanted o (yielded ops a.tmps)=true) {d:Deferred} {w':World} (hr:(execOp a.eval o).run P w= .ok (.defer d) w'):
 step P (lone (b.atR a (.inRegion ops (i::rest)::k)) cs w)= .next (lone (b.atR ({a with defers:=d::a.defers}.put o.dst undef) (.inRegion ops rest::k)) cs w'):=by
 have:({b.atR a (.inRegion ops (i::rest)::k) with defers:=d::a.defers}:Frame).finish undef=
  b.atR ({a with defers:=d::a.defers}.put o.dst undef) (.inRegion ops rest::k):=by
  have:=Frame.finish_atR b {a with defers:=d::a.defers} ops i rest k undef
  rw[ho] at this;exact this
 refine step_lone_go ?_
 rw[stepGR_op (rest:=rest) ho hw,hsem]
 simp only[stepG.apply,Sem.runT_eq,hr,GStep.bare_after]
 exact congrArg (fun fr=>GStep.go {frame:=fr,callers:=cs,status:= .running,dying:=none} w') this
theorem go_recover {P:Program} (hround:b.roundOf=none) (hsem:o.semAt b.roundOf a.eval=execOp a.eval o) (ho:ops[i]? =some o) (hw:Region.wanted o (yielded ops a.tmps)=true) {w':World} (hr:(execOp a.eval o).run P w= .ok .recover w') {v:Value} {cs':List Frame}
 (ht:tryRecover (b.atR a (.inRegion ops (i::rest)::k)) cs=some (v,cs')):
 step P (lone (b.atR a (.inRegion ops (i::rest)::k)) cs w)= .next (lone (b.atR (a.put o.dst v) (.inRegion ops rest::k)) cs' w'):=by
 rw[←fin_atR ho]
 refine step_lone_go ?_
 rw[stepGR_op (rest:=rest) ho hw,hsem]
 have hro:(b.atR a (.inRegion ops (i::rest)::k)).roundOf=none:=hround
 simp only[stepG.apply,Sem.runT_eq,if_true,hr,GStep.bare_after,hro,ht,GStep.bare_go]
theorem go_recover_no {P:Program} (hround:b.roundOf=none) (hsem:o.semAt b.roundOf a.eval=execOp a.eval o) (ho:ops[i]? =some o) (hw:Region.wanted o (yielded ops a.tmps)=true) {w':World} (hr:(execOp a.eval o).run P w= .ok .recover w')
 (ht:tryRecover (b.atR a (.inRegion ops (i::rest)::k)) cs=none):
 step P (lone (b.atR a (.inRegion ops (i::rest)::k)) cs w)= .next (lone (b.atR (a.put o.dst .nilIface) (.inRegion ops rest::k)) cs w'):=by
 rw[←fin_atR ho]
 refine step_lone_go ?_
 rw[stepGR_op (rest:=rest) ho hw,hsem]
 have hro:(b.atR a (.inRegion ops (i::rest)::k)).roundOf=none:=hround
 simp only[stepG.apply,Sem.runT_eq,if_true,hr,GStep.bare_after,hro,ht,GStep.bare_go]
end
def OpArr (P:Program) (m:Machine) (b:Frame) (ops:Array Oper) (rest:List Nat) (k:List Item) (cs:List Frame):Exit→Act→World→Prop
 | .normal,a,w=>Steps P m (lone (b.atR a (.inRegion ops rest::k)) cs w)
 | .panic chain,a,w=>∃todo,Steps P m (lone {b.atR a todo with mode:= .panicking chain} cs w)
 | _,_,_=>False
def tgtOK (φ:Ph):Fn→Target→List Value→List Value→Prop
 | .fn f,t,vs,all=>∃cap:List Value,t= .fn (.func f) cap.toArray∧all=vs++cap
 | .yld l,t,vs,all=>∃ll,φ l=some ll∧t= .fn (.yield ll.blk) #[]∧all=vs
theorem tgtOK.fnok {φ:Ph} {F:Fn} {t:Target} {vs all:List Value} (h:tgtOK φ F t vs all):FnOK φ F:=by
 cases F with
 | fn f=>trivial
 | yld l=>obtain ⟨ll,h,_⟩:=h;exact ⟨ll,h⟩
theorem callee_run {φ:Ph} (hg:GL E φ) {ts:List AV} {a:Act} (ht:LR φ ts a.tmps.toList) {c:Call} {f:Fn} {args:List AV} (h:callee E ts c=some (f,args)) (ty:TypeId):
 ∃(t:Target) (vs all:List Value),LR φ args all∧tgtOK φ f t vs all∧∀w,(resolve a.eval c ty).run E.P w= .ok {target:=t,args:=vs.toArray} w:=by
 unfold callee at h
 split at h
 · rename_i x hcx
   split at h
   · rename_i g first captured as hx has
     simp at h;obtain ⟨rfl,rfl⟩:=h
     have h1:=evs_VR hg ht hx
     have h2:=evAll_LR hg ht has
     generalize hcv:a.eval x=cv at h1
     obtain ⟨fs',cs',rfl,hf,hc⟩:=h1.func_inv
     refine ⟨.fn (.func g) cs'.toList.toArray,fs'.toList++c.args.toList.map a.eval,_,?_,⟨cs'.toList,rfl,rfl⟩,fun w=>?_⟩
     · rw[List.append_assoc]
       have:=(hf.append h2).append hc
       simpa [List.append_assoc] using this
     · simp [resolve,hcx,Deferred.ofValue,hcv,map_toArray]
   · rename_i l as hx has
     simp at h;obtain ⟨rfl,rfl⟩:=h
     have h1:=evs_VR hg ht hx
     have h2:=evAll_LR hg ht has
     generalize hcv:a.eval x=cv at h1
     cases h1 with
     | yield hl=>
       refine ⟨_,c.args.toList.map a.eval,_,h2,⟨_,hl,rfl,rfl⟩,fun w=>?_⟩
       simp [resolve,hcx,Deferred.ofValue,hcv,map_toArray]
   · simp at h
 · simp at h
theorem invoke_pushes {φ:Ph} {w:World} {F:Fn} {t:Target} {vs all:List Value} (ht:tgtOK φ F t vs all) {n:Next} {start:Frame} (hp:Pushes E φ w F all n start):(invoke t vs.toArray).run E.P w= .ok n w:=by
 cases hp with
 | fn f vs' hr=>
   obtain ⟨cap,rfl,rfl⟩:=ht
   simpa [invoke] using hr
 | yld l ll hl vs' f tmps assign body hr=>
   obtain ⟨ll',hl',rfl,rfl⟩:=ht
   rw[hl] at hl';simp at hl';subst hl'
   simpa [invoke] using hr
theorem sem_of {φ:Ph} {b:Frame} {K:Bool→List Frame} {rc:RC} (hrc:RCok φ b K rc) {o:Oper} (h:rc.isBar=false∨∀c,o.op≠ .defer c) (ρ:Operand→Value):o.semAt b.roundOf ρ=execOp ρ o:=by
 rcases h with h | h
 · rw[hrc.plain h];rfl
 · exact Oper.semAt_eq _ _ _ h
end Go.Ab
end
section
namespace Go.Ab
variable {E:Env}
theorem isBar_of {rc:RC} (h:∀l,rc= .bar l→False):rc.isBar=false:=by
 cases rc<;>first | rfl | exact (h _ rfl).elim
theorem OK.gl {φ:Ph} {h:Heap} {w:World} (ok:OK E φ h w):GL E φ:=ok.glob
inductive EffOK (E:Env) (call:CallF) (φ:Ph) (ts:List AV) (h:Heap) (rc:RC) (o:Oper) (a:Act) (w:World):EOut→Prop
 | val (v:AV) (h':Heap) (φ':Ph) (w':World) (v':Value) (hv:VR φ' v v') (ok:OK E φ' h' w') (fr:Fr φ h w φ' h' w')
  (run:(execOp a.eval o).run E.P w= .ok (.value v') w'):EffOK E call φ ts h rc o a w (.val v h')
 | skip (h':Heap) (φ':Ph) (w':World) (ok:OK E φ' h' w') (fr:Fr φ h w φ' h' w')
  (run:(execOp a.eval o).run E.P w= .ok .skip w'):EffOK E call φ ts h rc o a w (.val AV.undef h')
 | enter (v:AV) (h':Heap) (F:Fn) (args:List AV) (all:List Value) (hr:RetOK' E F args h v h') (hf:FnOK φ F) (hl:LR φ args all)
  (run:∀n start,Pushes E φ w F all n start→(execOp a.eval o).run E.P w= .ok n w):EffOK E call φ ts h rc o a w (.val v h')
 | pent (v:AV) (h':Heap) (F:Fn) (args:List AV) (all:List Value) (hr:PanOK' E F args h v h') (hf:FnOK φ F) (hl:LR φ args all)
  (run:∀n start,Pushes E φ w F all n start→(execOp a.eval o).run E.P w= .ok n w):EffOK E call φ ts h rc o a w (.panic v h')
 | defer (d:ADef) (d':Deferred) (hnb:rc.isBar=false) (hd:DR φ d d') (run:(execOp a.eval o).run E.P w= .ok (.defer d') w):EffOK E call φ ts h rc o a w (.defer d)
 | panic (v:AV) (v':Value) (hv:VR φ v v') (run:(execOp a.eval o).run E.P w= .halt (.panic v') w):EffOK E call φ ts h rc o a w (.panic v h)
 | recov (v:AV) (hrc:rc= .pend v) (run:(execOp a.eval o).run E.P w= .ok .recover w):EffOK E call φ ts h rc o a w (.recov v)
 | norec (hrc:∀v,rc≠ .pend v) (hnb:rc.isBar=false) (run:(execOp a.eval o).run E.P w= .ok .recover w):EffOK E call φ ts h rc o a w (.val .nilIface h)
 | fail (why:String) (q:Option Oper):EffOK E call φ ts h rc o a w (.fail why q)
theorem methodA_run {t:TypeId} {name:String} {f:FuncId} (h:methodA E t name=some f) (v:Value) (w:World):(method (E.P.types.size+Made.depth) t v name).run E.P w= .ok (f,v) w:=by
 unfold methodA at h
 split at h
 · rename_i i hi
   split at h
   · rename_i m hm
     split at h
     · rename_i hp
       split at h
       · simp at h
       · rename_i g d hne hf hu
         simp at h;subst h
         have hpl:m.path.toList=[]:=by simpa using hp
         have e:E.P.types.size+Made.depth=(E.P.types.size+99)+1:=rfl
         rw[e,method]
         have hti:(typeInfo t).run E.P w= .ok i w:=by simp [typeInfo,hi]
         simp only[Sem.run_bind,hti,Result.andThen_ok,hm,hpl,follow,Sem.run_pure,hf,receiverAt,run_underlying hu]
         cases d with
         | pointer x=>exact absurd rfl (hne x)
         | _=>simp [Place.get]
       · simp at h
     · simp at h
   · simp at h
 · simp at h
theorem done_val {call:CallF} {φ:Ph} {ts:List AV} {h:Heap} {rc:RC} {o:Oper} {a:Act} {w:World} {s:Sem Value} {v:AV} {h':Heap} (hd:Done E φ h w (s.run E.P w) v h')
 (he:execOp a.eval o=(do pure (.value (←s)):Sem Next)):EffOK E call φ ts h rc o a w (.val v h'):=by
 obtain ⟨φ',w',v',hr,hv,ok,fr⟩:=hd
 exact .val v h' φ' w' v' hv ok fr (by rw[he];exact run_v hr)
set_option maxHeartbeats 1000000 in
theorem effA_sound (hE:EnvOK E) {call:CallF} (hcall:CallOK E call) {φ:Ph} {ts:List AV} {h:Heap} {rc:RC} {o:Oper} {a:Act} {w:World} (ht:LR φ ts a.tmps.toList) (ok:OK E φ h w):
 EffOK E call φ ts h rc o a w (effA E call ts h rc o):=by
 have ev:∀{x:Operand} {v:AV},evs E ts x=some v→VR φ v (a.eval x):=fun h=>evs_VR ok.gl ht h
 obtain ⟨dst,op,ty,pos,after,guard⟩:=o
 unfold effA
 simp only
 split
 ·
  split
  · rename_i ha hx
    split
    · rename_i h' hst
      obtain ⟨w',hr,hok,hfr⟩:=storeA_run ok (ev ha) (ev hx) hst
      exact .skip h' φ w' hok hfr (by simp [execOp,hr])
    · exact .fail _ _
  · exact .fail _ _
 ·
  split
  · rename_i hm hk hx
    split
    · rename_i h' hst
      obtain ⟨w',hr,hok,hfr⟩:=mapUpdateA_run ok (ev hm) (ev hk) (ev hx) hst
      exact .skip h' φ w' hok hfr (by simp [execOp,hr])
    · exact .fail _ _
  · exact .fail _ _
 ·
  split
  · rename_i hm hk hx
    split
    · rename_i h' hst
      obtain ⟨w',hr,hok,hfr⟩:=mapUpdateA_run ok (ev hm) (ev hk) (ev hx) hst
      exact .skip h' φ w' hok hfr (by simp [execOp,hr])
    · exact .fail _ _
  · exact .fail _ _
 ·
  rename_i src dst x
  split
  · rename_i v h' hc
    cases hx:evs E ts x with
    | none=>rw[hx] at hc;simp [convA] at hc
    | some xv=>
      rw[hx] at hc
      exact done_val (convA_run ok hc (ev hx)) rfl
  · exact .fail _ _
 ·
  split
  · rename_i hi
    split
    · rename_i hn
      exact done_val (nextA_run ok hn (ev hi) ty) rfl
    · exact .fail _ _
  · exact .fail _ _
 ·
  split
  · rename_i hx
    have h1:=ev hx
    generalize hcv:a.eval _=cv at h1
    cases h1 with
    | iface t1 v1 v' hv=>
    exact .panic _ _ (.iface _ _ v' hv) (by simp [execOp,hcv,Instr.panic])
  · exact .fail _ _
 ·
  split
  · exact .fail _ _
  · rename_i f args hnb hc
    obtain ⟨t,vs,all,hl,⟨cap,rfl,rfl⟩,hr⟩:=callee_run ok.gl ht hc ty
    exact .defer _ {target:= .fn (.func f) cap.toArray,args:=vs.toArray} (isBar_of hnb) ⟨cap.toArray,rfl,by simpa using hl⟩ (by simp [execOp,hr])
  · exact .fail _ _
 ·
  rename_i c
  split
  ·
   rename_i hcal
   split
   · rename_i s x has
     have hl:=evAll_LR ok.gl ht has
     obtain ⟨s',r1,hr1,hs,hl1⟩:=hl.uncons
     obtain ⟨x',r2,hr2,hx,hl2⟩:=hl1.uncons
     have h0:c.args.map a.eval= #[s',x']:=by rw[map_toArray,hr1,hr2,hl2.nil_inv]
     split
     · rename_i hap
       exact done_val (appendA_run ok hap hs hx ty) (by simp [execOp,resolve,hcal,invoke,builtin,h0])
     · exact .fail _ _
   · exact .fail _ _
  ·
   rename_i hcal
   split
   · rename_i s x has
     have hl:=evAll_LR ok.gl ht has
     obtain ⟨s',r1,hr1,hs,hl1⟩:=hl.uncons
     obtain ⟨x',r2,hr2,hx,hl2⟩:=hl1.uncons
     have h0:c.args.map a.eval= #[s',x']:=by rw[map_toArray,hr1,hr2,hl2.nil_inv]
     split
     · rename_i hap
       exact done_val (copyA_run ok hap hs hx ty) (by simp [execOp,resolve,hcal,invoke,builtin,h0])
     · exact .fail _ _
   · exact .fail _ _
  ·
   rename_i hcal
   have hrun:(execOp a.eval ⟨dst,.call c,ty,pos,after,guard⟩).run E.P w= .ok .recover w:=by simp [execOp,resolve,hcal,invoke,builtin]
   split
   · exact .recov _ rfl hrun
   · exact .fail _ _
   · rename_i hne hnb
     exact .norec (fun v e=>hne v e) (isBar_of hnb) hrun
  ·
   rename_i fo hcal
   split
   · rename_i F args hc
     obtain ⟨t,vs,all,hl,htg,hr⟩:=callee_run ok.gl ht hc ty
     have hrun:∀n start,Pushes E φ w F all n start→(execOp a.eval ⟨dst,.call c,ty,pos,after,guard⟩).run E.P w= .ok n w:=fun n start hp=>by
      have:=invoke_pushes htg hp
      simp [execOp,hr,this]
     split
     · rename_i g hg
       split
       · rename_i v h' hgv
         cases F with
         | fn f=>exact .enter v h' (.fn f) args all (hE.special f g hg args h v h' hgv).any trivial hl hrun
         | yld l=>simp [specialOf] at hg
       · exact .fail _ _
     · split
       · rename_i v h' hcv
         exact .enter v h' F args all (hcall.ret F args h v h' hcv) htg.fnok hl hrun
       · rename_i v h' hcv
         exact .pent v h' F args all (hcall.panic F args h v h' hcv) htg.fnok hl hrun
       · exact .fail _ _
   · exact .fail _ _
  ·
   rename_i r name hcal
   split
   · rename_i t x args hx has
     split
     · rename_i f hm
       have h1:=ev hx
       generalize hcv:a.eval r=cv at h1
       cases h1 with
       | iface t1 v1 v' hv=>
       have hl:LR φ (x::args) (v'::c.args.toList.map a.eval):= .cons hv (evAll_LR ok.gl ht has)
       have hrun:∀n start,Pushes E φ w (.fn f) (v'::c.args.toList.map a.eval) n start→(execOp a.eval ⟨dst,.call c,ty,pos,after,guard⟩).run E.P w= .ok n w:=fun n start hp=>by
        cases hp with
        | fn f vs' hr=>
        have e1:(#[v']++(c.args.map a.eval))=(v'::c.args.toList.map a.eval).toArray:=by rw[map_toArray];simp
        have e2:(#[Value.iface t v']++c.args.map a.eval).extract 1 (#[Value.iface t v']++c.args.map a.eval).size=c.args.map a.eval:=by
         apply Array.ext';simp
         exact List.take_of_length_le (by simp)
        have e3:(#[Value.iface t v']++c.args.map a.eval)[0]? =some (Value.iface t v'):=by rw[Array.getElem?_append];rfl
        simp only[execOp,resolve,hcal,hcv,Sem.run_bind,Sem.run_pure,Result.andThen_ok,invoke,e3,e2,callMethod,run_program,methodA_run hm,e1,hr]
       split
       · rename_i v h' hcv'
         exact .enter v h' (.fn f) _ _ (hcall.ret (.fn f) _ h v h' hcv') trivial hl hrun
       · rename_i v h' hcv'
         exact .pent v h' (.fn f) _ _ (hcall.panic (.fn f) _ h v h' hcv') trivial hl hrun
       · exact .fail _ _
     · exact .fail _ _
   · exact .fail _ _
  · exact .fail _ _
 · exact .fail _ _
structure OpOut (E:Env) (φ:Ph) (h:Heap) (w:World) (b:Frame) (K:Bool→List Frame) (ops:Array Oper) (rest:List Nat) (k:List Item) (m:Machine) (e:AEx) (s':St):Prop where
 is:∃φ' w' a' e',ExR φ' e e'∧SR φ' s'.ts s'.ds a'∧OK E φ' s'.h w'∧Fr φ h w φ' s'.h w'∧RCok φ' b K s'.rc∧OpArr E.P m b ops rest k (cur K s'.rc) e' a' w'
set_option maxHeartbeats 1000000 in
theorem opA_sound (hE:EnvOK E) {call:CallF} (hcall:CallOK E call) {ops:Array Oper} {i:Nat} {rest:List Nat} {o:Oper} (ho:ops[i]? =some o) {s s':St} {e:AEx} (hop:opA E call s o= .ok e s')
 {φ:Ph} {a:Act} {w:World} {b:Frame} {k:List Item} {K:Bool→List Frame} (hs:SR φ s.ts s.ds a) (ok:OK E φ s.h w) (hrc:RCok φ b K s.rc) (hw:Region.wanted o (yielded ops a.tmps)=true):
 OpOut E φ s.h w b K ops rest k (lone (b.atR a (.inRegion ops (i::rest)::k)) (cur K s.rc) w) e s':=by
 have hsem:(s.rc.isBar=false∨∀c,o.op≠ .defer c)→o.semAt b.roundOf a.eval=execOp a.eval o:=fun h=>sem_of hrc h _
 unfold opA at hop
 split at hop
 · rename_i v hp
   have hnd:s.rc.isBar=false∨∀c,o.op≠ .defer c:= .inr (fun c e=>by rw[e] at hp;simp [pureA] at hp)
   simp at hop;obtain ⟨rfl,rfl⟩:=hop
   obtain ⟨v',hv,hr⟩:=pureA_sound hE.ext ok.gl hs.ts hp
   exact ⟨φ,w,_,_,.normal,hs.put o.dst hv,ok,Fr.refl _ _ _,hrc,.one (go_value (hsem hnd) ho hw (hr w))⟩
 · split at hop
   · rename_i v hp
     have hnd:s.rc.isBar=false∨∀c,o.op≠ .defer c:= .inr (fun c e=>by rw[e] at hp;simp [readA] at hp)
     simp at hop;obtain ⟨rfl,rfl⟩:=hop
     obtain ⟨v',hv,hr⟩:=readA_sound ok.gl ok hs.ts hp
     exact ⟨φ,w,_,_,.normal,hs.put o.dst hv,ok,Fr.refl _ _ _,hrc,.one (go_value (hsem hnd) ho hw (hr w rfl))⟩
   · split at hop
     · rename_i obj mk hp
       have hnd:s.rc.isBar=false∨∀c,o.op≠ .defer c:= .inr (fun c e=>by rw[e] at hp;simp [allocA] at hp)
       split at hop
       · rename_i h' hn
         simp at hop;obtain ⟨rfl,rfl⟩:=hop
         obtain ⟨O,mk',hmade,hr⟩:=allocA_sound ok.gl hs.ts hp
         obtain ⟨hok,hfr,hle⟩:=ok.fresh (w':=w.alloc O) hn ⟨w.heap.size,0,0⟩ (by
          have:=hmade.obj (φ.add s.h.nx ⟨w.heap.size,0,0⟩) w.heap.size (fun i m hm=>by
           unfold Ph.add;split
           · rename_i e;subst e;exact absurd (ok.dom _ _ hm) (Nat.lt_irrefl _)
           · exact hm)
          rw[show (w.alloc O).heap=w.heap.push O from rfl]
          simpa using this)
          (fun c hne hc=>by rw[show (w.alloc O).heap=w.heap.push O from rfl,Array.getElem?_push,if_neg (by simpa using hne)]) (by simp) (Nat.le_refl _) rfl rfl rfl
         have hv:=hmade.val (φ.add s.h.nx ⟨w.heap.size,0,0⟩) s.h.nx w.heap.size hle (by simp [Ph.add])
         exact ⟨_,_,_,_,.normal,(hs.mono hle).put o.dst hv,hok,hfr,hrc.mono hle,.one (go_value (hsem hnd) ho hw (hr w))⟩
       · simp at hop
     · have heff:=effA_sound hE hcall (rc:=s.rc) (o:=o) hs.ts ok
       have hnd:(∃d,effA E call s.ts s.h s.rc o= .defer d)∨(∃why q,effA E call s.ts s.h s.rc o= .fail why q)∨(s.rc.isBar=false∨∀c,o.op≠ .defer c):=by
        by_cases hd:∃c,o.op= .defer c
        · obtain ⟨c,hd⟩:=hd
          unfold effA
          simp only[hd]
          split
          · exact .inr (.inl ⟨_,_,rfl⟩)
          · exact .inl ⟨_,rfl⟩
          · exact .inr (.inl ⟨_,_,rfl⟩)
        · exact .inr (.inr (.inr (fun c e=>hd ⟨c,e⟩)))
       generalize effA E call s.ts s.h s.rc o=eo at hop heff hnd
       cases heff with
       | val v h' φ' w' v' hv ok' fr run=>
         have hnd:=(hnd.resolve_left (by simp)).resolve_left (by simp)
         simp at hop;obtain ⟨rfl,rfl⟩:=hop
         exact ⟨φ',w',_,_,.normal,(hs.mono fr.ext).put o.dst hv,ok',fr,hrc.mono fr.ext,.one (go_value (hsem hnd) ho hw run)⟩
       | skip h' φ' w' ok' fr run=>
         have hnd:=(hnd.resolve_left (by simp)).resolve_left (by simp)
         simp at hop;obtain ⟨rfl,rfl⟩:=hop
         exact ⟨φ',w',_,_,.normal,(hs.mono fr.ext).put o.dst (VR.undef φ'),ok',fr,hrc.mono fr.ext,.one (go_skip' (hsem hnd) ho hw run)⟩
       | enter v h' F args all hr hf hl run=>
         have hnd:=(hnd.resolve_left (by simp)).resolve_left (by simp)
         simp at hop;obtain ⟨rfl,rfl⟩:=hop
         obtain ⟨n,start,hp,hst⟩:=hr φ w all ok hf hl
         obtain ⟨φ',w',v',hv,ok',fr,hsteps⟩:=hst (b.atR a (.inRegion ops (i::rest)::k)) (cur K s.rc)
         rw[fin_atR ho] at hsteps
         exact ⟨φ',w',_,_,.normal,(hs.mono fr.ext).put o.dst hv,ok',fr,hrc.mono fr.ext,.head (go_enter (hsem hnd) ho hw hp (run n start hp)) hsteps⟩
       | pent v h' F args all hr hf hl run=>
         have hnd:=(hnd.resolve_left (by simp)).resolve_left (by simp)
         simp at hop;obtain ⟨rfl,rfl⟩:=hop
         obtain ⟨n,start,hp,hst⟩:=hr φ w all ok hf hl
         obtain ⟨φ',w',v',hv,ok',fr,hsteps⟩:=hst (b.atR a (.inRegion ops (i::rest)::k)) (cur K s.rc)
         rw[Frame.raise_atR] at hsteps
         exact ⟨φ',w',a,_,.panic v v' hv,hs.mono fr.ext,ok',fr,hrc.mono fr.ext,.inRegion ops (i::rest)::k,.head (go_enter (hsem hnd) ho hw hp (run n start hp)) hsteps⟩
       | defer d d' hnb hd run=>
         simp at hop;obtain ⟨rfl,rfl⟩:=hop
         have h1:SR φ s.ts (d::s.ds) {a with defers:=d'::a.defers}:=⟨hs.ts,hd,hs.ds⟩
         exact ⟨φ,w,_,_,.normal,h1.put o.dst (VR.undef φ),ok,Fr.refl _ _ _,hrc,.one (go_defers (sem_of hrc (.inl hnb) _) ho hw run)⟩
       | panic v v' hv run=>
         have hnd:=(hnd.resolve_left (by simp)).resolve_left (by simp)
         simp at hop;obtain ⟨rfl,rfl⟩:=hop
         exact ⟨φ,w,a,_,.panic v v' hv,hs,ok,Fr.refl _ _ _,hrc,_,.one (go_pan (hsem hnd) ho hw run)⟩
       | recov v hrcv run=>
         simp at hop;obtain ⟨rfl,rfl⟩:=hop
         rw[hrcv] at hrc ⊢
         have hplain:=hrc.plain rfl
         have hsem0:=sem_of hrc (o:=o) (.inl rfl) a.eval
         obtain ⟨_,⟨v',hv,htr⟩,hdone⟩:=hrc
         exact ⟨φ,w,_,_,.normal,hs.put o.dst hv,ok,Fr.refl _ _ _,⟨hplain,hdone⟩,.one (go_recover hplain hsem0 ho hw run (htr _ rfl))⟩
       | norec hne hnb run=>
         simp at hop;obtain ⟨rfl,rfl⟩:=hop
         have hno:∀fr:Frame,fr.kind=b.kind→tryRecover fr (cur K s.rc)=none:=by
          cases hrcc:s.rc with
          | no=>rw[hrcc] at hrc;exact hrc.2
          | pend v=>exact absurd hrcc (hne v)
          | done=>rw[hrcc] at hrc;exact hrc.2
          | bar l=>rw[hrcc] at hnb;simp [RC.isBar] at hnb
         exact ⟨φ,w,_,_,.normal,hs.put o.dst .nilIface,ok,Fr.refl _ _ _,hrc,.one (go_recover_no (hrc.plain hnb) (sem_of hrc (.inl hnb) _) ho hw run (hno _ rfl))⟩
       | fail why q=>simp at hop
end Go.Ab
end
section
namespace Go.Ab
variable {E:Env}
def Agree (E:Env) (ts ts':List AV) (op:Op):Prop:=∀x∈op.operands,evs E ts x=evs E ts' x
theorem mapAll_congr {α β:Type} {f g:α→Option β}:∀{l:List α} (_:∀x∈l,f x=g x),mapAll f l=mapAll g l
 | [],_=>rfl
 | x::xs,h=>by simp only[mapAll,h x (by simp),mapAll_congr (l:=xs) (fun y hy=>h y (by simp [hy]))]
theorem evAll_congr {ts ts':List AV} {l:List Operand} (h:∀x∈l,evs E ts x=evs E ts' x):evAll E ts l=evAll E ts' l:=mapAll_congr h
theorem partsA_congr {ts ts':List AV}:∀{l:List (Nat×Operand)} (_:∀x∈l.map (·.2),evs E ts x=evs E ts' x),partsA E ts l=partsA E ts' l
 | [],_=>rfl
 | (i,o)::l,h=>by simp only[partsA,h o (by simp),partsA_congr (l:=l) (fun y hy=>h y (by simp at hy ⊢;exact .inr hy))]
theorem optOp_congr {ts ts':List AV} {o:Option Operand} (h:∀x∈o.toArray,evs E ts x=evs E ts' x):optOp E ts o=optOp E ts' o:=by
 cases o with
 | none=>rfl
 | some o=>simp only[optOp,h o (by simp)]
theorem callee_congr {ts ts':List AV} {c:Call} (h:∀x∈c.operands,evs E ts x=evs E ts' x):callee E ts c=callee E ts' c:=by
 unfold callee
 cases hc:c.callee with
 | value f=>
   have h1:evs E ts f=evs E ts' f:=h f (by simp [Call.operands,hc])
   have h2:evAll E ts c.args.toList=evAll E ts' c.args.toList:=evAll_congr (fun x hx=>h x (by simp [Call.operands,hc];exact .inr (by simpa using hx)))
   simp only[h1,h2]
 | invoke _ _=>rfl
 | builtin _=>rfl
theorem call_args_congr {ts ts':List AV} {c:Call} (h:∀x∈c.operands,evs E ts x=evs E ts' x):evAll E ts c.args.toList=evAll E ts' c.args.toList:=
 evAll_congr (fun x hx=>h x (by simp [Call.operands];exact .inr (by simpa using hx)))
theorem pureA_congr {ts ts':List AV} {op:Op} (h:Agree E ts ts' op):pureA E ts op=pureA E ts' op:=by
 cases op with
 | call c=>
   have hc:=call_args_congr (E:=E) (ts:=ts) (ts':=ts') (c:=c) h
   obtain ⟨callee,args,argTypes⟩:=c
   simp only at hc
   cases callee with
   | builtin b=>cases b<;>simp only[pureA,hc]
   | value f=>cases f<;>simp only[pureA,hc]
   | invoke r m=>simp only[pureA]
 | build t ps=>
   have:partsA E ts ps.toList=partsA E ts' ps.toList:=partsA_congr (fun x hx=>h x (by simpa [Op.operands] using hx))
   simp only[pureA,this]
 | makeFunc fn first captured=>
   cases fn with
   | func f=>
     have h1:evAll E ts first.toList=evAll E ts' first.toList:=evAll_congr (fun x hx=>h x (by simp [Op.operands];exact .inl (by simpa using hx)))
     have h2:evAll E ts captured.toList=evAll E ts' captured.toList:=evAll_congr (fun x hx=>h x (by simp [Op.operands];exact .inr (by simpa using hx)))
     simp only[pureA,h1,h2]
   | _=>simp only[pureA]
 | slice t x lo hi mx=>
   have h0:evs E ts x=evs E ts' x:=h x (by simp [Op.operands])
   have h1:optOp E ts lo=optOp E ts' lo:=optOp_congr (fun y hy=>h y (by simp [Op.operands] at hy ⊢;exact .inr (.inl hy)))
   have h2:optOp E ts hi=optOp E ts' hi:=optOp_congr (fun y hy=>h y (by simp [Op.operands] at hy ⊢;exact .inr (.inr (.inl hy))))
   have h3:optOp E ts mx=optOp E ts' mx:=optOp_congr (fun y hy=>h y (by simp [Op.operands] at hy ⊢;exact .inr (.inr (.inr hy))))
   simp only[pureA,h0,h1,h2,h3]
 | move x=>simp only[pureA,h x (by simp [Op.operands])]
 | assign x=>simp only[pureA,h x (by simp [Op.operands])]
 | pick c a b=>simp only[pureA,h c (by simp [Op.operands]),h a (by simp [Op.operands]),h b (by simp [Op.operands])]
 | nilCheck x=>simp only[pureA,h x (by simp [Op.operands])]
 | binOp o t x y u=>simp only[pureA,h x (by simp [Op.operands]),h y (by simp [Op.operands])]
 | unOp o t x=>simp only[pureA,h x (by simp [Op.operands])]
 | convert s d x=>simp only[pureA,h x (by simp [Op.operands])]
 | makeInterface t x=>simp only[pureA,h x (by simp [Op.operands])]
 | fieldAddr s x f=>simp only[pureA,h x (by simp [Op.operands])]
 | field s x f=>simp only[pureA,h x (by simp [Op.operands])]
 | indexAddr t x i=>simp only[pureA,h x (by simp [Op.operands]),h i (by simp [Op.operands])]
 | index t x i=>simp only[pureA,h x (by simp [Op.operands]),h i (by simp [Op.operands])]
 | extract x i=>simp only[pureA,h x (by simp [Op.operands])]
 | typeAssert x a b ok=>simp only[pureA,h x (by simp [Op.operands])]
 | _=>simp only[pureA]
theorem readA_congr {ts ts':List AV} {op:Op} (h:Agree E ts ts' op) (hp:Heap):readA E ts hp op=readA E ts' hp op:=by
 cases op with
 | call c=>
   have hc:=call_args_congr (E:=E) (ts:=ts) (ts':=ts') (c:=c) h
   obtain ⟨callee,args,argTypes⟩:=c
   simp only at hc
   cases callee with
   | builtin b=>cases b<;>simp only[readA,hc]
   | value f=>simp only[readA]
   | invoke r m=>simp only[readA]
 | load t a=>simp only[readA,h a (by simp [Op.operands])]
 | convert s d x=>simp only[readA,h x (by simp [Op.operands])]
 | lookup t x i ok=>simp only[readA,h x (by simp [Op.operands]),h i (by simp [Op.operands])]
 | _=>simp only[readA]
theorem allocA_congr {ts ts':List AV} {op:Op} (h:Agree E ts ts' op):allocA E ts op=allocA E ts' op:=by
 cases op with
 | buildSlice t n ps=>
   have:partsA E ts ps.toList=partsA E ts' ps.toList:=partsA_congr (fun x hx=>h x (by simpa [Op.operands] using hx))
   simp only[allocA,this]
 | box t x=>simp only[allocA,h x (by simp [Op.operands])]
 | makeSlice t l c=>simp only[allocA,h l (by simp [Op.operands]),h c (by simp [Op.operands])]
 | makeMap t r=>
   cases r with
   | none=>simp only[allocA]
   | some r=>simp only[allocA,h r (by simp [Op.operands])]
 | range t x=>simp only[allocA,h x (by simp [Op.operands])]
 | _=>simp only[allocA]
theorem effA_congr {call:CallF} {ts ts':List AV} {o:Oper} (h:Agree E ts ts' o.op) (hp:Heap) (rc:RC):effA E call ts hp rc o=effA E call ts' hp rc o:=by
 obtain ⟨dst,op,ty,pos,after,guard⟩:=o
 simp only at h
 unfold effA
 cases op with
 | call c=>
   have hc:=call_args_congr (E:=E) (ts:=ts) (ts':=ts') (c:=c) h
   have hcal:=callee_congr (E:=E) (ts:=ts) (ts':=ts') (c:=c) h
   cases hcc:c.callee with
   | invoke r name=>
     have hr:evs E ts r=evs E ts' r:=h r (by simp [Op.operands,Call.operands,hcc])
     simp only[hcc,hc,hr]
   | builtin b=>cases b<;>simp only[hcc,hc]
   | value f=>simp only[hcc,hcal]
 | defer c=>simp only[callee_congr (E:=E) (ts:=ts) (ts':=ts') (c:=c) h]
 | store t a x=>simp only[h a (by simp [Op.operands]),h x (by simp [Op.operands])]
 | mapUpdate t m k x=>simp only[h m (by simp [Op.operands]),h k (by simp [Op.operands]),h x (by simp [Op.operands])]
 | insert t m k x=>simp only[h m (by simp [Op.operands]),h k (by simp [Op.operands]),h x (by simp [Op.operands])]
 | convert s d x=>simp only[h x (by simp [Op.operands])]
 | next i s=>simp only[h i (by simp [Op.operands])]
 | panic x=>simp only[h x (by simp [Op.operands])]
 | _=>rfl
end Go.Ab
end
