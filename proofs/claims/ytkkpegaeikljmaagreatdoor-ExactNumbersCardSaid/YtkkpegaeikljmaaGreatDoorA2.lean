import Derived.Laws.BitsLemmas
import Derived.Laws.RangeString
import Derived.Defers
import Derived.AtR
import Derived.RangeFuncNested
import Derived.Test.YtkkpegaeikljmaaGreatDoorA1
set_option linter.unusedVariables false
set_option linter.unusedSimpArgs false
section
namespace Go.Ab
variable {E:Env}
def U6 (E:Env) (φ:Ph) (h:ah) (w:World) (r:Result Value) (v:AV) (h':ah):Prop:=
 ∃φ' w' v',r= .ok v' w'∧VR φ' v v'∧OK E φ' h' w'∧Fr φ h w φ' h' w'
theorem FJ {φ:Ph} {vs:List AV} {sK:List Value} (h:LR φ vs sK) (hs:vs.all AV.scalar=true):∀v∈sK,v.oneCell'=true:=by
 intro v hv
 obtain ⟨i,hi⟩:=List.getElem?_of_mem hv
 have Ql:i<vs.length:=by rw[h.1];exact (List.getElem?_eq_some_iff.1 hi).1
 have:=h.2 i vs[i] v (by simp [Ql]) hi
 exact this.scalar (List.all_eq_true.1 hs _ (List.getElem_mem Ql))
theorem CX {φ:Ph} {h:ah} {w:World} (ok:OK E φ h w) {i:Nat} {cs:List AV} {e:TypeId} (hg:h.get i=some (.cells cs e false)) {l:Loc} (hφ:φ i=some l)
 {vs:List AV} {sK:List Value} (hl:LR φ vs sK) (o:Nat) (hle:o+vs.length≤cs.length) (Ti:vs.all AV.scalar=true):
 ∃w',(storeCells ⟨l.fO,l.off+o,none⟩ sK).run E.P w= .ok () w'∧OK E φ (h.put i (some (.cells (setFrom cs o vs) e false))) w'∧
  Fr φ h w φ (h.put i (some (.cells (setFrom cs o vs) e false))) w':=by
 obtain ⟨C,e',lo,hi,hb,hc⟩:=ok.cells hg hφ
 have QO:=hc.size
 have hlen:=hl.1
 have iH:=zE (P:=E.P) hb (l.off+o) sK (by omega) (fun k h1 h2=>hc.free rfl k (by omega) (by omega)) (FJ hl Ti)
 refine ⟨_,iH,?_⟩
 obtain ⟨h1,h2,h3⟩:=vX sK w l.fO (l.off+o)
 refine ok.change hg rfl hφ ?_ (fun c cR=>j5 sK (Ne.symm cR) _) (sI _ _ _ _) h1 h2 h3
 refine ⟨j4 C (l.off+o) sK,e',lo,hi,sH sK hb _,?_,fun k x hk=>?_,fun _ k a b=>hc.free rfl k a (by rw[cV] at b;exact b),fun h=>by cases h⟩
 · rw[cV,vW];exact QO
 · rw[fV] at hk
   rw[Ad]
   split at hk
   · rename_i hin
     rw[if_pos (by omega)]
     obtain ⟨y,hy,hr⟩:=hl.get hk
     exact ⟨y,by rw[show l.off+k -(l.off+o)=k - o by omega];exact hy,hr⟩
   · rename_i hin
     have Q3:k<cs.length:=(List.getElem?_eq_some_iff.1 hk).1
     rw[if_neg (by omega)]
     exact hc.val k x hk
theorem Q4 {φ:Ph} {h h':ah} {w:World} (ok:OK E φ h w) {t:TypeId} {av xv:AV} {a' x':Value} (ha:VR φ av a') (hx:VR φ xv x') (e:ch E h t av xv=some h'):
 ∃w',(Instr.storeAt t a' x').run E.P w= .ok () w'∧OK E φ h' w'∧Fr φ h w φ h' w':=by
 unfold ch at e
 split at e
 · rename_i i o
   cases ha with
   | @ptr _ l _ hφ=>
   split at e
   · rename_i cs el n hg hn
     split at e
     · rename_i hc
       simp at e;subst e
       obtain ⟨w',iH,rJ,vB⟩:=CX ok hg hφ hx.cells o (by omega) hc.2.2
       refine ⟨w',?_,rJ,vB⟩
       have hs:x'.cells.size=n:=by have:=hx.cells.1;simp at this;omega
       simp only[Instr.storeAt,Instr.sureAddr,Sem.run_bind,Sem.run_pure,Result.andThen_ok,storeVar,dN hn,hs,ne_eq,not_true_eq_false,if_false,iH]
     · simp at e
   · simp at e
 · simp at e
theorem FK {φ:Ph} {h:ah} {w:World} (ok:OK E φ h w) {size n:Nat} {x:AV} {x':Value} (hx:VR φ x x') {new:List AV} (e:iq h size n x=some new) (hn:rI x=some n∨True):
 ∃vC:List Value,LR φ new vC∧∀w',w'.heap=w.heap→(Builtin.firstCells size n x').run E.P w'= .ok vC.toArray w':=by
 unfold iq at e
 split at e
 · split at e
   · rename_i h0
     simp at e;subst e
     cases hx
     exact ⟨[],LR.nil φ,fun w' _=>by simp [Builtin.firstCells]⟩
   · simp at e
 · split at e
   · rename_i h0
     simp at e;subst e
     cases hx
     exact ⟨[],LR.nil φ,fun w' _=>by subst h0;simp only[Builtin.firstCells,Nat.zero_mul];rfl⟩
   · simp at e
 · rename_i i o len _ _
   split at e
   · split at e
     · rename_i h0
       simp at e;subst e
       cases hx
       exact ⟨[],LR.nil φ,fun w' _=>by subst h0;simp only[Builtin.firstCells,Nat.zero_mul];rfl⟩
     · split at e
       · rename_i cs el ro hg
         split at e
         · rename_i hle
           simp at e;subst e
           cases hx with
           | @slice _ l _ _ _ _ hφ=>
           obtain ⟨C,e',lo,hi,hb,hc⟩:=ok.cells hg hφ
           obtain ⟨vs,hvl,WS,Ip⟩:=hc.range o (n*size) hle
           refine ⟨vs,Ip,fun w' hw=>?_⟩
           rw[←hw] at hb
           have yU:=pn (P:=E.P) hb (l.off+o) vs WS
           rw[hvl] at yU
           simp only[Builtin.firstCells,yU]
         · simp at e
       · simp at e
   · simp at e
 · rename_i s
   split at e
   · rename_i xY
     simp at e;subst e
     generalize QW:AV.str s=s0 at hx
     cases hx<;>cases QW
     rename_i s'
     refine ⟨(s'.data.toList.take n).map (fun b=>Value.int .u8 b.toNat),⟨by simp,fun i p q hp hq=>?_⟩,fun w' _=>?_⟩
     · rw[←List.map_take,List.getElem?_map] at hp
       rw[List.getElem?_map] at hq
       cases hb:(s'.data.toList.take n)[i]? with
       | none=>rw[hb] at hp;simp at hp
       | some b=>
         rw[hb] at hp hq
         simp at hp hq
         subst hp;subst hq
         exact .int _ _
     · simp only[Builtin.firstCells,Sem.run_pure]
       congr 1
       apply Array.ext'
       simp
   · simp at e
 · simp at e
end Go.Ab
namespace Go.Ab
variable {E:Env}
theorem OK.reuse {φ:Ph} {h h':ah} {w w':World} (ok:OK E φ h w) {i:Nat} {o o':ar} {l l':Loc} (hg:h.get i=some o) (L4:o.rw=true) (hl:φ i=some l) (hb:l'.fO=l.fO)
 (hn:(h.put i none).new o'=some h') (ho:OR E (φ.add h.nx l') o' l' w'.heap[l.fO]?) (vY:∀c,c≠l.fO→w'.heap[c]? =w.heap[c]?) (fw:w'.heap.size=w.heap.size)
 (hos:w'.os=w.os) (L5:w'.tape=w.tape) (vZ:w'.output=w.output):
 OK E (φ.add h.nx l') h' w'∧Fr φ h w (φ.add h.nx l') h' w':=by
 obtain ⟨gL,po,vA,hold⟩:=ah.nX hn
 have E9:(h.put i none).nx=h.nx:=rfl
 rw[E9] at po vA hold
 have DK:φ h.nx=none:=by
  cases e:φ h.nx with
  | none=>rfl
  | some m=>exact absurd (ok.ED _ _ e) (Nat.lt_irrefl _)
 have hle:φ.le (φ.add h.nx l'):=fun j m hm=>by
  unfold Ph.add;split
  · rename_i e;subst e;rw[DK] at hm;simp at hm
  · exact hm
 have jx:∀j p,h'.get j=some p→(j=h.nx∧p=o')∨(j≠h.nx∧j≠i∧h.get j=some p):=fun j p hj=>by
  by_cases e:j=h.nx
  · subst e;rw[vA] at hj;simp at hj;exact .inl ⟨rfl,hj.symm⟩
  · rw[hold j e] at hj
    by_cases e':i=j
    · subst e';rw[ah.eF] at hj;simp at hj
    · rw[ah.bZ e'] at hj;exact .inr ⟨e,Ne.symm e',hj⟩
 have nh:∀j,j≠h.nx→(φ.add h.nx l') j=φ j:=fun j hj=>by simp [Ph.add,hj]
 have ju:(φ.add h.nx l') h.nx=some l':=by simp [Ph.add]
 refine ⟨⟨fun j m hm=>?_,?_,fun g hg=>hle _ _ (ok.Aa g hg),fun j p m hj hm=>?_,fun j k p q m n hj hk hm Af hw hbb=>?_⟩,
  ⟨hle,fun j hj=>nh j (by omega),by omega,hos,L5,vZ,Nat.le_of_eq fw.symm,fun b _ WO=>vY b (fun e=>WO i o l hg L4 hl e.symm),fun j p m hj hr hm=>?_⟩⟩
 · rw[po]
   by_cases e:j=h.nx
   · omega
   · rw[nh j e] at hm;have:=ok.ED j m hm;omega
 · have:=ok.nx;omega
 · rcases jx j p hj with ⟨rfl,rfl⟩ | ⟨cR,J_,Ae⟩
   · rw[ju] at hm;simp at hm;subst hm;exact hb▸ho
   · rw[nh j cR] at hm
     rw[vY _ (fun e=>J_ (ok.inj j i p o m l Ae hg hm hl (.inr L4) e))]
     exact (ok.live j p m Ae hm).mono hle
 · rcases jx j p hj with ⟨rfl,rfl⟩ | ⟨cR,hni,Ae⟩<;>rcases jx k q hk with ⟨rfl,rfl⟩ | ⟨J_,akv,IZ⟩
   · rfl
   · rw[ju] at hm;simp at hm;subst hm
     rw[nh k J_] at Af
     exact absurd (ok.inj k i q o n l IZ hg Af hl (.inr L4) (hbb.symm.trans hb)) akv
   · rw[ju] at Af;simp at Af;subst Af
     rw[nh j cR] at hm
     exact absurd (ok.inj j i p o m l Ae hg hm hl (.inr L4) (hbb.trans hb)) hni
   · rw[nh j cR] at hm;rw[nh k J_] at Af;exact ok.inj _ _ _ _ _ _ Ae IZ hm Af hw hbb
 · rcases jx j p hj with ⟨rfl,rfl⟩ | ⟨cR,hni,Ae⟩
   · rw[ju] at hm;simp at hm;subst hm;exact .inr ⟨i,o,l,hg,L4,hl,hb.symm⟩
   · rw[nh j cR] at hm;exact .inr ⟨j,p,m,Ae,hr,hm,rfl⟩
theorem I5:∀(rounds c Q5:Nat),c<Q5→Builtin.growBy Q5 rounds c≤2*Q5+1000
 | 0,c,n,h=>by simp [Builtin.growBy];omega
 | r+1,c,n,h=>by
   simp only[Builtin.growBy]
   split
   · omega
   · by_cases hc:c+(c+768) /4<n
     · exact I5 r _ n hc
     · cases r with
       | zero=>simp only[Builtin.growBy];omega
       | succ r=>simp only[Builtin.growBy];rw[if_pos (by omega)];omega
theorem nextslicecap_le {n c:Nat} (h:c<n):Builtin.nextslicecap n c≤4*n+4096:=by
 unfold Builtin.nextslicecap
 split
 · omega
 · split
   · omega
   · have:=I5 4 c n h;omega
theorem qe (z:Array Value) (n:Nat):(Builtin.zeroCells z n).size=n*z.size:=by simp [Builtin.zeroCells]
theorem vn {P:Program} {w:World} {sT xT ty elem:TypeId} {xd:TypeDesc} (hs:P.underlying sT=some (.slice elem)) (hx:P.underlying xT=some xd) (hxd:∀k,xd≠ .int k)
 {size bytes n:Nat} (fw:(P.info? elem).map (·.size)=some size) (j6:(P.info? elem).map (·.bytes)=some bytes) {z:Value} (hz:∀w,(zeroValue elem).run P w= .ok z w) (Q6:z.cells.size=size)
 {base:Option Addr} {len cap:Nat} {x':Value} (hn:∀w,(Builtin.lenOf x').run P w= .ok n w) {old new:List Value} (hold:∀w',w'.heap=w.heap→(Builtin.firstCells size len (.slice base len cap)).run P w'= .ok old.toArray w')
 (vA:∀w',w'.heap=w.heap→(Builtin.firstCells size n x').run P w'= .ok new.toArray w') (gL:cap<len+n) (gD:(4*(len+n)+4096)*(bytes+1)≤1099511627776) (hol:old.length=len*size) (WU:new.length=n*size):
 ∃nc:Nat,∃C:Array Value,len+n≤nc∧(∃rest,C.toList=old++new++rest)∧C.size=nc*size∧
  (Builtin.append_ #[sT,xT] ty #[.slice base len cap,x']).run P w= .ok (.slice (some ⟨w.heap.size,0,none⟩) (len+n) nc) (w.drew.alloc (.cells C elem)):=by
 let nc:=(Question.appendCap (len+n) cap elem).cut (w.tape w.drawn (.appendCap (len+n) cap elem))
 have L':len+n≤nc:=by show len+n≤len+n+_;omega
 let C:Array Value:=old.toArray++new.toArray++Builtin.zeroCells z.cells (nc -(len+n))
 refine ⟨nc,C,L',⟨(Builtin.zeroCells z.cells (nc -(len+n))).toList,by simp [C]⟩,?_,?_⟩
 · simp only[C,Array.size_append,qe,Q6,List.size_toArray,hol,WU]
   rw[←Nat.add_mul,←Nat.add_mul];congr 1;omega
 · obtain ⟨inf,L_,hb⟩:=s9 j6 w
   obtain ⟨akw,Xs,hb'⟩:=s9 j6 w.drew
   have hxm:(match xd with | .int _=>true | _=>false)=false:=by cases xd<;>first | rfl | exact absurd rfl (hxd _)
   have U7:¬len+n≤cap:=by omega
   have afs:=nextslicecap_le gL
   have hmul:(4*(len+n)+4096)*(bytes+1)=(4*(len+n)+4096)*bytes+(4*(len+n)+4096):=by rw[Nat.mul_add,Nat.mul_one]
   have Q7:¬Builtin.nextslicecap (len+n) cap*bytes>2^48:=by
    have:Builtin.nextslicecap (len+n) cap*bytes≤(4*(len+n)+4096)*bytes:=Nat.mul_le_mul_right _ afs
    omega
   have afu:IntKind.i64.max=9223372036854775807:=by decide
   have FL:¬(((len+n:Nat):Int) >IntKind.i64.max):=by rw[afu];omega
   have o1:=hold w.drew rfl
   have n1:=vA w.drew rfl
   have z1:=hz w.drew
   have hf:((!false)=true)=True:=by simp
   simp only[Builtin.append_,List.getElem?_toArray,List.getElem?_cons_zero,List.getElem?_cons_succ,Sem.run_bind,Sem.run_pure,Result.andThen_ok,run_underlying hs,run_underlying hx,dN fw,Bool.false_eq_true,if_false,hn,U7,L_]
   rw[if_neg (fun h=>FL h.1)]
   simp only[Sem.run_bind,L_,hb,Result.andThen_ok]
   rw[if_neg Q7]
   simp only[Sem.run_bind,run_choose,Question.forced,Bool.false_eq_true,if_false,World.drew_eq,Result.andThen_ok,Xs,run_askRoom,o1,hf,if_true,n1,z1,newRow,run_newObj,World.alloc_eq,Sem.run_pure]
   rfl
theorem te {P:Program} {w w':World} {sT xT ty elem:TypeId} {xd:TypeDesc} (hs:P.underlying sT=some (.slice elem)) (hx:P.underlying xT=some xd) (hxd:∀k,xd≠ .int k)
 {size n:Nat} (fw:(P.info? elem).map (·.size)=some size) {b O len cap:Nat} {x':Value} (hn:∀w,(Builtin.lenOf x').run P w= .ok n w) {new:List Value}
 (vA:(Builtin.firstCells size n x').run P w= .ok new.toArray w) (hle:len+n≤cap) (ja:(storeCells ⟨b,O+len*size,none⟩ new).run P w= .ok () w'):
 (Builtin.append_ #[sT,xT] ty #[.slice (some ⟨b,O,none⟩) len cap,x']).run P w= .ok (.slice (some ⟨b,O,none⟩) (len+n) cap) w':=by
 have hxm:(match xd with | .int _=>true | _=>false)=false:=by cases xd<;>first | rfl | exact absurd rfl (hxd _)
 have hf:((!false)=true)=True:=by simp
 simp only[Builtin.append_,List.getElem?_toArray,List.getElem?_cons_zero,List.getElem?_cons_succ,Sem.run_bind,Sem.run_pure,Result.andThen_ok,run_underlying hs,run_underlying hx,dN fw,hf,Bool.false_eq_true,if_false,if_true,hn,hle,vA,xW,ja]
theorem Bf {φ:Ph} {h h':ah} {w:World} (ok:OK E φ h w) {new:List AV} {elem:TypeId} (hn:h.new (.cells new elem false)=some h') {l:List Value} (hl:LR φ new l)
 {size nc n:Nat} (fw:bK E elem=some size) {C:Array Value} {rest:List Value} (hC:C.toList=l++rest) (WQ:C.size=nc*size) (L':n≤nc) (hll:l.length=n*size):
 U6 E φ h w (.ok (.slice (some ⟨w.heap.size,0,none⟩) n nc) (w.drew.alloc (.cells C elem))) (.slice h.nx 0 n n true) h':=by
 have WU:new.length=n*size:=by rw[hl.1,hll]
 obtain ⟨rJ,vB,hle⟩:=ok.fresh (w':=w.drew.alloc (.cells C elem)) hn ⟨w.heap.size,0,nc - n⟩ (by
  refine ⟨C,elem,0,0,by rw[show (w.drew.alloc (.cells C elem)).heap=w.heap.push (.cells C elem) from rfl];simp,?_,fun k x hk=>?_,fun _ k _ _=>by omega,fun _ _ _=>rfl⟩
  · simp only[e_,fw,Option.getD_some,WU,WQ,Nat.zero_add]
    rw[←Nat.add_mul];exact Nat.mul_le_mul_right _ (by omega)
  · obtain ⟨y,hy,hr⟩:=hl.get hk
    have Q3:k<l.length:=(List.getElem?_eq_some_iff.1 hy).1
    refine ⟨y,?_,hr.mono (fun i m hm=>?_)⟩
    · have:C.toList[k]? =some y:=by rw[hC,List.getElem?_append_left Q3];exact hy
      simpa using this
    · unfold Ph.add
      split
      · rename_i e;subst e;exact absurd (ok.ED _ _ hm) (Nat.lt_irrefl _)
      · exact hm)
  (fun c cR hc=>by
   have:(w.drew.alloc (.cells C elem)).heap[c]? =w.heap[c]? :=by
    rw[show (w.drew.alloc (.cells C elem)).heap=w.heap.push (.cells C elem) from rfl,Array.getElem?_push,if_neg (by simpa using cR)]
   exact this) (by simp) (Nat.le_refl _) rfl rfl rfl
 refine ⟨_,_,_,rfl,?_,rJ,vB⟩
 have:=VR.slice (φ:=φ.add h.nx ⟨w.heap.size,0,nc - n⟩) (i:=h.nx) (l:=⟨w.heap.size,0,nc - n⟩) 0 n n true (by simp [Ph.add])
 simp only[gC,if_true] at this
 rw[show n+(nc - n)=nc by omega] at this
 exact this
theorem Fr.ab7 {φ φ':Ph} {h h':ah} {w w':World} {i:Nat} (f:Fr φ (h.put i none) w φ' h' w'):Fr φ h w φ' h' w':=by
 have jx:∀j p,(h.put i none).get j=some p→h.get j=some p:=fun j p hj=>by
  by_cases e:i=j
  · subst e;rw[ah.eF] at hj;simp at hj
  · rw[ah.bZ e] at hj;exact hj
 exact ⟨f.ext,f.old,f.nx,f.os,f.tape,f.output,f.size,fun b hb hn=>f.EF b hb (fun j p m hj=>hn j p m (jx j p hj)),
  fun j p m hj hr hm=>(f.own j p m hj hr hm).imp id (fun ⟨k,q,n,a,b⟩=>⟨k,q,n,jx k q a,b⟩)⟩
theorem qf {φ:Ph} {x:AV} {n:Nat} (h:rI x=some n) {x':Value} (hx:VR φ x x') (P:Program) (w:World):(Builtin.lenOf x').run P w= .ok n w:=by
 cases x<;>simp [rI] at h
 · subst h
   generalize QW:AV.str _=s0 at hx
   cases hx<;>cases QW
   rfl
 · cases hx;subst h;rfl
 · cases hx;subst h;rfl
 · cases hx;subst h;rfl
theorem EI {P:Program} {w:World} {sT xT ty elem:TypeId} {kx:IntKind} (hs:P.underlying sT=some (.slice elem)) (hx:P.underlying xT=some (.int kx))
 {size bytes:Nat} (fw:(P.info? elem).map (·.size)=some size) (j6:(P.info? elem).map (·.bytes)=some bytes) {z:Value} (hz:∀w,(zeroValue elem).run P w= .ok z w) (Q6:z.cells.size=size)
 {k:IntKind} {n:Int} (hn:0<n) (hs0:0<size) (gD:(4*n.toNat+4096)*(bytes+1)≤1099511627776):
 ∃nc:Nat,∃C:Array Value,n.toNat≤nc∧(∃rest,C.toList=(Builtin.zeroCells z.cells n.toNat).toList++rest)∧C.size=nc*size∧
  (Builtin.append_ #[sT,xT] ty #[.slice none 0 0,.int k n]).run P w= .ok (.slice (some ⟨w.heap.size,0,none⟩) n.toNat nc) (w.drew.alloc (.cells C elem)):=by
 let nc:=(Question.appendCap (0+n.toNat) 0 elem).cut (w.tape w.drawn (.appendCap (0+n.toNat) 0 elem))
 have L':n.toNat≤nc:=by show n.toNat≤0+n.toNat+_;omega
 let C:Array Value:= #[]++Builtin.zeroCells z.cells n.toNat++Builtin.zeroCells z.cells (nc -(0+n.toNat))
 refine ⟨nc,C,L',⟨(Builtin.zeroCells z.cells (nc -(0+n.toNat))).toList,by simp [C]⟩,?_,?_⟩
 · simp only[C,Array.size_append,qe,Q6,Array.size_empty,Nat.zero_add]
   rw[←Nat.add_mul];congr 1;omega
 · obtain ⟨inf,L_,hb⟩:=s9 j6 w
   obtain ⟨akw,Xs,hb'⟩:=s9 j6 w.drew
   have hmul:(4*n.toNat+4096)*(bytes+1)=(4*n.toNat+4096)*bytes+(4*n.toNat+4096):=by rw[Nat.mul_add,Nat.mul_one]
   have WU:n.toNat≤1099511627776:=by omega
   have ahl:IntKind.i64.wrap n=n:=by
    rw[IntKind.wrap_i64];omega
   have U8:¬n<0:=by omega
   have FM:n*(bytes:Int)=((n.toNat*bytes:Nat):Int):=by rw[Int.natCast_mul,Int.toNat_of_nonneg (by omega)]
   have hle:n.toNat*bytes≤(4*n.toNat+4096)*bytes:=Nat.mul_le_mul_right _ (by omega)
   have ahm:¬n*(bytes:Int) >2^48:=by rw[FM];omega
   have U7:¬0+n.toNat≤0:=by omega
   have afs:=nextslicecap_le (show 0<0+n.toNat by omega)
   have Q7:¬Builtin.nextslicecap (0+n.toNat) 0*bytes>2^48:=by
    have:Builtin.nextslicecap (0+n.toNat) 0*bytes≤(4*(0+n.toNat)+4096)*bytes:=Nat.mul_le_mul_right _ afs
    rw[Nat.zero_add] at this
    rw[Nat.zero_add]
    omega
   have afu:IntKind.i64.max=9223372036854775807:=by decide
   have FL:¬(((0+n.toNat:Nat):Int) >IntKind.i64.max):=by rw[afu];omega
   have hns:¬n.toNat*size=0:=by
    have h1:0<n.toNat:=by omega
    have:=Nat.mul_pos h1 hs0;omega
   have z1:=hz w.drew
   have hf:((!true)=true)=False:=by simp
   have hai:∀w,(asInt (.int k n)).run P w= .ok n w:=fun _=>rfl
   simp only[Builtin.append_,List.getElem?_toArray,List.getElem?_cons_zero,List.getElem?_cons_succ,Sem.run_bind,Sem.run_pure,Result.andThen_ok,run_underlying hs,run_underlying hx,dN fw,if_true,hai,ahl]
   rw[if_neg U8]
   simp only[Sem.run_bind,L_,hb,Result.andThen_ok]
   rw[if_neg ahm]
   simp only[Sem.run_bind,Sem.run_pure,Result.andThen_ok]
   rw[if_neg U7]
   simp only[Sem.run_bind,Result.andThen_ok,L_,hb]
   rw[if_neg (fun h=>FL h.1)]
   simp only[Sem.run_bind,L_,hb,Result.andThen_ok]
   rw[if_neg Q7]
   simp only[Sem.run_bind,run_choose,Question.forced,Bool.false_eq_true,if_false,World.drew_eq,Result.andThen_ok,Xs,run_askRoom,Builtin.firstCells,hf,if_neg hns,z1,newRow,run_newObj,World.alloc_eq,Sem.run_pure]
   simp only[nc,C,Nat.zero_add]
   rfl
theorem Ma {φ:Ph} {h h':ah} {w:World} (ok:OK E φ h w) {argTypes:Array TypeId} {s x v:AV} (e:dI E h argTypes s x=some (v,h')) {s' x':Value} (hs:VR φ s s') (hx:VR φ x x') (ty:TypeId):
 U6 E φ h w ((Builtin.append_ argTypes ty #[s',x']).run E.P w) v h':=by
 unfold dI at e
 split at e
 · rename_i sT xT hsT hxT
   split at e
   · rename_i elem xd hus hux
     split at e
     · rename_i hint
       cases xd<;>simp [pZ] at hint
       have key:(Builtin.append_ argTypes ty #[s',x']).run E.P w=(Builtin.append_ #[sT,xT] ty #[s',x']).run E.P w:=by
        unfold Builtin.append_;simp only[hsT,hxT];rfl
       rw[key]
       unfold DI at e
       split at e
       · rename_i k0 k size bytes z fw j6 hzero
         split at e
         · rename_i hc
           obtain ⟨hk,hs0,gD,hzl⟩:=hc
           split at e
           · rename_i h1 DT
             simp at e;obtain ⟨rfl,rfl⟩:=e
             cases hs;cases hx
             obtain ⟨z',Ig,my⟩:=jN hzero
             have Q6:z'.cells.size=size:=by have:=(Ig φ).cells.1;simp at this;omega
             obtain ⟨nc,C,L',⟨rest,hC⟩,WQ,iH⟩:=EI (P:=E.P) (w:=w) (ty:=ty) (k:=k0) hus hux fw j6 my Q6 hk hs0 gD
             rw[iH]
             exact Bf (n:=k.toNat) ok DT (l:=(Builtin.zeroCells z'.cells k.toNat).toList) (QZ (Ig φ).cells k.toNat) fw hC WQ L' (by rw[Array.length_toList,qe,Q6])
           · simp at e
         · simp at e
       · simp at e
     rename_i ahn
     have hxd:∀k,xd≠ .int k:=fun k he=>by subst he;simp [pZ] at ahn
     split at e
     · rename_i size bytes n fw j6 hlen
       split at e
       · rename_i new z Aj hzero
         split at e
         · rename_i hc
           obtain ⟨hzl,Ti,adP⟩:=hc
           obtain ⟨z',Ig,my⟩:=jN hzero
           have Q6:z'.cells.size=size:=by have:=(Ig φ).cells.1;simp at this;omega
           obtain ⟨vC,Iq,Bg⟩:=FK ok hx Aj (.inr trivial)
           have WU:vC.length=n*size:=by rw[←Iq.1];exact adP
           have key:(Builtin.append_ argTypes ty #[s',x']).run E.P w=(Builtin.append_ #[sT,xT] ty #[s',x']).run E.P w:=by
            unfold Builtin.append_;simp only[hsT,hxT];rfl
           rw[key]
           split at e
           ·
            cases hs
            split at e
            · rename_i hn0
              simp at e;obtain ⟨rfl,rfl⟩:=e
              subst hn0
              refine ⟨φ,w,_,?_,.ax,ok,Fr.refl φ h w⟩
              have hxm:(match xd with | .int _=>true | _=>false)=false:=by cases xd<;>first | rfl | exact absurd rfl (hxd _)
              have hf:((!false)=true)=True:=by simp
              have hn1:=Bg w rfl
              simp only[Builtin.append_,List.getElem?_toArray,List.getElem?_cons_zero,List.getElem?_cons_succ,Sem.run_bind,Sem.run_pure,Result.andThen_ok,run_underlying hus,run_underlying hux,dN fw,hf,Bool.false_eq_true,if_false,if_true,qf hlen hx,hn1,Nat.le_refl,Nat.add_zero]
            · rename_i hn0
              split at e
              · rename_i gD
                split at e
                · rename_i h1 DT
                  simp at e;obtain ⟨rfl,rfl⟩:=e
                  obtain ⟨nc,C,L',⟨rest,hC⟩,WQ,iH⟩:=vn (P:=E.P) (w:=w) (ty:=ty) hus hux hxd fw j6 my Q6 (base:=none) (len:=0) (cap:=0) (fun w=>qf hlen hx E.P w) (old:=[]) (fun w' _=>by simp [Builtin.firstCells]) (fun w' hw=>Bg w' hw) (by omega) (by simpa using gD) (by simp) WU
                  have:=Bf (n:=n) ok DT (l:=[]++vC) (by simpa using Iq) (by simpa using fw) (by simpa using hC) WQ (by omega) (by simp [WU])
                  rw[iH]
                  simp only[Nat.zero_add] at this ⊢
                  exact this
                · simp at e
              · simp at e
           · rename_i i o len cap op
             cases hs with
             | @slice _ l _ _ _ _ hφ=>
             split at e
             · rename_i cs el hg
               split at e
               ·
                rename_i aho
                split at e
                · rename_i hle
                  simp at e;obtain ⟨rfl,rfl⟩:=e
                  have hcc:cap≤gC op cap l.iZ:=by unfold gC;split<;>omega
                  obtain ⟨w',ja,rJ,vB⟩:=CX ok hg hφ Iq (o+len*size) (by rw[adP,Nat.add_assoc,←Nat.add_mul];exact hle) Ti
                  refine ⟨φ,w',_,te (P:=E.P) hus hux hxd fw (fun w=>qf hlen hx E.P w) (Bg w rfl) (by omega) (by rw[Nat.add_assoc];exact ja),?_,rJ,vB⟩
                  have:=VR.slice (φ:=φ) o (len+n) cap op hφ
                  exact this
                · simp at e
               · rename_i aho
                 split at e
                 · rename_i ab6
                   obtain ⟨gD,hol,rH⟩:=ab6
                   split at e
                   · rename_i h1 DT
                     simp at e;obtain ⟨rfl,rfl⟩:=e
                     obtain ⟨C0,e0,lo,hi,hb0,Ih⟩:=ok.cells hg hφ
                     obtain ⟨ab8,Mb,ahp,Q8⟩:=Ih.range o (len*size) hol
                     have ab9:∀cp w',w'.heap=w.heap→(Builtin.firstCells size len (.slice (some ⟨l.fO,l.off+o,none⟩) len cp)).run E.P w'= .ok ab8.toArray w':=fun cp w' hw=>by
                      rw[←hw] at hb0
                      have yU:=pn (P:=E.P) hb0 (l.off+o) ab8 ahp
                      rw[Mb] at yU
                      simp only[Builtin.firstCells,yU]
                     by_cases hin:len+n≤gC op cap l.iZ
                     ·
                      have akx:op=true:=by
                       cases op with
                       | true=>rfl
                       | false=>simp [gC] at hin;omega
                      subst akx
                      obtain ⟨rfl,ahi⟩:=rH rfl
                      simp only[gC,if_true] at hin ⊢
                      simp only[if_true] at DT
                      have QO:=Ih.size
                      simp only[e_,fw,Option.getD_some] at QO
                      have hmul:(len+n)*size≤(cap+l.iZ)*size:=Nat.mul_le_mul_right _ hin
                      have e1:(len+n)*size=len*size+n*size:=Nat.add_mul _ _ _
                      have e2:(cap+l.iZ)*size=cap*size+l.iZ*size:=Nat.add_mul _ _ _
                      have ja:=zE (P:=E.P) hb0 (l.off+o+len*size) vC (by omega) (fun k k1 k2=>Ih.free rfl k (by omega) (by simp only[e_,fw,Option.getD_some];omega)) (FJ Iq Ti)
                      obtain ⟨p1,p2,p3⟩:=vX vC w l.fO (l.off+o+len*size)
                      obtain ⟨rJ,vB⟩:=ok.reuse (w':=w.setCells l.fO (l.off+o+len*size) vC) (l':=⟨l.fO,l.off+o,cap+l.iZ -(len+n)⟩) hg rfl hφ rfl DT (by
                       refine ⟨j4 C0 (l.off+o+len*size) vC,e0,lo,hi,sH vC hb0 _,?_,fun k x hk=>?_,fun _ k a b=>Ih.free rfl k (by simp at a;omega) ?_,fun h=>by cases h⟩
                       · simp only[e_,fw,Option.getD_some,vW,List.length_append,Q8.1,Mb,Iq.1,WU]
                         rw[Nat.sub_mul];omega
                       · show ∃y,(j4 C0 (l.off+o+len*size) vC)[l.off+o+k]? =some y∧_
                         rw[Ad]
                         by_cases hk1:k<len*size
                         · rw[List.getElem?_append_left (by rw[Q8.1,Mb];exact hk1)] at hk
                           obtain ⟨y,hy,hr⟩:=Q8.get hk
                           rw[if_neg (by omega)]
                           exact ⟨y,ahp k y hy,hr.mono (fun j m hm=>by
                            unfold Ph.add
                            split
                            · rename_i ej;subst ej;exact absurd (ok.ED _ _ hm) (Nat.lt_irrefl _)
                            · exact hm)⟩
                         · rw[List.getElem?_append_right (by rw[Q8.1,Mb];omega)] at hk
                           obtain ⟨y,hy,hr⟩:=Iq.get hk
                           have hyl:k -((List.take (len*size) (List.drop o cs)).length)<vC.length:=(List.getElem?_eq_some_iff.1 hy).1
                           rw[Q8.1,Mb] at hyl hy
                           rw[if_pos (by omega)]
                           exact ⟨y,by rw[show l.off+o+k -(l.off+o+len*size)=k - len*size by omega];exact hy,hr.mono (fun j m hm=>by
                            unfold Ph.add
                            split
                            · rename_i ej;subst ej;exact absurd (ok.ED _ _ hm) (Nat.lt_irrefl _)
                            · exact hm)⟩
                       · simp only[e_,fw,Option.getD_some,List.length_append,Q8.1,Mb,Iq.1,WU] at b ⊢
                         rw[Nat.sub_mul] at b;omega)
                       (fun c cR=>j5 vC (Ne.symm cR) _) (sI _ _ _ _) p1 p2 p3
                      refine ⟨_,_,_,te (P:=E.P) hus hux hxd fw (fun w=>qf hlen hx E.P w) (Bg w rfl) hin ja,?_,rJ,vB⟩
                      have:=VR.slice (φ:=φ.add h.nx ⟨l.fO,l.off+o,cap+l.iZ -(len+n)⟩) (i:=h.nx) (l:=⟨l.fO,l.off+o,cap+l.iZ -(len+n)⟩) 0 (len+n) (len+n) true (by simp [Ph.add])
                      simp only[gC,if_true] at this
                      rw[show len+n+(cap+l.iZ -(len+n))=cap+l.iZ by omega] at this
                      exact this
                     ·
                      obtain ⟨nc,C,L',⟨rest,hC⟩,WQ,iH⟩:=vn (P:=E.P) (w:=w) (ty:=ty) hus hux hxd fw j6 my Q6 (base:=some ⟨l.fO,l.off+o,none⟩) (len:=len) (cap:=gC op cap l.iZ) (fun w=>qf hlen hx E.P w) (old:=ab8) (fun w' hw=>ab9 _ w' hw) (fun w' hw=>Bg w' hw) (by omega) gD Mb WU
                      rw[iH]
                      have Ip:=Q8.append Iq
                      have hll:(ab8++vC).length=(len+n)*size:=by rw[List.length_append,Mb,WU,Nat.add_mul]
                      cases op with
                      | false=>exact Bf ok DT Ip fw hC WQ L' hll
                      | true=>
                        obtain ⟨φ',w',v',a1,a2,a3,a4⟩:=Bf ok.kill DT Ip fw hC WQ L' hll
                        exact ⟨φ',w',v',a1,a2,a3,a4.ab7⟩
                   · simp at e
                 · simp at e
             · simp at e
           · simp at e
         · simp at e
       · simp at e
     · simp at e
   · simp at e
 · simp at e
end Go.Ab
end
section
namespace Go.Ab
variable {E:Env}
theorem U9 {φ:Ph} {h h':ah} {w:World} (ok:OK E φ h w) {argTypes:Array TypeId} {s d v:AV} (e:DJ E h argTypes d s=some (v,h')) {s' d':Value} (hd:VR φ d d') (hs:VR φ s s') (ty:TypeId):
 U6 E φ h w ((Builtin.copy_ argTypes ty #[d',s']).run E.P w) v h':=by
 unfold DJ at e
 split at e
 · rename_i dT hdT
   split at e
   · rename_i elem m hu hm
     split at e
     · rename_i size fw
       simp at e;obtain ⟨rfl,rfl⟩:=e
       cases hd
       refine ⟨φ,w,_,?_,.int .i64 0,ok,Fr.refl φ h w⟩
       have h0:Nat.min m 0=0:=Nat.min_eq_right (Nat.zero_le _)
       obtain ⟨vC,_,Bg⟩:∃vC:List Value,True∧(Builtin.firstCells size 0 s').run E.P w= .ok vC.toArray w:=by
        cases s<;>simp [rI] at hm
        · generalize QW:AV.str _=s0 at hs
          cases hs<;>cases QW
          refine ⟨[],trivial,?_⟩
          simp [Builtin.firstCells]
        · cases hs;exact ⟨[],trivial,by simp [Builtin.firstCells]⟩
        · cases hs;exact ⟨[],trivial,by simp [Builtin.firstCells,loadCells,loadCellsFrom]⟩
        · cases hs;exact ⟨[],trivial,by simp [Builtin.firstCells,loadCells,loadCellsFrom]⟩
       simp only[Builtin.copy_,hdT,List.getElem?_toArray,List.getElem?_cons_zero,List.getElem?_cons_succ,Sem.run_bind,Result.andThen_ok,run_underlying hu,qf hm hs,h0,dN fw,Bg,Sem.run_pure]
       rfl
     · rename_i size i o len _ _ fw
       split at e
       · rename_i new cs el Aj hg
         split at e
         · rename_i hc
           simp at e;obtain ⟨rfl,rfl⟩:=e
           cases hd with
           | @slice _ l _ _ _ _ hφ=>
           obtain ⟨vC,Iq,Bg⟩:=FK ok hs Aj (.inr trivial)
           obtain ⟨w',ja,rJ,vB⟩:=CX ok hg hφ Iq o hc.1 hc.2
           refine ⟨φ,w',_,?_,.int .i64 _,rJ,vB⟩
           have h0:Nat.min m len=min m len:=rfl
           simp only[Builtin.copy_,hdT,List.getElem?_toArray,List.getElem?_cons_zero,List.getElem?_cons_succ,Sem.run_bind,Result.andThen_ok,run_underlying hu,qf hm hs,h0,dN fw,Bg w rfl,ja,Sem.run_pure]
           rfl
         · simp at e
       · simp at e
     · simp at e
   · simp at e
 · simp at e
theorem Mc {w:World} {b n:Nat} {C:Array Value} {e:TypeId} (h:w.heap[b]? =some (.cells C e)):(w.freeze ⟨b,n,none⟩ 1).heap[b]? =some (.cells C e (n,n+1)):=by
 simp [World.freeze,Array.getElem?_modify,h]
theorem Kc {w:World} {b c n:Nat} (h:b≠c):(w.freeze ⟨b,n,none⟩ 1).heap[c]? =w.heap[c]? :=by
 simp [World.freeze,Array.getElem?_modify,h]
theorem Md (w:World) (b n:Nat):(w.freeze ⟨b,n,none⟩ 1).heap.size=w.heap.size:=by simp [World.freeze]
theorem U_ {φ:Ph} {h h':ah} {w:World} (ok:OK E φ h w) {src dst:TypeId} {x:AV} {v:AV} (e:zD E h src dst (some x)=some (v,h')) {x':Value} (hx:VR φ x x'):
 U6 E φ h w ((convert src dst x').run E.P w) v h':=by
 unfold zD at e
 split at e
 · rename_i el s hs hd hxs
   simp at hxs;subst hxs
   generalize QW:AV.str s=s0 at hx
   cases hx<;>cases QW
   rename_i s'
   split at e
   · rename_i h1 he hn
     split at e
     · rename_i QO
       simp at e;obtain ⟨rfl,rfl⟩:=e
       have e1:s'.size=s'.data.toList.length:=by cases s';rfl
       let nc:=(Question.appendCap s'.size 0 el).cut (w.tape w.drawn (.appendCap s'.size 0 el))
       have L':s'.size≤nc:=by show s'.size≤s'.size+_;omega
       let C:Array Value:=(s'.data.map fun b=>Value.int .u8 b.toNat)++Array.replicate (nc - s'.size) (.int .u8 0)
       have WQ:C.size=nc:=by
        have e0:s'.size=s'.data.size:=rfl
        have:C.size=s'.data.size+(nc - s'.size):=by simp only[C,Array.size_append,Array.size_map,Array.size_replicate]
        omega
       have Xu:(w.drew.alloc (.cells C el)).heap=w.heap.push (.cells C el):=rfl
       have ahq:(w.drew.alloc (.cells C el)).heap[w.heap.size]? =some (.cells C el):=by rw[Xu];simp
       obtain ⟨rJ,vB,hle⟩:=ok.fresh (w':=(w.drew.alloc (.cells C el)).freeze ⟨w.heap.size,nc,none⟩ 1) hn ⟨w.heap.size,0,nc - s'.size⟩ (by
        refine ⟨C,el,nc,nc+1,Mc ahq,?_,fun k x hk=>?_,fun _ k _ b=>?_,fun _ _ _=>rfl⟩
        · simp only[e_,QO,Option.getD_some,WQ,List.length_map];rw[←e1];omega
        · rw[List.getElem?_map] at hk
          cases hb:s'.data.toList[k]? with
          | none=>rw[hb] at hk;simp at hk
          | some b=>
            rw[hb] at hk;simp at hk;subst hk
            have Q3:k<s'.data.toList.length:=(List.getElem?_eq_some_iff.1 hb).1
            refine ⟨.int .u8 b.toNat,?_,.int _ _⟩
            have:C[0+k]? =(s'.data.map fun b=>Value.int .u8 b.toNat)[k]? :=by
             simp only[C,Nat.zero_add];rw[Array.getElem?_append_left (by simpa using Q3)]
            show C[0+k]? =_
            rw[this]
            rw[Array.getElem?_map]
            have hb':s'.data[k]? =some b:=by simpa using hb
            rw[hb'];rfl
        · simp only[e_,QO,Option.getD_some,List.length_map] at b;rw[←e1] at b;omega)
        (fun c cR hc=>by
         rw[Kc (Ne.symm cR),Xu,Array.getElem?_push,if_neg (by omega)]) (by rw[Md,Xu];simp) (Nat.le_refl _) rfl rfl rfl
       refine ⟨_,_,.slice (some ⟨w.heap.size,0,none⟩) s'.size nc,?_,?_,rJ,vB⟩
       · have Xv:(w.drew.alloc (.cells C el)).shape? w.heap.size=some (el,nc):=by
          simp only[World.shape?,ahq,WQ]
         simp only[convert,Sem.run_bind,run_underlying hs,run_underlying hd,Result.andThen_ok,run_underlying he,Conv.stringToBytes,run_choose,Question.forced,Bool.false_eq_true,if_false,World.drew_eq,newRow,run_newObj,World.alloc_eq,Sem.run_pure,markStringish]
         rw[show (Question.appendCap s'.size 0 el).cut (w.tape w.drawn (Question.appendCap s'.size 0 el))=nc from rfl,show (Array.map (fun b=>Value.int .u8 b.toNat) s'.data++Array.replicate (nc - s'.size) (Value.int .u8 0))=C from rfl]
         simp only[World.size_drew,run_shape,Xv,Result.andThen_ok,run_freeze]
       · have:=VR.slice (φ:=φ.add h.nx ⟨w.heap.size,0,nc - s'.size⟩) (i:=h.nx) (l:=⟨w.heap.size,0,nc - s'.size⟩) 0 s'.size s'.size true (by simp [Ph.add])
         simp only[gC,if_true] at this
         rw[show s'.size+(nc - s'.size)=nc by omega] at this
         exact this
     · simp at e
   · simp at e
 · simp at e
theorem Bh {φ:Ph} {v:AV} {v':Value} (hv:VR φ v v') {k':Value}:∀{es:List lh} {km:List MapEntry} (_:ESR φ es km) (i:Nat) (_:∀e,es[i]? =some e→VR φ e.key k'),
 ESR φ (p_ es i v) (km.modify i fun e=>{e with key:=k',val:=v'})
 | [],km,h,i,_=>by
   cases km with
   | nil=>simpa [p_] using h
   | cons _ _=>simp [ESR] at h
 | e::es,km,h,i,hk=>by
   obtain ⟨hl,WS⟩:=h
   cases km with
   | nil=>simp at hl
   | cons y ys=>
     have h0:=WS 0 e y (by simp) (by simp)
     have qd:ESR φ es ys:=⟨by simpa using hl,fun i a b p q=>WS (i+1) a b (by simpa using p) (by simpa using q)⟩
     cases i with
     | zero=>
       simp only[p_,List.modify_zero_cons]
       refine ⟨by simpa using hl,fun j a b p q=>?_⟩
       cases j with
       | zero=>simp at p q;subst p;subst q;exact ⟨hk e (by simp),hv,h0.born⟩
       | succ j=>simp at p q;exact qd.2 j a b p q
     | succ i=>
       simp only[p_,List.modify_succ_cons]
       obtain ⟨g1,g2⟩:=Bh hv qd i (fun e he=>hk e (by simpa using he))
       refine ⟨by simp [g1],fun j a b p q=>?_⟩
       cases j with
       | zero=>simp at p q;subst p;subst q;exact h0
       | succ j=>simp at p;exact g2 j a b p (by simpa using q)
theorem aca (s:ByteArray):(s==s)=true:=by cases s;rename_i d;show (d==d)=true;simp
theorem Ke {φ:Ph} {k j:AV} (e:IS k j=some true) {k' j':Value} (h:VR φ k k') (h':VR φ j j'):Instr.sameBits 10000 j' k'=true∧j'=k':=by
 unfold IS at e
 split at e
 · generalize hs:AV.str _=s at h
   generalize zF:AV.str _=s' at h'
   cases h<;>cases hs
   cases h'<;>cases zF
   rename_i s s'
   simp at e
   have:s'=s:=by cases s;cases s';simp_all
   subst this
   exact ⟨by simp only[Instr.sameBits];exact aca _,rfl⟩
 · cases h;cases h'
   split at e
   · rename_i U5
     simp at e;subst e;subst U5
     exact ⟨by simp [Instr.sameBits],rfl⟩
   · simp at e
 · cases h;cases h'
   simp at e;subst e
   exact ⟨by simp [Instr.sameBits],rfl⟩
 · simp at e
theorem v8 {φ:Ph} {h h':ah} {w:World} (ok:OK E φ h w) {t:TypeId} {m k v:AV} {m' k' v':Value} (hm:VR φ m m') (hk:VR φ k k') (hv:VR φ v v') (e:ur E h t m k v=some h'):
 ∃w',(Instr.mapUpdate t m' k' v').run E.P w= .ok () w'∧OK E φ h' w'∧Fr φ h w φ h' w':=by
 unfold ur at e
 split at e
 · rename_i key elem i hu
   cases hm with
   | @map _ l hφ=>
   split at e
   · rename_i es clock hg
     split at e
     · rename_i U5
       have afr:∃d,E.P.underlying key=some d∧jt (some d) k=true:=by
        cases hd:E.P.underlying key with
        | none=>rw[hd] at U5;simp [jt] at U5
        | some d=>rw[hd] at U5;exact ⟨d,rfl,U5⟩
       obtain ⟨d,hd,Th⟩:=afr
       have LY:=ok.live i _ l hg hφ
       obtain ⟨h00,km,hb,Ai⟩:=LY
       have Qk:(getObj l.fO).run E.P w= .ok (.map km clock) w:=by simp [getObj,Sem.run,hb]
       have hck:=uz (P:=E.P) hd Th hk false 9999 w
       have sL:∀o':Obj,(setObj l.fO o').run E.P w= .ok () {w with heap:=w.heap.setIfInBounds l.fO o'}:=fun o'=>by simp [setObj,Sem.run,hb]
       have hch:∀(o:ar) (o':Obj),OR E φ o l (some o')→o.rw=true→OK E φ (h.put i (some o)) {w with heap:=w.heap.setIfInBounds l.fO o'}∧Fr φ h w φ (h.put i (some o)) {w with heap:=w.heap.setIfInBounds l.fO o'}:=fun o o' ho L4=>by
        have gL:l.fO<w.heap.size:=by
         rcases Nat.lt_or_ge l.fO w.heap.size with a | a
         · exact a
         · rw[Array.getElem?_eq_none a] at hb;simp at hb
        exact ok.change hg rfl hφ (by simp [gL];exact ho) (fun c cR=>by simp [Ne.symm cR]) (by simp) rfl rfl rfl
       split at e
       · rename_i j v0 hf
         obtain ⟨r',h1,h2⟩:=ta Th hk Ai hf
         cases r' with
         | none=>exact h2.elim
         | some q=>
         obtain ⟨j',v1⟩:=q
         obtain ⟨rfl,WS,_,ent,QY,ahr⟩:=h2
         simp at e;subst e
         obtain ⟨y,hy⟩:∃y,km.toList[j]? =some y:=by
          have gL:j<es.length:=by simpa using (List.getElem?_eq_some_iff.1 QY).1
          exact ⟨km.toList[j]'(by rw[←Ai.1];exact gL),by simp⟩
         have hey:=Ai.2 j ent y (by simpa using QY) hy
         obtain ⟨hsb,aky⟩:=Ke ahr hk hey.key
         have hy':km[j]? =some y:=by simpa using hy
         obtain ⟨rJ,vB⟩:=hch (.map (p_ es j v) clock) (.map (km.modify j fun e=>{e with key:=k',val:=v'}) clock) ⟨h00,_,rfl,by
          have:=Bh hv Ai j (k':=k') (fun e he=>by
           have:e=ent:=by have h3:es[j]? =some ent:=by simpa using QY
                          rw[h3] at he;simp at he;exact he.symm
           subst this;rw[←aky];exact hey.key)
          simpa using this⟩ rfl
         refine ⟨_,?_,rJ,vB⟩
         simp only[Instr.mapUpdate,Sem.run_bind,run_underlying hu,Result.andThen_ok,Qk,hck,Instr.findKey,run_underlying hd,h1,Sem.run_pure,hy',Option.map_some,Option.getD_some,Instr.keyThatStays,hsb,if_true,sL _]
       · rename_i hf
         obtain ⟨r',h1,h2⟩:=ta Th hk Ai hf
         cases r' with
         | some q=>exact h2.elim
         | none=>
         simp at e;subst e
         obtain ⟨rJ,vB⟩:=hch (.map (es++[{key:=k,val:=v,born:=clock}]) (clock+1)) (.map (km.push {key:=k',val:=v',born:=clock}) (clock+1)) ⟨h00,_,rfl,by
          refine ⟨by simp [Ai.1],fun j a b p q=>?_⟩
          rw[Array.toList_push] at q
          by_cases hj:j<es.length
          · rw[List.getElem?_append_left hj] at p
            rw[List.getElem?_append_left (by rw[←Ai.1];exact hj)] at q
            exact Ai.2 j a b p q
          · rw[List.getElem?_append_right (by omega)] at p
            rw[List.getElem?_append_right (by rw[←Ai.1];omega),←Ai.1] at q
            cases hjj:j - es.length with
            | zero=>rw[hjj] at p q;simp at p q;subst p;subst q;exact ⟨hk,hv,rfl⟩
            | succ n=>rw[hjj] at p;simp at p⟩ rfl
         refine ⟨_,?_,rJ,vB⟩
         simp only[Instr.mapUpdate,Sem.run_bind,run_underlying hu,Result.andThen_ok,Qk,hck,Instr.findKey,run_underlying hd,h1,Sem.run_pure,sL _]
       · simp at e
     · simp at e
   · simp at e
 · simp at e
theorem Kf {s:ByteArray} {pos:Nat} {b:UInt8} (h:s.data.toList[pos]? =some b) (hb:b.toNat<128):Utf8.decode s pos=(b.toNat,1):=by
 have hl:pos<s.size:=(List.getElem?_eq_some_iff.1 h).1
 have hb':s[pos]'hl=b:=by
  have:=(List.getElem?_eq_some_iff.1 h).2
  rw[←this];rfl
 rw[decode_ascii s pos hl (by rw[hb'];exact hb),hb']
set_option linter.unusedSimpArgs false in
theorem U' {φ:Ph} {h h':ah} {w:World} (ok:OK E φ h w) {it v:AV} {b:Bool} (e:Xc h it b=some (v,h')) {it':Value} (hit:VR φ it it') (ty:TypeId):
 U6 E φ h w ((Instr.next it' b ty).run E.P w) v h':=by
 unfold Xc at e
 split at e
 · rename_i r
   cases hit with
   | @ptr _ l _ hφ=>
   split at e
   · rename_i s pos hg
     have LY:=ok.live r _ l hg hφ
     obtain ⟨h00,s',hb,zF⟩:=LY
     have Qk:(getObj l.fO).run E.P w= .ok (.stringIter s' pos) w:=by simp [getObj,Sem.run,hb]
     have e1:s'.size=s.length:=by rw[←zF];cases s';rfl
     split at e
     · rename_i gL
       split at e
       · rename_i c hc
         split at e
         · rename_i akz
           simp at e;obtain ⟨rfl,rfl⟩:=e
           have sL:(setObj l.fO (.stringIter s' (pos+1))).run E.P w= .ok () {w with heap:=w.heap.setIfInBounds l.fO (.stringIter s' (pos+1))}:=by simp [setObj,Sem.run,hb]
           have akA:l.fO<w.heap.size:=by
            rcases Nat.lt_or_ge l.fO w.heap.size with a | a
            · exact a
            · rw[Array.getElem?_eq_none a] at hb;simp at hb
           obtain ⟨rJ,vB⟩:=ok.change (w':={w with heap:=w.heap.setIfInBounds l.fO (.stringIter s' (pos+1))}) (o':= .zC s (pos+1)) hg rfl hφ (by simp [akA];exact ⟨h00,s',rfl,zF⟩) (fun c cR=>by simp [Array.getElem?_setIfInBounds,Ne.symm cR]) (by simp) rfl rfl rfl
           refine ⟨φ,_,.tuple #[.bool true,.int .i64 pos,.int .i32 c.toNat],?_,VR.tuple' (i_:=[.bool true,.int .i64 pos,.int .i32 c.toNat]) (.cons (.bool true) (.cons (.int _ _) (.cons (.int _ _) (.nil φ)))),rJ,vB⟩
           have akB:=Kf (s:=s') (pos:=pos) (b:=c) (by rw[zF];exact hc) akz
           have h0:l.off+0=0:=by omega
           simp only[Instr.next,h0,Sem.run_bind,Qk,Result.andThen_ok,e1,gL,if_true,akB,sL,Sem.run_pure,goInt]
         · simp at e
       · simp at e
     · rename_i gL
       simp at e;obtain ⟨rfl,rfl⟩:=e
       refine ⟨φ,w,.tuple #[.bool false],?_,VR.tuple' (i_:=[.bool false]) (.cons (.bool false) (.nil φ)),ok,Fr.refl φ h w⟩
       have h0:l.off+0=0:=by omega
       simp only[Instr.next,h0,Sem.run_bind,Qk,Result.andThen_ok,e1,gL,if_false,Sem.run_pure]
   · rename_i s1 s2 s3 hg
     have LY:=ok.live r _ l hg hφ
     obtain ⟨h00,hb⟩:=LY
     have Qk:(getObj l.fO).run E.P w= .ok (.mapIter none s1 s2.toArray s3) w:=by simp [getObj,Sem.run,hb]
     simp at e;obtain ⟨rfl,rfl⟩:=e
     refine ⟨φ,w,.tuple #[.bool false],?_,VR.tuple' (i_:=[.bool false]) (.cons (.bool false) (.nil φ)),ok,Fr.refl φ h w⟩
     have h0:l.off+0=0:=by omega
     simp only[Instr.next,h0,Sem.run_bind,Qk,Result.andThen_ok,Sem.run_pure]
   · simp at e
 · simp at e
end Go.Ab
end
section
namespace Go.Ab
variable {E:Env}
def DR (φ:Ph):cC→Deferred→Prop
 | .call f args,d'=>∃cap,d'.target= .fn (.func f) cap∧LR φ args (d'.args++cap).toList
 | .col r,d'=>∃l,φ r=some l∧d'.target= .collected l.fO
def DsR (φ:Ph):List cC→List Deferred→Prop
 | [],[]=>True
 | d::ds,d'::CH=>DR φ d d'∧DsR φ ds CH
 | _,_=>False
theorem DR.mono {φ φ':Ph} (hle:φ.le φ') {d:cC} {d':Deferred} (h:DR φ d d'):DR φ' d d':=by
 cases d with
 | call f args=>obtain ⟨c,a,b⟩:=h;exact ⟨c,a,b.mono hle⟩
 | col r=>obtain ⟨l,a,b⟩:=h;exact ⟨l,hle _ _ a,b⟩
theorem DsR.mono {φ φ':Ph} (hle:φ.le φ'):∀{ds:List cC} {CH:List Deferred} (_:DsR φ ds CH),DsR φ' ds CH
 | [],[],_=>trivial
 | _::_,_::_,h=>⟨h.1.mono hle,DsR.mono hle h.2⟩
structure SR (φ:Ph) (ts:List AV) (ds:List cC) (a:Act):Prop where
 ts:LR φ ts a.tmps.toList
 ds:DsR φ ds a.defers
theorem SR.mono {φ φ':Ph} (hle:φ.le φ') {ts:List AV} {ds:List cC} {a:Act} (h:SR φ ts ds a):SR φ' ts ds a:=⟨h.ts.mono hle,h.ds.mono hle⟩
def oK (φ:Ph) (b:Frame) (K:Bool→List Frame):RC→Prop
 | .no=>b.roundOf=none∧∀fr:Frame,fr.kind=b.kind→tryRecover fr (K false)=none
 | .jE v=>b.roundOf=none∧(∃v',VR φ v v'∧∀fr:Frame,fr.kind=b.kind→tryRecover fr (K false)=some (v',K true))∧∀fr:Frame,fr.kind=b.kind→tryRecover fr (K true)=none
 | .done=>b.roundOf=none∧∀fr:Frame,fr.kind=b.kind→tryRecover fr (K true)=none
 | .WN l=>∃ll,φ l=some ll∧b.roundOf=some ll.fO
def cur (K:Bool→List Frame):RC→List Frame
 | .done=>K true
 | _=>K false
def RC.qg:RC→Bool
 | .WN _=>true
 | _=>false
theorem oK.mono {φ φ':Ph} (hle:φ.le φ') {b:Frame} {K:Bool→List Frame}:∀{rc:RC} (_:oK φ b K rc),oK φ' b K rc
 | .no,h=>h
 | .jE _,h=>let ⟨n,⟨v',a,b⟩,c⟩:=h;⟨n,⟨v',a.mono hle,b⟩,c⟩
 | .done,h=>h
 | .WN _,h=>let ⟨l,a,b⟩:=h;⟨l,hle _ _ a,b⟩
theorem oK.plain {φ:Ph} {b:Frame} {K:Bool→List Frame} {rc:RC} (h:oK φ b K rc) (hn:rc.qg=false):b.roundOf=none:=by
 cases rc with
 | no=>exact h.1
 | jE v=>exact h.1
 | done=>exact h.1
 | WN l=>simp [RC.qg] at hn
inductive ExR (φ:Ph):oA→Exit→Prop
 | normal:ExR φ .normal .normal
 | exit (id:Nat):ExR φ (.exit id) (.exit id)
 | ret:ExR φ .ret .ret
 | panic (v:AV) (v':Value) (h:VR φ v v'):ExR φ (.panic v) (.panic [{v:=v',recovered:=false}])
def iN (E:Env) (f:FuncId) (args:List AV) (h:ah) (v:AV) (h':ah):Prop:=
 ∀(φ:Ph) (w:World) (vs:List Value),OK E φ h w→LR φ args vs→(callFunc f vs.toArray).run E.P w= .ok (.enter f vs.toArray) w∧
  ∀cs,∃φ' w' v' fr,VR φ' v v'∧OK E φ' h' w'∧Fr φ h w φ' h' w'∧
   Steps E.P (lone (Frame.enter E.P f vs.toArray .normal) cs w) (lone fr cs w')∧fr.fn=f∧fr.leaving E.P w' (.returned v')
def Tj (E:Env) (f:FuncId) (args:List AV) (h:ah) (v:AV) (h':ah):Prop:=
 ∀(φ:Ph) (w:World) (vs:List Value),OK E φ h w→LR φ args vs→(callFunc f vs.toArray).run E.P w= .ok (.enter f vs.toArray) w∧
  ∀cs,∃φ' w' v' fr,VR φ' v v'∧OK E φ' h' w'∧Fr φ h w φ' h' w'∧
   Steps E.P (lone (Frame.enter E.P f vs.toArray .normal) cs w) (lone fr cs w')∧fr.fn=f∧fr.leaving E.P w' (.panicked [{v:=v',recovered:=false}])
inductive qh (E:Env) (φ:Ph) (w:World):Fn→List Value→Next→Frame→Prop
 | fn (f:FuncId) (vs:List Value) (hr:(callFunc f vs.toArray).run E.P w= .ok (.enter f vs.toArray) w):qh E φ w (.fn f) vs (.enter f vs.toArray) (Frame.enter E.P f vs.toArray .normal)
 | Ik (l:Nat) (ll:Loc) (hl:φ l=some ll) (vs:List Value) (f:FuncId) (tmps:Array Value) (assign body:Code) (hr:(Instr.yield ll.fO vs.toArray).run E.P w= .ok (.round ll.fO f tmps assign body) w):
  qh E φ w (.Ik l) vs (.round ll.fO f tmps assign body) (Frame.round ll.fO f tmps assign body .normal)
def Xw (φ:Ph):Fn→Prop
 | .fn _=>True
 | .Ik l=>∃ll,φ l=some ll
def Q9 (E:Env) (F:Fn) (args:List AV) (h:ah) (v:AV) (h':ah):Prop:=
 ∀(φ:Ph) (w:World) (vs:List Value),OK E φ h w→Xw φ F→LR φ args vs→∃n start,qh E φ w F vs n start∧
  ∀c cs,∃φ' w' v',VR φ' v v'∧OK E φ' h' w'∧Fr φ h w φ' h' w'∧Steps E.P (lone start (c::cs) w) (lone (c.finish v') cs w')
def Q_ (E:Env) (F:Fn) (args:List AV) (h:ah) (v:AV) (h':ah):Prop:=
 ∀(φ:Ph) (w:World) (vs:List Value),OK E φ h w→Xw φ F→LR φ args vs→∃n start,qh E φ w F vs n start∧
  ∀c cs,∃φ' w' v',VR φ' v v'∧OK E φ' h' w'∧Fr φ h w φ' h' w'∧Steps E.P (lone start (c::cs) w) (lone (c.raise [{v:=v',recovered:=false}]) cs w')
theorem iN.any {f:FuncId} {args:List AV} {h:ah} {v:AV} {h':ah} (r:iN E f args h v h'):Q9 E (.fn f) args h v h':=fun φ w vs ok _ hl=>by
 obtain ⟨h1,h2⟩:=r φ w vs ok hl
 refine ⟨_,_,.fn f vs h1,fun c cs=>?_⟩
 obtain ⟨φ',w',v',fr,x1,x2,x3,x4,_,x5⟩:=h2 (c::cs)
 exact ⟨φ',w',v',x1,x2,x3,x4.trans (.one (step_leave_returned x5))⟩
theorem Tj.any {f:FuncId} {args:List AV} {h:ah} {v:AV} {h':ah} (r:Tj E f args h v h'):Q_ E (.fn f) args h v h':=fun φ w vs ok _ hl=>by
 obtain ⟨h1,h2⟩:=r φ w vs ok hl
 refine ⟨_,_,.fn f vs h1,fun c cs=>?_⟩
 obtain ⟨φ',w',v',fr,x1,x2,x3,x4,_,x5⟩:=h2 (c::cs)
 exact ⟨φ',w',v',x1,x2,x3,x4.trans (.one (step_leave_panicked x5))⟩
structure iu (E:Env) (call:aE):Prop where
 ret:∀f args h v h',call f args h= .ret v h'→Q9 E f args h v h'
 panic:∀f args h v h',call f args h= .panic v h'→Q_ E f args h v h'
structure jZ (E:Env):Prop where
 ext:adO E
 pf:∀f g,E.pf f=some g→∀args h v h',g args h=some (v,h')→iN E f args h v h'
 names:∀(f:FuncId) (fn:Func),E.P.funcs[f]? =some fn→fn.name≠ "runtime.NumGoroutine"
 mixed:E.P.follows .mixedOrders=true
theorem Xx {φ:Ph} {ts:List AV} {a:Act} (h:LR φ ts a.tmps.toList) (d:Option Tmp) {v:AV} {v':Value} (hv:VR φ v v'):LR φ (gW ts d v) (a.put d v').tmps.toList:=by
 cases d with
 | none=>exact h
 | some d=>simp only[gW,Act.put,Array.toList_setIfInBounds];exact h.set hv d
theorem put_defers (a:Act) (d:Option Tmp) (v:Value):(a.put d v).defers=a.defers:=by cases d<;>rfl
theorem SR.put {φ:Ph} {ts:List AV} {ds:List cC} {a:Act} (h:SR φ ts ds a) (d:Option Tmp) {v:AV} {v':Value} (hv:VR φ v v'):SR φ (gW ts d v) ds (a.put d v'):=
 ⟨Xx h.ts d hv,by rw[put_defers];exact h.ds⟩
theorem Ak {φ:Ph} {ops:Array Oper} {ts:List AV} {a:Act} (h:LR φ ts a.tmps.toList) (o:Oper):Region.wanted o (yielded ops a.tmps)=dC ops ts o:=by
 unfold Region.wanted dC
 cases o.guard with
 | none=>rfl
 | some g=>
   obtain ⟨j,want⟩:=g
   simp only[yielded]
   cases hd:(ops[j]?).bind (·.dst) with
   | none=>simp
   | some d=>
     simp only[Option.bind_some]
     cases hx:ts[d]? with
     | none=>
       have:a.tmps[d]? =none:=by
        have h1:=List.getElem?_eq_none_iff.1 hx
        rw[h.1] at h1
        have:=List.getElem?_eq_none_iff.2 h1
        simpa using this
       simp [this]
     | some x=>
       obtain ⟨y,hy,hv⟩:=h.get hx
       have hy':a.tmps[d]? =some y:=by simpa using hy
       rw[hy']
       cases hv with
       | any _ h=>cases y<;>first | (simp;done) | cases h
       | _=>simp
section
variable {b:Frame} {a:Act} {k:List Item} {cs:List Frame} {w:World} {ops:Array Oper} {i:Nat} {rest:List Nat} {o:Oper}
theorem xZ (ho:ops[i]? =some o) (v:Value):(b.atR a (.inRegion ops (i::rest)::k)).finish v=b.atR (a.put o.dst v) (.inRegion ops rest::k):=by
 rw[Frame.finish_atR,ho];rfl
theorem nY {P:Program} (lj:o.semAt b.roundOf a.eval=execOp a.eval o) (ho:ops[i]? =some o) (hw:Region.wanted o (yielded ops a.tmps)=true) {v:Value} {w':World} (hr:(execOp a.eval o).run P w= .ok (.value v) w'):
 step P (lone (b.atR a (.inRegion ops (i::rest)::k)) cs w)= .next (lone (b.atR (a.put o.dst v) (.inRegion ops rest::k)) cs w'):=by
 rw[←xZ ho]
 exact step_lone_go (by rw[stepGR_op (rest:=rest) ho hw,lj];simp [stepG.apply,hr])
theorem Me {P:Program} (lj:o.semAt b.roundOf a.eval=execOp a.eval o) (ho:ops[i]? =some o) (hw:Region.wanted o (yielded ops a.tmps)=true) {w':World} (hr:(execOp a.eval o).run P w= .ok .skip w'):
 step P (lone (b.atR a (.inRegion ops (i::rest)::k)) cs w)= .next (lone (b.atR (a.put o.dst undef) (.inRegion ops rest::k)) cs w'):=by
 rw[←xZ ho]
 exact step_lone_go (by rw[stepGR_op (rest:=rest) ho hw,lj];simp [stepG.apply,hr])
theorem Bi {φ:Ph} (lj:o.semAt b.roundOf a.eval=execOp a.eval o) (ho:ops[i]? =some o) (hw:Region.wanted o (yielded ops a.tmps)=true) {F:Fn} {vs:List Value} {n:Next} {start:Frame} (hp:qh E φ w F vs n start) (hr:(execOp a.eval o).run E.P w= .ok n w):
 step E.P (lone (b.atR a (.inRegion ops (i::rest)::k)) cs w)= .next (lone start (b.atR a (.inRegion ops (i::rest)::k)::cs) w):=by
 cases hp with
 | fn f vs _=>exact step_lone_go (by rw[stepGR_op (rest:=rest) ho hw,lj];simp [stepG.apply,hr,Frame.atR])
 | Ik l ll hl vs f tmps assign body _=>exact step_lone_go (by rw[stepGR_op (rest:=rest) ho hw,lj];simp [stepG.apply,hr,Frame.atR])
theorem Xy {P:Program} (lj:o.semAt b.roundOf a.eval=execOp a.eval o) (ho:ops[i]? =some o) (hw:Region.wanted o (yielded ops a.tmps)=true) {v:Value} {w':World} (hr:(execOp a.eval o).run P w= .halt (.panic v) w'):
 step P (lone (b.atR a (.inRegion ops (i::rest)::k)) cs w)= .next (lone {b.atR a (.inRegion ops (i::rest)::k) with mode:= .panicking [{v,recovered:=false}]} cs w'):=by
 rw[←Frame.raise_atR]
 exact step_lone_go (by rw[stepGR_op (rest:=rest) ho hw,lj];simp [stepG.apply,hr])
theorem Va {P:Program} (lj:o.semAt b.roundOf a.eval=execOp a.eval o) (ho:ops[i]? =some o) (hw:Region.wanted o (yielded ops a.tmps)=true) {d:Deferred} {w':World} (hr:(execOp a.eval o).run P w= .ok (.defer d) w'):
 step P (lone (b.atR a (.inRegion ops (i::rest)::k)) cs w)= .next (lone (b.atR ({a with defers:=d::a.defers}.put o.dst undef) (.inRegion ops rest::k)) cs w'):=by
 have:({b.atR a (.inRegion ops (i::rest)::k) with defers:=d::a.defers}:Frame).finish undef=
  b.atR ({a with defers:=d::a.defers}.put o.dst undef) (.inRegion ops rest::k):=by
  have:=Frame.finish_atR b {a with defers:=d::a.defers} ops i rest k undef
  rw[ho] at this;exact this
 refine step_lone_go ?_
 rw[stepGR_op (rest:=rest) ho hw,lj]
 simp only[stepG.apply,Sem.runT_eq,hr,GStep.bare_after]
 exact congrArg (fun fr=>GStep.go {frame:=fr,callers:=cs,status:= .running,dying:=none} w') this
theorem Q' {P:Program} (CY:b.roundOf=none) (lj:o.semAt b.roundOf a.eval=execOp a.eval o) (ho:ops[i]? =some o) (hw:Region.wanted o (yielded ops a.tmps)=true) {w':World} (hr:(execOp a.eval o).run P w= .ok .recover w') {v:Value} {i_:List Frame}
 (ht:tryRecover (b.atR a (.inRegion ops (i::rest)::k)) cs=some (v,i_)):
 step P (lone (b.atR a (.inRegion ops (i::rest)::k)) cs w)= .next (lone (b.atR (a.put o.dst v) (.inRegion ops rest::k)) i_ w'):=by
 rw[←xZ ho]
 refine step_lone_go ?_
 rw[stepGR_op (rest:=rest) ho hw,lj]
 have hro:(b.atR a (.inRegion ops (i::rest)::k)).roundOf=none:=CY
 simp only[stepG.apply,Sem.runT_eq,if_true,hr,GStep.bare_after,hro,ht,GStep.bare_go]
theorem zH {P:Program} (CY:b.roundOf=none) (lj:o.semAt b.roundOf a.eval=execOp a.eval o) (ho:ops[i]? =some o) (hw:Region.wanted o (yielded ops a.tmps)=true) {w':World} (hr:(execOp a.eval o).run P w= .ok .recover w')
 (ht:tryRecover (b.atR a (.inRegion ops (i::rest)::k)) cs=none):
 step P (lone (b.atR a (.inRegion ops (i::rest)::k)) cs w)= .next (lone (b.atR (a.put o.dst .nilIface) (.inRegion ops rest::k)) cs w'):=by
 rw[←xZ ho]
 refine step_lone_go ?_
 rw[stepGR_op (rest:=rest) ho hw,lj]
 have hro:(b.atR a (.inRegion ops (i::rest)::k)).roundOf=none:=CY
 simp only[stepG.apply,Sem.runT_eq,if_true,hr,GStep.bare_after,hro,ht,GStep.bare_go]
end
def ahs (P:Program) (m:Machine) (b:Frame) (ops:Array Oper) (rest:List Nat) (k:List Item) (cs:List Frame):Exit→Act→World→Prop
 | .normal,a,w=>Steps P m (lone (b.atR a (.inRegion ops rest::k)) cs w)
 | .panic chain,a,w=>∃todo,Steps P m (lone {b.atR a todo with mode:= .panicking chain} cs w)
 | _,_,_=>False
def Tk (φ:Ph):Fn→Target→List Value→List Value→Prop
 | .fn f,t,vs,all=>∃cap:List Value,t= .fn (.func f) cap.toArray∧all=vs++cap
 | .Ik l,t,vs,all=>∃ll,φ l=some ll∧t= .fn (.yield ll.fO) #[]∧all=vs
theorem Tk.aht {φ:Ph} {F:Fn} {t:Target} {vs all:List Value} (h:Tk φ F t vs all):Xw φ F:=by
 cases F with
 | fn f=>trivial
 | Ik l=>obtain ⟨ll,h,_⟩:=h;exact ⟨ll,h⟩
theorem FN {φ:Ph} (hg:GL E φ) {ts:List AV} {a:Act} (ht:LR φ ts a.tmps.toList) {c:Call} {f:Fn} {args:List AV} (h:callee E ts c=some (f,args)) (ty:TypeId):
 ∃(t:Target) (vs all:List Value),LR φ args all∧Tk φ f t vs all∧∀w,(resolve a.eval c ty).run E.P w= .ok {target:=t,args:=vs.toArray} w:=by
 unfold callee at h
 split at h
 · rename_i x hcx
   split at h
   · rename_i g first captured as hx has
     simp at h;obtain ⟨rfl,rfl⟩:=h
     have h1:=oI hg ht hx
     have h2:=ir hg ht has
     generalize mo:a.eval x=cv at h1
     obtain ⟨fs',i_,rfl,hf,hc⟩:=h1.A8
     refine ⟨.fn (.func g) i_.toList.toArray,fs'.toList++c.args.toList.map a.eval,_,?_,⟨i_.toList,rfl,rfl⟩,fun w=>?_⟩
     · rw[List.append_assoc]
       have:=(hf.append h2).append hc
       simpa [List.append_assoc] using this
     · simp [resolve,hcx,Deferred.ofValue,mo,map_toArray]
   · rename_i l as hx has
     simp at h;obtain ⟨rfl,rfl⟩:=h
     have h1:=oI hg ht hx
     have h2:=ir hg ht has
     generalize mo:a.eval x=cv at h1
     cases h1 with
     | yield hl=>
       refine ⟨_,c.args.toList.map a.eval,_,h2,⟨_,hl,rfl,rfl⟩,fun w=>?_⟩
       simp [resolve,hcx,Deferred.ofValue,mo,map_toArray]
   · simp at h
 · simp at h
theorem Ir {φ:Ph} {w:World} {F:Fn} {t:Target} {vs all:List Value} (ht:Tk φ F t vs all) {n:Next} {start:Frame} (hp:qh E φ w F all n start):(invoke t vs.toArray).run E.P w= .ok n w:=by
 cases hp with
 | fn f sK hr=>
   obtain ⟨cap,rfl,rfl⟩:=ht
   simpa [invoke] using hr
 | Ik l ll hl sK f tmps assign body hr=>
   obtain ⟨ll',WW,rfl,rfl⟩:=ht
   rw[hl] at WW;simp at WW;subst WW
   simpa [invoke] using hr
theorem uA {φ:Ph} {b:Frame} {K:Bool→List Frame} {rc:RC} (gv:oK φ b K rc) {o:Oper} (h:rc.qg=false∨∀c,o.op≠ .defer c) (ρ:Operand→Value):o.semAt b.roundOf ρ=execOp ρ o:=by
 rcases h with h | h
 · rw[gv.plain h];rfl
 · exact Oper.semAt_eq _ _ _ h
end Go.Ab
end
section
namespace Go.Ab
variable {E:Env}
theorem FP {rc:RC} (h:∀l,rc= .WN l→False):rc.qg=false:=by
 cases rc<;>first | rfl | exact (h _ rfl).elim
theorem OK.gl {φ:Ph} {h:ah} {w:World} (ok:OK E φ h w):GL E φ:=ok.Aa
inductive v_ (E:Env) (call:aE) (φ:Ph) (ts:List AV) (h:ah) (rc:RC) (o:Oper) (a:Act) (w:World):ab0→Prop
 | val (v:AV) (h':ah) (φ':Ph) (w':World) (v':Value) (hv:VR φ' v v') (ok:OK E φ' h' w') (fr:Fr φ h w φ' h' w')
  (run:(execOp a.eval o).run E.P w= .ok (.value v') w'):v_ E call φ ts h rc o a w (.val v h')
 | skip (h':ah) (φ':Ph) (w':World) (ok:OK E φ' h' w') (fr:Fr φ h w φ' h' w')
  (run:(execOp a.eval o).run E.P w= .ok .skip w'):v_ E call φ ts h rc o a w (.val AV.undef h')
 | enter (v:AV) (h':ah) (F:Fn) (args:List AV) (all:List Value) (hr:Q9 E F args h v h') (hf:Xw φ F) (hl:LR φ args all)
  (run:∀n start,qh E φ w F all n start→(execOp a.eval o).run E.P w= .ok n w):v_ E call φ ts h rc o a w (.val v h')
 | acb (v:AV) (h':ah) (F:Fn) (args:List AV) (all:List Value) (hr:Q_ E F args h v h') (hf:Xw φ F) (hl:LR φ args all)
  (run:∀n start,qh E φ w F all n start→(execOp a.eval o).run E.P w= .ok n w):v_ E call φ ts h rc o a w (.panic v h')
 | defer (d:cC) (d':Deferred) (FM:rc.qg=false) (hd:DR φ d d') (run:(execOp a.eval o).run E.P w= .ok (.defer d') w):v_ E call φ ts h rc o a w (.defer d)
 | panic (v:AV) (v':Value) (hv:VR φ v v') (run:(execOp a.eval o).run E.P w= .halt (.panic v') w):v_ E call φ ts h rc o a w (.panic v h)
 | IU (v:AV) (gv:rc= .jE v) (run:(execOp a.eval o).run E.P w= .ok .recover w):v_ E call φ ts h rc o a w (.IU v)
 | Xz (gv:∀v,rc≠ .jE v) (FM:rc.qg=false) (run:(execOp a.eval o).run E.P w= .ok .recover w):v_ E call φ ts h rc o a w (.val .nilIface h)
 | fail (uu:String) (q:Option Oper):v_ E call φ ts h rc o a w (.fail uu q)
theorem Mf {t:TypeId} {name:String} {f:FuncId} (h:J7 E t name=some f) (v:Value) (w:World):(method (E.P.types.size+Made.depth) t v name).run E.P w= .ok (f,v) w:=by
 unfold J7 at h
 split at h
 · rename_i i hi
   split at h
   · rename_i m hm
     split at h
     · rename_i hp
       split at h
       · simp at h
       · rename_i g d cR hf hu
         simp at h;subst h
         have U4:m.path.toList=[]:=by simpa using hp
         have e:E.P.types.size+Made.depth=(E.P.types.size+99)+1:=rfl
         rw[e,method]
         have hti:(typeInfo t).run E.P w= .ok i w:=by simp [typeInfo,hi]
         simp only[Sem.run_bind,hti,Result.andThen_ok,hm,U4,follow,Sem.run_pure,hf,receiverAt,run_underlying hu]
         cases d with
         | pointer x=>exact absurd rfl (cR x)
         | _=>simp [Place.get]
       · simp at h
     · simp at h
   · simp at h
 · simp at h
theorem Bj {call:aE} {φ:Ph} {ts:List AV} {h:ah} {rc:RC} {o:Oper} {a:Act} {w:World} {s:Sem Value} {v:AV} {h':ah} (hd:U6 E φ h w (s.run E.P w) v h')
 (he:execOp a.eval o=(do pure (.value (←s)):Sem Next)):v_ E call φ ts h rc o a w (.val v h'):=by
 obtain ⟨φ',w',v',hr,hv,ok,fr⟩:=hd
 exact .val v h' φ' w' v' hv ok fr (by rw[he];exact fJ hr)
set_option maxHeartbeats 1000000 in
theorem Al (hE:jZ E) {call:aE} (cE:iu E call) {φ:Ph} {ts:List AV} {h:ah} {rc:RC} {o:Oper} {a:Act} {w:World} (ht:LR φ ts a.tmps.toList) (ok:OK E φ h w):
 v_ E call φ ts h rc o a w (gV E call ts h rc o):=by
 have ev:∀{x:Operand} {v:AV},eW E ts x=some v→VR φ v (a.eval x):=fun h=>oI ok.gl ht h
 obtain ⟨dst,op,ty,pos,after,guard⟩:=o
 unfold gV
 simp only
 split
 ·
  split
  · rename_i ha hx
    split
    · rename_i h' ja
      obtain ⟨w',hr,rJ,vB⟩:=Q4 ok (ev ha) (ev hx) ja
      exact .skip h' φ w' rJ vB (by simp [execOp,hr])
    · exact .fail _ _
  · exact .fail _ _
 ·
  split
  · rename_i hm hk hx
    split
    · rename_i h' ja
      obtain ⟨w',hr,rJ,vB⟩:=v8 ok (ev hm) (ev hk) (ev hx) ja
      exact .skip h' φ w' rJ vB (by simp [execOp,hr])
    · exact .fail _ _
  · exact .fail _ _
 ·
  split
  · rename_i hm hk hx
    split
    · rename_i h' ja
      obtain ⟨w',hr,rJ,vB⟩:=v8 ok (ev hm) (ev hk) (ev hx) ja
      exact .skip h' φ w' rJ vB (by simp [execOp,hr])
    · exact .fail _ _
  · exact .fail _ _
 ·
  rename_i src dst x
  split
  · rename_i v h' hc
    cases hx:eW E ts x with
    | none=>rw[hx] at hc;simp [zD] at hc
    | some xv=>
      rw[hx] at hc
      exact Bj (U_ ok hc (ev hx)) rfl
  · exact .fail _ _
 ·
  split
  · rename_i hi
    split
    · rename_i hn
      exact Bj (U' ok hn (ev hi) ty) rfl
    · exact .fail _ _
  · exact .fail _ _
 ·
  split
  · rename_i hx
    have h1:=ev hx
    generalize mo:a.eval _=cv at h1
    cases h1 with
    | iface t1 v1 v' hv=>
    exact .panic _ _ (.iface _ _ v' hv) (by simp [execOp,mo,Instr.panic])
  · exact .fail _ _
 ·
  split
  · exact .fail _ _
  · rename_i f args FM hc
    obtain ⟨t,vs,all,hl,⟨cap,rfl,rfl⟩,hr⟩:=FN ok.gl ht hc ty
    exact .defer _ {target:= .fn (.func f) cap.toArray,args:=vs.toArray} (FP FM) ⟨cap.toArray,rfl,by simpa using hl⟩ (by simp [execOp,hr])
  · exact .fail _ _
 ·
  rename_i c
  split
  ·
   rename_i Is
   split
   · rename_i s x has
     have hl:=ir ok.gl ht has
     obtain ⟨s',r1,Mg,hs,Mh⟩:=hl.eN
     obtain ⟨x',r2,hr2,hx,XA⟩:=Mh.eN
     have h0:c.args.map a.eval= #[s',x']:=by rw[map_toArray,Mg,hr2,XA.fR]
     split
     · rename_i hap
       exact Bj (Ma ok hap hs hx ty) (by simp [execOp,resolve,Is,invoke,builtin,h0])
     · exact .fail _ _
   · exact .fail _ _
  ·
   rename_i Is
   split
   · rename_i s x has
     have hl:=ir ok.gl ht has
     obtain ⟨s',r1,Mg,hs,Mh⟩:=hl.eN
     obtain ⟨x',r2,hr2,hx,XA⟩:=Mh.eN
     have h0:c.args.map a.eval= #[s',x']:=by rw[map_toArray,Mg,hr2,XA.fR]
     split
     · rename_i hap
       exact Bj (U9 ok hap hs hx ty) (by simp [execOp,resolve,Is,invoke,builtin,h0])
     · exact .fail _ _
   · exact .fail _ _
  ·
   rename_i Is
   have iH:(execOp a.eval ⟨dst,.call c,ty,pos,after,guard⟩).run E.P w= .ok .recover w:=by simp [execOp,resolve,Is,invoke,builtin]
   split
   · exact .IU _ rfl iH
   · exact .fail _ _
   · rename_i cR FM
     exact .Xz (fun v e=>cR v e) (FP FM) iH
  ·
   rename_i fo Is
   split
   · rename_i F args hc
     obtain ⟨t,vs,all,hl,htg,hr⟩:=FN ok.gl ht hc ty
     have iH:∀n start,qh E φ w F all n start→(execOp a.eval ⟨dst,.call c,ty,pos,after,guard⟩).run E.P w= .ok n w:=fun n start hp=>by
      have:=Ir htg hp
      simp [execOp,hr,this]
     split
     · rename_i g hg
       split
       · rename_i v h' hgv
         cases F with
         | fn f=>exact .enter v h' (.fn f) args all (hE.pf f g hg args h v h' hgv).any trivial hl iH
         | Ik l=>simp [CO] at hg
       · exact .fail _ _
     · split
       · rename_i v h' mo
         exact .enter v h' F args all (cE.ret F args h v h' mo) htg.aht hl iH
       · rename_i v h' mo
         exact .acb v h' F args all (cE.panic F args h v h' mo) htg.aht hl iH
       · exact .fail _ _
   · exact .fail _ _
  ·
   rename_i r name Is
   split
   · rename_i t x args hx has
     split
     · rename_i f hm
       have h1:=ev hx
       generalize mo:a.eval r=cv at h1
       cases h1 with
       | iface t1 v1 v' hv=>
       have hl:LR φ (x::args) (v'::c.args.toList.map a.eval):= .cons hv (ir ok.gl ht has)
       have iH:∀n start,qh E φ w (.fn f) (v'::c.args.toList.map a.eval) n start→(execOp a.eval ⟨dst,.call c,ty,pos,after,guard⟩).run E.P w= .ok n w:=fun n start hp=>by
        cases hp with
        | fn f sK hr=>
        have e1:(#[v']++(c.args.map a.eval))=(v'::c.args.toList.map a.eval).toArray:=by rw[map_toArray];simp
        have e2:(#[Value.iface t v']++c.args.map a.eval).extract 1 (#[Value.iface t v']++c.args.map a.eval).size=c.args.map a.eval:=by
         apply Array.ext';simp
         exact List.take_of_length_le (by simp)
        have e3:(#[Value.iface t v']++c.args.map a.eval)[0]? =some (Value.iface t v'):=by rw[Array.getElem?_append];rfl
        simp only[execOp,resolve,Is,mo,Sem.run_bind,Sem.run_pure,Result.andThen_ok,invoke,e3,e2,callMethod,run_program,Mf hm,e1,hr]
       split
       · rename_i v h' afv
         exact .enter v h' (.fn f) _ _ (cE.ret (.fn f) _ h v h' afv) trivial hl iH
       · rename_i v h' afv
         exact .acb v h' (.fn f) _ _ (cE.panic (.fn f) _ h v h' afv) trivial hl iH
       · exact .fail _ _
     · exact .fail _ _
   · exact .fail _ _
  · exact .fail _ _
 · exact .fail _ _
structure ahu (E:Env) (φ:Ph) (h:ah) (w:World) (b:Frame) (K:Bool→List Frame) (ops:Array Oper) (rest:List Nat) (k:List Item) (m:Machine) (e:oA) (s':St):Prop where
 is:∃φ' w' a' e',ExR φ' e e'∧SR φ' s'.ts s'.ds a'∧OK E φ' s'.h w'∧Fr φ h w φ' s'.h w'∧oK φ' b K s'.rc∧ahs E.P m b ops rest k (cur K s'.rc) e' a' w'
set_option maxHeartbeats 1000000 in
theorem I6 (hE:jZ E) {call:aE} (cE:iu E call) {ops:Array Oper} {i:Nat} {rest:List Nat} {o:Oper} (ho:ops[i]? =some o) {s s':St} {e:oA} (rH:opA E call s o= .ok e s')
 {φ:Ph} {a:Act} {w:World} {b:Frame} {k:List Item} {K:Bool→List Frame} (hs:SR φ s.ts s.ds a) (ok:OK E φ s.h w) (gv:oK φ b K s.rc) (hw:Region.wanted o (yielded ops a.tmps)=true):
 ahu E φ s.h w b K ops rest k (lone (b.atR a (.inRegion ops (i::rest)::k)) (cur K s.rc) w) e s':=by
 have lj:(s.rc.qg=false∨∀c,o.op≠ .defer c)→o.semAt b.roundOf a.eval=execOp a.eval o:=fun h=>uA gv h _
 unfold opA at rH
 split at rH
 · rename_i v hp
   have oV:s.rc.qg=false∨∀c,o.op≠ .defer c:= .inr (fun c e=>by rw[e] at hp;simp [ct] at hp)
   simp at rH;obtain ⟨rfl,rfl⟩:=rH
   obtain ⟨v',hv,hr⟩:=DP hE.ext ok.gl hs.ts hp
   exact ⟨φ,w,_,_,.normal,hs.put o.dst hv,ok,Fr.refl _ _ _,gv,.one (nY (lj oV) ho hw (hr w))⟩
 · split at rH
   · rename_i v hp
     have oV:s.rc.qg=false∨∀c,o.op≠ .defer c:= .inr (fun c e=>by rw[e] at hp;simp [ig] at hp)
     simp at rH;obtain ⟨rfl,rfl⟩:=rH
     obtain ⟨v',hv,hr⟩:=DS ok.gl ok hs.ts hp
     exact ⟨φ,w,_,_,.normal,hs.put o.dst hv,ok,Fr.refl _ _ _,gv,.one (nY (lj oV) ho hw (hr w rfl))⟩
   · split at rH
     · rename_i obj mk hp
       have oV:s.rc.qg=false∨∀c,o.op≠ .defer c:= .inr (fun c e=>by rw[e] at hp;simp [gh] at hp)
       split at rH
       · rename_i h' hn
         simp at rH;obtain ⟨rfl,rfl⟩:=rH
         obtain ⟨O,mk',Mi,hr⟩:=Be ok.gl hs.ts hp
         obtain ⟨rJ,vB,hle⟩:=ok.fresh (w':=w.alloc O) hn ⟨w.heap.size,0,0⟩ (by
          have:=Mi.obj (φ.add s.h.nx ⟨w.heap.size,0,0⟩) w.heap.size (fun i m hm=>by
           unfold Ph.add;split
           · rename_i e;subst e;exact absurd (ok.ED _ _ hm) (Nat.lt_irrefl _)
           · exact hm)
          rw[show (w.alloc O).heap=w.heap.push O from rfl]
          simpa using this)
          (fun c cR hc=>by rw[show (w.alloc O).heap=w.heap.push O from rfl,Array.getElem?_push,if_neg (by simpa using cR)]) (by simp) (Nat.le_refl _) rfl rfl rfl
         have hv:=Mi.val (φ.add s.h.nx ⟨w.heap.size,0,0⟩) s.h.nx w.heap.size hle (by simp [Ph.add])
         exact ⟨_,_,_,_,.normal,(hs.mono hle).put o.dst hv,rJ,vB,gv.mono hle,.one (nY (lj oV) ho hw (hr w))⟩
       · simp at rH
     · have we:=Al hE cE (rc:=s.rc) (o:=o) hs.ts ok
       have oV:(∃d,gV E call s.ts s.h s.rc o= .defer d)∨(∃uu q,gV E call s.ts s.h s.rc o= .fail uu q)∨(s.rc.qg=false∨∀c,o.op≠ .defer c):=by
        by_cases hd:∃c,o.op= .defer c
        · obtain ⟨c,hd⟩:=hd
          unfold gV
          simp only[hd]
          split
          · exact .inr (.inl ⟨_,_,rfl⟩)
          · exact .inl ⟨_,rfl⟩
          · exact .inr (.inl ⟨_,_,rfl⟩)
        · exact .inr (.inr (.inr (fun c e=>hd ⟨c,e⟩)))
       generalize gV E call s.ts s.h s.rc o=eo at rH we oV
       cases we with
       | val v h' φ' w' v' hv yd fr run=>
         have oV:=(oV.resolve_left (by simp)).resolve_left (by simp)
         simp at rH;obtain ⟨rfl,rfl⟩:=rH
         exact ⟨φ',w',_,_,.normal,(hs.mono fr.ext).put o.dst hv,yd,fr,gv.mono fr.ext,.one (nY (lj oV) ho hw run)⟩
       | skip h' φ' w' yd fr run=>
         have oV:=(oV.resolve_left (by simp)).resolve_left (by simp)
         simp at rH;obtain ⟨rfl,rfl⟩:=rH
         exact ⟨φ',w',_,_,.normal,(hs.mono fr.ext).put o.dst (VR.undef φ'),yd,fr,gv.mono fr.ext,.one (Me (lj oV) ho hw run)⟩
       | enter v h' F args all hr hf hl run=>
         have oV:=(oV.resolve_left (by simp)).resolve_left (by simp)
         simp at rH;obtain ⟨rfl,rfl⟩:=rH
         obtain ⟨n,start,hp,ja⟩:=hr φ w all ok hf hl
         obtain ⟨φ',w',v',hv,yd,fr,jj⟩:=ja (b.atR a (.inRegion ops (i::rest)::k)) (cur K s.rc)
         rw[xZ ho] at jj
         exact ⟨φ',w',_,_,.normal,(hs.mono fr.ext).put o.dst hv,yd,fr,gv.mono fr.ext,.head (Bi (lj oV) ho hw hp (run n start hp)) jj⟩
       | acb v h' F args all hr hf hl run=>
         have oV:=(oV.resolve_left (by simp)).resolve_left (by simp)
         simp at rH;obtain ⟨rfl,rfl⟩:=rH
         obtain ⟨n,start,hp,ja⟩:=hr φ w all ok hf hl
         obtain ⟨φ',w',v',hv,yd,fr,jj⟩:=ja (b.atR a (.inRegion ops (i::rest)::k)) (cur K s.rc)
         rw[Frame.raise_atR] at jj
         exact ⟨φ',w',a,_,.panic v v' hv,hs.mono fr.ext,yd,fr,gv.mono fr.ext,.inRegion ops (i::rest)::k,.head (Bi (lj oV) ho hw hp (run n start hp)) jj⟩
       | defer d d' FM hd run=>
         simp at rH;obtain ⟨rfl,rfl⟩:=rH
         have h1:SR φ s.ts (d::s.ds) {a with defers:=d'::a.defers}:=⟨hs.ts,hd,hs.ds⟩
         exact ⟨φ,w,_,_,.normal,h1.put o.dst (VR.undef φ),ok,Fr.refl _ _ _,gv,.one (Va (uA gv (.inl FM) _) ho hw run)⟩
       | panic v v' hv run=>
         have oV:=(oV.resolve_left (by simp)).resolve_left (by simp)
         simp at rH;obtain ⟨rfl,rfl⟩:=rH
         exact ⟨φ,w,a,_,.panic v v' hv,hs,ok,Fr.refl _ _ _,gv,_,.one (Xy (lj oV) ho hw run)⟩
       | IU v akC run=>
         simp at rH;obtain ⟨rfl,rfl⟩:=rH
         rw[akC] at gv ⊢
         have XB:=gv.plain rfl
         have ahv:=uA gv (o:=o) (.inl rfl) a.eval
         obtain ⟨_,⟨v',hv,htr⟩,ahw⟩:=gv
         exact ⟨φ,w,_,_,.normal,hs.put o.dst hv,ok,Fr.refl _ _ _,⟨XB,ahw⟩,.one (Q' XB ahv ho hw run (htr _ rfl))⟩
       | Xz cR FM run=>
         simp at rH;obtain ⟨rfl,rfl⟩:=rH
         have DK:∀fr:Frame,fr.kind=b.kind→tryRecover fr (cur K s.rc)=none:=by
          cases Kg:s.rc with
          | no=>rw[Kg] at gv;exact gv.2
          | jE v=>exact absurd Kg (cR v)
          | done=>rw[Kg] at gv;exact gv.2
          | WN l=>rw[Kg] at FM;simp [RC.qg] at FM
         exact ⟨φ,w,_,_,.normal,hs.put o.dst .nilIface,ok,Fr.refl _ _ _,gv,.one (zH (gv.plain FM) (uA gv (.inl FM) _) ho hw run (DK _ rfl))⟩
       | fail uu q=>simp at rH
end Go.Ab
end
section
namespace Go.Ab
variable {E:Env}
def I7 (E:Env) (ts nC:List AV) (op:Op):Prop:=∀x∈op.operands,eW E ts x=eW E nC x
theorem Bk {α β:Type} {f g:α→Option β}:∀{l:List α} (_:∀x∈l,f x=g x),fv f l=fv g l
 | [],_=>rfl
 | x::xs,h=>by simp only[fv,h x (by simp),Bk (l:=xs) (fun y hy=>h y (by simp [hy]))]
theorem rV {ts nC:List AV} {l:List Operand} (h:∀x∈l,eW E ts x=eW E nC x):iM E ts l=iM E nC l:=Bk h
theorem uB {ts nC:List AV}:∀{l:List (Nat×Operand)} (_:∀x∈l.map (·.2),eW E ts x=eW E nC x),mu E ts l=mu E nC l
 | [],_=>rfl
 | (i,o)::l,h=>by simp only[mu,h o (by simp),uB (l:=l) (fun y hy=>h y (by simp at hy ⊢;exact .inr hy))]
theorem wi {ts nC:List AV} {o:Option Operand} (h:∀x∈o.toArray,eW E ts x=eW E nC x):pY E ts o=pY E nC o:=by
 cases o with
 | none=>rfl
 | some o=>simp only[pY,h o (by simp)]
theorem Bl {ts nC:List AV} {c:Call} (h:∀x∈c.operands,eW E ts x=eW E nC x):callee E ts c=callee E nC c:=by
 unfold callee
 cases hc:c.callee with
 | value f=>
   have h1:eW E ts f=eW E nC f:=h f (by simp [Call.operands,hc])
   have h2:iM E ts c.args.toList=iM E nC c.args.toList:=rV (fun x hx=>h x (by simp [Call.operands,hc];exact .inr (by simpa using hx)))
   simp only[h1,h2]
 | invoke _ _=>rfl
 | builtin _=>rfl
theorem oL {ts nC:List AV} {c:Call} (h:∀x∈c.operands,eW E ts x=eW E nC x):iM E ts c.args.toList=iM E nC c.args.toList:=
 rV (fun x hx=>h x (by simp [Call.operands];exact .inr (by simpa using hx)))
theorem Mj {ts nC:List AV} {op:Op} (h:I7 E ts nC op):ct E ts op=ct E nC op:=by
 cases op with
 | call c=>
   have hc:=oL (E:=E) (ts:=ts) (nC:=nC) (c:=c) h
   obtain ⟨callee,args,argTypes⟩:=c
   simp only at hc
   cases callee with
   | builtin b=>cases b<;>simp only[ct,hc]
   | value f=>cases f<;>simp only[ct,hc]
   | invoke r m=>simp only[ct]
 | build t ps=>
   have:mu E ts ps.toList=mu E nC ps.toList:=uB (fun x hx=>h x (by simpa [Op.operands] using hx))
   simp only[ct,this]
 | makeFunc fn first captured=>
   cases fn with
   | func f=>
     have h1:iM E ts first.toList=iM E nC first.toList:=rV (fun x hx=>h x (by simp [Op.operands];exact .inl (by simpa using hx)))
     have h2:iM E ts captured.toList=iM E nC captured.toList:=rV (fun x hx=>h x (by simp [Op.operands];exact .inr (by simpa using hx)))
     simp only[ct,h1,h2]
   | _=>simp only[ct]
 | slice t x lo hi mx=>
   have h0:eW E ts x=eW E nC x:=h x (by simp [Op.operands])
   have h1:pY E ts lo=pY E nC lo:=wi (fun y hy=>h y (by simp [Op.operands] at hy ⊢;exact .inr (.inl hy)))
   have h2:pY E ts hi=pY E nC hi:=wi (fun y hy=>h y (by simp [Op.operands] at hy ⊢;exact .inr (.inr (.inl hy))))
   have h3:pY E ts mx=pY E nC mx:=wi (fun y hy=>h y (by simp [Op.operands] at hy ⊢;exact .inr (.inr (.inr hy))))
   simp only[ct,h0,h1,h2,h3]
 | move x=>simp only[ct,h x (by simp [Op.operands])]
 | assign x=>simp only[ct,h x (by simp [Op.operands])]
 | pick c a b=>simp only[ct,h c (by simp [Op.operands]),h a (by simp [Op.operands]),h b (by simp [Op.operands])]
 | nilCheck x=>simp only[ct,h x (by simp [Op.operands])]
 | binOp o t x y u=>simp only[ct,h x (by simp [Op.operands]),h y (by simp [Op.operands])]
 | unOp o t x=>simp only[ct,h x (by simp [Op.operands])]
 | convert s d x=>simp only[ct,h x (by simp [Op.operands])]
 | makeInterface t x=>simp only[ct,h x (by simp [Op.operands])]
 | fieldAddr s x f=>simp only[ct,h x (by simp [Op.operands])]
 | field s x f=>simp only[ct,h x (by simp [Op.operands])]
 | indexAddr t x i=>simp only[ct,h x (by simp [Op.operands]),h i (by simp [Op.operands])]
 | index t x i=>simp only[ct,h x (by simp [Op.operands]),h i (by simp [Op.operands])]
 | extract x i=>simp only[ct,h x (by simp [Op.operands])]
 | typeAssert x a b ok=>simp only[ct,h x (by simp [Op.operands])]
 | _=>simp only[ct]
theorem Mk {ts nC:List AV} {op:Op} (h:I7 E ts nC op) (hp:ah):ig E ts hp op=ig E nC hp op:=by
 cases op with
 | call c=>
   have hc:=oL (E:=E) (ts:=ts) (nC:=nC) (c:=c) h
   obtain ⟨callee,args,argTypes⟩:=c
   simp only at hc
   cases callee with
   | builtin b=>cases b<;>simp only[ig,hc]
   | value f=>simp only[ig]
   | invoke r m=>simp only[ig]
 | load t a=>simp only[ig,h a (by simp [Op.operands])]
 | convert s d x=>simp only[ig,h x (by simp [Op.operands])]
 | lookup t x i ok=>simp only[ig,h x (by simp [Op.operands]),h i (by simp [Op.operands])]
 | _=>simp only[ig]
theorem Kh {ts nC:List AV} {op:Op} (h:I7 E ts nC op):gh E ts op=gh E nC op:=by
 cases op with
 | buildSlice t n ps=>
   have:mu E ts ps.toList=mu E nC ps.toList:=uB (fun x hx=>h x (by simpa [Op.operands] using hx))
   simp only[gh,this]
 | box t x=>simp only[gh,h x (by simp [Op.operands])]
 | makeSlice t l c=>simp only[gh,h l (by simp [Op.operands]),h c (by simp [Op.operands])]
 | makeMap t r=>
   cases r with
   | none=>simp only[gh]
   | some r=>simp only[gh,h r (by simp [Op.operands])]
 | range t x=>simp only[gh,h x (by simp [Op.operands])]
 | _=>simp only[gh]
theorem FQ {call:aE} {ts nC:List AV} {o:Oper} (h:I7 E ts nC o.op) (hp:ah) (rc:RC):gV E call ts hp rc o=gV E call nC hp rc o:=by
 obtain ⟨dst,op,ty,pos,after,guard⟩:=o
 simp only at h
 unfold gV
 cases op with
 | call c=>
   have hc:=oL (E:=E) (ts:=ts) (nC:=nC) (c:=c) h
   have Is:=Bl (E:=E) (ts:=ts) (nC:=nC) (c:=c) h
   cases hcc:c.callee with
   | invoke r name=>
     have hr:eW E ts r=eW E nC r:=h r (by simp [Op.operands,Call.operands,hcc])
     simp only[hcc,hc,hr]
   | builtin b=>cases b<;>simp only[hcc,hc]
   | value f=>simp only[hcc,Is]
 | defer c=>simp only[Bl (E:=E) (ts:=ts) (nC:=nC) (c:=c) h]
 | store t a x=>simp only[h a (by simp [Op.operands]),h x (by simp [Op.operands])]
 | mapUpdate t m k x=>simp only[h m (by simp [Op.operands]),h k (by simp [Op.operands]),h x (by simp [Op.operands])]
 | insert t m k x=>simp only[h m (by simp [Op.operands]),h k (by simp [Op.operands]),h x (by simp [Op.operands])]
 | convert s d x=>simp only[h x (by simp [Op.operands])]
 | next i s=>simp only[h i (by simp [Op.operands])]
 | panic x=>simp only[h x (by simp [Op.operands])]
 | _=>rfl
end Go.Ab
end
