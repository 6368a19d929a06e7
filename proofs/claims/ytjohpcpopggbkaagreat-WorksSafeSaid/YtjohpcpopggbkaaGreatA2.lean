import Derived.Laws.BitsLemmas
import Derived.Laws.RangeString
import Derived.Defers
import Derived.AtR
import Derived.RangeFuncNested
import Derived.Test.YtjohpcpopggbkaaGreatA1
set_option linter.unusedVariables false
set_option linter.unusedSimpArgs false
section
namespace Go.Ab
variable {E:Env}
def Fl (E:Env) (φ:Ph) (h:aq) (w:World) (r:Result Value) (v:AV) (h':aq):Prop:=
 ∃φ' w' v',r= .ok v' w'∧VR φ' v v'∧OK E φ' h' w'∧Fr φ h w φ' h' w'
theorem vz {φ:Ph} {vs:List AV} {nM:List Value} (h:LR φ vs nM) (hs:vs.all AV.scalar=true):∀v∈nM,v.oneCell'=true:=by
 intro v hv
 obtain ⟨i,hi⟩:=List.getElem?_of_mem hv
 have Tv:i<vs.length:=by rw[h.1];exact (List.getElem?_eq_some_iff.1 hi).1
 have:=h.2 i vs[i] v (by simp [Tv]) hi
 exact this.scalar (List.all_eq_true.1 hs _ (List.getElem_mem Tv))
theorem tc {φ:Ph} {h:aq} {w:World} (ok:OK E φ h w) {i:Nat} {cs:List AV} {e:TypeId} (hg:h.get i=some (.cells cs e false)) {l:Loc} (hφ:φ i=some l)
 {vs:List AV} {nM:List Value} (hl:LR φ vs nM) (o:Nat) (hle:o+vs.length≤cs.length) (te:vs.all AV.scalar=true):
 ∃w',(storeCells ⟨l.eV,l.off+o,none⟩ nM).run E.P w= .ok () w'∧OK E φ (h.put i (some (.cells (setFrom cs o vs) e false))) w'∧
  Fr φ h w φ (h.put i (some (.cells (setFrom cs o vs) e false))) w':=by
 obtain ⟨C,e',lo,hi,hb,hc⟩:=ok.cells hg hφ
 have He:=hc.size
 have hlen:=hl.1
 have fG:=qu (P:=E.P) hb (l.off+o) nM (by omega) (fun k h1 h2=>hc.free rfl k (by omega) (by omega)) (vz hl te)
 refine ⟨_,fG,?_⟩
 obtain ⟨h1,h2,h3⟩:=o6 nM w l.eV (l.off+o)
 refine ok.change hg rfl hφ ?_ (fun c dt=>iz nM (Ne.symm dt) _) (mM _ _ _ _) h1 h2 h3
 refine ⟨iy C (l.off+o) nM,e',lo,hi,mL nM hb _,?_,fun k x hk=>?_,fun _ k a b=>hc.free rfl k a (by rw[lQ] at b;exact b),fun h=>by cases h⟩
 · rw[lQ,oZ];exact He
 · rw[g9] at hk
   rw[qK]
   split at hk
   · rename_i P_
     rw[if_pos (by omega)]
     obtain ⟨y,hy,hr⟩:=hl.get hk
     exact ⟨y,by rw[show l.off+k -(l.off+o)=k - o by omega];exact hy,hr⟩
   · rename_i P_
     have Tw:k<cs.length:=(List.getElem?_eq_some_iff.1 hk).1
     rw[if_neg (by omega)]
     exact hc.val k x hk
theorem CQ {φ:Ph} {h h':aq} {w:World} (ok:OK E φ h w) {t:TypeId} {av xv:AV} {a' x':Value} (ha:VR φ av a') (hx:VR φ xv x') (e:fE E h t av xv=some h'):
 ∃w',(Instr.storeAt t a' x').run E.P w= .ok () w'∧OK E φ h' w'∧Fr φ h w φ h' w':=by
 unfold fE at e
 split at e
 · rename_i i o
   cases ha with
   | @ptr _ l _ hφ=>
   split at e
   · rename_i cs el n hg hn
     split at e
     · rename_i hc
       simp at e;subst e
       obtain ⟨w',fG,lT,oF⟩:=tc ok hg hφ hx.cells o (by omega) hc.2.2
       refine ⟨w',?_,lT,oF⟩
       have hs:x'.cells.size=n:=by have:=hx.cells.1;simp at this;omega
       simp only[Instr.storeAt,Instr.sureAddr,Sem.run_bind,Sem.run_pure,Result.andThen_ok,storeVar,dk hn,hs,ne_eq,not_true_eq_false,if_false,fG]
     · simp at e
   · simp at e
 · simp at e
theorem vA {φ:Ph} {h:aq} {w:World} (ok:OK E φ h w) {size n:Nat} {x:AV} {x':Value} (hx:VR φ x x') {new:List AV} (e:ez h size n x=some new) (hn:mK x=some n∨True):
 ∃oG:List Value,LR φ new oG∧∀w',w'.heap=w.heap→(Builtin.firstCells size n x').run E.P w'= .ok oG.toArray w':=by
 unfold ez at e
 split at e
 · split at e
   · rename_i h0
     simp at e;subst e
     cases hx
     exact ⟨[],LR.nil φ,fun w' _=>by simp [Builtin.firstCells]⟩
   · simp at e
 · split at e
   · rename_i h0
     simp at e;subst e
     cases hx
     exact ⟨[],LR.nil φ,fun w' _=>by subst h0;simp only[Builtin.firstCells,Nat.zero_mul];rfl⟩
   · simp at e
 · rename_i i o len _ _
   split at e
   · split at e
     · rename_i h0
       simp at e;subst e
       cases hx
       exact ⟨[],LR.nil φ,fun w' _=>by subst h0;simp only[Builtin.firstCells,Nat.zero_mul];rfl⟩
     · split at e
       · rename_i cs el ro hg
         split at e
         · rename_i hle
           simp at e;subst e
           cases hx with
           | @slice _ l _ _ _ _ hφ=>
           obtain ⟨C,e',lo,hi,hb,hc⟩:=ok.cells hg hφ
           obtain ⟨vs,QO,Cr,vr⟩:=hc.range o (n*size) hle
           refine ⟨vs,vr,fun w' hw=>?_⟩
           rw[←hw] at hb
           have vv:=lx (P:=E.P) hb (l.off+o) vs Cr
           rw[QO] at vv
           simp only[Builtin.firstCells,vv]
         · simp at e
       · simp at e
   · simp at e
 · rename_i s
   split at e
   · rename_i oN
     simp at e;subst e
     generalize CL:AV.str s=s0 at hx
     cases hx<;>cases CL
     rename_i s'
     refine ⟨(s'.data.toList.take n).map (fun b=>Value.int .u8 b.toNat),⟨by simp,fun i p q hp hq=>?_⟩,fun w' _=>?_⟩
     · rw[←List.map_take,List.getElem?_map] at hp
       rw[List.getElem?_map] at hq
       cases hb:(s'.data.toList.take n)[i]? with
       | none=>rw[hb] at hp;simp at hp
       | some b=>
         rw[hb] at hp hq
         simp at hp hq
         subst hp;subst hq
         exact .int _ _
     · simp only[Builtin.firstCells,Sem.run_pure]
       congr 1
       apply Array.ext'
       simp
   · simp at e
 · simp at e
end Go.Ab
namespace Go.Ab
variable {E:Env}
theorem OK.reuse {φ:Ph} {h h':aq} {w w':World} (ok:OK E φ h w) {i:Nat} {o o':aP} {l l':Loc} (hg:h.get i=some o) (AF:o.rw=true) (hl:φ i=some l) (hb:l'.eV=l.eV)
 (hn:(h.put i none).new o'=some h') (ho:OR E (φ.add h.nx l') o' l' w'.heap[l.eV]?) (o7:∀c,c≠l.eV→w'.heap[c]? =w.heap[c]?) (eu:w'.heap.size=w.heap.size)
 (QH:w'.os=w.os) (AM:w'.tape=w.tape) (m6:w'.output=w.output):
 OK E (φ.add h.nx l') h' w'∧Fr φ h w (φ.add h.nx l') h' w':=by
 obtain ⟨jT,P6,vo,hold⟩:=aq.js hn
 have Yi:(h.put i none).nx=h.nx:=rfl
 rw[Yi] at P6 vo hold
 have zn:φ h.nx=none:=by
  cases e:φ h.nx with
  | none=>rfl
  | some m=>exact absurd (ok.uJ _ _ e) (Nat.lt_irrefl _)
 have hle:φ.le (φ.add h.nx l'):=fun j m hm=>by
  unfold Ph.add;split
  · rename_i e;subst e;rw[zn] at hm;simp at hm
  · exact hm
 have eZ:∀j p,h'.get j=some p→(j=h.nx∧p=o')∨(j≠h.nx∧j≠i∧h.get j=some p):=fun j p hj=>by
  by_cases e:j=h.nx
  · subst e;rw[vo] at hj;simp at hj;exact .inl ⟨rfl,hj.symm⟩
  · rw[hold j e] at hj
    by_cases e':i=j
    · subst e';rw[aq.dw] at hj;simp at hj
    · rw[aq.ck e'] at hj;exact .inr ⟨e,Ne.symm e',hj⟩
 have iA:∀j,j≠h.nx→(φ.add h.nx l') j=φ j:=fun j hj=>by simp [Ph.add,hj]
 have fN:(φ.add h.nx l') h.nx=some l':=by simp [Ph.add]
 refine ⟨⟨fun j m hm=>?_,?_,fun g hg=>hle _ _ (ok.qI g hg),fun j p m hj hm=>?_,fun j k p q m n hj hk hm oE hw Uo=>?_⟩,
  ⟨hle,fun j hj=>iA j (by omega),by omega,QH,AM,m6,Nat.le_of_eq eu.symm,fun b _ Tq=>o7 b (fun e=>Tq i o l hg AF hl e.symm),fun j p m hj hr hm=>?_⟩⟩
 · rw[P6]
   by_cases e:j=h.nx
   · omega
   · rw[iA j e] at hm;have:=ok.uJ j m hm;omega
 · have:=ok.nx;omega
 · rcases eZ j p hj with ⟨rfl,rfl⟩ | ⟨dt,zo,nJ⟩
   · rw[fN] at hm;simp at hm;subst hm;exact hb▸ho
   · rw[iA j dt] at hm
     rw[o7 _ (fun e=>zo (ok.inj j i p o m l nJ hg hm hl (.inr AF) e))]
     exact (ok.live j p m nJ hm).mono hle
 · rcases eZ j p hj with ⟨rfl,rfl⟩ | ⟨dt,Wz,nJ⟩<;>rcases eZ k q hk with ⟨rfl,rfl⟩ | ⟨zo,Up,AN⟩
   · rfl
   · rw[fN] at hm;simp at hm;subst hm
     rw[iA k zo] at oE
     exact absurd (ok.inj k i q o n l AN hg oE hl (.inr AF) (Uo.symm.trans hb)) Up
   · rw[fN] at oE;simp at oE;subst oE
     rw[iA j dt] at hm
     exact absurd (ok.inj j i p o m l nJ hg hm hl (.inr AF) (Uo.trans hb)) Wz
   · rw[iA j dt] at hm;rw[iA k zo] at oE;exact ok.inj _ _ _ _ _ _ nJ AN hm oE hw Uo
 · rcases eZ j p hj with ⟨rfl,rfl⟩ | ⟨dt,Wz,nJ⟩
   · rw[fN] at hm;simp at hm;subst hm;exact .inr ⟨i,o,l,hg,AF,hl,hb.symm⟩
   · rw[iA j dt] at hm;exact .inr ⟨j,p,m,nJ,hr,hm,rfl⟩
theorem ym:∀(rounds c CS:Nat),c<CS→Builtin.growBy CS rounds c≤2*CS+1000
 | 0,c,n,h=>by simp [Builtin.growBy];omega
 | r+1,c,n,h=>by
   simp only[Builtin.growBy]
   split
   · omega
   · by_cases hc:c+(c+768) /4<n
     · exact ym r _ n hc
     · cases r with
       | zero=>simp only[Builtin.growBy];omega
       | succ r=>simp only[Builtin.growBy];rw[if_pos (by omega)];omega
theorem nextslicecap_le {n c:Nat} (h:c<n):Builtin.nextslicecap n c≤4*n+4096:=by
 unfold Builtin.nextslicecap
 split
 · omega
 · split
   · omega
   · have:=ym 4 c n h;omega
theorem lU (z:Array Value) (n:Nat):(Builtin.zeroCells z n).size=n*z.size:=by simp [Builtin.zeroCells]
theorem ow {P:Program} {w:World} {sT xT ty elem:TypeId} {xd:TypeDesc} (hs:P.underlying sT=some (.slice elem)) (hx:P.underlying xT=some xd) (Ky:∀k,xd≠ .int k)
 {size bytes n:Nat} (eu:(P.info? elem).map (·.size)=some size) (jt:(P.info? elem).map (·.bytes)=some bytes) {z:Value} (hz:∀w,(zeroValue elem).run P w= .ok z w) (Kz:z.cells.size=size)
 {base:Option Addr} {len cap:Nat} {x':Value} (hn:∀w,(Builtin.lenOf x').run P w= .ok n w) {old new:List Value} (hold:∀w',w'.heap=w.heap→(Builtin.firstCells size len (.slice base len cap)).run P w'= .ok old.toArray w')
 (vo:∀w',w'.heap=w.heap→(Builtin.firstCells size n x').run P w'= .ok new.toArray w') (jT:cap<len+n) (KA:(4*(len+n)+4096)*(bytes+1)≤1099511627776) (Ke:old.length=len*size) (Hn:new.length=n*size):
 ∃nc:Nat,∃C:Array Value,len+n≤nc∧(∃rest,C.toList=old++new++rest)∧C.size=nc*size∧
  (Builtin.append_ #[sT,xT] ty #[.slice base len cap,x']).run P w= .ok (.slice (some ⟨w.heap.size,0,none⟩) (len+n) nc) (w.drew.alloc (.cells C elem)):=by
 let nc:=(Question.appendCap (len+n) cap elem).cut (w.tape w.drawn (.appendCap (len+n) cap elem))
 have Ho:len+n≤nc:=by show len+n≤len+n+_;omega
 let C:Array Value:=old.toArray++new.toArray++Builtin.zeroCells z.cells (nc -(len+n))
 refine ⟨nc,C,Ho,⟨(Builtin.zeroCells z.cells (nc -(len+n))).toList,by simp [C]⟩,?_,?_⟩
 · simp only[C,Array.size_append,lU,Kz,List.size_toArray,Ke,Hn]
   rw[←Nat.add_mul,←Nat.add_mul];congr 1;omega
 · obtain ⟨inf,AT,hb⟩:=m7 jt w
   obtain ⟨Uq,Hp,My⟩:=m7 jt w.drew
   have Oc:(match xd with | .int _=>true | _=>false)=false:=by cases xd<;>first | rfl | exact absurd rfl (Ky _)
   have Od:¬len+n≤cap:=by omega
   have Oe:=nextslicecap_le jT
   have hmul:(4*(len+n)+4096)*(bytes+1)=(4*(len+n)+4096)*bytes+(4*(len+n)+4096):=by rw[Nat.mul_add,Nat.mul_one]
   have CT:¬Builtin.nextslicecap (len+n) cap*bytes>2^48:=by
    have:Builtin.nextslicecap (len+n) cap*bytes≤(4*(len+n)+4096)*bytes:=Nat.mul_le_mul_right _ Oe
    omega
   have Of:IntKind.i64.max=9223372036854775807:=by decide
   have zw:¬(((len+n:Nat):Int) >IntKind.i64.max):=by rw[Of];omega
   have o1:=hold w.drew rfl
   have n1:=vo w.drew rfl
   have z1:=hz w.drew
   have hf:((!false)=true)=True:=by simp
   simp only[Builtin.append_,List.getElem?_toArray,List.getElem?_cons_zero,List.getElem?_cons_succ,Sem.run_bind,Sem.run_pure,Result.andThen_ok,run_underlying hs,run_underlying hx,dk eu,Bool.false_eq_true,if_false,hn,Od,AT]
   rw[if_neg (fun h=>zw h.1)]
   simp only[Sem.run_bind,AT,hb,Result.andThen_ok]
   rw[if_neg CT]
   simp only[Sem.run_bind,run_choose,Question.forced,Bool.false_eq_true,if_false,World.drew_eq,Result.andThen_ok,Hp,run_askRoom,o1,hf,if_true,n1,z1,newRow,run_newObj,World.alloc_eq,Sem.run_pure]
   rfl
theorem nb {P:Program} {w w':World} {sT xT ty elem:TypeId} {xd:TypeDesc} (hs:P.underlying sT=some (.slice elem)) (hx:P.underlying xT=some xd) (Ky:∀k,xd≠ .int k)
 {size n:Nat} (eu:(P.info? elem).map (·.size)=some size) {b O len cap:Nat} {x':Value} (hn:∀w,(Builtin.lenOf x').run P w= .ok n w) {new:List Value}
 (vo:(Builtin.firstCells size n x').run P w= .ok new.toArray w) (hle:len+n≤cap) (gZ:(storeCells ⟨b,O+len*size,none⟩ new).run P w= .ok () w'):
 (Builtin.append_ #[sT,xT] ty #[.slice (some ⟨b,O,none⟩) len cap,x']).run P w= .ok (.slice (some ⟨b,O,none⟩) (len+n) cap) w':=by
 have Oc:(match xd with | .int _=>true | _=>false)=false:=by cases xd<;>first | rfl | exact absurd rfl (Ky _)
 have hf:((!false)=true)=True:=by simp
 simp only[Builtin.append_,List.getElem?_toArray,List.getElem?_cons_zero,List.getElem?_cons_succ,Sem.run_bind,Sem.run_pure,Result.andThen_ok,run_underlying hs,run_underlying hx,dk eu,hf,Bool.false_eq_true,if_false,if_true,hn,hle,vo,pS,gZ]
theorem rG {φ:Ph} {h h':aq} {w:World} (ok:OK E φ h w) {new:List AV} {elem:TypeId} (hn:h.new (.cells new elem false)=some h') {l:List Value} (hl:LR φ new l)
 {size nc n:Nat} (eu:bY E elem=some size) {C:Array Value} {rest:List Value} (hC:C.toList=l++rest) (GJ:C.size=nc*size) (Ho:n≤nc) (Tx:l.length=n*size):
 Fl E φ h w (.ok (.slice (some ⟨w.heap.size,0,none⟩) n nc) (w.drew.alloc (.cells C elem))) (.slice h.nx 0 n n true) h':=by
 have Hn:new.length=n*size:=by rw[hl.1,Tx]
 obtain ⟨lT,oF,hle⟩:=ok.fresh (w':=w.drew.alloc (.cells C elem)) hn ⟨w.heap.size,0,nc - n⟩ (by
  refine ⟨C,elem,0,0,by rw[show (w.drew.alloc (.cells C elem)).heap=w.heap.push (.cells C elem) from rfl];simp,?_,fun k x hk=>?_,fun _ k _ _=>by omega,fun _ _ _=>rfl⟩
  · simp only[ei,eu,Option.getD_some,Hn,GJ,Nat.zero_add]
    rw[←Nat.add_mul];exact Nat.mul_le_mul_right _ (by omega)
  · obtain ⟨y,hy,hr⟩:=hl.get hk
    have Tw:k<l.length:=(List.getElem?_eq_some_iff.1 hy).1
    refine ⟨y,?_,hr.mono (fun i m hm=>?_)⟩
    · have:C.toList[k]? =some y:=by rw[hC,List.getElem?_append_left Tw];exact hy
      simpa using this
    · unfold Ph.add
      split
      · rename_i e;subst e;exact absurd (ok.uJ _ _ hm) (Nat.lt_irrefl _)
      · exact hm)
  (fun c dt hc=>by
   have:(w.drew.alloc (.cells C elem)).heap[c]? =w.heap[c]? :=by
    rw[show (w.drew.alloc (.cells C elem)).heap=w.heap.push (.cells C elem) from rfl,Array.getElem?_push,if_neg (by simpa using dt)]
   exact this) (by simp) (Nat.le_refl _) rfl rfl rfl
 refine ⟨_,_,_,rfl,?_,lT,oF⟩
 have:=VR.slice (φ:=φ.add h.nx ⟨w.heap.size,0,nc - n⟩) (i:=h.nx) (l:=⟨w.heap.size,0,nc - n⟩) 0 n n true (by simp [Ph.add])
 simp only[fp,if_true] at this
 rw[show n+(nc - n)=nc by omega] at this
 exact this
theorem Fr.KB {φ φ':Ph} {h h':aq} {w w':World} {i:Nat} (f:Fr φ (h.put i none) w φ' h' w'):Fr φ h w φ' h' w':=by
 have eZ:∀j p,(h.put i none).get j=some p→h.get j=some p:=fun j p hj=>by
  by_cases e:i=j
  · subst e;rw[aq.dw] at hj;simp at hj
  · rw[aq.ck e] at hj;exact hj
 exact ⟨f.ext,f.old,f.nx,f.os,f.tape,f.output,f.size,fun b hb hn=>f.xC b hb (fun j p m hj=>hn j p m (eZ j p hj)),
  fun j p m hj hr hm=>(f.own j p m hj hr hm).imp id (fun ⟨k,q,n,a,b⟩=>⟨k,q,n,eZ k q a,b⟩)⟩
theorem lV {φ:Ph} {x:AV} {n:Nat} (h:mK x=some n) {x':Value} (hx:VR φ x x') (P:Program) (w:World):(Builtin.lenOf x').run P w= .ok n w:=by
 cases x<;>simp [mK] at h
 · subst h
   generalize CL:AV.str _=s0 at hx
   cases hx<;>cases CL
   rfl
 · cases hx;subst h;rfl
 · cases hx;subst h;rfl
 · cases hx;subst h;rfl
theorem uM {P:Program} {w:World} {sT xT ty elem:TypeId} {kx:IntKind} (hs:P.underlying sT=some (.slice elem)) (hx:P.underlying xT=some (.int kx))
 {size bytes:Nat} (eu:(P.info? elem).map (·.size)=some size) (jt:(P.info? elem).map (·.bytes)=some bytes) {z:Value} (hz:∀w,(zeroValue elem).run P w= .ok z w) (Kz:z.cells.size=size)
 {k:IntKind} {n:Int} (hn:0<n) (Kf:0<size) (KA:(4*n.toNat+4096)*(bytes+1)≤1099511627776):
 ∃nc:Nat,∃C:Array Value,n.toNat≤nc∧(∃rest,C.toList=(Builtin.zeroCells z.cells n.toNat).toList++rest)∧C.size=nc*size∧
  (Builtin.append_ #[sT,xT] ty #[.slice none 0 0,.int k n]).run P w= .ok (.slice (some ⟨w.heap.size,0,none⟩) n.toNat nc) (w.drew.alloc (.cells C elem)):=by
 let nc:=(Question.appendCap (0+n.toNat) 0 elem).cut (w.tape w.drawn (.appendCap (0+n.toNat) 0 elem))
 have Ho:n.toNat≤nc:=by show n.toNat≤0+n.toNat+_;omega
 let C:Array Value:= #[]++Builtin.zeroCells z.cells n.toNat++Builtin.zeroCells z.cells (nc -(0+n.toNat))
 refine ⟨nc,C,Ho,⟨(Builtin.zeroCells z.cells (nc -(0+n.toNat))).toList,by simp [C]⟩,?_,?_⟩
 · simp only[C,Array.size_append,lU,Kz,Array.size_empty,Nat.zero_add]
   rw[←Nat.add_mul];congr 1;omega
 · obtain ⟨inf,AT,hb⟩:=m7 jt w
   obtain ⟨Uq,Hp,My⟩:=m7 jt w.drew
   have hmul:(4*n.toNat+4096)*(bytes+1)=(4*n.toNat+4096)*bytes+(4*n.toNat+4096):=by rw[Nat.mul_add,Nat.mul_one]
   have Hn:n.toNat≤1099511627776:=by omega
   have QT:IntKind.i64.wrap n=n:=by
    rw[IntKind.wrap_i64];omega
   have Ur:¬n<0:=by omega
   have xw:n*(bytes:Int)=((n.toNat*bytes:Nat):Int):=by rw[Int.natCast_mul,Int.toNat_of_nonneg (by omega)]
   have hle:n.toNat*bytes≤(4*n.toNat+4096)*bytes:=Nat.mul_le_mul_right _ (by omega)
   have QU:¬n*(bytes:Int) >2^48:=by rw[xw];omega
   have Od:¬0+n.toNat≤0:=by omega
   have Oe:=nextslicecap_le (show 0<0+n.toNat by omega)
   have CT:¬Builtin.nextslicecap (0+n.toNat) 0*bytes>2^48:=by
    have:Builtin.nextslicecap (0+n.toNat) 0*bytes≤(4*(0+n.toNat)+4096)*bytes:=Nat.mul_le_mul_right _ Oe
    rw[Nat.zero_add] at this
    rw[Nat.zero_add]
    omega
   have Of:IntKind.i64.max=9223372036854775807:=by decide
   have zw:¬(((0+n.toNat:Nat):Int) >IntKind.i64.max):=by rw[Of];omega
   have Ty:¬n.toNat*size=0:=by
    have h1:0<n.toNat:=by omega
    have:=Nat.mul_pos h1 Kf;omega
   have z1:=hz w.drew
   have hf:((!true)=true)=False:=by simp
   have Yj:∀w,(asInt (.int k n)).run P w= .ok n w:=fun _=>rfl
   simp only[Builtin.append_,List.getElem?_toArray,List.getElem?_cons_zero,List.getElem?_cons_succ,Sem.run_bind,Sem.run_pure,Result.andThen_ok,run_underlying hs,run_underlying hx,dk eu,if_true,Yj,QT]
   rw[if_neg Ur]
   simp only[Sem.run_bind,AT,hb,Result.andThen_ok]
   rw[if_neg QU]
   simp only[Sem.run_bind,Sem.run_pure,Result.andThen_ok]
   rw[if_neg Od]
   simp only[Sem.run_bind,Result.andThen_ok,AT,hb]
   rw[if_neg (fun h=>zw h.1)]
   simp only[Sem.run_bind,AT,hb,Result.andThen_ok]
   rw[if_neg CT]
   simp only[Sem.run_bind,run_choose,Question.forced,Bool.false_eq_true,if_false,World.drew_eq,Result.andThen_ok,Hp,run_askRoom,Builtin.firstCells,hf,if_neg Ty,z1,newRow,run_newObj,World.alloc_eq,Sem.run_pure]
   simp only[nc,C,Nat.zero_add]
   rfl
theorem AU {φ:Ph} {h h':aq} {w:World} (ok:OK E φ h w) {argTypes:Array TypeId} {s x v:AV} (e:bN E h argTypes s x=some (v,h')) {s' x':Value} (hs:VR φ s s') (hx:VR φ x x') (ty:TypeId):
 Fl E φ h w ((Builtin.append_ argTypes ty #[s',x']).run E.P w) v h':=by
 unfold bN at e
 split at e
 · rename_i sT xT WA WB
   split at e
   · rename_i elem xd P' Qa
     split at e
     · rename_i hint
       cases xd<;>simp [jY] at hint
       have key:(Builtin.append_ argTypes ty #[s',x']).run E.P w=(Builtin.append_ #[sT,xT] ty #[s',x']).run E.P w:=by
        unfold Builtin.append_;simp only[WA,WB];rfl
       rw[key]
       unfold oU at e
       split at e
       · rename_i k0 k size bytes z eu jt hzero
         split at e
         · rename_i hc
           obtain ⟨hk,Kf,KA,N'⟩:=hc
           split at e
           · rename_i h1 ub
             simp at e;obtain ⟨rfl,rfl⟩:=e
             cases hs;cases hx
             obtain ⟨z',uK,iI⟩:=gM hzero
             have Kz:z'.cells.size=size:=by have:=(uK φ).cells.1;simp at this;omega
             obtain ⟨nc,C,Ho,⟨rest,hC⟩,GJ,fG⟩:=uM (P:=E.P) (w:=w) (ty:=ty) (k:=k0) P' Qa eu jt iI Kz hk Kf KA
             rw[fG]
             exact rG (n:=k.toNat) ok ub (l:=(Builtin.zeroCells z'.cells k.toNat).toList) (CP (uK φ).cells k.toNat) eu hC GJ Ho (by rw[Array.length_toList,lU,Kz])
           · simp at e
         · simp at e
       · simp at e
     rename_i QV
     have Ky:∀k,xd≠ .int k:=fun k he=>by subst he;simp [jY] at QV
     split at e
     · rename_i size bytes n eu jt hlen
       split at e
       · rename_i new z vB hzero
         split at e
         · rename_i hc
           obtain ⟨N',te,Mz⟩:=hc
           obtain ⟨z',uK,iI⟩:=gM hzero
           have Kz:z'.cells.size=size:=by have:=(uK φ).cells.1;simp at this;omega
           obtain ⟨oG,xG,rH⟩:=vA ok hx vB (.inr trivial)
           have Hn:oG.length=n*size:=by rw[←xG.1];exact Mz
           have key:(Builtin.append_ argTypes ty #[s',x']).run E.P w=(Builtin.append_ #[sT,xT] ty #[s',x']).run E.P w:=by
            unfold Builtin.append_;simp only[WA,WB];rfl
           rw[key]
           split at e
           ·
            cases hs
            split at e
            · rename_i Kc
              simp at e;obtain ⟨rfl,rfl⟩:=e
              subst Kc
              refine ⟨φ,w,_,?_,.aF,ok,Fr.refl φ h w⟩
              have Oc:(match xd with | .int _=>true | _=>false)=false:=by cases xd<;>first | rfl | exact absurd rfl (Ky _)
              have hf:((!false)=true)=True:=by simp
              have Tz:=rH w rfl
              simp only[Builtin.append_,List.getElem?_toArray,List.getElem?_cons_zero,List.getElem?_cons_succ,Sem.run_bind,Sem.run_pure,Result.andThen_ok,run_underlying P',run_underlying Qa,dk eu,hf,Bool.false_eq_true,if_false,if_true,lV hlen hx,Tz,Nat.le_refl,Nat.add_zero]
            · rename_i Kc
              split at e
              · rename_i KA
                split at e
                · rename_i h1 ub
                  simp at e;obtain ⟨rfl,rfl⟩:=e
                  obtain ⟨nc,C,Ho,⟨rest,hC⟩,GJ,fG⟩:=ow (P:=E.P) (w:=w) (ty:=ty) P' Qa Ky eu jt iI Kz (base:=none) (len:=0) (cap:=0) (fun w=>lV hlen hx E.P w) (old:=[]) (fun w' _=>by simp [Builtin.firstCells]) (fun w' hw=>rH w' hw) (by omega) (by simpa using KA) (by simp) Hn
                  have:=rG (n:=n) ok ub (l:=[]++oG) (by simpa using xG) (by simpa using eu) (by simpa using hC) GJ (by omega) (by simp [Hn])
                  rw[fG]
                  simp only[Nat.zero_add] at this ⊢
                  exact this
                · simp at e
              · simp at e
           · rename_i i o len cap op
             cases hs with
             | @slice _ l _ _ _ _ hφ=>
             split at e
             · rename_i cs el hg
               split at e
               ·
                rename_i QW
                split at e
                · rename_i hle
                  simp at e;obtain ⟨rfl,rfl⟩:=e
                  have N8:cap≤fp op cap l.gI:=by unfold fp;split<;>omega
                  obtain ⟨w',gZ,lT,oF⟩:=tc ok hg hφ xG (o+len*size) (by rw[Mz,Nat.add_assoc,←Nat.add_mul];exact hle) te
                  refine ⟨φ,w',_,nb (P:=E.P) P' Qa Ky eu (fun w=>lV hlen hx E.P w) (rH w rfl) (by omega) (by rw[Nat.add_assoc];exact gZ),?_,lT,oF⟩
                  have:=VR.slice (φ:=φ) o (len+n) cap op hφ
                  exact this
                · simp at e
               · rename_i QW
                 split at e
                 · rename_i Hh
                   obtain ⟨KA,Ke,mZ⟩:=Hh
                   split at e
                   · rename_i h1 ub
                     simp at e;obtain ⟨rfl,rfl⟩:=e
                     obtain ⟨C0,e0,lo,hi,Ob,TA⟩:=ok.cells hg hφ
                     obtain ⟨KC,AW,QX,CU⟩:=TA.range o (len*size) Ke
                     have KD:∀cp w',w'.heap=w.heap→(Builtin.firstCells size len (.slice (some ⟨l.eV,l.off+o,none⟩) len cp)).run E.P w'= .ok KC.toArray w':=fun cp w' hw=>by
                      rw[←hw] at Ob
                      have vv:=lx (P:=E.P) Ob (l.off+o) KC QX
                      rw[AW] at vv
                      simp only[Builtin.firstCells,vv]
                     by_cases P_:len+n≤fp op cap l.gI
                     ·
                      have Us:op=true:=by
                       cases op with
                       | true=>rfl
                       | false=>simp [fp] at P_;omega
                      subst Us
                      obtain ⟨rfl,QM⟩:=mZ rfl
                      simp only[fp,if_true] at P_ ⊢
                      simp only[if_true] at ub
                      have He:=TA.size
                      simp only[ei,eu,Option.getD_some] at He
                      have hmul:(len+n)*size≤(cap+l.gI)*size:=Nat.mul_le_mul_right _ P_
                      have e1:(len+n)*size=len*size+n*size:=Nat.add_mul _ _ _
                      have e2:(cap+l.gI)*size=cap*size+l.gI*size:=Nat.add_mul _ _ _
                      have gZ:=qu (P:=E.P) Ob (l.off+o+len*size) oG (by omega) (fun k k1 k2=>TA.free rfl k (by omega) (by simp only[ei,eu,Option.getD_some];omega)) (vz xG te)
                      obtain ⟨p1,p2,p3⟩:=o6 oG w l.eV (l.off+o+len*size)
                      obtain ⟨lT,oF⟩:=ok.reuse (w':=w.setCells l.eV (l.off+o+len*size) oG) (l':=⟨l.eV,l.off+o,cap+l.gI -(len+n)⟩) hg rfl hφ rfl ub (by
                       refine ⟨iy C0 (l.off+o+len*size) oG,e0,lo,hi,mL oG Ob _,?_,fun k x hk=>?_,fun _ k a b=>TA.free rfl k (by simp at a;omega) ?_,fun h=>by cases h⟩
                       · simp only[ei,eu,Option.getD_some,oZ,List.length_append,CU.1,AW,xG.1,Hn]
                         rw[Nat.sub_mul];omega
                       · show ∃y,(iy C0 (l.off+o+len*size) oG)[l.off+o+k]? =some y∧_
                         rw[qK]
                         by_cases TB:k<len*size
                         · rw[List.getElem?_append_left (by rw[CU.1,AW];exact TB)] at hk
                           obtain ⟨y,hy,hr⟩:=CU.get hk
                           rw[if_neg (by omega)]
                           exact ⟨y,QX k y hy,hr.mono (fun j m hm=>by
                            unfold Ph.add
                            split
                            · rename_i ej;subst ej;exact absurd (ok.uJ _ _ hm) (Nat.lt_irrefl _)
                            · exact hm)⟩
                         · rw[List.getElem?_append_right (by rw[CU.1,AW];omega)] at hk
                           obtain ⟨y,hy,hr⟩:=xG.get hk
                           have Yk:k -((List.take (len*size) (List.drop o cs)).length)<oG.length:=(List.getElem?_eq_some_iff.1 hy).1
                           rw[CU.1,AW] at Yk hy
                           rw[if_pos (by omega)]
                           exact ⟨y,by rw[show l.off+o+k -(l.off+o+len*size)=k - len*size by omega];exact hy,hr.mono (fun j m hm=>by
                            unfold Ph.add
                            split
                            · rename_i ej;subst ej;exact absurd (ok.uJ _ _ hm) (Nat.lt_irrefl _)
                            · exact hm)⟩
                       · simp only[ei,eu,Option.getD_some,List.length_append,CU.1,AW,xG.1,Hn] at b ⊢
                         rw[Nat.sub_mul] at b;omega)
                       (fun c dt=>iz oG (Ne.symm dt) _) (mM _ _ _ _) p1 p2 p3
                      refine ⟨_,_,_,nb (P:=E.P) P' Qa Ky eu (fun w=>lV hlen hx E.P w) (rH w rfl) P_ gZ,?_,lT,oF⟩
                      have:=VR.slice (φ:=φ.add h.nx ⟨l.eV,l.off+o,cap+l.gI -(len+n)⟩) (i:=h.nx) (l:=⟨l.eV,l.off+o,cap+l.gI -(len+n)⟩) 0 (len+n) (len+n) true (by simp [Ph.add])
                      simp only[fp,if_true] at this
                      rw[show len+n+(cap+l.gI -(len+n))=cap+l.gI by omega] at this
                      exact this
                     ·
                      obtain ⟨nc,C,Ho,⟨rest,hC⟩,GJ,fG⟩:=ow (P:=E.P) (w:=w) (ty:=ty) P' Qa Ky eu jt iI Kz (base:=some ⟨l.eV,l.off+o,none⟩) (len:=len) (cap:=fp op cap l.gI) (fun w=>lV hlen hx E.P w) (old:=KC) (fun w' hw=>KD _ w' hw) (fun w' hw=>rH w' hw) (by omega) KA AW Hn
                      rw[fG]
                      have vr:=CU.append xG
                      have Tx:(KC++oG).length=(len+n)*size:=by rw[List.length_append,AW,Hn,Nat.add_mul]
                      cases op with
                      | false=>exact rG ok ub vr eu hC GJ Ho Tx
                      | true=>
                        obtain ⟨φ',w',v',a1,a2,a3,a4⟩:=rG ok.kill ub vr eu hC GJ Ho Tx
                        exact ⟨φ',w',v',a1,a2,a3,a4.KB⟩
                   · simp at e
                 · simp at e
             · simp at e
           · simp at e
         · simp at e
       · simp at e
     · simp at e
   · simp at e
 · simp at e
end Go.Ab
end
section
namespace Go.Ab
variable {E:Env}
theorem Fm {φ:Ph} {h h':aq} {w:World} (ok:OK E φ h w) {argTypes:Array TypeId} {s d v:AV} (e:qt E h argTypes d s=some (v,h')) {s' d':Value} (hd:VR φ d d') (hs:VR φ s s') (ty:TypeId):
 Fl E φ h w ((Builtin.copy_ argTypes ty #[d',s']).run E.P w) v h':=by
 unfold qt at e
 split at e
 · rename_i dT WC
   split at e
   · rename_i elem m hu hm
     split at e
     · rename_i size eu
       simp at e;obtain ⟨rfl,rfl⟩:=e
       cases hd
       refine ⟨φ,w,_,?_,.int .i64 0,ok,Fr.refl φ h w⟩
       have h0:Nat.min m 0=0:=Nat.min_eq_right (Nat.zero_le _)
       obtain ⟨oG,_,rH⟩:∃oG:List Value,True∧(Builtin.firstCells size 0 s').run E.P w= .ok oG.toArray w:=by
        cases s<;>simp [mK] at hm
        · generalize CL:AV.str _=s0 at hs
          cases hs<;>cases CL
          refine ⟨[],trivial,?_⟩
          simp [Builtin.firstCells]
        · cases hs;exact ⟨[],trivial,by simp [Builtin.firstCells]⟩
        · cases hs;exact ⟨[],trivial,by simp [Builtin.firstCells,loadCells,loadCellsFrom]⟩
        · cases hs;exact ⟨[],trivial,by simp [Builtin.firstCells,loadCells,loadCellsFrom]⟩
       simp only[Builtin.copy_,WC,List.getElem?_toArray,List.getElem?_cons_zero,List.getElem?_cons_succ,Sem.run_bind,Result.andThen_ok,run_underlying hu,lV hm hs,h0,dk eu,rH,Sem.run_pure]
       rfl
     · rename_i size i o len _ _ eu
       split at e
       · rename_i new cs el vB hg
         split at e
         · rename_i hc
           simp at e;obtain ⟨rfl,rfl⟩:=e
           cases hd with
           | @slice _ l _ _ _ _ hφ=>
           obtain ⟨oG,xG,rH⟩:=vA ok hs vB (.inr trivial)
           obtain ⟨w',gZ,lT,oF⟩:=tc ok hg hφ xG o hc.1 hc.2
           refine ⟨φ,w',_,?_,.int .i64 _,lT,oF⟩
           have h0:Nat.min m len=min m len:=rfl
           simp only[Builtin.copy_,WC,List.getElem?_toArray,List.getElem?_cons_zero,List.getElem?_cons_succ,Sem.run_bind,Result.andThen_ok,run_underlying hu,lV hm hs,h0,dk eu,rH w rfl,gZ,Sem.run_pure]
           rfl
         · simp at e
       · simp at e
     · simp at e
   · simp at e
 · simp at e
theorem AX {w:World} {b n:Nat} {C:Array Value} {e:TypeId} (h:w.heap[b]? =some (.cells C e)):(w.freeze ⟨b,n,none⟩ 1).heap[b]? =some (.cells C e (n,n+1)):=by
 simp [World.freeze,Array.getElem?_modify,h]
theorem zx {w:World} {b c n:Nat} (h:b≠c):(w.freeze ⟨b,n,none⟩ 1).heap[c]? =w.heap[c]? :=by
 simp [World.freeze,Array.getElem?_modify,h]
theorem AY (w:World) (b n:Nat):(w.freeze ⟨b,n,none⟩ 1).heap.size=w.heap.size:=by simp [World.freeze]
theorem Fo {φ:Ph} {h h':aq} {w:World} (ok:OK E φ h w) {src dst:TypeId} {x:AV} {v:AV} (e:ye E h src dst (some x)=some (v,h')) {x':Value} (hx:VR φ x x'):
 Fl E φ h w ((convert src dst x').run E.P w) v h':=by
 unfold ye at e
 split at e
 · rename_i el s hs hd AP
   simp at AP;subst AP
   generalize CL:AV.str s=s0 at hx
   cases hx<;>cases CL
   rename_i s'
   split at e
   · rename_i h1 he hn
     split at e
     · rename_i He
       simp at e;obtain ⟨rfl,rfl⟩:=e
       have e1:s'.size=s'.data.toList.length:=by cases s';rfl
       let nc:=(Question.appendCap s'.size 0 el).cut (w.tape w.drawn (.appendCap s'.size 0 el))
       have Ho:s'.size≤nc:=by show s'.size≤s'.size+_;omega
       let C:Array Value:=(s'.data.map fun b=>Value.int .u8 b.toNat)++Array.replicate (nc - s'.size) (.int .u8 0)
       have GJ:C.size=nc:=by
        have e0:s'.size=s'.data.size:=rfl
        have:C.size=s'.data.size+(nc - s'.size):=by simp only[C,Array.size_append,Array.size_map,Array.size_replicate]
        omega
       have xx:(w.drew.alloc (.cells C el)).heap=w.heap.push (.cells C el):=rfl
       have QY:(w.drew.alloc (.cells C el)).heap[w.heap.size]? =some (.cells C el):=by rw[xx];simp
       obtain ⟨lT,oF,hle⟩:=ok.fresh (w':=(w.drew.alloc (.cells C el)).freeze ⟨w.heap.size,nc,none⟩ 1) hn ⟨w.heap.size,0,nc - s'.size⟩ (by
        refine ⟨C,el,nc,nc+1,AX QY,?_,fun k x hk=>?_,fun _ k _ b=>?_,fun _ _ _=>rfl⟩
        · simp only[ei,He,Option.getD_some,GJ,List.length_map];rw[←e1];omega
        · rw[List.getElem?_map] at hk
          cases hb:s'.data.toList[k]? with
          | none=>rw[hb] at hk;simp at hk
          | some b=>
            rw[hb] at hk;simp at hk;subst hk
            have Tw:k<s'.data.toList.length:=(List.getElem?_eq_some_iff.1 hb).1
            refine ⟨.int .u8 b.toNat,?_,.int _ _⟩
            have:C[0+k]? =(s'.data.map fun b=>Value.int .u8 b.toNat)[k]? :=by
             simp only[C,Nat.zero_add];rw[Array.getElem?_append_left (by simpa using Tw)]
            show C[0+k]? =_
            rw[this]
            rw[Array.getElem?_map]
            have My:s'.data[k]? =some b:=by simpa using hb
            rw[My];rfl
        · simp only[ei,He,Option.getD_some,List.length_map] at b;rw[←e1] at b;omega)
        (fun c dt hc=>by
         rw[zx (Ne.symm dt),xx,Array.getElem?_push,if_neg (by omega)]) (by rw[AY,xx];simp) (Nat.le_refl _) rfl rfl rfl
       refine ⟨_,_,.slice (some ⟨w.heap.size,0,none⟩) s'.size nc,?_,?_,lT,oF⟩
       · have Yl:(w.drew.alloc (.cells C el)).shape? w.heap.size=some (el,nc):=by
          simp only[World.shape?,QY,GJ]
         simp only[convert,Sem.run_bind,run_underlying hs,run_underlying hd,Result.andThen_ok,run_underlying he,Conv.stringToBytes,run_choose,Question.forced,Bool.false_eq_true,if_false,World.drew_eq,newRow,run_newObj,World.alloc_eq,Sem.run_pure,markStringish]
         rw[show (Question.appendCap s'.size 0 el).cut (w.tape w.drawn (Question.appendCap s'.size 0 el))=nc from rfl,show (Array.map (fun b=>Value.int .u8 b.toNat) s'.data++Array.replicate (nc - s'.size) (Value.int .u8 0))=C from rfl]
         simp only[World.size_drew,run_shape,Yl,Result.andThen_ok,run_freeze]
       · have:=VR.slice (φ:=φ.add h.nx ⟨w.heap.size,0,nc - s'.size⟩) (i:=h.nx) (l:=⟨w.heap.size,0,nc - s'.size⟩) 0 s'.size s'.size true (by simp [Ph.add])
         simp only[fp,if_true] at this
         rw[show s'.size+(nc - s'.size)=nc by omega] at this
         exact this
     · simp at e
   · simp at e
 · simp at e
theorem nO {φ:Ph} {v:AV} {v':Value} (hv:VR φ v v') {k':Value}:∀{es:List ja} {iV:List MapEntry} (_:G8 φ es iV) (i:Nat) (_:∀e,es[i]? =some e→VR φ e.key k'),
 G8 φ (jr es i v) (iV.modify i fun e=>{e with key:=k',val:=v'})
 | [],iV,h,i,_=>by
   cases iV with
   | nil=>simpa [jr] using h
   | cons _ _=>simp [G8] at h
 | e::es,iV,h,i,hk=>by
   obtain ⟨hl,Cr⟩:=h
   cases iV with
   | nil=>simp at hl
   | cons y ys=>
     have h0:=Cr 0 e y (by simp) (by simp)
     have lS:G8 φ es ys:=⟨by simpa using hl,fun i a b p q=>Cr (i+1) a b (by simpa using p) (by simpa using q)⟩
     cases i with
     | zero=>
       simp only[jr,List.modify_zero_cons]
       refine ⟨by simpa using hl,fun j a b p q=>?_⟩
       cases j with
       | zero=>simp at p q;subst p;subst q;exact ⟨hk e (by simp),hv,h0.born⟩
       | succ j=>simp at p q;exact lS.2 j a b p q
     | succ i=>
       simp only[jr,List.modify_succ_cons]
       obtain ⟨g1,g2⟩:=nO hv lS i (fun e he=>hk e (by simpa using he))
       refine ⟨by simp [g1],fun j a b p q=>?_⟩
       cases j with
       | zero=>simp at p q;subst p;subst q;exact h0
       | succ j=>simp at p;exact g2 j a b p (by simpa using q)
theorem KE (s:ByteArray):(s==s)=true:=by cases s;rename_i d;show (d==d)=true;simp
theorem zy {φ:Ph} {k j:AV} (e:yb k j=some true) {k' j':Value} (h:VR φ k k') (h':VR φ j j'):Instr.sameBits 10000 j' k'=true∧j'=k':=by
 unfold yb at e
 split at e
 · generalize hs:AV.str _=s at h
   generalize nL:AV.str _=s' at h'
   cases h<;>cases hs
   cases h'<;>cases nL
   rename_i s s'
   simp at e
   have:s'=s:=by cases s;cases s';simp_all
   subst this
   exact ⟨by simp only[Instr.sameBits];exact KE _,rfl⟩
 · cases h;cases h'
   split at e
   · rename_i vw
     simp at e;subst e;subst vw
     exact ⟨by simp [Instr.sameBits],rfl⟩
   · simp at e
 · cases h;cases h'
   simp at e;subst e
   exact ⟨by simp [Instr.sameBits],rfl⟩
 · simp at e
theorem o_ {φ:Ph} {h h':aq} {w:World} (ok:OK E φ h w) {t:TypeId} {m k v:AV} {m' k' v':Value} (hm:VR φ m m') (hk:VR φ k k') (hv:VR φ v v') (e:dv E h t m k v=some h'):
 ∃w',(Instr.mapUpdate t m' k' v').run E.P w= .ok () w'∧OK E φ h' w'∧Fr φ h w φ h' w':=by
 unfold dv at e
 split at e
 · rename_i key elem i hu
   cases hm with
   | @map _ l hφ=>
   split at e
   · rename_i es clock hg
     split at e
     · rename_i vw
       have CO:∃d,E.P.underlying key=some d∧gv (some d) k=true:=by
        cases hd:E.P.underlying key with
        | none=>rw[hd] at vw;simp [gv] at vw
        | some d=>rw[hd] at vw;exact ⟨d,rfl,vw⟩
       obtain ⟨d,hd,vy⟩:=CO
       have xu:=ok.live i _ l hg hφ
       obtain ⟨Hl,iV,hb,jc⟩:=xu
       have xF:(getObj l.eV).run E.P w= .ok (.map iV clock) w:=by simp [getObj,Sem.run,hb]
       have Cs:=nN (P:=E.P) hd vy hk false 9999 w
       have tf:∀o':Obj,(setObj l.eV o').run E.P w= .ok () {w with heap:=w.heap.setIfInBounds l.eV o'}:=fun o'=>by simp [setObj,Sem.run,hb]
       have Og:∀(o:aP) (o':Obj),OR E φ o l (some o')→o.rw=true→OK E φ (h.put i (some o)) {w with heap:=w.heap.setIfInBounds l.eV o'}∧Fr φ h w φ (h.put i (some o)) {w with heap:=w.heap.setIfInBounds l.eV o'}:=fun o o' ho AF=>by
        have jT:l.eV<w.heap.size:=by
         rcases Nat.lt_or_ge l.eV w.heap.size with a | a
         · exact a
         · rw[Array.getElem?_eq_none a] at hb;simp at hb
        exact ok.change hg rfl hφ (by simp [jT];exact ho) (fun c dt=>by simp [Ne.symm dt]) (by simp) rfl rfl rfl
       split at e
       · rename_i j v0 hf
         obtain ⟨r',h1,h2⟩:=na vy hk jc hf
         cases r' with
         | none=>exact h2.elim
         | some q=>
         obtain ⟨j',v1⟩:=q
         obtain ⟨rfl,Cr,_,Oh,ta,Hq⟩:=h2
         simp at e;subst e
         obtain ⟨y,hy⟩:∃y,iV.toList[j]? =some y:=by
          have jT:j<es.length:=by simpa using (List.getElem?_eq_some_iff.1 ta).1
          exact ⟨iV.toList[j]'(by rw[←jc.1];exact jT),by simp⟩
         have QZ:=jc.2 j Oh y (by simpa using ta) hy
         obtain ⟨Ut,Oi⟩:=zy Hq hk QZ.key
         have KF:iV[j]? =some y:=by simpa using hy
         obtain ⟨lT,oF⟩:=Og (.map (jr es j v) clock) (.map (iV.modify j fun e=>{e with key:=k',val:=v'}) clock) ⟨Hl,_,rfl,by
          have:=nO hv jc j (k':=k') (fun e he=>by
           have:e=Oh:=by
            have h3:es[j]? =some Oh:=by simpa using ta
            rw[h3] at he;simp at he;exact he.symm
           subst this;rw[←Oi];exact QZ.key)
          simpa using this⟩ rfl
         refine ⟨_,?_,lT,oF⟩
         simp only[Instr.mapUpdate,Sem.run_bind,run_underlying hu,Result.andThen_ok,xF,Cs,Instr.findKey,run_underlying hd,h1,Sem.run_pure,KF,Option.map_some,Option.getD_some,Instr.keyThatStays,Ut,if_true,tf _]
       · rename_i hf
         obtain ⟨r',h1,h2⟩:=na vy hk jc hf
         cases r' with
         | some q=>exact h2.elim
         | none=>
         simp at e;subst e
         obtain ⟨lT,oF⟩:=Og (.map (es++[{key:=k,val:=v,born:=clock}]) (clock+1)) (.map (iV.push {key:=k',val:=v',born:=clock}) (clock+1)) ⟨Hl,_,rfl,by
          refine ⟨by simp [jc.1],fun j a b p q=>?_⟩
          rw[Array.toList_push] at q
          by_cases hj:j<es.length
          · rw[List.getElem?_append_left hj] at p
            rw[List.getElem?_append_left (by rw[←jc.1];exact hj)] at q
            exact jc.2 j a b p q
          · rw[List.getElem?_append_right (by omega)] at p
            rw[List.getElem?_append_right (by rw[←jc.1];omega),←jc.1] at q
            cases Q0:j - es.length with
            | zero=>rw[Q0] at p q;simp at p q;subst p;subst q;exact ⟨hk,hv,rfl⟩
            | succ n=>rw[Q0] at p;simp at p⟩ rfl
         refine ⟨_,?_,lT,oF⟩
         simp only[Instr.mapUpdate,Sem.run_bind,run_underlying hu,Result.andThen_ok,xF,Cs,Instr.findKey,run_underlying hd,h1,Sem.run_pure,tf _]
       · simp at e
     · split at e
       · rename_i vw
         have CO:∃d,E.P.underlying key=some d∧kn E (some d) k=true:=by
          cases hd:E.P.underlying key with
          | none=>rw[hd] at vw;simp [kn] at vw
          | some d=>rw[hd] at vw;exact ⟨d,rfl,vw⟩
         obtain ⟨d,hd,vy⟩:=CO
         have xu:=ok.live i _ l hg hφ
         obtain ⟨Hl,iV,hb,jc⟩:=xu
         have xF:(getObj l.eV).run E.P w= .ok (.map iV clock) w:=by simp [getObj,Sem.run,hb]
         have Cs:=o9 hd vy hk false 9998 w
         have tf:∀o':Obj,(setObj l.eV o').run E.P w= .ok () {w with heap:=w.heap.setIfInBounds l.eV o'}:=fun o'=>by simp [setObj,Sem.run,hb]
         have Og:∀(o:aP) (o':Obj),OR E φ o l (some o')→o.rw=true→OK E φ (h.put i (some o)) {w with heap:=w.heap.setIfInBounds l.eV o'}∧Fr φ h w φ (h.put i (some o)) {w with heap:=w.heap.setIfInBounds l.eV o'}:=fun o o' ho AF=>by
          have jT:l.eV<w.heap.size:=by
           rcases Nat.lt_or_ge l.eV w.heap.size with a | a
           · exact a
           · rw[Array.getElem?_eq_none a] at hb;simp at hb
          exact ok.change hg rfl hφ (by simp [jT];exact ho) (fun c dt=>by simp [Ne.symm dt]) (by simp) rfl rfl rfl
         split at e
         · rename_i j v0 hf
           obtain ⟨r',h1,h2⟩:=m_ hk jc hf
           cases r' with
           | none=>exact h2.elim
           | some q=>
           obtain ⟨j',v1⟩:=q
           obtain ⟨rfl,Cr,_,Oh,ta,Hq⟩:=h2
           simp at e;subst e
           obtain ⟨y,hy⟩:∃y,iV.toList[j]? =some y:=by
            have jT:j<es.length:=by simpa using (List.getElem?_eq_some_iff.1 ta).1
            exact ⟨iV.toList[j]'(by rw[←jc.1];exact jT),by simp⟩
           have QZ:=jc.2 j Oh y (by simpa using ta) hy
           obtain ⟨Ut,Oi⟩:=Hq hk QZ.key
           have KF:iV[j]? =some y:=by simpa using hy
           obtain ⟨lT,oF⟩:=Og (.map (jr es j v) clock) (.map (iV.modify j fun e=>{e with key:=k',val:=v'}) clock) ⟨Hl,_,rfl,by
            have:=nO hv jc j (k':=k') (fun e he=>by
             have:e=Oh:=by
              have h3:es[j]? =some Oh:=by simpa using ta
              rw[h3] at he;simp at he;exact he.symm
             subst this;rw[←Oi];exact QZ.key)
            simpa using this⟩ rfl
           refine ⟨_,?_,lT,oF⟩
           simp only[Instr.mapUpdate,Sem.run_bind,run_underlying hu,Result.andThen_ok,xF,Cs,ly hd vy hk (h1 w),Sem.run_pure,KF,Option.map_some,Option.getD_some,Instr.keyThatStays,Ut,if_true,tf _]
         · rename_i hf
           obtain ⟨r',h1,h2⟩:=m_ hk jc hf
           cases r' with
           | some q=>exact h2.elim
           | none=>
           simp at e;subst e
           obtain ⟨lT,oF⟩:=Og (.map (es++[{key:=k,val:=v,born:=clock}]) (clock+1)) (.map (iV.push {key:=k',val:=v',born:=clock}) (clock+1)) ⟨Hl,_,rfl,by
            refine ⟨by simp [jc.1],fun j a b p q=>?_⟩
            rw[Array.toList_push] at q
            by_cases hj:j<es.length
            · rw[List.getElem?_append_left hj] at p
              rw[List.getElem?_append_left (by rw[←jc.1];exact hj)] at q
              exact jc.2 j a b p q
            · rw[List.getElem?_append_right (by omega)] at p
              rw[List.getElem?_append_right (by rw[←jc.1];omega),←jc.1] at q
              cases Q0:j - es.length with
              | zero=>rw[Q0] at p q;simp at p q;subst p;subst q;exact ⟨hk,hv,rfl⟩
              | succ n=>rw[Q0] at p;simp at p⟩ rfl
           refine ⟨_,?_,lT,oF⟩
           simp only[Instr.mapUpdate,Sem.run_bind,run_underlying hu,Result.andThen_ok,xF,Cs,ly hd vy hk (h1 w),Sem.run_pure,tf _]
         · simp at e
       · simp at e
   · simp at e
 · simp at e
theorem zz {s:ByteArray} {pos:Nat} {b:UInt8} (h:s.data.toList[pos]? =some b) (hb:b.toNat<128):Utf8.decode s pos=(b.toNat,1):=by
 have hl:pos<s.size:=(List.getElem?_eq_some_iff.1 h).1
 have My:s[pos]'hl=b:=by
  have:=(List.getElem?_eq_some_iff.1 h).2
  rw[←this];rfl
 rw[decode_ascii s pos hl (by rw[My];exact hb),My]
set_option linter.unusedSimpArgs false in
theorem Fq {φ:Ph} {h h':aq} {w:World} (ok:OK E φ h w) {it v:AV} {b:Bool} (e:yd h it b=some (v,h')) {WD:Value} (Ym:VR φ it WD) (ty:TypeId):
 Fl E φ h w ((Instr.next WD b ty).run E.P w) v h':=by
 unfold yd at e
 split at e
 · rename_i r
   cases Ym with
   | @ptr _ l _ hφ=>
   split at e
   · rename_i s pos hg
     have xu:=ok.live r _ l hg hφ
     obtain ⟨Hl,s',hb,nL⟩:=xu
     have xF:(getObj l.eV).run E.P w= .ok (.stringIter s' pos) w:=by simp [getObj,Sem.run,hb]
     have e1:s'.size=s.length:=by rw[←nL];cases s';rfl
     split at e
     · rename_i jT
       split at e
       · rename_i c hc
         split at e
         · rename_i Uu
           simp at e;obtain ⟨rfl,rfl⟩:=e
           have tf:(setObj l.eV (.stringIter s' (pos+1))).run E.P w= .ok () {w with heap:=w.heap.setIfInBounds l.eV (.stringIter s' (pos+1))}:=by simp [setObj,Sem.run,hb]
           have Uv:l.eV<w.heap.size:=by
            rcases Nat.lt_or_ge l.eV w.heap.size with a | a
            · exact a
            · rw[Array.getElem?_eq_none a] at hb;simp at hb
           obtain ⟨lT,oF⟩:=ok.change (w':={w with heap:=w.heap.setIfInBounds l.eV (.stringIter s' (pos+1))}) (o':= .qp s (pos+1)) hg rfl hφ (by simp [Uv];exact ⟨Hl,s',rfl,nL⟩) (fun c dt=>by simp [Array.getElem?_setIfInBounds,Ne.symm dt]) (by simp) rfl rfl rfl
           refine ⟨φ,_,.tuple #[.bool true,.int .i64 pos,.int .i32 c.toNat],?_,VR.tuple' (gG:=[.bool true,.int .i64 pos,.int .i32 c.toNat]) (.cons (.bool true) (.cons (.int _ _) (.cons (.int _ _) (.nil φ)))),lT,oF⟩
           have Uw:=zz (s:=s') (pos:=pos) (b:=c) (by rw[nL];exact hc) Uu
           have h0:l.off+0=0:=by omega
           simp only[Instr.next,h0,Sem.run_bind,xF,Result.andThen_ok,e1,jT,if_true,Uw,tf,Sem.run_pure,goInt]
         · simp at e
       · simp at e
     · rename_i jT
       simp at e;obtain ⟨rfl,rfl⟩:=e
       refine ⟨φ,w,.tuple #[.bool false],?_,VR.tuple' (gG:=[.bool false]) (.cons (.bool false) (.nil φ)),ok,Fr.refl φ h w⟩
       have h0:l.off+0=0:=by omega
       simp only[Instr.next,h0,Sem.run_bind,xF,Result.andThen_ok,e1,jT,if_false,Sem.run_pure]
   · rename_i s1 s2 s3 hg
     have xu:=ok.live r _ l hg hφ
     obtain ⟨Hl,hb⟩:=xu
     have xF:(getObj l.eV).run E.P w= .ok (.mapIter none s1 s2.toArray s3) w:=by simp [getObj,Sem.run,hb]
     simp at e;obtain ⟨rfl,rfl⟩:=e
     refine ⟨φ,w,.tuple #[.bool false],?_,VR.tuple' (gG:=[.bool false]) (.cons (.bool false) (.nil φ)),ok,Fr.refl φ h w⟩
     have h0:l.off+0=0:=by omega
     simp only[Instr.next,h0,Sem.run_bind,xF,Result.andThen_ok,Sem.run_pure]
   · simp at e
 · simp at e
end Go.Ab
end
section
namespace Go.Ab
variable {E:Env}
def DR (φ:Ph):nD→Deferred→Prop
 | .call f args,d'=>∃cap,d'.target= .fn (.func f) cap∧LR φ args (d'.args++cap).toList
 | .P3 r,d'=>∃l,φ r=some l∧d'.target= .collected l.eV
def MA (φ:Ph):List nD→List Deferred→Prop
 | [],[]=>True
 | d::ds,d'::tg=>DR φ d d'∧MA φ ds tg
 | _,_=>False
theorem DR.mono {φ φ':Ph} (hle:φ.le φ') {d:nD} {d':Deferred} (h:DR φ d d'):DR φ' d d':=by
 cases d with
 | call f args=>obtain ⟨c,a,b⟩:=h;exact ⟨c,a,b.mono hle⟩
 | P3 r=>obtain ⟨l,a,b⟩:=h;exact ⟨l,hle _ _ a,b⟩
theorem MA.mono {φ φ':Ph} (hle:φ.le φ'):∀{ds:List nD} {tg:List Deferred} (_:MA φ ds tg),MA φ' ds tg
 | [],[],_=>trivial
 | _::_,_::_,h=>⟨h.1.mono hle,MA.mono hle h.2⟩
structure SR (φ:Ph) (ts:List AV) (ds:List nD) (a:Act):Prop where
 ts:LR φ ts a.tmps.toList
 ds:MA φ ds a.defers
theorem SR.mono {φ φ':Ph} (hle:φ.le φ') {ts:List AV} {ds:List nD} {a:Act} (h:SR φ ts ds a):SR φ' ts ds a:=⟨h.ts.mono hle,h.ds.mono hle⟩
def kT (φ:Ph) (b:Frame) (K:Bool→List Frame):RC→Prop
 | .no=>b.roundOf=none∧∀fr:Frame,fr.kind=b.kind→tryRecover fr (K false)=none
 | .gH v=>b.roundOf=none∧(∃v',VR φ v v'∧∀fr:Frame,fr.kind=b.kind→tryRecover fr (K false)=some (v',K true))∧∀fr:Frame,fr.kind=b.kind→tryRecover fr (K true)=none
 | .done=>b.roundOf=none∧∀fr:Frame,fr.kind=b.kind→tryRecover fr (K true)=none
 | .AE l=>∃ll,φ l=some ll∧b.roundOf=some ll.eV
def cur (K:Bool→List Frame):RC→List Frame
 | .done=>K true
 | _=>K false
def RC.lW:RC→Bool
 | .AE _=>true
 | _=>false
theorem kT.mono {φ φ':Ph} (hle:φ.le φ') {b:Frame} {K:Bool→List Frame}:∀{rc:RC} (_:kT φ b K rc),kT φ' b K rc
 | .no,h=>h
 | .gH _,h=>let ⟨n,⟨v',a,b⟩,c⟩:=h;⟨n,⟨v',a.mono hle,b⟩,c⟩
 | .done,h=>h
 | .AE _,h=>let ⟨l,a,b⟩:=h;⟨l,hle _ _ a,b⟩
theorem kT.plain {φ:Ph} {b:Frame} {K:Bool→List Frame} {rc:RC} (h:kT φ b K rc) (hn:rc.lW=false):b.roundOf=none:=by
 cases rc with
 | no=>exact h.1
 | gH v=>exact h.1
 | done=>exact h.1
 | AE l=>simp [RC.lW] at hn
inductive Oj (φ:Ph):iS→Exit→Prop
 | normal:Oj φ .normal .normal
 | exit (id:Nat):Oj φ (.exit id) (.exit id)
 | ret:Oj φ .ret .ret
 | panic (v:AV) (v':Value) (h:VR φ v v'):Oj φ (.panic v) (.panic [{v:=v',recovered:=false}])
def ju (E:Env) (f:FuncId) (args:List AV) (h:aq) (v:AV) (h':aq):Prop:=
 ∀(φ:Ph) (w:World) (vs:List Value),OK E φ h w→LR φ args vs→(callFunc f vs.toArray).run E.P w= .ok (.enter f vs.toArray) w∧
  ∀cs,∃φ' w' v' fr,VR φ' v v'∧OK E φ' h' w'∧Fr φ h w φ' h' w'∧
   Steps E.P (lone (Frame.enter E.P f vs.toArray .normal) cs w) (lone fr cs w')∧fr.fn=f∧fr.leaving E.P w' (.returned v')
def DZ (E:Env) (f:FuncId) (args:List AV) (h:aq) (v:AV) (h':aq):Prop:=
 ∀(φ:Ph) (w:World) (vs:List Value),OK E φ h w→LR φ args vs→(callFunc f vs.toArray).run E.P w= .ok (.enter f vs.toArray) w∧
  ∀cs,∃φ' w' v' fr,VR φ' v v'∧OK E φ' h' w'∧Fr φ h w φ' h' w'∧
   Steps E.P (lone (Frame.enter E.P f vs.toArray .normal) cs w) (lone fr cs w')∧fr.fn=f∧fr.leaving E.P w' (.panicked [{v:=v',recovered:=false}])
inductive lX (E:Env) (φ:Ph) (w:World):Fn→List Value→Next→Frame→Prop
 | fn (f:FuncId) (vs:List Value) (hr:(callFunc f vs.toArray).run E.P w= .ok (.enter f vs.toArray) w):lX E φ w (.fn f) vs (.enter f vs.toArray) (Frame.enter E.P f vs.toArray .normal)
 | tV (l:Nat) (ll:Loc) (hl:φ l=some ll) (vs:List Value) (f:FuncId) (tmps:Array Value) (assign body:Code) (hr:(Instr.yield ll.eV vs.toArray).run E.P w= .ok (.round ll.eV f tmps assign body) w):
  lX E φ w (.tV l) vs (.round ll.eV f tmps assign body) (Frame.round ll.eV f tmps assign body .normal)
def Hr (φ:Ph):Fn→Prop
 | .fn _=>True
 | .tV l=>∃ll,φ l=some ll
def CV (E:Env) (F:Fn) (args:List AV) (h:aq) (v:AV) (h':aq):Prop:=
 ∀(φ:Ph) (w:World) (vs:List Value),OK E φ h w→Hr φ F→LR φ args vs→∃n start,lX E φ w F vs n start∧
  ∀c cs,∃φ' w' v',VR φ' v v'∧OK E φ' h' w'∧Fr φ h w φ' h' w'∧Steps E.P (lone start (c::cs) w) (lone (c.finish v') cs w')
def CW (E:Env) (F:Fn) (args:List AV) (h:aq) (v:AV) (h':aq):Prop:=
 ∀(φ:Ph) (w:World) (vs:List Value),OK E φ h w→Hr φ F→LR φ args vs→∃n start,lX E φ w F vs n start∧
  ∀c cs,∃φ' w' v',VR φ' v v'∧OK E φ' h' w'∧Fr φ h w φ' h' w'∧Steps E.P (lone start (c::cs) w) (lone (c.raise [{v:=v',recovered:=false}]) cs w')
theorem ju.any {f:FuncId} {args:List AV} {h:aq} {v:AV} {h':aq} (r:ju E f args h v h'):CV E (.fn f) args h v h':=fun φ w vs ok _ hl=>by
 obtain ⟨h1,h2⟩:=r φ w vs ok hl
 refine ⟨_,_,.fn f vs h1,fun c cs=>?_⟩
 obtain ⟨φ',w',v',fr,x1,x2,x3,x4,_,x5⟩:=h2 (c::cs)
 exact ⟨φ',w',v',x1,x2,x3,x4.trans (.one (step_leave_returned x5))⟩
theorem DZ.any {f:FuncId} {args:List AV} {h:aq} {v:AV} {h':aq} (r:DZ E f args h v h'):CW E (.fn f) args h v h':=fun φ w vs ok _ hl=>by
 obtain ⟨h1,h2⟩:=r φ w vs ok hl
 refine ⟨_,_,.fn f vs h1,fun c cs=>?_⟩
 obtain ⟨φ',w',v',fr,x1,x2,x3,x4,_,x5⟩:=h2 (c::cs)
 exact ⟨φ',w',v',x1,x2,x3,x4.trans (.one (step_leave_panicked x5))⟩
structure fP (E:Env) (call:aY):Prop where
 ret:∀f args h v h',call f args h= .ret v h'→CV E f args h v h'
 panic:∀f args h v h',call f args h= .panic v h'→CW E f args h v h'
structure iJ (E:Env):Prop where
 ext:Mx E
 gu:∀f g,E.gu f=some g→∀args h v h',g args h=some (v,h')→ju E f args h v h'
 names:∀(f:FuncId) (fn:Func),E.P.funcs[f]? =some fn→fn.name≠ "runtime.NumGoroutine"
 mixed:E.P.follows .mixedOrders=true
theorem Hs {φ:Ph} {ts:List AV} {a:Act} (h:LR φ ts a.tmps.toList) (d:Option Tmp) {v:AV} {v':Value} (hv:VR φ v v'):LR φ (cU ts d v) (a.put d v').tmps.toList:=by
 cases d with
 | none=>exact h
 | some d=>simp only[cU,Act.put,Array.toList_setIfInBounds];exact h.set hv d
theorem put_defers (a:Act) (d:Option Tmp) (v:Value):(a.put d v).defers=a.defers:=by cases d<;>rfl
theorem SR.put {φ:Ph} {ts:List AV} {ds:List nD} {a:Act} (h:SR φ ts ds a) (d:Option Tmp) {v:AV} {v':Value} (hv:VR φ v v'):SR φ (cU ts d v) ds (a.put d v'):=
 ⟨Hs h.ts d hv,by rw[put_defers];exact h.ds⟩
theorem qN {φ:Ph} {ops:Array Oper} {ts:List AV} {a:Act} (h:LR φ ts a.tmps.toList) (o:Oper):Region.wanted o (yielded ops a.tmps)=b_ ops ts o:=by
 unfold Region.wanted b_
 cases o.guard with
 | none=>rfl
 | some g=>
   obtain ⟨j,want⟩:=g
   simp only[yielded]
   cases hd:(ops[j]?).bind (·.dst) with
   | none=>simp
   | some d=>
     simp only[Option.bind_some]
     cases hx:ts[d]? with
     | none=>
       have:a.tmps[d]? =none:=by
        have h1:=List.getElem?_eq_none_iff.1 hx
        rw[h.1] at h1
        have:=List.getElem?_eq_none_iff.2 h1
        simpa using this
       simp [this]
     | some x=>
       obtain ⟨y,hy,hv⟩:=h.get hx
       have KF:a.tmps[d]? =some y:=by simpa using hy
       rw[KF]
       cases hv with
       | any _ h=>cases y<;>first | (simp;done) | cases h
       | _=>simp
section
variable {b:Frame} {a:Act} {k:List Item} {cs:List Frame} {w:World} {ops:Array Oper} {i:Nat} {rest:List Nat} {o:Oper}
theorem pU (ho:ops[i]? =some o) (v:Value):(b.atR a (.inRegion ops (i::rest)::k)).finish v=b.atR (a.put o.dst v) (.inRegion ops rest::k):=by
 rw[Frame.finish_atR,ho];rfl
theorem kA {P:Program} (jd:o.semAt b.roundOf a.eval=execOp a.eval o) (ho:ops[i]? =some o) (hw:Region.wanted o (yielded ops a.tmps)=true) {v:Value} {w':World} (hr:(execOp a.eval o).run P w= .ok (.value v) w'):
 step P (lone (b.atR a (.inRegion ops (i::rest)::k)) cs w)= .next (lone (b.atR (a.put o.dst v) (.inRegion ops rest::k)) cs w'):=by
 rw[←pU ho]
 exact step_lone_go (by rw[stepGR_op (rest:=rest) ho hw,jd];simp [stepG.apply,hr])
theorem AZ {P:Program} (jd:o.semAt b.roundOf a.eval=execOp a.eval o) (ho:ops[i]? =some o) (hw:Region.wanted o (yielded ops a.tmps)=true) {w':World} (hr:(execOp a.eval o).run P w= .ok .skip w'):
 step P (lone (b.atR a (.inRegion ops (i::rest)::k)) cs w)= .next (lone (b.atR (a.put o.dst undef) (.inRegion ops rest::k)) cs w'):=by
 rw[←pU ho]
 exact step_lone_go (by rw[stepGR_op (rest:=rest) ho hw,jd];simp [stepG.apply,hr])
theorem rI {φ:Ph} (jd:o.semAt b.roundOf a.eval=execOp a.eval o) (ho:ops[i]? =some o) (hw:Region.wanted o (yielded ops a.tmps)=true) {F:Fn} {vs:List Value} {n:Next} {start:Frame} (hp:lX E φ w F vs n start) (hr:(execOp a.eval o).run E.P w= .ok n w):
 step E.P (lone (b.atR a (.inRegion ops (i::rest)::k)) cs w)= .next (lone start (b.atR a (.inRegion ops (i::rest)::k)::cs) w):=by
 cases hp with
 | fn f vs _=>exact step_lone_go (by rw[stepGR_op (rest:=rest) ho hw,jd];simp [stepG.apply,hr,Frame.atR])
 | tV l ll hl vs f tmps assign body _=>exact step_lone_go (by rw[stepGR_op (rest:=rest) ho hw,jd];simp [stepG.apply,hr,Frame.atR])
theorem Ht {P:Program} (jd:o.semAt b.roundOf a.eval=execOp a.eval o) (ho:ops[i]? =some o) (hw:Region.wanted o (yielded ops a.tmps)=true) {v:Value} {w':World} (hr:(execOp a.eval o).run P w= .halt (.panic v) w'):
 step P (lone (b.atR a (.inRegion ops (i::rest)::k)) cs w)= .next (lone {b.atR a (.inRegion ops (i::rest)::k) with mode:= .panicking [{v,recovered:=false}]} cs w'):=by
 rw[←Frame.raise_atR]
 exact step_lone_go (by rw[stepGR_op (rest:=rest) ho hw,jd];simp [stepG.apply,hr])
theorem Fs {P:Program} (jd:o.semAt b.roundOf a.eval=execOp a.eval o) (ho:ops[i]? =some o) (hw:Region.wanted o (yielded ops a.tmps)=true) {d:Deferred} {w':World} (hr:(execOp a.eval o).run P w= .ok (.defer d) w'):
 step P (lone (b.atR a (.inRegion ops (i::rest)::k)) cs w)= .next (lone (b.atR ({a with defers:=d::a.defers}.put o.dst undef) (.inRegion ops rest::k)) cs w'):=by
 have:({b.atR a (.inRegion ops (i::rest)::k) with defers:=d::a.defers}:Frame).finish undef=
  b.atR ({a with defers:=d::a.defers}.put o.dst undef) (.inRegion ops rest::k):=by
  have:=Frame.finish_atR b {a with defers:=d::a.defers} ops i rest k undef
  rw[ho] at this;exact this
 refine step_lone_go ?_
 rw[stepGR_op (rest:=rest) ho hw,jd]
 simp only[stepG.apply,Sem.runT_eq,hr,GStep.bare_after]
 exact congrArg (fun fr=>GStep.go {frame:=fr,callers:=cs,status:= .running,dying:=none} w') this
theorem CX {P:Program} (th:b.roundOf=none) (jd:o.semAt b.roundOf a.eval=execOp a.eval o) (ho:ops[i]? =some o) (hw:Region.wanted o (yielded ops a.tmps)=true) {w':World} (hr:(execOp a.eval o).run P w= .ok .recover w') {v:Value} {gG:List Frame}
 (ht:tryRecover (b.atR a (.inRegion ops (i::rest)::k)) cs=some (v,gG)):
 step P (lone (b.atR a (.inRegion ops (i::rest)::k)) cs w)= .next (lone (b.atR (a.put o.dst v) (.inRegion ops rest::k)) gG w'):=by
 rw[←pU ho]
 refine step_lone_go ?_
 rw[stepGR_op (rest:=rest) ho hw,jd]
 have Hu:(b.atR a (.inRegion ops (i::rest)::k)).roundOf=none:=th
 simp only[stepG.apply,Sem.runT_eq,if_true,hr,GStep.bare_after,Hu,ht,GStep.bare_go]
theorem qw {P:Program} (th:b.roundOf=none) (jd:o.semAt b.roundOf a.eval=execOp a.eval o) (ho:ops[i]? =some o) (hw:Region.wanted o (yielded ops a.tmps)=true) {w':World} (hr:(execOp a.eval o).run P w= .ok .recover w')
 (ht:tryRecover (b.atR a (.inRegion ops (i::rest)::k)) cs=none):
 step P (lone (b.atR a (.inRegion ops (i::rest)::k)) cs w)= .next (lone (b.atR (a.put o.dst .nilIface) (.inRegion ops rest::k)) cs w'):=by
 rw[←pU ho]
 refine step_lone_go ?_
 rw[stepGR_op (rest:=rest) ho hw,jd]
 have Hu:(b.atR a (.inRegion ops (i::rest)::k)).roundOf=none:=th
 simp only[stepG.apply,Sem.runT_eq,if_true,hr,GStep.bare_after,Hu,ht,GStep.bare_go]
end
def Q1 (P:Program) (m:Machine) (b:Frame) (ops:Array Oper) (rest:List Nat) (k:List Item) (cs:List Frame):Exit→Act→World→Prop
 | .normal,a,w=>Steps P m (lone (b.atR a (.inRegion ops rest::k)) cs w)
 | .panic chain,a,w=>∃todo,Steps P m (lone {b.atR a todo with mode:= .panicking chain} cs w)
 | _,_,_=>False
def D0 (φ:Ph):Fn→Target→List Value→List Value→Prop
 | .fn f,t,vs,all=>∃cap:List Value,t= .fn (.func f) cap.toArray∧all=vs++cap
 | .tV l,t,vs,all=>∃ll,φ l=some ll∧t= .fn (.yield ll.eV) #[]∧all=vs
theorem D0.Q2 {φ:Ph} {F:Fn} {t:Target} {vs all:List Value} (h:D0 φ F t vs all):Hr φ F:=by
 cases F with
 | fn f=>trivial
 | tV l=>obtain ⟨ll,h,_⟩:=h;exact ⟨ll,h⟩
theorem vC {φ:Ph} (hg:GL E φ) {ts:List AV} {a:Act} (ht:LR φ ts a.tmps.toList) {c:Call} {f:Fn} {args:List AV} (h:callee E ts c=some (f,args)) (ty:TypeId):
 ∃(t:Target) (vs all:List Value),LR φ args all∧D0 φ f t vs all∧∀w,(resolve a.eval c ty).run E.P w= .ok {target:=t,args:=vs.toArray} w:=by
 unfold callee at h
 split at h
 · rename_i x WE
   split at h
   · rename_i g first captured as hx has
     simp at h;obtain ⟨rfl,rfl⟩:=h
     have h1:=kR hg ht hx
     have h2:=fO hg ht has
     generalize je:a.eval x=cv at h1
     obtain ⟨KG,gG,rfl,hf,hc⟩:=h1.vj
     refine ⟨.fn (.func g) gG.toList.toArray,KG.toList++c.args.toList.map a.eval,_,?_,⟨gG.toList,rfl,rfl⟩,fun w=>?_⟩
     · rw[List.append_assoc]
       have:=(hf.append h2).append hc
       simpa [List.append_assoc] using this
     · simp [resolve,WE,Deferred.ofValue,je,map_toArray]
   · rename_i l as hx has
     simp at h;obtain ⟨rfl,rfl⟩:=h
     have h1:=kR hg ht hx
     have h2:=fO hg ht has
     generalize je:a.eval x=cv at h1
     cases h1 with
     | yield hl=>
       refine ⟨_,c.args.toList.map a.eval,_,h2,⟨_,hl,rfl,rfl⟩,fun w=>?_⟩
       simp [resolve,WE,Deferred.ofValue,je,map_toArray]
   · simp at h
 · simp at h
theorem xH {φ:Ph} {w:World} {F:Fn} {t:Target} {vs all:List Value} (ht:D0 φ F t vs all) {n:Next} {start:Frame} (hp:lX E φ w F all n start):(invoke t vs.toArray).run E.P w= .ok n w:=by
 cases hp with
 | fn f nM hr=>
   obtain ⟨cap,rfl,rfl⟩:=ht
   simpa [invoke] using hr
 | tV l ll hl nM f tmps assign body hr=>
   obtain ⟨ZQ,MB,rfl,rfl⟩:=ht
   rw[hl] at MB;simp at MB;subst MB
   simpa [invoke] using hr
theorem nP {φ:Ph} {b:Frame} {K:Bool→List Frame} {rc:RC} (eT:kT φ b K rc) {o:Oper} (h:rc.lW=false∨∀c,o.op≠ .defer c) (ρ:Operand→Value):o.semAt b.roundOf ρ=execOp ρ o:=by
 rcases h with h | h
 · rw[eT.plain h];rfl
 · exact Oper.semAt_eq _ _ _ h
end Go.Ab
end
section
namespace Go.Ab
variable {E:Env}
theorem vD {rc:RC} (h:∀l,rc= .AE l→False):rc.lW=false:=by
 cases rc<;>first | rfl | exact (h _ rfl).elim
theorem OK.gl {φ:Ph} {h:aq} {w:World} (ok:OK E φ h w):GL E φ:=ok.qI
inductive pa (E:Env) (call:aY) (φ:Ph) (ts:List AV) (h:aq) (rc:RC) (o:Oper) (a:Act) (w:World):sX→Prop
 | val (v:AV) (h':aq) (φ':Ph) (w':World) (v':Value) (hv:VR φ' v v') (ok:OK E φ' h' w') (fr:Fr φ h w φ' h' w')
  (run:(execOp a.eval o).run E.P w= .ok (.value v') w'):pa E call φ ts h rc o a w (.val v h')
 | skip (h':aq) (φ':Ph) (w':World) (ok:OK E φ' h' w') (fr:Fr φ h w φ' h' w')
  (run:(execOp a.eval o).run E.P w= .ok .skip w'):pa E call φ ts h rc o a w (.val AV.undef h')
 | enter (v:AV) (h':aq) (F:Fn) (args:List AV) (all:List Value) (hr:CV E F args h v h') (hf:Hr φ F) (hl:LR φ args all)
  (run:∀n start,lX E φ w F all n start→(execOp a.eval o).run E.P w= .ok n w):pa E call φ ts h rc o a w (.val v h')
 | KH (v:AV) (h':aq) (F:Fn) (args:List AV) (all:List Value) (hr:CW E F args h v h') (hf:Hr φ F) (hl:LR φ args all)
  (run:∀n start,lX E φ w F all n start→(execOp a.eval o).run E.P w= .ok n w):pa E call φ ts h rc o a w (.panic v h')
 | defer (d:nD) (d':Deferred) (xw:rc.lW=false) (hd:DR φ d d') (run:(execOp a.eval o).run E.P w= .ok (.defer d') w):pa E call φ ts h rc o a w (.defer d)
 | panic (v:AV) (v':Value) (hv:VR φ v v') (run:(execOp a.eval o).run E.P w= .halt (.panic v') w):pa E call φ ts h rc o a w (.panic v h)
 | ov (v:AV) (eT:rc= .gH v) (run:(execOp a.eval o).run E.P w= .ok .recover w):pa E call φ ts h rc o a w (.ov v)
 | Hv (eT:∀v,rc≠ .gH v) (xw:rc.lW=false) (run:(execOp a.eval o).run E.P w= .ok .recover w):pa E call φ ts h rc o a w (.val .nilIface h)
 | fail (why:String) (q:Option Oper):pa E call φ ts h rc o a w (.fail why q)
theorem A0 {t:TypeId} {name:String} {f:FuncId} (h:rz E t name=some f) (v:Value) (w:World):(method (E.P.types.size+Made.depth) t v name).run E.P w= .ok (f,v) w:=by
 unfold rz at h
 split at h
 · rename_i i hi
   split at h
   · rename_i m hm
     split at h
     · rename_i hp
       split at h
       · simp at h
       · rename_i g d dt hf hu
         simp at h;subst h
         have E':m.path.toList=[]:=by simpa using hp
         have e:E.P.types.size+Made.depth=(E.P.types.size+99)+1:=rfl
         rw[e,method]
         have Yo:(typeInfo t).run E.P w= .ok i w:=by simp [typeInfo,hi]
         simp only[Sem.run_bind,Yo,Result.andThen_ok,hm,E',follow,Sem.run_pure,hf,receiverAt,run_underlying hu]
         cases d with
         | pointer x=>exact absurd rfl (dt x)
         | _=>simp [Place.get]
       · simp at h
     · simp at h
   · simp at h
 · simp at h
theorem rJ {call:aY} {φ:Ph} {ts:List AV} {h:aq} {rc:RC} {o:Oper} {a:Act} {w:World} {s:Sem Value} {v:AV} {h':aq} (hd:Fl E φ h w (s.run E.P w) v h')
 (he:execOp a.eval o=(do pure (.value (←s)):Sem Next)):pa E call φ ts h rc o a w (.val v h'):=by
 obtain ⟨φ',w',v',hr,hv,ok,fr⟩:=hd
 exact .val v h' φ' w' v' hv ok fr (by rw[he];exact dQ hr)
set_option maxHeartbeats 1000000 in
theorem qO (hE:iJ E) {call:aY} (cH:fP E call) {φ:Ph} {ts:List AV} {h:aq} {rc:RC} {o:Oper} {a:Act} {w:World} (ht:LR φ ts a.tmps.toList) (ok:OK E φ h w):
 pa E call φ ts h rc o a w (cD E call ts h rc o):=by
 have ev:∀{x:Operand} {v:AV},dr E ts x=some v→VR φ v (a.eval x):=fun h=>kR ok.gl ht h
 obtain ⟨dst,op,ty,pos,after,guard⟩:=o
 unfold cD
 simp only
 split
 ·
  split
  · rename_i ha hx
    split
    · rename_i h' gZ
      obtain ⟨w',hr,lT,oF⟩:=CQ ok (ev ha) (ev hx) gZ
      exact .skip h' φ w' lT oF (by simp [execOp,hr])
    · exact .fail _ _
  · exact .fail _ _
 ·
  split
  · rename_i hm hk hx
    split
    · rename_i h' gZ
      obtain ⟨w',hr,lT,oF⟩:=o_ ok (ev hm) (ev hk) (ev hx) gZ
      exact .skip h' φ w' lT oF (by simp [execOp,hr])
    · exact .fail _ _
  · exact .fail _ _
 ·
  split
  · rename_i hm hk hx
    split
    · rename_i h' gZ
      obtain ⟨w',hr,lT,oF⟩:=o_ ok (ev hm) (ev hk) (ev hx) gZ
      exact .skip h' φ w' lT oF (by simp [execOp,hr])
    · exact .fail _ _
  · exact .fail _ _
 ·
  rename_i src dst x
  split
  · rename_i v h' hc
    cases hx:dr E ts x with
    | none=>rw[hx] at hc;simp [ye] at hc
    | some xv=>
      rw[hx] at hc
      exact rJ (Fo ok hc (ev hx)) rfl
  · exact .fail _ _
 ·
  split
  · rename_i hi
    split
    · rename_i hn
      exact rJ (Fq ok hn (ev hi) ty) rfl
    · exact .fail _ _
  · exact .fail _ _
 ·
  split
  · rename_i hx
    have h1:=ev hx
    generalize je:a.eval _=cv at h1
    cases h1 with
    | iface t1 v1 v' hv=>
    exact .panic _ _ (.iface _ _ v' hv) (by simp [execOp,je,Instr.panic])
  · exact .fail _ _
 ·
  split
  · exact .fail _ _
  · rename_i f args xw hc
    obtain ⟨t,vs,all,hl,⟨cap,rfl,rfl⟩,hr⟩:=vC ok.gl ht hc ty
    exact .defer _ {target:= .fn (.func f) cap.toArray,args:=vs.toArray} (vD xw) ⟨cap.toArray,rfl,by simpa using hl⟩ (by simp [execOp,hr])
  · exact .fail _ _
 ·
  rename_i c
  split
  ·
   rename_i xI
   split
   · rename_i s x has
     have hl:=fO ok.gl ht has
     obtain ⟨s',r1,Q3,hs,Ux⟩:=hl.cj
     obtain ⟨x',r2,Uy,hx,MC⟩:=Ux.cj
     have h0:c.args.map a.eval= #[s',x']:=by rw[map_toArray,Q3,Uy,MC.gU]
     split
     · rename_i Uz
       exact rJ (AU ok Uz hs hx ty) (by simp [execOp,resolve,xI,invoke,builtin,h0])
     · exact .fail _ _
   · exact .fail _ _
  ·
   rename_i xI
   split
   · rename_i s x has
     have hl:=fO ok.gl ht has
     obtain ⟨s',r1,Q3,hs,Ux⟩:=hl.cj
     obtain ⟨x',r2,Uy,hx,MC⟩:=Ux.cj
     have h0:c.args.map a.eval= #[s',x']:=by rw[map_toArray,Q3,Uy,MC.gU]
     split
     · rename_i Uz
       exact rJ (Fm ok Uz hs hx ty) (by simp [execOp,resolve,xI,invoke,builtin,h0])
     · exact .fail _ _
   · exact .fail _ _
  ·
   rename_i xI
   have fG:(execOp a.eval ⟨dst,.call c,ty,pos,after,guard⟩).run E.P w= .ok .recover w:=by simp [execOp,resolve,xI,invoke,builtin]
   split
   · exact .ov _ rfl fG
   · exact .fail _ _
   · rename_i dt xw
     exact .Hv (fun v e=>dt v e) (vD xw) fG
  ·
   rename_i fo xI
   split
   · rename_i F args hc
     obtain ⟨t,vs,all,hl,UA,hr⟩:=vC ok.gl ht hc ty
     have fG:∀n start,lX E φ w F all n start→(execOp a.eval ⟨dst,.call c,ty,pos,after,guard⟩).run E.P w= .ok n w:=fun n start hp=>by
      have:=xH UA hp
      simp [execOp,hr,this]
     split
     · rename_i g hg
       split
       · rename_i v h' Yp
         cases F with
         | fn f=>exact .enter v h' (.fn f) args all (hE.gu f g hg args h v h' Yp).any trivial hl fG
         | tV l=>simp [hT] at hg
       · exact .fail _ _
     · split
       · rename_i v h' je
         exact .enter v h' F args all (cH.ret F args h v h' je) UA.Q2 hl fG
       · rename_i v h' je
         exact .KH v h' F args all (cH.panic F args h v h' je) UA.Q2 hl fG
       · exact .fail _ _
   · exact .fail _ _
  ·
   rename_i r name xI
   split
   · rename_i t x args hx has
     split
     · rename_i f hm
       have h1:=ev hx
       generalize je:a.eval r=cv at h1
       cases h1 with
       | iface t1 v1 v' hv=>
       have hl:LR φ (x::args) (v'::c.args.toList.map a.eval):= .cons hv (fO ok.gl ht has)
       have fG:∀n start,lX E φ w (.fn f) (v'::c.args.toList.map a.eval) n start→(execOp a.eval ⟨dst,.call c,ty,pos,after,guard⟩).run E.P w= .ok n w:=fun n start hp=>by
        cases hp with
        | fn f nM hr=>
        have e1:(#[v']++(c.args.map a.eval))=(v'::c.args.toList.map a.eval).toArray:=by rw[map_toArray];simp
        have e2:(#[Value.iface t v']++c.args.map a.eval).extract 1 (#[Value.iface t v']++c.args.map a.eval).size=c.args.map a.eval:=by
         apply Array.ext';simp
         exact List.take_of_length_le (by simp)
        have e3:(#[Value.iface t v']++c.args.map a.eval)[0]? =some (Value.iface t v'):=by rw[Array.getElem?_append];rfl
        simp only[execOp,resolve,xI,je,Sem.run_bind,Sem.run_pure,Result.andThen_ok,invoke,e3,e2,callMethod,run_program,A0 hm,e1,hr]
       split
       · rename_i v h' Ol
         exact .enter v h' (.fn f) _ _ (cH.ret (.fn f) _ h v h' Ol) trivial hl fG
       · rename_i v h' Ol
         exact .KH v h' (.fn f) _ _ (cH.panic (.fn f) _ h v h' Ol) trivial hl fG
       · exact .fail _ _
     · exact .fail _ _
   · exact .fail _ _
  · exact .fail _ _
 · exact .fail _ _
structure Q4 (E:Env) (φ:Ph) (h:aq) (w:World) (b:Frame) (K:Bool→List Frame) (ops:Array Oper) (rest:List Nat) (k:List Item) (m:Machine) (e:iS) (s':St):Prop where
 is:∃φ' w' a' e',Oj φ' e e'∧SR φ' s'.ts s'.ds a'∧OK E φ' s'.h w'∧Fr φ h w φ' s'.h w'∧kT φ' b K s'.rc∧Q1 E.P m b ops rest k (cur K s'.rc) e' a' w'
set_option maxHeartbeats 1000000 in
theorem yn (hE:iJ E) {call:aY} (cH:fP E call) {ops:Array Oper} {i:Nat} {rest:List Nat} {o:Oper} (ho:ops[i]? =some o) {s s':St} {e:iS} (mZ:zk E call s o= .ok e s')
 {φ:Ph} {a:Act} {w:World} {b:Frame} {k:List Item} {K:Bool→List Frame} (hs:SR φ s.ts s.ds a) (ok:OK E φ s.h w) (eT:kT φ b K s.rc) (hw:Region.wanted o (yielded ops a.tmps)=true):
 Q4 E φ s.h w b K ops rest k (lone (b.atR a (.inRegion ops (i::rest)::k)) (cur K s.rc) w) e s':=by
 have jd:(s.rc.lW=false∨∀c,o.op≠ .defer c)→o.semAt b.roundOf a.eval=execOp a.eval o:=fun h=>nP eT h _
 unfold zk at mZ
 split at mZ
 · rename_i v hp
   have mq:s.rc.lW=false∨∀c,o.op≠ .defer c:= .inr (fun c e=>by rw[e] at hp;simp [bm] at hp)
   simp at mZ;obtain ⟨rfl,rfl⟩:=mZ
   obtain ⟨v',hv,hr⟩:=tY hE.ext ok.gl hs.ts hp
   exact ⟨φ,w,_,_,.normal,hs.put o.dst hv,ok,Fr.refl _ _ _,eT,.one (kA (jd mq) ho hw (hr w))⟩
 · split at mZ
   · rename_i v hp
     have mq:s.rc.lW=false∨∀c,o.op≠ .defer c:= .inr (fun c e=>by rw[e] at hp;simp [c9] at hp)
     simp at mZ;obtain ⟨rfl,rfl⟩:=mZ
     obtain ⟨v',hv,hr⟩:=ua ok.gl ok hs.ts hp
     exact ⟨φ,w,_,_,.normal,hs.put o.dst hv,ok,Fr.refl _ _ _,eT,.one (kA (jd mq) ho hw (hr w rfl))⟩
   · split at mZ
     · rename_i obj mk hp
       have mq:s.rc.lW=false∨∀c,o.op≠ .defer c:= .inr (fun c e=>by rw[e] at hp;simp [dj] at hp)
       split at mZ
       · rename_i h' hn
         simp at mZ;obtain ⟨rfl,rfl⟩:=mZ
         obtain ⟨O,mk',A1,hr⟩:=rF ok.gl hs.ts hp
         obtain ⟨lT,oF,hle⟩:=ok.fresh (w':=w.alloc O) hn ⟨w.heap.size,0,0⟩ (by
          have:=A1.obj (φ.add s.h.nx ⟨w.heap.size,0,0⟩) w.heap.size (fun i m hm=>by
           unfold Ph.add;split
           · rename_i e;subst e;exact absurd (ok.uJ _ _ hm) (Nat.lt_irrefl _)
           · exact hm)
          rw[show (w.alloc O).heap=w.heap.push O from rfl]
          simpa using this)
          (fun c dt hc=>by rw[show (w.alloc O).heap=w.heap.push O from rfl,Array.getElem?_push,if_neg (by simpa using dt)]) (by simp) (Nat.le_refl _) rfl rfl rfl
         have hv:=A1.val (φ.add s.h.nx ⟨w.heap.size,0,0⟩) s.h.nx w.heap.size hle (by simp [Ph.add])
         exact ⟨_,_,_,_,.normal,(hs.mono hle).put o.dst hv,lT,oF,eT.mono hle,.one (kA (jd mq) ho hw (hr w))⟩
       · simp at mZ
     · have pc:=qO hE cH (rc:=s.rc) (o:=o) hs.ts ok
       have mq:(∃d,cD E call s.ts s.h s.rc o= .defer d)∨(∃why q,cD E call s.ts s.h s.rc o= .fail why q)∨(s.rc.lW=false∨∀c,o.op≠ .defer c):=by
        by_cases hd:∃c,o.op= .defer c
        · obtain ⟨c,hd⟩:=hd
          unfold cD
          simp only[hd]
          split
          · exact .inr (.inl ⟨_,_,rfl⟩)
          · exact .inl ⟨_,rfl⟩
          · exact .inr (.inl ⟨_,_,rfl⟩)
        · exact .inr (.inr (.inr (fun c e=>hd ⟨c,e⟩)))
       generalize cD E call s.ts s.h s.rc o=eo at mZ pc mq
       cases pc with
       | val v h' φ' w' v' hv oO fr run=>
         have mq:=(mq.resolve_left (by simp)).resolve_left (by simp)
         simp at mZ;obtain ⟨rfl,rfl⟩:=mZ
         exact ⟨φ',w',_,_,.normal,(hs.mono fr.ext).put o.dst hv,oO,fr,eT.mono fr.ext,.one (kA (jd mq) ho hw run)⟩
       | skip h' φ' w' oO fr run=>
         have mq:=(mq.resolve_left (by simp)).resolve_left (by simp)
         simp at mZ;obtain ⟨rfl,rfl⟩:=mZ
         exact ⟨φ',w',_,_,.normal,(hs.mono fr.ext).put o.dst (VR.undef φ'),oO,fr,eT.mono fr.ext,.one (AZ (jd mq) ho hw run)⟩
       | enter v h' F args all hr hf hl run=>
         have mq:=(mq.resolve_left (by simp)).resolve_left (by simp)
         simp at mZ;obtain ⟨rfl,rfl⟩:=mZ
         obtain ⟨n,start,hp,gZ⟩:=hr φ w all ok hf hl
         obtain ⟨φ',w',v',hv,oO,fr,gR⟩:=gZ (b.atR a (.inRegion ops (i::rest)::k)) (cur K s.rc)
         rw[pU ho] at gR
         exact ⟨φ',w',_,_,.normal,(hs.mono fr.ext).put o.dst hv,oO,fr,eT.mono fr.ext,.head (rI (jd mq) ho hw hp (run n start hp)) gR⟩
       | KH v h' F args all hr hf hl run=>
         have mq:=(mq.resolve_left (by simp)).resolve_left (by simp)
         simp at mZ;obtain ⟨rfl,rfl⟩:=mZ
         obtain ⟨n,start,hp,gZ⟩:=hr φ w all ok hf hl
         obtain ⟨φ',w',v',hv,oO,fr,gR⟩:=gZ (b.atR a (.inRegion ops (i::rest)::k)) (cur K s.rc)
         rw[Frame.raise_atR] at gR
         exact ⟨φ',w',a,_,.panic v v' hv,hs.mono fr.ext,oO,fr,eT.mono fr.ext,.inRegion ops (i::rest)::k,.head (rI (jd mq) ho hw hp (run n start hp)) gR⟩
       | defer d d' xw hd run=>
         simp at mZ;obtain ⟨rfl,rfl⟩:=mZ
         have h1:SR φ s.ts (d::s.ds) {a with defers:=d'::a.defers}:=⟨hs.ts,hd,hs.ds⟩
         exact ⟨φ,w,_,_,.normal,h1.put o.dst (VR.undef φ),ok,Fr.refl _ _ _,eT,.one (Fs (nP eT (.inl xw) _) ho hw run)⟩
       | panic v v' hv run=>
         have mq:=(mq.resolve_left (by simp)).resolve_left (by simp)
         simp at mZ;obtain ⟨rfl,rfl⟩:=mZ
         exact ⟨φ,w,a,_,.panic v v' hv,hs,ok,Fr.refl _ _ _,eT,_,.one (Ht (jd mq) ho hw run)⟩
       | ov v UB run=>
         simp at mZ;obtain ⟨rfl,rfl⟩:=mZ
         rw[UB] at eT ⊢
         have Hw:=eT.plain rfl
         have Q5:=nP eT (o:=o) (.inl rfl) a.eval
         obtain ⟨_,⟨v',hv,Yq⟩,Q6⟩:=eT
         exact ⟨φ,w,_,_,.normal,hs.put o.dst hv,ok,Fr.refl _ _ _,⟨Hw,Q6⟩,.one (CX Hw Q5 ho hw run (Yq _ rfl))⟩
       | Hv dt xw run=>
         simp at mZ;obtain ⟨rfl,rfl⟩:=mZ
         have zn:∀fr:Frame,fr.kind=b.kind→tryRecover fr (cur K s.rc)=none:=by
          cases zA:s.rc with
          | no=>rw[zA] at eT;exact eT.2
          | gH v=>exact absurd zA (dt v)
          | done=>rw[zA] at eT;exact eT.2
          | AE l=>rw[zA] at xw;simp [RC.lW] at xw
         exact ⟨φ,w,_,_,.normal,hs.put o.dst .nilIface,ok,Fr.refl _ _ _,eT,.one (qw (eT.plain xw) (nP eT (.inl xw) _) ho hw run (zn _ rfl))⟩
       | fail why q=>simp at mZ
end Go.Ab
end
section
namespace Go.Ab
variable {E:Env}
def yp (E:Env) (ts j0:List AV) (op:Op):Prop:=∀x∈op.operands,dr E ts x=dr E j0 x
theorem rK {α β:Type} {f g:α→Option β}:∀{l:List α} (_:∀x∈l,f x=g x),dp f l=dp g l
 | [],_=>rfl
 | x::xs,h=>by simp only[dp,h x (by simp),rK (l:=xs) (fun y hy=>h y (by simp [hy]))]
theorem mA {ts j0:List AV} {l:List Operand} (h:∀x∈l,dr E ts x=dr E j0 x):eF E ts l=eF E j0 l:=rK h
theorem nQ {ts j0:List AV}:∀{l:List (Nat×Operand)} (_:∀x∈l.map (·.2),dr E ts x=dr E j0 x),ir E ts l=ir E j0 l
 | [],_=>rfl
 | (i,o)::l,h=>by simp only[ir,h o (by simp),nQ (l:=l) (fun y hy=>h y (by simp at hy ⊢;exact .inr hy))]
theorem pe {ts j0:List AV} {o:Option Operand} (h:∀x∈o.toArray,dr E ts x=dr E j0 x):ky E ts o=ky E j0 o:=by
 cases o with
 | none=>rfl
 | some o=>simp only[ky,h o (by simp)]
theorem rL {ts j0:List AV} {c:Call} (h:∀x∈c.operands,dr E ts x=dr E j0 x):callee E ts c=callee E j0 c:=by
 unfold callee
 cases hc:c.callee with
 | value f=>
   have h1:dr E ts f=dr E j0 f:=h f (by simp [Call.operands,hc])
   have h2:eF E ts c.args.toList=eF E j0 c.args.toList:=mA (fun x hx=>h x (by simp [Call.operands,hc];exact .inr (by simpa using hx)))
   simp only[h1,h2]
 | invoke _ _=>rfl
 | builtin _=>rfl
theorem kU {ts j0:List AV} {c:Call} (h:∀x∈c.operands,dr E ts x=dr E j0 x):eF E ts c.args.toList=eF E j0 c.args.toList:=
 mA (fun x hx=>h x (by simp [Call.operands];exact .inr (by simpa using hx)))
theorem A2 {ts j0:List AV} {op:Op} (h:yp E ts j0 op):bm E ts op=bm E j0 op:=by
 cases op with
 | call c=>
   have hc:=kU (E:=E) (ts:=ts) (j0:=j0) (c:=c) h
   obtain ⟨callee,args,argTypes⟩:=c
   simp only at hc
   cases callee with
   | builtin b=>cases b<;>simp only[bm,hc]
   | value f=>cases f<;>simp only[bm,hc]
   | invoke r m=>simp only[bm]
 | build t ps=>
   have:ir E ts ps.toList=ir E j0 ps.toList:=nQ (fun x hx=>h x (by simpa [Op.operands] using hx))
   simp only[bm,this]
 | makeFunc fn first captured=>
   cases fn with
   | func f=>
     have h1:eF E ts first.toList=eF E j0 first.toList:=mA (fun x hx=>h x (by simp [Op.operands];exact .inl (by simpa using hx)))
     have h2:eF E ts captured.toList=eF E j0 captured.toList:=mA (fun x hx=>h x (by simp [Op.operands];exact .inr (by simpa using hx)))
     simp only[bm,h1,h2]
   | _=>simp only[bm]
 | slice t x lo hi mx=>
   have h0:dr E ts x=dr E j0 x:=h x (by simp [Op.operands])
   have h1:ky E ts lo=ky E j0 lo:=pe (fun y hy=>h y (by simp [Op.operands] at hy ⊢;exact .inr (.inl hy)))
   have h2:ky E ts hi=ky E j0 hi:=pe (fun y hy=>h y (by simp [Op.operands] at hy ⊢;exact .inr (.inr (.inl hy))))
   have h3:ky E ts mx=ky E j0 mx:=pe (fun y hy=>h y (by simp [Op.operands] at hy ⊢;exact .inr (.inr (.inr hy))))
   simp only[bm,h0,h1,h2,h3]
 | move x=>simp only[bm,h x (by simp [Op.operands])]
 | assign x=>simp only[bm,h x (by simp [Op.operands])]
 | pick c a b=>simp only[bm,h c (by simp [Op.operands]),h a (by simp [Op.operands]),h b (by simp [Op.operands])]
 | nilCheck x=>simp only[bm,h x (by simp [Op.operands])]
 | binOp o t x y u=>simp only[bm,h x (by simp [Op.operands]),h y (by simp [Op.operands])]
 | unOp o t x=>simp only[bm,h x (by simp [Op.operands])]
 | convert s d x=>simp only[bm,h x (by simp [Op.operands])]
 | makeInterface t x=>simp only[bm,h x (by simp [Op.operands])]
 | fieldAddr s x f=>simp only[bm,h x (by simp [Op.operands])]
 | field s x f=>simp only[bm,h x (by simp [Op.operands])]
 | indexAddr t x i=>simp only[bm,h x (by simp [Op.operands]),h i (by simp [Op.operands])]
 | index t x i=>simp only[bm,h x (by simp [Op.operands]),h i (by simp [Op.operands])]
 | extract x i=>simp only[bm,h x (by simp [Op.operands])]
 | typeAssert x a b ok=>simp only[bm,h x (by simp [Op.operands])]
 | _=>simp only[bm]
theorem A3 {ts j0:List AV} {op:Op} (h:yp E ts j0 op) (hp:aq):c9 E ts hp op=c9 E j0 hp op:=by
 cases op with
 | call c=>
   have hc:=kU (E:=E) (ts:=ts) (j0:=j0) (c:=c) h
   obtain ⟨callee,args,argTypes⟩:=c
   simp only at hc
   cases callee with
   | builtin b=>cases b<;>simp only[c9,hc]
   | value f=>simp only[c9]
   | invoke r m=>simp only[c9]
 | load t a=>simp only[c9,h a (by simp [Op.operands])]
 | convert s d x=>simp only[c9,h x (by simp [Op.operands])]
 | lookup t x i ok=>simp only[c9,h x (by simp [Op.operands]),h i (by simp [Op.operands])]
 | _=>simp only[c9]
theorem zB {ts j0:List AV} {op:Op} (h:yp E ts j0 op):dj E ts op=dj E j0 op:=by
 cases op with
 | buildSlice t n ps=>
   have:ir E ts ps.toList=ir E j0 ps.toList:=nQ (fun x hx=>h x (by simpa [Op.operands] using hx))
   simp only[dj,this]
 | box t x=>simp only[dj,h x (by simp [Op.operands])]
 | makeSlice t l c=>simp only[dj,h l (by simp [Op.operands]),h c (by simp [Op.operands])]
 | makeMap t r=>
   cases r with
   | none=>simp only[dj]
   | some r=>simp only[dj,h r (by simp [Op.operands])]
 | range t x=>simp only[dj,h x (by simp [Op.operands])]
 | _=>simp only[dj]
theorem vE {call:aY} {ts j0:List AV} {o:Oper} (h:yp E ts j0 o.op) (hp:aq) (rc:RC):cD E call ts hp rc o=cD E call j0 hp rc o:=by
 obtain ⟨dst,op,ty,pos,after,guard⟩:=o
 simp only at h
 unfold cD
 cases op with
 | call c=>
   have hc:=kU (E:=E) (ts:=ts) (j0:=j0) (c:=c) h
   have xI:=rL (E:=E) (ts:=ts) (j0:=j0) (c:=c) h
   cases N8:c.callee with
   | invoke r name=>
     have hr:dr E ts r=dr E j0 r:=h r (by simp [Op.operands,Call.operands,N8])
     simp only[N8,hc,hr]
   | builtin b=>cases b<;>simp only[N8,hc]
   | value f=>simp only[N8,xI]
 | defer c=>simp only[rL (E:=E) (ts:=ts) (j0:=j0) (c:=c) h]
 | store t a x=>simp only[h a (by simp [Op.operands]),h x (by simp [Op.operands])]
 | mapUpdate t m k x=>simp only[h m (by simp [Op.operands]),h k (by simp [Op.operands]),h x (by simp [Op.operands])]
 | insert t m k x=>simp only[h m (by simp [Op.operands]),h k (by simp [Op.operands]),h x (by simp [Op.operands])]
 | convert s d x=>simp only[h x (by simp [Op.operands])]
 | next i s=>simp only[h i (by simp [Op.operands])]
 | panic x=>simp only[h x (by simp [Op.operands])]
 | _=>rfl
end Go.Ab
end
