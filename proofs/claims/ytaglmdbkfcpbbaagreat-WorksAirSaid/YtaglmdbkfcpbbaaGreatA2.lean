import Derived.Laws.BitsLemmas
import Derived.Laws.RangeString
import Derived.Defers
import Derived.AtR
import Derived.RangeFuncNested
import Derived.Test.YtaglmdbkfcpbbaaGreatA1
set_option linter.unusedVariables false
set_option linter.unusedSimpArgs false
section
namespace Go.Ab
variable {E:Env}
def HC (E:Env) (φ:Ph) (h:ar) (w:World) (r:Result Value) (v:AV) (h':ar):Prop:=
 ∃φ' w' v',r= .ok v' w'∧VR φ' v v'∧OK E φ' h' w'∧Fr φ h w φ' h' w'
theorem xE {φ:Ph} {vs:List AV} {pt:List Value} (h:LR φ vs pt) (hs:vs.all AV.scalar=true):∀v∈pt,v.oneCell'=true:=by
 intro v hv
 obtain ⟨i,hi⟩:=List.getElem?_of_mem hv
 have Ue:i<vs.length:=by rw[h.1];exact (List.getElem?_eq_some_iff.1 hi).1
 have:=h.2 i vs[i] v (by simp [Ue]) hi
 exact this.scalar (List.all_eq_true.1 hs _ (List.getElem_mem Ue))
theorem uX {φ:Ph} {h:ar} {w:World} (ok:OK E φ h w) {i:Nat} {cs:List AV} {e:TypeId} (hg:h.get i=some (.cells cs e false)) {l:Loc} (hφ:φ i=some l)
 {vs:List AV} {pt:List Value} (hl:LR φ vs pt) (o:Nat) (hle:o+vs.length≤cs.length) (uY:vs.all AV.scalar=true):
 ∃w',(storeCells ⟨l.gG,l.off+o,none⟩ pt).run E.P w= .ok () w'∧OK E φ (h.put i (some (.cells (setFrom cs o vs) e false))) w'∧
  Fr φ h w φ (h.put i (some (.cells (setFrom cs o vs) e false))) w':=by
 obtain ⟨C,e',lo,hi,hb,hc⟩:=ok.cells hg hφ
 have I7:=hc.size
 have hlen:=hl.1
 have hH:=sf (P:=E.P) hb (l.off+o) pt (by omega) (fun k h1 h2=>hc.free rfl k (by omega) (by omega)) (xE hl uY)
 refine ⟨_,hH,?_⟩
 obtain ⟨h1,h2,h3⟩:=qD pt w l.gG (l.off+o)
 refine ok.change hg rfl hφ ?_ (fun c eC=>jO pt (Ne.symm eC) _) (n_ _ _ _ _) h1 h2 h3
 refine ⟨jN C (l.off+o) pt,e',lo,hi,n9 pt hb _,?_,fun k x hk=>?_,fun _ k a b=>hc.free rfl k a (by rw[mS] at b;exact b),fun h=>by cases h⟩
 · rw[mS,qC];exact I7
 · rw[kq] at hk
   rw[sA]
   split at hk
   · rename_i Rs
     rw[if_pos (by omega)]
     obtain ⟨y,hy,hr⟩:=hl.get hk
     exact ⟨y,by rw[show l.off+k -(l.off+o)=k - o by omega];exact hy,hr⟩
   · rename_i Rs
     have Uf:k<cs.length:=(List.getElem?_eq_some_iff.1 hk).1
     rw[if_neg (by omega)]
     exact hc.val k x hk
theorem EH {φ:Ph} {h h':ar} {w:World} (ok:OK E φ h w) {t:TypeId} {av xv:AV} {a' x':Value} (ha:VR φ av a') (hx:VR φ xv x') (e:h_ E h t av xv=some h'):
 ∃w',(Instr.storeAt t a' x').run E.P w= .ok () w'∧OK E φ h' w'∧Fr φ h w φ h' w':=by
 unfold h_ at e
 split at e
 · rename_i i o
   cases ha with
   | @ptr _ l _ hφ=>
   split at e
   · rename_i cs el n hg hn
     split at e
     · rename_i hc
       simp at e;subst e
       obtain ⟨w',hH,mV,qk⟩:=uX ok hg hφ hx.cells o (by omega) hc.2.2
       refine ⟨w',?_,mV,qk⟩
       have hs:x'.cells.size=n:=by have:=hx.cells.1;simp at this;omega
       simp only[Instr.storeAt,Instr.sureAddr,Sem.run_bind,Sem.run_pure,Result.andThen_ok,storeVar,ew hn,hs,ne_eq,not_true_eq_false,if_false,hH]
     · simp at e
   · simp at e
 · simp at e
theorem xF {φ:Ph} {h:ar} {w:World} (ok:OK E φ h w) {size n:Nat} {x:AV} {x':Value} (hx:VR φ x x') {new:List AV} (e:fS h size n x=some new) (hn:nH x=some n∨True):
 ∃ql:List Value,LR φ new ql∧∀w',w'.heap=w.heap→(Builtin.firstCells size n x').run E.P w'= .ok ql.toArray w':=by
 unfold fS at e
 split at e
 · split at e
   · rename_i h0
     simp at e;subst e
     cases hx
     exact ⟨[],LR.nil φ,fun w' _=>by simp [Builtin.firstCells]⟩
   · simp at e
 · split at e
   · rename_i h0
     simp at e;subst e
     cases hx
     exact ⟨[],LR.nil φ,fun w' _=>by subst h0;simp only[Builtin.firstCells,Nat.zero_mul];rfl⟩
   · simp at e
 · rename_i i o len _ _
   split at e
   · split at e
     · rename_i h0
       simp at e;subst e
       cases hx
       exact ⟨[],LR.nil φ,fun w' _=>by subst h0;simp only[Builtin.firstCells,Nat.zero_mul];rfl⟩
     · split at e
       · rename_i cs el ro hg
         split at e
         · rename_i hle
           simp at e;subst e
           cases hx with
           | @slice _ l _ _ _ _ hφ=>
           obtain ⟨C,e',lo,hi,hb,hc⟩:=ok.cells hg hφ
           obtain ⟨vs,RU,Ej,xy⟩:=hc.range o (n*size) hle
           refine ⟨vs,xy,fun w' hw=>?_⟩
           rw[←hw] at hb
           have sD:=mE (P:=E.P) hb (l.off+o) vs Ej
           rw[RU] at sD
           simp only[Builtin.firstCells,sD]
         · simp at e
       · simp at e
   · simp at e
 · rename_i s
   split at e
   · rename_i qp
     simp at e;subst e
     generalize EC:AV.str s=s0 at hx
     cases hx<;>cases EC
     rename_i s'
     refine ⟨(s'.data.toList.take n).map (fun b=>Value.int .u8 b.toNat),⟨by simp,fun i p q hp hq=>?_⟩,fun w' _=>?_⟩
     · rw[←List.map_take,List.getElem?_map] at hp
       rw[List.getElem?_map] at hq
       cases hb:(s'.data.toList.take n)[i]? with
       | none=>rw[hb] at hp;simp at hp
       | some b=>
         rw[hb] at hp hq
         simp at hp hq
         subst hp;subst hq
         exact .int _ _
     · simp only[Builtin.firstCells,Sem.run_pure]
       congr 1
       apply Array.ext'
       simp
   · simp at e
 · simp at e
end Go.Ab
namespace Go.Ab
variable {E:Env}
theorem OK.reuse {φ:Ph} {h h':ar} {w w':World} (ok:OK E φ h w) {i:Nat} {o o':aH} {l l':Loc} (hg:h.get i=some o) (Cb:o.rw=true) (hl:φ i=some l) (hb:l'.gG=l.gG)
 (hn:(h.put i none).new o'=some h') (ho:OR E (φ.add h.nx l') o' l' w'.heap[l.gG]?) (qE:∀c,c≠l.gG→w'.heap[c]? =w.heap[c]?) (fL:w'.heap.size=w.heap.size)
 (RM:w'.os=w.os) (Cg:w'.tape=w.tape) (ox:w'.output=w.output):
 OK E (φ.add h.nx l') h' w'∧Fr φ h w (φ.add h.nx l') h' w':=by
 obtain ⟨lf,Rp,xu,hold⟩:=ar.kF hn
 have Ye:(h.put i none).nx=h.nx:=rfl
 rw[Ye] at Rp xu hold
 have AS:φ h.nx=none:=by
  cases e:φ h.nx with
  | none=>rfl
  | some m=>exact absurd (ok.wB _ _ e) (Nat.lt_irrefl _)
 have hle:φ.le (φ.add h.nx l'):=fun j m hm=>by
  unfold Ph.add;split
  · rename_i e;subst e;rw[AS] at hm;simp at hm
  · exact hm
 have gL:∀j p,h'.get j=some p→(j=h.nx∧p=o')∨(j≠h.nx∧j≠i∧h.get j=some p):=fun j p hj=>by
  by_cases e:j=h.nx
  · subst e;rw[xu] at hj;simp at hj;exact .inl ⟨rfl,hj.symm⟩
  · rw[hold j e] at hj
    by_cases e':i=j
    · subst e';rw[ar.eF] at hj;simp at hj
    · rw[ar.cZ e'] at hj;exact .inr ⟨e,Ne.symm e',hj⟩
 have jP:∀j,j≠h.nx→(φ.add h.nx l') j=φ j:=fun j hj=>by simp [Ph.add,hj]
 have ib:(φ.add h.nx l') h.nx=some l':=by simp [Ph.add]
 refine ⟨⟨fun j m hm=>?_,?_,fun g hg=>hle _ _ (ok.sx g hg),fun j p m hj hm=>?_,fun j k p q m n hj hk hm qj hw U0=>?_⟩,
  ⟨hle,fun j hj=>jP j (by omega),by omega,RM,Cg,ox,Nat.le_of_eq fL.symm,fun b _ T'=>qE b (fun e=>T' i o l hg Cb hl e.symm),fun j p m hj hr hm=>?_⟩⟩
 · rw[Rp]
   by_cases e:j=h.nx
   · omega
   · rw[jP j e] at hm;have:=ok.wB j m hm;omega
 · have:=ok.nx;omega
 · rcases gL j p hj with ⟨rfl,rfl⟩ | ⟨eC,AT,po⟩
   · rw[ib] at hm;simp at hm;subst hm;exact hb▸ho
   · rw[jP j eC] at hm
     rw[qE _ (fun e=>AT (ok.inj j i p o m l po hg hm hl (.inr Cb) e))]
     exact (ok.live j p m po hm).mono hle
 · rcases gL j p hj with ⟨rfl,rfl⟩ | ⟨eC,Xa,po⟩<;>rcases gL k q hk with ⟨rfl,rfl⟩ | ⟨AT,U1,Ch⟩
   · rfl
   · rw[ib] at hm;simp at hm;subst hm
     rw[jP k AT] at qj
     exact absurd (ok.inj k i q o n l Ch hg qj hl (.inr Cb) (U0.symm.trans hb)) U1
   · rw[ib] at qj;simp at qj;subst qj
     rw[jP j eC] at hm
     exact absurd (ok.inj j i p o m l po hg hm hl (.inr Cb) (U0.trans hb)) Xa
   · rw[jP j eC] at hm;rw[jP k AT] at qj;exact ok.inj _ _ _ _ _ _ po Ch hm qj hw U0
 · rcases gL j p hj with ⟨rfl,rfl⟩ | ⟨eC,Xa,po⟩
   · rw[ib] at hm;simp at hm;subst hm;exact .inr ⟨i,o,l,hg,Cb,hl,hb.symm⟩
   · rw[jP j eC] at hm;exact .inr ⟨j,p,m,po,hr,hm,rfl⟩
theorem z7:∀(rounds c EI:Nat),c<EI→Builtin.growBy EI rounds c≤2*EI+1000
 | 0,c,n,h=>by simp [Builtin.growBy];omega
 | r+1,c,n,h=>by
   simp only[Builtin.growBy]
   split
   · omega
   · by_cases hc:c+(c+768) /4<n
     · exact z7 r _ n hc
     · cases r with
       | zero=>simp only[Builtin.growBy];omega
       | succ r=>simp only[Builtin.growBy];rw[if_pos (by omega)];omega
theorem nextslicecap_le {n c:Nat} (h:c<n):Builtin.nextslicecap n c≤4*n+4096:=by
 unfold Builtin.nextslicecap
 split
 · omega
 · split
   · omega
   · have:=z7 4 c n h;omega
theorem mW (z:Array Value) (n:Nat):(Builtin.zeroCells z n).size=n*z.size:=by simp [Builtin.zeroCells]
theorem qa {P:Program} {w:World} {sT xT ty elem:TypeId} {xd:TypeDesc} (hs:P.underlying sT=some (.slice elem)) (hx:P.underlying xT=some xd) (Mh:∀k,xd≠ .int k)
 {size bytes n:Nat} (fL:(P.info? elem).map (·.size)=some size) (kG:(P.info? elem).map (·.bytes)=some bytes) {z:Value} (hz:∀w,(zeroValue elem).run P w= .ok z w) (Mi:z.cells.size=size)
 {base:Option Addr} {len cap:Nat} {x':Value} (hn:∀w,(Builtin.lenOf x').run P w= .ok n w) {old new:List Value} (hold:∀w',w'.heap=w.heap→(Builtin.firstCells size len (.slice base len cap)).run P w'= .ok old.toArray w')
 (xu:∀w',w'.heap=w.heap→(Builtin.firstCells size n x').run P w'= .ok new.toArray w') (lf:cap<len+n) (Mj:(4*(len+n)+4096)*(bytes+1)≤1099511627776) (LS:old.length=len*size) (Jd:new.length=n*size):
 ∃nc:Nat,∃C:Array Value,len+n≤nc∧(∃rest,C.toList=old++new++rest)∧C.size=nc*size∧
  (Builtin.append_ #[sT,xT] ty #[.slice base len cap,x']).run P w= .ok (.slice (some ⟨w.heap.size,0,none⟩) (len+n) nc) (w.drew.alloc (.cells C elem)):=by
 let nc:=(Question.appendCap (len+n) cap elem).cut (w.tape w.drawn (.appendCap (len+n) cap elem))
 have Je:len+n≤nc:=by show len+n≤len+n+_;omega
 let C:Array Value:=old.toArray++new.toArray++Builtin.zeroCells z.cells (nc -(len+n))
 refine ⟨nc,C,Je,⟨(Builtin.zeroCells z.cells (nc -(len+n))).toList,by simp [C]⟩,?_,?_⟩
 · simp only[C,Array.size_append,mW,Mi,List.size_toArray,LS,Jd]
   rw[←Nat.add_mul,←Nat.add_mul];congr 1;omega
 · obtain ⟨inf,Cn,hb⟩:=oA kG w
   obtain ⟨U2,Jf,N_⟩:=oA kG w.drew
   have Pl:(match xd with | .int _=>true | _=>false)=false:=by cases xd<;>first | rfl | exact absurd rfl (Mh _)
   have Pm:¬len+n≤cap:=by omega
   have Pn:=nextslicecap_le lf
   have hmul:(4*(len+n)+4096)*(bytes+1)=(4*(len+n)+4096)*bytes+(4*(len+n)+4096):=by rw[Nat.mul_add,Nat.mul_one]
   have EJ:¬Builtin.nextslicecap (len+n) cap*bytes>2^48:=by
    have:Builtin.nextslicecap (len+n) cap*bytes≤(4*(len+n)+4096)*bytes:=Nat.mul_le_mul_right _ Pn
    omega
   have Po:IntKind.i64.max=9223372036854775807:=by decide
   have A1:¬(((len+n:Nat):Int) >IntKind.i64.max):=by rw[Po];omega
   have o1:=hold w.drew rfl
   have n1:=xu w.drew rfl
   have z1:=hz w.drew
   have hf:((!false)=true)=True:=by simp
   simp only[Builtin.append_,List.getElem?_toArray,List.getElem?_cons_zero,List.getElem?_cons_succ,Sem.run_bind,Sem.run_pure,Result.andThen_ok,run_underlying hs,run_underlying hx,ew fL,Bool.false_eq_true,if_false,hn,Pm,Cn]
   rw[if_neg (fun h=>A1 h.1)]
   simp only[Sem.run_bind,Cn,hb,Result.andThen_ok]
   rw[if_neg EJ]
   simp only[Sem.run_bind,run_choose,Question.forced,Bool.false_eq_true,if_false,World.drew_eq,Result.andThen_ok,Jf,run_askRoom,o1,hf,if_true,n1,z1,newRow,run_newObj,World.alloc_eq,Sem.run_pure]
   rfl
theorem oF {P:Program} {w w':World} {sT xT ty elem:TypeId} {xd:TypeDesc} (hs:P.underlying sT=some (.slice elem)) (hx:P.underlying xT=some xd) (Mh:∀k,xd≠ .int k)
 {size n:Nat} (fL:(P.info? elem).map (·.size)=some size) {b O len cap:Nat} {x':Value} (hn:∀w,(Builtin.lenOf x').run P w= .ok n w) {new:List Value}
 (xu:(Builtin.firstCells size n x').run P w= .ok new.toArray w) (hle:len+n≤cap) (jd:(storeCells ⟨b,O+len*size,none⟩ new).run P w= .ok () w'):
 (Builtin.append_ #[sT,xT] ty #[.slice (some ⟨b,O,none⟩) len cap,x']).run P w= .ok (.slice (some ⟨b,O,none⟩) (len+n) cap) w':=by
 have Pl:(match xd with | .int _=>true | _=>false)=false:=by cases xd<;>first | rfl | exact absurd rfl (Mh _)
 have hf:((!false)=true)=True:=by simp
 simp only[Builtin.append_,List.getElem?_toArray,List.getElem?_cons_zero,List.getElem?_cons_succ,Sem.run_bind,Sem.run_pure,Result.andThen_ok,run_underlying hs,run_underlying hx,ew fL,hf,Bool.false_eq_true,if_false,if_true,hn,hle,xu,rF,jd]
theorem tC {φ:Ph} {h h':ar} {w:World} (ok:OK E φ h w) {new:List AV} {elem:TypeId} (hn:h.new (.cells new elem false)=some h') {l:List Value} (hl:LR φ new l)
 {size nc n:Nat} (fL:cE E elem=some size) {C:Array Value} {rest:List Value} (hC:C.toList=l++rest) (IL:C.size=nc*size) (Je:n≤nc) (Ug:l.length=n*size):
 HC E φ h w (.ok (.slice (some ⟨w.heap.size,0,none⟩) n nc) (w.drew.alloc (.cells C elem))) (.slice h.nx 0 n n true) h':=by
 have Jd:new.length=n*size:=by rw[hl.1,Ug]
 obtain ⟨mV,qk,hle⟩:=ok.fresh (w':=w.drew.alloc (.cells C elem)) hn ⟨w.heap.size,0,nc - n⟩ (by
  refine ⟨C,elem,0,0,by rw[show (w.drew.alloc (.cells C elem)).heap=w.heap.push (.cells C elem) from rfl];simp,?_,fun k x hk=>?_,fun _ k _ _=>by omega,fun _ _ _=>rfl⟩
  · simp only[fI,fL,Option.getD_some,Jd,IL,Nat.zero_add]
    rw[←Nat.add_mul];exact Nat.mul_le_mul_right _ (by omega)
  · obtain ⟨y,hy,hr⟩:=hl.get hk
    have Uf:k<l.length:=(List.getElem?_eq_some_iff.1 hy).1
    refine ⟨y,?_,hr.mono (fun i m hm=>?_)⟩
    · have:C.toList[k]? =some y:=by rw[hC,List.getElem?_append_left Uf];exact hy
      simpa using this
    · unfold Ph.add
      split
      · rename_i e;subst e;exact absurd (ok.wB _ _ hm) (Nat.lt_irrefl _)
      · exact hm)
  (fun c eC hc=>by
   have:(w.drew.alloc (.cells C elem)).heap[c]? =w.heap[c]? :=by
    rw[show (w.drew.alloc (.cells C elem)).heap=w.heap.push (.cells C elem) from rfl,Array.getElem?_push,if_neg (by simpa using eC)]
   exact this) (by simp) (Nat.le_refl _) rfl rfl rfl
 refine ⟨_,_,_,rfl,?_,mV,qk⟩
 have:=VR.slice (φ:=φ.add h.nx ⟨w.heap.size,0,nc - n⟩) (i:=h.nx) (l:=⟨w.heap.size,0,nc - n⟩) 0 n n true (by simp [Ph.add])
 simp only[gW,if_true] at this
 rw[show n+(nc - n)=nc by omega] at this
 exact this
theorem Fr.Mk {φ φ':Ph} {h h':ar} {w w':World} {i:Nat} (f:Fr φ (h.put i none) w φ' h' w'):Fr φ h w φ' h' w':=by
 have gL:∀j p,(h.put i none).get j=some p→h.get j=some p:=fun j p hj=>by
  by_cases e:i=j
  · subst e;rw[ar.eF] at hj;simp at hj
  · rw[ar.cZ e] at hj;exact hj
 exact ⟨f.ext,f.old,f.nx,f.os,f.tape,f.output,f.size,fun b hb hn=>f.zt b hb (fun j p m hj=>hn j p m (gL j p hj)),
  fun j p m hj hr hm=>(f.own j p m hj hr hm).imp id (fun ⟨k,q,n,a,b⟩=>⟨k,q,n,gL k q a,b⟩)⟩
theorem mX {φ:Ph} {x:AV} {n:Nat} (h:nH x=some n) {x':Value} (hx:VR φ x x') (P:Program) (w:World):(Builtin.lenOf x').run P w= .ok n w:=by
 cases x<;>simp [nH] at h
 · subst h
   generalize EC:AV.str _=s0 at hx
   cases hx<;>cases EC
   rfl
 · cases hx;subst h;rfl
 · cases hx;subst h;rfl
 · cases hx;subst h;rfl
theorem wE {P:Program} {w:World} {sT xT ty elem:TypeId} {kx:IntKind} (hs:P.underlying sT=some (.slice elem)) (hx:P.underlying xT=some (.int kx))
 {size bytes:Nat} (fL:(P.info? elem).map (·.size)=some size) (kG:(P.info? elem).map (·.bytes)=some bytes) {z:Value} (hz:∀w,(zeroValue elem).run P w= .ok z w) (Mi:z.cells.size=size)
 {k:IntKind} {n:Int} (hn:0<n) (LU:0<size) (Mj:(4*n.toNat+4096)*(bytes+1)≤1099511627776):
 ∃nc:Nat,∃C:Array Value,n.toNat≤nc∧(∃rest,C.toList=(Builtin.zeroCells z.cells n.toNat).toList++rest)∧C.size=nc*size∧
  (Builtin.append_ #[sT,xT] ty #[.slice none 0 0,.int k n]).run P w= .ok (.slice (some ⟨w.heap.size,0,none⟩) n.toNat nc) (w.drew.alloc (.cells C elem)):=by
 let nc:=(Question.appendCap (0+n.toNat) 0 elem).cut (w.tape w.drawn (.appendCap (0+n.toNat) 0 elem))
 have Je:n.toNat≤nc:=by show n.toNat≤0+n.toNat+_;omega
 let C:Array Value:= #[]++Builtin.zeroCells z.cells n.toNat++Builtin.zeroCells z.cells (nc -(0+n.toNat))
 refine ⟨nc,C,Je,⟨(Builtin.zeroCells z.cells (nc -(0+n.toNat))).toList,by simp [C]⟩,?_,?_⟩
 · simp only[C,Array.size_append,mW,Mi,Array.size_empty,Nat.zero_add]
   rw[←Nat.add_mul];congr 1;omega
 · obtain ⟨inf,Cn,hb⟩:=oA kG w
   obtain ⟨U2,Jf,N_⟩:=oA kG w.drew
   have hmul:(4*n.toNat+4096)*(bytes+1)=(4*n.toNat+4096)*bytes+(4*n.toNat+4096):=by rw[Nat.mul_add,Nat.mul_one]
   have Jd:n.toNat≤1099511627776:=by omega
   have RY:IntKind.i64.wrap n=n:=by
    rw[IntKind.wrap_i64];omega
   have U3:¬n<0:=by omega
   have zm:n*(bytes:Int)=((n.toNat*bytes:Nat):Int):=by rw[Int.natCast_mul,Int.toNat_of_nonneg (by omega)]
   have hle:n.toNat*bytes≤(4*n.toNat+4096)*bytes:=Nat.mul_le_mul_right _ (by omega)
   have RZ:¬n*(bytes:Int) >2^48:=by rw[zm];omega
   have Pm:¬0+n.toNat≤0:=by omega
   have Pn:=nextslicecap_le (show 0<0+n.toNat by omega)
   have EJ:¬Builtin.nextslicecap (0+n.toNat) 0*bytes>2^48:=by
    have:Builtin.nextslicecap (0+n.toNat) 0*bytes≤(4*(0+n.toNat)+4096)*bytes:=Nat.mul_le_mul_right _ Pn
    rw[Nat.zero_add] at this
    rw[Nat.zero_add]
    omega
   have Po:IntKind.i64.max=9223372036854775807:=by decide
   have A1:¬(((0+n.toNat:Nat):Int) >IntKind.i64.max):=by rw[Po];omega
   have Uh:¬n.toNat*size=0:=by
    have h1:0<n.toNat:=by omega
    have:=Nat.mul_pos h1 LU;omega
   have z1:=hz w.drew
   have hf:((!true)=true)=False:=by simp
   have Yf:∀w,(asInt (.int k n)).run P w= .ok n w:=fun _=>rfl
   simp only[Builtin.append_,List.getElem?_toArray,List.getElem?_cons_zero,List.getElem?_cons_succ,Sem.run_bind,Sem.run_pure,Result.andThen_ok,run_underlying hs,run_underlying hx,ew fL,if_true,Yf,RY]
   rw[if_neg U3]
   simp only[Sem.run_bind,Cn,hb,Result.andThen_ok]
   rw[if_neg RZ]
   simp only[Sem.run_bind,Sem.run_pure,Result.andThen_ok]
   rw[if_neg Pm]
   simp only[Sem.run_bind,Result.andThen_ok,Cn,hb]
   rw[if_neg (fun h=>A1 h.1)]
   simp only[Sem.run_bind,Cn,hb,Result.andThen_ok]
   rw[if_neg EJ]
   simp only[Sem.run_bind,run_choose,Question.forced,Bool.false_eq_true,if_false,World.drew_eq,Result.andThen_ok,Jf,run_askRoom,Builtin.firstCells,hf,if_neg Uh,z1,newRow,run_newObj,World.alloc_eq,Sem.run_pure]
   simp only[nc,C,Nat.zero_add]
   rfl
theorem Co {φ:Ph} {h h':ar} {w:World} (ok:OK E φ h w) {argTypes:Array TypeId} {s x v:AV} (e:da E h argTypes s x=some (v,h')) {s' x':Value} (hs:VR φ s s') (hx:VR φ x x') (ty:TypeId):
 HC E φ h w ((Builtin.append_ argTypes ty #[s',x']).run E.P w) v h':=by
 unfold da at e
 split at e
 · rename_i sT xT Xb Xc
   split at e
   · rename_i elem xd Rt Ru
     split at e
     · rename_i hint
       cases xd<;>simp [lr] at hint
       have key:(Builtin.append_ argTypes ty #[s',x']).run E.P w=(Builtin.append_ #[sT,xT] ty #[s',x']).run E.P w:=by
        unfold Builtin.append_;simp only[Xb,Xc];rfl
       rw[key]
       unfold qx at e
       split at e
       · rename_i k0 k size bytes z fL kG hzero
         split at e
         · rename_i hc
           obtain ⟨hk,LU,Mj,Pf⟩:=hc
           split at e
           · rename_i h1 vU
             simp at e;obtain ⟨rfl,rfl⟩:=e
             cases hs;cases hx
             obtain ⟨z',wC,jW⟩:=iM hzero
             have Mi:z'.cells.size=size:=by have:=(wC φ).cells.1;simp at this;omega
             obtain ⟨nc,C,Je,⟨rest,hC⟩,IL,hH⟩:=wE (P:=E.P) (w:=w) (ty:=ty) (k:=k0) Rt Ru fL kG jW Mi hk LU Mj
             rw[hH]
             exact tC (n:=k.toNat) ok vU (l:=(Builtin.zeroCells z'.cells k.toNat).toList) (EG (wC φ).cells k.toNat) fL hC IL Je (by rw[Array.length_toList,mW,Mi])
           · simp at e
         · simp at e
       · simp at e
     rename_i R0
     have Mh:∀k,xd≠ .int k:=fun k he=>by subst he;simp [lr] at R0
     split at e
     · rename_i size bytes n fL kG hlen
       split at e
       · rename_i new z xG hzero
         split at e
         · rename_i hc
           obtain ⟨Pf,uY,N'⟩:=hc
           obtain ⟨z',wC,jW⟩:=iM hzero
           have Mi:z'.cells.size=size:=by have:=(wC φ).cells.1;simp at this;omega
           obtain ⟨ql,zx,tD⟩:=xF ok hx xG (.inr trivial)
           have Jd:ql.length=n*size:=by rw[←zx.1];exact N'
           have key:(Builtin.append_ argTypes ty #[s',x']).run E.P w=(Builtin.append_ #[sT,xT] ty #[s',x']).run E.P w:=by
            unfold Builtin.append_;simp only[Xb,Xc];rfl
           rw[key]
           split at e
           ·
            cases hs
            split at e
            · rename_i IM
              simp at e;obtain ⟨rfl,rfl⟩:=e
              subst IM
              refine ⟨φ,w,_,?_,.aI,ok,Fr.refl φ h w⟩
              have Pl:(match xd with | .int _=>true | _=>false)=false:=by cases xd<;>first | rfl | exact absurd rfl (Mh _)
              have hf:((!false)=true)=True:=by simp
              have Ui:=tD w rfl
              simp only[Builtin.append_,List.getElem?_toArray,List.getElem?_cons_zero,List.getElem?_cons_succ,Sem.run_bind,Sem.run_pure,Result.andThen_ok,run_underlying Rt,run_underlying Ru,ew fL,hf,Bool.false_eq_true,if_false,if_true,mX hlen hx,Ui,Nat.le_refl,Nat.add_zero]
            · rename_i IM
              split at e
              · rename_i Mj
                split at e
                · rename_i h1 vU
                  simp at e;obtain ⟨rfl,rfl⟩:=e
                  obtain ⟨nc,C,Je,⟨rest,hC⟩,IL,hH⟩:=qa (P:=E.P) (w:=w) (ty:=ty) Rt Ru Mh fL kG jW Mi (base:=none) (len:=0) (cap:=0) (fun w=>mX hlen hx E.P w) (old:=[]) (fun w' _=>by simp [Builtin.firstCells]) (fun w' hw=>tD w' hw) (by omega) (by simpa using Mj) (by simp) Jd
                  have:=tC (n:=n) ok vU (l:=[]++ql) (by simpa using zx) (by simpa using fL) (by simpa using hC) IL (by omega) (by simp [Jd])
                  rw[hH]
                  simp only[Nat.zero_add] at this ⊢
                  exact this
                · simp at e
              · simp at e
           · rename_i i o len cap op
             cases hs with
             | @slice _ l _ _ _ _ hφ=>
             split at e
             · rename_i cs el hg
               split at e
               ·
                rename_i R1
                split at e
                · rename_i hle
                  simp at e;obtain ⟨rfl,rfl⟩:=e
                  have Pc:cap≤gW op cap l.iF:=by unfold gW;split<;>omega
                  obtain ⟨w',jd,mV,qk⟩:=uX ok hg hφ zx (o+len*size) (by rw[N',Nat.add_assoc,←Nat.add_mul];exact hle) uY
                  refine ⟨φ,w',_,oF (P:=E.P) Rt Ru Mh fL (fun w=>mX hlen hx E.P w) (tD w rfl) (by omega) (by rw[Nat.add_assoc];exact jd),?_,mV,qk⟩
                  have:=VR.slice (φ:=φ) o (len+n) cap op hφ
                  exact this
                · simp at e
               · rename_i R1
                 split at e
                 · rename_i I_
                   obtain ⟨Mj,LS,ow⟩:=I_
                   split at e
                   · rename_i h1 vU
                     simp at e;obtain ⟨rfl,rfl⟩:=e
                     obtain ⟨C0,e0,lo,hi,Pj,Uj⟩:=ok.cells hg hφ
                     obtain ⟨Ml,Cp,R2,EK⟩:=Uj.range o (len*size) LS
                     have Mm:∀cp w',w'.heap=w.heap→(Builtin.firstCells size len (.slice (some ⟨l.gG,l.off+o,none⟩) len cp)).run E.P w'= .ok Ml.toArray w':=fun cp w' hw=>by
                      rw[←hw] at Pj
                      have sD:=mE (P:=E.P) Pj (l.off+o) Ml R2
                      rw[Cp] at sD
                      simp only[Builtin.firstCells,sD]
                     by_cases Rs:len+n≤gW op cap l.iF
                     ·
                      have U4:op=true:=by
                       cases op with
                       | true=>rfl
                       | false=>simp [gW] at Rs;omega
                      subst U4
                      obtain ⟨rfl,RR⟩:=ow rfl
                      simp only[gW,if_true] at Rs ⊢
                      simp only[if_true] at vU
                      have I7:=Uj.size
                      simp only[fI,fL,Option.getD_some] at I7
                      have hmul:(len+n)*size≤(cap+l.iF)*size:=Nat.mul_le_mul_right _ Rs
                      have e1:(len+n)*size=len*size+n*size:=Nat.add_mul _ _ _
                      have e2:(cap+l.iF)*size=cap*size+l.iF*size:=Nat.add_mul _ _ _
                      have jd:=sf (P:=E.P) Pj (l.off+o+len*size) ql (by omega) (fun k k1 k2=>Uj.free rfl k (by omega) (by simp only[fI,fL,Option.getD_some];omega)) (xE zx uY)
                      obtain ⟨p1,p2,p3⟩:=qD ql w l.gG (l.off+o+len*size)
                      obtain ⟨mV,qk⟩:=ok.reuse (w':=w.setCells l.gG (l.off+o+len*size) ql) (l':=⟨l.gG,l.off+o,cap+l.iF -(len+n)⟩) hg rfl hφ rfl vU (by
                       refine ⟨jN C0 (l.off+o+len*size) ql,e0,lo,hi,n9 ql Pj _,?_,fun k x hk=>?_,fun _ k a b=>Uj.free rfl k (by simp at a;omega) ?_,fun h=>by cases h⟩
                       · simp only[fI,fL,Option.getD_some,qC,List.length_append,EK.1,Cp,zx.1,Jd]
                         rw[Nat.sub_mul];omega
                       · show ∃y,(jN C0 (l.off+o+len*size) ql)[l.off+o+k]? =some y∧_
                         rw[sA]
                         by_cases Uk:k<len*size
                         · rw[List.getElem?_append_left (by rw[EK.1,Cp];exact Uk)] at hk
                           obtain ⟨y,hy,hr⟩:=EK.get hk
                           rw[if_neg (by omega)]
                           exact ⟨y,R2 k y hy,hr.mono (fun j m hm=>by
                            unfold Ph.add
                            split
                            · rename_i ej;subst ej;exact absurd (ok.wB _ _ hm) (Nat.lt_irrefl _)
                            · exact hm)⟩
                         · rw[List.getElem?_append_right (by rw[EK.1,Cp];omega)] at hk
                           obtain ⟨y,hy,hr⟩:=zx.get hk
                           have Yg:k -((List.take (len*size) (List.drop o cs)).length)<ql.length:=(List.getElem?_eq_some_iff.1 hy).1
                           rw[EK.1,Cp] at Yg hy
                           rw[if_pos (by omega)]
                           exact ⟨y,by rw[show l.off+o+k -(l.off+o+len*size)=k - len*size by omega];exact hy,hr.mono (fun j m hm=>by
                            unfold Ph.add
                            split
                            · rename_i ej;subst ej;exact absurd (ok.wB _ _ hm) (Nat.lt_irrefl _)
                            · exact hm)⟩
                       · simp only[fI,fL,Option.getD_some,List.length_append,EK.1,Cp,zx.1,Jd] at b ⊢
                         rw[Nat.sub_mul] at b;omega)
                       (fun c eC=>jO ql (Ne.symm eC) _) (n_ _ _ _ _) p1 p2 p3
                      refine ⟨_,_,_,oF (P:=E.P) Rt Ru Mh fL (fun w=>mX hlen hx E.P w) (tD w rfl) Rs jd,?_,mV,qk⟩
                      have:=VR.slice (φ:=φ.add h.nx ⟨l.gG,l.off+o,cap+l.iF -(len+n)⟩) (i:=h.nx) (l:=⟨l.gG,l.off+o,cap+l.iF -(len+n)⟩) 0 (len+n) (len+n) true (by simp [Ph.add])
                      simp only[gW,if_true] at this
                      rw[show len+n+(cap+l.iF -(len+n))=cap+l.iF by omega] at this
                      exact this
                     ·
                      obtain ⟨nc,C,Je,⟨rest,hC⟩,IL,hH⟩:=qa (P:=E.P) (w:=w) (ty:=ty) Rt Ru Mh fL kG jW Mi (base:=some ⟨l.gG,l.off+o,none⟩) (len:=len) (cap:=gW op cap l.iF) (fun w=>mX hlen hx E.P w) (old:=Ml) (fun w' hw=>Mm _ w' hw) (fun w' hw=>tD w' hw) (by omega) Mj Cp Jd
                      rw[hH]
                      have xy:=EK.append zx
                      have Ug:(Ml++ql).length=(len+n)*size:=by rw[List.length_append,Cp,Jd,Nat.add_mul]
                      cases op with
                      | false=>exact tC ok vU xy fL hC IL Je Ug
                      | true=>
                        obtain ⟨φ',w',v',a1,a2,a3,a4⟩:=tC ok.kill vU xy fL hC IL Je Ug
                        exact ⟨φ',w',v',a1,a2,a3,a4.Mk⟩
                   · simp at e
                 · simp at e
             · simp at e
           · simp at e
         · simp at e
       · simp at e
     · simp at e
   · simp at e
 · simp at e
end Go.Ab
end
section
namespace Go.Ab
variable {E:Env}
theorem HD {φ:Ph} {h h':ar} {w:World} (ok:OK E φ h w) {argTypes:Array TypeId} {s d v:AV} (e:se E h argTypes d s=some (v,h')) {s' d':Value} (hd:VR φ d d') (hs:VR φ s s') (ty:TypeId):
 HC E φ h w ((Builtin.copy_ argTypes ty #[d',s']).run E.P w) v h':=by
 unfold se at e
 split at e
 · rename_i dT Xd
   split at e
   · rename_i elem m hu hm
     split at e
     · rename_i size fL
       simp at e;obtain ⟨rfl,rfl⟩:=e
       cases hd
       refine ⟨φ,w,_,?_,.int .i64 0,ok,Fr.refl φ h w⟩
       have h0:Nat.min m 0=0:=Nat.min_eq_right (Nat.zero_le _)
       obtain ⟨ql,_,tD⟩:∃ql:List Value,True∧(Builtin.firstCells size 0 s').run E.P w= .ok ql.toArray w:=by
        cases s<;>simp [nH] at hm
        · generalize EC:AV.str _=s0 at hs
          cases hs<;>cases EC
          refine ⟨[],trivial,?_⟩
          simp [Builtin.firstCells]
        · cases hs;exact ⟨[],trivial,by simp [Builtin.firstCells]⟩
        · cases hs;exact ⟨[],trivial,by simp [Builtin.firstCells,loadCells,loadCellsFrom]⟩
        · cases hs;exact ⟨[],trivial,by simp [Builtin.firstCells,loadCells,loadCellsFrom]⟩
       simp only[Builtin.copy_,Xd,List.getElem?_toArray,List.getElem?_cons_zero,List.getElem?_cons_succ,Sem.run_bind,Result.andThen_ok,run_underlying hu,mX hm hs,h0,ew fL,tD,Sem.run_pure]
       rfl
     · rename_i size i o len _ _ fL
       split at e
       · rename_i new cs el xG hg
         split at e
         · rename_i hc
           simp at e;obtain ⟨rfl,rfl⟩:=e
           cases hd with
           | @slice _ l _ _ _ _ hφ=>
           obtain ⟨ql,zx,tD⟩:=xF ok hs xG (.inr trivial)
           obtain ⟨w',jd,mV,qk⟩:=uX ok hg hφ zx o hc.1 hc.2
           refine ⟨φ,w',_,?_,.int .i64 _,mV,qk⟩
           have h0:Nat.min m len=min m len:=rfl
           simp only[Builtin.copy_,Xd,List.getElem?_toArray,List.getElem?_cons_zero,List.getElem?_cons_succ,Sem.run_bind,Result.andThen_ok,run_underlying hu,mX hm hs,h0,ew fL,tD w rfl,jd,Sem.run_pure]
           rfl
         · simp at e
       · simp at e
     · simp at e
   · simp at e
 · simp at e
theorem Cq {w:World} {b n:Nat} {C:Array Value} {e:TypeId} (h:w.heap[b]? =some (.cells C e)):(w.freeze ⟨b,n,none⟩ 1).heap[b]? =some (.cells C e (n,n+1)):=by
 simp [World.freeze,Array.getElem?_modify,h]
theorem A2 {w:World} {b c n:Nat} (h:b≠c):(w.freeze ⟨b,n,none⟩ 1).heap[c]? =w.heap[c]? :=by
 simp [World.freeze,Array.getElem?_modify,h]
theorem Cr (w:World) (b n:Nat):(w.freeze ⟨b,n,none⟩ 1).heap.size=w.heap.size:=by simp [World.freeze]
theorem HE {φ:Ph} {h h':ar} {w:World} (ok:OK E φ h w) {src dst:TypeId} {x:AV} {v:AV} (e:zU E h src dst (some x)=some (v,h')) {x':Value} (hx:VR φ x x'):
 HC E φ h w ((convert src dst x').run E.P w) v h':=by
 unfold zU at e
 split at e
 · rename_i el s hs hd Cj
   simp at Cj;subst Cj
   generalize EC:AV.str s=s0 at hx
   cases hx<;>cases EC
   rename_i s'
   split at e
   · rename_i h1 he hn
     split at e
     · rename_i I7
       simp at e;obtain ⟨rfl,rfl⟩:=e
       have e1:s'.size=s'.data.toList.length:=by cases s';rfl
       let nc:=(Question.appendCap s'.size 0 el).cut (w.tape w.drawn (.appendCap s'.size 0 el))
       have Je:s'.size≤nc:=by show s'.size≤s'.size+_;omega
       let C:Array Value:=(s'.data.map fun b=>Value.int .u8 b.toNat)++Array.replicate (nc - s'.size) (.int .u8 0)
       have IL:C.size=nc:=by
        have e0:s'.size=s'.data.size:=rfl
        have:C.size=s'.data.size+(nc - s'.size):=by simp only[C,Array.size_append,Array.size_map,Array.size_replicate]
        omega
       have zn:(w.drew.alloc (.cells C el)).heap=w.heap.push (.cells C el):=rfl
       have R3:(w.drew.alloc (.cells C el)).heap[w.heap.size]? =some (.cells C el):=by rw[zn];simp
       obtain ⟨mV,qk,hle⟩:=ok.fresh (w':=(w.drew.alloc (.cells C el)).freeze ⟨w.heap.size,nc,none⟩ 1) hn ⟨w.heap.size,0,nc - s'.size⟩ (by
        refine ⟨C,el,nc,nc+1,Cq R3,?_,fun k x hk=>?_,fun _ k _ b=>?_,fun _ _ _=>rfl⟩
        · simp only[fI,I7,Option.getD_some,IL,List.length_map];rw[←e1];omega
        · rw[List.getElem?_map] at hk
          cases hb:s'.data.toList[k]? with
          | none=>rw[hb] at hk;simp at hk
          | some b=>
            rw[hb] at hk;simp at hk;subst hk
            have Uf:k<s'.data.toList.length:=(List.getElem?_eq_some_iff.1 hb).1
            refine ⟨.int .u8 b.toNat,?_,.int _ _⟩
            have:C[0+k]? =(s'.data.map fun b=>Value.int .u8 b.toNat)[k]? :=by
             simp only[C,Nat.zero_add];rw[Array.getElem?_append_left (by simpa using Uf)]
            show C[0+k]? =_
            rw[this]
            rw[Array.getElem?_map]
            have N_:s'.data[k]? =some b:=by simpa using hb
            rw[N_];rfl
        · simp only[fI,I7,Option.getD_some,List.length_map] at b;rw[←e1] at b;omega)
        (fun c eC hc=>by
         rw[A2 (Ne.symm eC),zn,Array.getElem?_push,if_neg (by omega)]) (by rw[Cr,zn];simp) (Nat.le_refl _) rfl rfl rfl
       refine ⟨_,_,.slice (some ⟨w.heap.size,0,none⟩) s'.size nc,?_,?_,mV,qk⟩
       · have Yh:(w.drew.alloc (.cells C el)).shape? w.heap.size=some (el,nc):=by
          simp only[World.shape?,R3,IL]
         simp only[convert,Sem.run_bind,run_underlying hs,run_underlying hd,Result.andThen_ok,run_underlying he,Conv.stringToBytes,run_choose,Question.forced,Bool.false_eq_true,if_false,World.drew_eq,newRow,run_newObj,World.alloc_eq,Sem.run_pure,markStringish]
         rw[show (Question.appendCap s'.size 0 el).cut (w.tape w.drawn (Question.appendCap s'.size 0 el))=nc from rfl,show (Array.map (fun b=>Value.int .u8 b.toNat) s'.data++Array.replicate (nc - s'.size) (Value.int .u8 0))=C from rfl]
         simp only[World.size_drew,run_shape,Yh,Result.andThen_ok,run_freeze]
       · have:=VR.slice (φ:=φ.add h.nx ⟨w.heap.size,0,nc - s'.size⟩) (i:=h.nx) (l:=⟨w.heap.size,0,nc - s'.size⟩) 0 s'.size s'.size true (by simp [Ph.add])
         simp only[gW,if_true] at this
         rw[show s'.size+(nc - s'.size)=nc by omega] at this
         exact this
     · simp at e
   · simp at e
 · simp at e
theorem pw {φ:Ph} {v:AV} {v':Value} (hv:VR φ v v') {k':Value}:∀{es:List kh} {ka:List MapEntry} (_:IZ φ es ka) (i:Nat) (_:∀e,es[i]? =some e→VR φ e.key k'),
 IZ φ (kE es i v) (ka.modify i fun e=>{e with key:=k',val:=v'})
 | [],ka,h,i,_=>by
   cases ka with
   | nil=>simpa [kE] using h
   | cons _ _=>simp [IZ] at h
 | e::es,ka,h,i,hk=>by
   obtain ⟨hl,Ej⟩:=h
   cases ka with
   | nil=>simp at hl
   | cons y ys=>
     have h0:=Ej 0 e y (by simp) (by simp)
     have mU:IZ φ es ys:=⟨by simpa using hl,fun i a b p q=>Ej (i+1) a b (by simpa using p) (by simpa using q)⟩
     cases i with
     | zero=>
       simp only[kE,List.modify_zero_cons]
       refine ⟨by simpa using hl,fun j a b p q=>?_⟩
       cases j with
       | zero=>simp at p q;subst p;subst q;exact ⟨hk e (by simp),hv,h0.born⟩
       | succ j=>simp at p q;exact mU.2 j a b p q
     | succ i=>
       simp only[kE,List.modify_succ_cons]
       obtain ⟨g1,g2⟩:=pw hv mU i (fun e he=>hk e (by simpa using he))
       refine ⟨by simp [g1],fun j a b p q=>?_⟩
       cases j with
       | zero=>simp at p q;subst p;subst q;exact h0
       | succ j=>simp at p;exact g2 j a b p (by simpa using q)
theorem Mn (s:ByteArray):(s==s)=true:=by cases s;rename_i d;show (d==d)=true;simp
theorem A3 {φ:Ph} {k j:AV} (e:zS k j=some true) {k' j':Value} (h:VR φ k k') (h':VR φ j j'):Instr.sameBits 10000 j' k'=true∧j'=k':=by
 unfold zS at e
 split at e
 · generalize hs:AV.str _=s at h
   generalize pr:AV.str _=s' at h'
   cases h<;>cases hs
   cases h'<;>cases pr
   rename_i s s'
   simp at e
   have:s'=s:=by cases s;cases s';simp_all
   subst this
   exact ⟨by simp only[Instr.sameBits];exact Mn _,rfl⟩
 · cases h;cases h'
   split at e
   · rename_i xB
     simp at e;subst e;subst xB
     exact ⟨by simp [Instr.sameBits],rfl⟩
   · simp at e
 · cases h;cases h'
   simp at e;subst e
   exact ⟨by simp [Instr.sameBits],rfl⟩
 · simp at e
theorem qH {φ:Ph} {h h':ar} {w:World} (ok:OK E φ h w) {t:TypeId} {m k v:AV} {m' k' v':Value} (hm:VR φ m m') (hk:VR φ k k') (hv:VR φ v v') (e:eE E h t m k v=some h'):
 ∃w',(Instr.mapUpdate t m' k' v').run E.P w= .ok () w'∧OK E φ h' w'∧Fr φ h w φ h' w':=by
 unfold eE at e
 split at e
 · rename_i key elem i hu
   cases hm with
   | @map _ l hφ=>
   split at e
   · rename_i es clock hg
     split at e
     · rename_i xB
       have EF:∃d,E.P.underlying key=some d∧ir (some d) k=true:=by
        cases hd:E.P.underlying key with
        | none=>rw[hd] at xB;simp [ir] at xB
        | some d=>rw[hd] at xB;exact ⟨d,rfl,xB⟩
       obtain ⟨d,hd,xD⟩:=EF
       have zl:=ok.live i _ l hg hφ
       obtain ⟨Jb,ka,hb,km⟩:=zl
       have zw:(getObj l.gG).run E.P w= .ok (.map ka clock) w:=by simp [getObj,Sem.run,hb]
       have Ek:=pv (P:=E.P) hd xD hk false 9999 w
       have uZ:∀o':Obj,(setObj l.gG o').run E.P w= .ok () {w with heap:=w.heap.setIfInBounds l.gG o'}:=fun o'=>by simp [setObj,Sem.run,hb]
       have Pp:∀(o:aH) (o':Obj),OR E φ o l (some o')→o.rw=true→OK E φ (h.put i (some o)) {w with heap:=w.heap.setIfInBounds l.gG o'}∧Fr φ h w φ (h.put i (some o)) {w with heap:=w.heap.setIfInBounds l.gG o'}:=fun o o' ho Cb=>by
        have lf:l.gG<w.heap.size:=by
         rcases Nat.lt_or_ge l.gG w.heap.size with a | a
         · exact a
         · rw[Array.getElem?_eq_none a] at hb;simp at hb
        exact ok.change hg rfl hφ (by simp [lf];exact ho) (fun c eC=>by simp [Ne.symm eC]) (by simp) rfl rfl rfl
       split at e
       · rename_i j v0 hf
         obtain ⟨r',h1,h2⟩:=oE xD hk km hf
         cases r' with
         | none=>exact h2.elim
         | some q=>
         obtain ⟨j',v1⟩:=q
         obtain ⟨rfl,Ej,_,Pq,uW,Jg⟩:=h2
         simp at e;subst e
         obtain ⟨y,hy⟩:∃y,ka.toList[j]? =some y:=by
          have lf:j<es.length:=by simpa using (List.getElem?_eq_some_iff.1 uW).1
          exact ⟨ka.toList[j]'(by rw[←km.1];exact lf),by simp⟩
         have R4:=km.2 j Pq y (by simpa using uW) hy
         obtain ⟨U5,Pr⟩:=A3 Jg hk R4.key
         have Mo:ka[j]? =some y:=by simpa using hy
         obtain ⟨mV,qk⟩:=Pp (.map (kE es j v) clock) (.map (ka.modify j fun e=>{e with key:=k',val:=v'}) clock) ⟨Jb,_,rfl,by
          have:=pw hv km j (k':=k') (fun e he=>by
           have:e=Pq:=by
            have h3:es[j]? =some Pq:=by simpa using uW
            rw[h3] at he;simp at he;exact he.symm
           subst this;rw[←Pr];exact R4.key)
          simpa using this⟩ rfl
         refine ⟨_,?_,mV,qk⟩
         simp only[Instr.mapUpdate,Sem.run_bind,run_underlying hu,Result.andThen_ok,zw,Ek,Instr.findKey,run_underlying hd,h1,Sem.run_pure,Mo,Option.map_some,Option.getD_some,Instr.keyThatStays,U5,if_true,uZ _]
       · rename_i hf
         obtain ⟨r',h1,h2⟩:=oE xD hk km hf
         cases r' with
         | some q=>exact h2.elim
         | none=>
         simp at e;subst e
         obtain ⟨mV,qk⟩:=Pp (.map (es++[{key:=k,val:=v,born:=clock}]) (clock+1)) (.map (ka.push {key:=k',val:=v',born:=clock}) (clock+1)) ⟨Jb,_,rfl,by
          refine ⟨by simp [km.1],fun j a b p q=>?_⟩
          rw[Array.toList_push] at q
          by_cases hj:j<es.length
          · rw[List.getElem?_append_left hj] at p
            rw[List.getElem?_append_left (by rw[←km.1];exact hj)] at q
            exact km.2 j a b p q
          · rw[List.getElem?_append_right (by omega)] at p
            rw[List.getElem?_append_right (by rw[←km.1];omega),←km.1] at q
            cases R5:j - es.length with
            | zero=>rw[R5] at p q;simp at p q;subst p;subst q;exact ⟨hk,hv,rfl⟩
            | succ n=>rw[R5] at p;simp at p⟩ rfl
         refine ⟨_,?_,mV,qk⟩
         simp only[Instr.mapUpdate,Sem.run_bind,run_underlying hu,Result.andThen_ok,zw,Ek,Instr.findKey,run_underlying hd,h1,Sem.run_pure,uZ _]
       · simp at e
     · split at e
       · rename_i xB
         have EF:∃d,E.P.underlying key=some d∧lK E (some d) k=true:=by
          cases hd:E.P.underlying key with
          | none=>rw[hd] at xB;simp [lK] at xB
          | some d=>rw[hd] at xB;exact ⟨d,rfl,xB⟩
         obtain ⟨d,hd,xD⟩:=EF
         have zl:=ok.live i _ l hg hφ
         obtain ⟨Jb,ka,hb,km⟩:=zl
         have zw:(getObj l.gG).run E.P w= .ok (.map ka clock) w:=by simp [getObj,Sem.run,hb]
         have Ek:=qG hd xD hk false 9998 w
         have uZ:∀o':Obj,(setObj l.gG o').run E.P w= .ok () {w with heap:=w.heap.setIfInBounds l.gG o'}:=fun o'=>by simp [setObj,Sem.run,hb]
         have Pp:∀(o:aH) (o':Obj),OR E φ o l (some o')→o.rw=true→OK E φ (h.put i (some o)) {w with heap:=w.heap.setIfInBounds l.gG o'}∧Fr φ h w φ (h.put i (some o)) {w with heap:=w.heap.setIfInBounds l.gG o'}:=fun o o' ho Cb=>by
          have lf:l.gG<w.heap.size:=by
           rcases Nat.lt_or_ge l.gG w.heap.size with a | a
           · exact a
           · rw[Array.getElem?_eq_none a] at hb;simp at hb
          exact ok.change hg rfl hφ (by simp [lf];exact ho) (fun c eC=>by simp [Ne.symm eC]) (by simp) rfl rfl rfl
         split at e
         · rename_i j v0 hf
           obtain ⟨r',h1,h2⟩:=oD hk km hf
           cases r' with
           | none=>exact h2.elim
           | some q=>
           obtain ⟨j',v1⟩:=q
           obtain ⟨rfl,Ej,_,Pq,uW,Jg⟩:=h2
           simp at e;subst e
           obtain ⟨y,hy⟩:∃y,ka.toList[j]? =some y:=by
            have lf:j<es.length:=by simpa using (List.getElem?_eq_some_iff.1 uW).1
            exact ⟨ka.toList[j]'(by rw[←km.1];exact lf),by simp⟩
           have R4:=km.2 j Pq y (by simpa using uW) hy
           obtain ⟨U5,Pr⟩:=Jg hk R4.key
           have Mo:ka[j]? =some y:=by simpa using hy
           obtain ⟨mV,qk⟩:=Pp (.map (kE es j v) clock) (.map (ka.modify j fun e=>{e with key:=k',val:=v'}) clock) ⟨Jb,_,rfl,by
            have:=pw hv km j (k':=k') (fun e he=>by
             have:e=Pq:=by
              have h3:es[j]? =some Pq:=by simpa using uW
              rw[h3] at he;simp at he;exact he.symm
             subst this;rw[←Pr];exact R4.key)
            simpa using this⟩ rfl
           refine ⟨_,?_,mV,qk⟩
           simp only[Instr.mapUpdate,Sem.run_bind,run_underlying hu,Result.andThen_ok,zw,Ek,mF hd xD hk (h1 w),Sem.run_pure,Mo,Option.map_some,Option.getD_some,Instr.keyThatStays,U5,if_true,uZ _]
         · rename_i hf
           obtain ⟨r',h1,h2⟩:=oD hk km hf
           cases r' with
           | some q=>exact h2.elim
           | none=>
           simp at e;subst e
           obtain ⟨mV,qk⟩:=Pp (.map (es++[{key:=k,val:=v,born:=clock}]) (clock+1)) (.map (ka.push {key:=k',val:=v',born:=clock}) (clock+1)) ⟨Jb,_,rfl,by
            refine ⟨by simp [km.1],fun j a b p q=>?_⟩
            rw[Array.toList_push] at q
            by_cases hj:j<es.length
            · rw[List.getElem?_append_left hj] at p
              rw[List.getElem?_append_left (by rw[←km.1];exact hj)] at q
              exact km.2 j a b p q
            · rw[List.getElem?_append_right (by omega)] at p
              rw[List.getElem?_append_right (by rw[←km.1];omega),←km.1] at q
              cases R5:j - es.length with
              | zero=>rw[R5] at p q;simp at p q;subst p;subst q;exact ⟨hk,hv,rfl⟩
              | succ n=>rw[R5] at p;simp at p⟩ rfl
           refine ⟨_,?_,mV,qk⟩
           simp only[Instr.mapUpdate,Sem.run_bind,run_underlying hu,Result.andThen_ok,zw,Ek,mF hd xD hk (h1 w),Sem.run_pure,uZ _]
         · simp at e
       · simp at e
   · simp at e
 · simp at e
theorem A4 {s:ByteArray} {pos:Nat} {b:UInt8} (h:s.data.toList[pos]? =some b) (hb:b.toNat<128):Utf8.decode s pos=(b.toNat,1):=by
 have hl:pos<s.size:=(List.getElem?_eq_some_iff.1 h).1
 have N_:s[pos]'hl=b:=by
  have:=(List.getElem?_eq_some_iff.1 h).2
  rw[←this];rfl
 rw[decode_ascii s pos hl (by rw[N_];exact hb),N_]
set_option linter.unusedSimpArgs false in
theorem HF {φ:Ph} {h h':ar} {w:World} (ok:OK E φ h w) {it v:AV} {b:Bool} (e:zT h it b=some (v,h')) {Xe:Value} (Yi:VR φ it Xe) (ty:TypeId):
 HC E φ h w ((Instr.next Xe b ty).run E.P w) v h':=by
 unfold zT at e
 split at e
 · rename_i r
   cases Yi with
   | @ptr _ l _ hφ=>
   split at e
   · rename_i s pos hg
     have zl:=ok.live r _ l hg hφ
     obtain ⟨Jb,s',hb,pr⟩:=zl
     have zw:(getObj l.gG).run E.P w= .ok (.stringIter s' pos) w:=by simp [getObj,Sem.run,hb]
     have e1:s'.size=s.length:=by rw[←pr];cases s';rfl
     split at e
     · rename_i lf
       split at e
       · rename_i c hc
         split at e
         · rename_i U6
           simp at e;obtain ⟨rfl,rfl⟩:=e
           have uZ:(setObj l.gG (.stringIter s' (pos+1))).run E.P w= .ok () {w with heap:=w.heap.setIfInBounds l.gG (.stringIter s' (pos+1))}:=by simp [setObj,Sem.run,hb]
           have U7:l.gG<w.heap.size:=by
            rcases Nat.lt_or_ge l.gG w.heap.size with a | a
            · exact a
            · rw[Array.getElem?_eq_none a] at hb;simp at hb
           obtain ⟨mV,qk⟩:=ok.change (w':={w with heap:=w.heap.setIfInBounds l.gG (.stringIter s' (pos+1))}) (o':= .r_ s (pos+1)) hg rfl hφ (by simp [U7];exact ⟨Jb,s',rfl,pr⟩) (fun c eC=>by simp [Array.getElem?_setIfInBounds,Ne.symm eC]) (by simp) rfl rfl rfl
           refine ⟨φ,_,.tuple #[.bool true,.int .i64 pos,.int .i32 c.toNat],?_,VR.tuple' (iD:=[.bool true,.int .i64 pos,.int .i32 c.toNat]) (.cons (.bool true) (.cons (.int _ _) (.cons (.int _ _) (.nil φ)))),mV,qk⟩
           have U8:=A4 (s:=s') (pos:=pos) (b:=c) (by rw[pr];exact hc) U6
           have h0:l.off+0=0:=by omega
           simp only[Instr.next,h0,Sem.run_bind,zw,Result.andThen_ok,e1,lf,if_true,U8,uZ,Sem.run_pure,goInt]
         · simp at e
       · simp at e
     · rename_i lf
       simp at e;obtain ⟨rfl,rfl⟩:=e
       refine ⟨φ,w,.tuple #[.bool false],?_,VR.tuple' (iD:=[.bool false]) (.cons (.bool false) (.nil φ)),ok,Fr.refl φ h w⟩
       have h0:l.off+0=0:=by omega
       simp only[Instr.next,h0,Sem.run_bind,zw,Result.andThen_ok,e1,lf,if_false,Sem.run_pure]
   · rename_i s1 s2 s3 hg
     have zl:=ok.live r _ l hg hφ
     obtain ⟨Jb,hb⟩:=zl
     have zw:(getObj l.gG).run E.P w= .ok (.mapIter none s1 s2.toArray s3) w:=by simp [getObj,Sem.run,hb]
     simp at e;obtain ⟨rfl,rfl⟩:=e
     refine ⟨φ,w,.tuple #[.bool false],?_,VR.tuple' (iD:=[.bool false]) (.cons (.bool false) (.nil φ)),ok,Fr.refl φ h w⟩
     have h0:l.off+0=0:=by omega
     simp only[Instr.next,h0,Sem.run_bind,zw,Result.andThen_ok,Sem.run_pure]
   · simp at e
 · simp at e
end Go.Ab
end
section
namespace Go.Ab
variable {E:Env}
def DR (φ:Ph):pf→Deferred→Prop
 | .call f args,d'=>∃cap,d'.target= .fn (.func f) cap∧LR φ args (d'.args++cap).toList
 | .Rm r,d'=>∃l,φ r=some l∧d'.target= .collected l.gG
def Oa (φ:Ph):List pf→List Deferred→Prop
 | [],[]=>True
 | d::ds,d'::u_=>DR φ d d'∧Oa φ ds u_
 | _,_=>False
theorem DR.mono {φ φ':Ph} (hle:φ.le φ') {d:pf} {d':Deferred} (h:DR φ d d'):DR φ' d d':=by
 cases d with
 | call f args=>obtain ⟨c,a,b⟩:=h;exact ⟨c,a,b.mono hle⟩
 | Rm r=>obtain ⟨l,a,b⟩:=h;exact ⟨l,hle _ _ a,b⟩
theorem Oa.mono {φ φ':Ph} (hle:φ.le φ'):∀{ds:List pf} {u_:List Deferred} (_:Oa φ ds u_),Oa φ' ds u_
 | [],[],_=>trivial
 | _::_,_::_,h=>⟨h.1.mono hle,Oa.mono hle h.2⟩
structure SR (φ:Ph) (ts:List AV) (ds:List pf) (a:Act):Prop where
 ts:LR φ ts a.tmps.toList
 ds:Oa φ ds a.defers
theorem SR.mono {φ φ':Ph} (hle:φ.le φ') {ts:List AV} {ds:List pf} {a:Act} (h:SR φ ts ds a):SR φ' ts ds a:=⟨h.ts.mono hle,h.ds.mono hle⟩
def mn (φ:Ph) (b:Frame) (K:Bool→List Frame):RC→Prop
 | .no=>b.roundOf=none∧∀fr:Frame,fr.kind=b.kind→tryRecover fr (K false)=none
 | .iE v=>b.roundOf=none∧(∃v',VR φ v v'∧∀fr:Frame,fr.kind=b.kind→tryRecover fr (K false)=some (v',K true))∧∀fr:Frame,fr.kind=b.kind→tryRecover fr (K true)=none
 | .done=>b.roundOf=none∧∀fr:Frame,fr.kind=b.kind→tryRecover fr (K true)=none
 | .Ca l=>∃ll,φ l=some ll∧b.roundOf=some ll.gG
def cur (K:Bool→List Frame):RC→List Frame
 | .done=>K true
 | _=>K false
def RC.mY:RC→Bool
 | .Ca _=>true
 | _=>false
theorem mn.mono {φ φ':Ph} (hle:φ.le φ') {b:Frame} {K:Bool→List Frame}:∀{rc:RC} (_:mn φ b K rc),mn φ' b K rc
 | .no,h=>h
 | .iE _,h=>let ⟨n,⟨v',a,b⟩,c⟩:=h;⟨n,⟨v',a.mono hle,b⟩,c⟩
 | .done,h=>h
 | .Ca _,h=>let ⟨l,a,b⟩:=h;⟨l,hle _ _ a,b⟩
theorem mn.plain {φ:Ph} {b:Frame} {K:Bool→List Frame} {rc:RC} (h:mn φ b K rc) (hn:rc.mY=false):b.roundOf=none:=by
 cases rc with
 | no=>exact h.1
 | iE v=>exact h.1
 | done=>exact h.1
 | Ca l=>simp [RC.mY] at hn
inductive Ps (φ:Ph):j8→Exit→Prop
 | normal:Ps φ .normal .normal
 | exit (id:Nat):Ps φ (.exit id) (.exit id)
 | ret:Ps φ .ret .ret
 | panic (v:AV) (v':Value) (h:VR φ v v'):Ps φ (.panic v) (.panic [{v:=v',recovered:=false}])
def kH (E:Env) (f:FuncId) (args:List AV) (h:ar) (v:AV) (h':ar):Prop:=
 ∀(φ:Ph) (w:World) (vs:List Value),OK E φ h w→LR φ args vs→(callFunc f vs.toArray).run E.P w= .ok (.enter f vs.toArray) w∧
  ∀cs,∃φ' w' v' fr,VR φ' v v'∧OK E φ' h' w'∧Fr φ h w φ' h' w'∧
   Steps E.P (lone (Frame.enter E.P f vs.toArray .normal) cs w) (lone fr cs w')∧fr.fn=f∧fr.leaving E.P w' (.returned v')
def F7 (E:Env) (f:FuncId) (args:List AV) (h:ar) (v:AV) (h':ar):Prop:=
 ∀(φ:Ph) (w:World) (vs:List Value),OK E φ h w→LR φ args vs→(callFunc f vs.toArray).run E.P w= .ok (.enter f vs.toArray) w∧
  ∀cs,∃φ' w' v' fr,VR φ' v v'∧OK E φ' h' w'∧Fr φ h w φ' h' w'∧
   Steps E.P (lone (Frame.enter E.P f vs.toArray .normal) cs w) (lone fr cs w')∧fr.fn=f∧fr.leaving E.P w' (.panicked [{v:=v',recovered:=false}])
inductive mZ (E:Env) (φ:Ph) (w:World):Fn→List Value→Next→Frame→Prop
 | fn (f:FuncId) (vs:List Value) (hr:(callFunc f vs.toArray).run E.P w= .ok (.enter f vs.toArray) w):mZ E φ w (.fn f) vs (.enter f vs.toArray) (Frame.enter E.P f vs.toArray .normal)
 | vN (l:Nat) (ll:Loc) (hl:φ l=some ll) (vs:List Value) (f:FuncId) (tmps:Array Value) (assign body:Code) (hr:(Instr.yield ll.gG vs.toArray).run E.P w= .ok (.round ll.gG f tmps assign body) w):
  mZ E φ w (.vN l) vs (.round ll.gG f tmps assign body) (Frame.round ll.gG f tmps assign body .normal)
def Jh (φ:Ph):Fn→Prop
 | .fn _=>True
 | .vN l=>∃ll,φ l=some ll
def EL (E:Env) (F:Fn) (args:List AV) (h:ar) (v:AV) (h':ar):Prop:=
 ∀(φ:Ph) (w:World) (vs:List Value),OK E φ h w→Jh φ F→LR φ args vs→∃n start,mZ E φ w F vs n start∧
  ∀c cs,∃φ' w' v',VR φ' v v'∧OK E φ' h' w'∧Fr φ h w φ' h' w'∧Steps E.P (lone start (c::cs) w) (lone (c.finish v') cs w')
def EM (E:Env) (F:Fn) (args:List AV) (h:ar) (v:AV) (h':ar):Prop:=
 ∀(φ:Ph) (w:World) (vs:List Value),OK E φ h w→Jh φ F→LR φ args vs→∃n start,mZ E φ w F vs n start∧
  ∀c cs,∃φ' w' v',VR φ' v v'∧OK E φ' h' w'∧Fr φ h w φ' h' w'∧Steps E.P (lone start (c::cs) w) (lone (c.raise [{v:=v',recovered:=false}]) cs w')
theorem kH.any {f:FuncId} {args:List AV} {h:ar} {v:AV} {h':ar} (r:kH E f args h v h'):EL E (.fn f) args h v h':=fun φ w vs ok _ hl=>by
 obtain ⟨h1,h2⟩:=r φ w vs ok hl
 refine ⟨_,_,.fn f vs h1,fun c cs=>?_⟩
 obtain ⟨φ',w',v',fr,x1,x2,x3,x4,_,x5⟩:=h2 (c::cs)
 exact ⟨φ',w',v',x1,x2,x3,x4.trans (.one (step_leave_returned x5))⟩
theorem F7.any {f:FuncId} {args:List AV} {h:ar} {v:AV} {h':ar} (r:F7 E f args h v h'):EM E (.fn f) args h v h':=fun φ w vs ok _ hl=>by
 obtain ⟨h1,h2⟩:=r φ w vs ok hl
 refine ⟨_,_,.fn f vs h1,fun c cs=>?_⟩
 obtain ⟨φ',w',v',fr,x1,x2,x3,x4,_,x5⟩:=h2 (c::cs)
 exact ⟨φ',w',v',x1,x2,x3,x4.trans (.one (step_leave_panicked x5))⟩
structure ie (E:Env) (call:bx):Prop where
 ret:∀f args h v h',call f args h= .ret v h'→EL E f args h v h'
 panic:∀f args h v h',call f args h= .panic v h'→EM E f args h v h'
structure jX (E:Env):Prop where
 ext:N9 E
 im:∀f g,E.im f=some g→∀args h v h',g args h=some (v,h')→kH E f args h v h'
 names:∀(f:FuncId) (fn:Func),E.P.funcs[f]? =some fn→fn.name≠ "runtime.NumGoroutine"
 mixed:E.P.follows .mixedOrders=true
theorem Ji {φ:Ph} {ts:List AV} {a:Act} (h:LR φ ts a.tmps.toList) (d:Option Tmp) {v:AV} {v':Value} (hv:VR φ v v'):LR φ (dV ts d v) (a.put d v').tmps.toList:=by
 cases d with
 | none=>exact h
 | some d=>simp only[dV,Act.put,Array.toList_setIfInBounds];exact h.set hv d
theorem put_defers (a:Act) (d:Option Tmp) (v:Value):(a.put d v).defers=a.defers:=by cases d<;>rfl
theorem SR.put {φ:Ph} {ts:List AV} {ds:List pf} {a:Act} (h:SR φ ts ds a) (d:Option Tmp) {v:AV} {v':Value} (hv:VR φ v v'):SR φ (dV ts d v) ds (a.put d v'):=
 ⟨Ji h.ts d hv,by rw[put_defers];exact h.ds⟩
theorem sE {φ:Ph} {ops:Array Oper} {ts:List AV} {a:Act} (h:LR φ ts a.tmps.toList) (o:Oper):Region.wanted o (yielded ops a.tmps)=cP ops ts o:=by
 unfold Region.wanted cP
 cases o.guard with
 | none=>rfl
 | some g=>
   obtain ⟨j,want⟩:=g
   simp only[yielded]
   cases hd:(ops[j]?).bind (·.dst) with
   | none=>simp
   | some d=>
     simp only[Option.bind_some]
     cases hx:ts[d]? with
     | none=>
       have:a.tmps[d]? =none:=by
        have h1:=List.getElem?_eq_none_iff.1 hx
        rw[h.1] at h1
        have:=List.getElem?_eq_none_iff.2 h1
        simpa using this
       simp [this]
     | some x=>
       obtain ⟨y,hy,hv⟩:=h.get hx
       have Mo:a.tmps[d]? =some y:=by simpa using hy
       rw[Mo]
       cases hv with
       | any _ h=>cases y<;>first | (simp;done) | cases h
       | _=>simp
section
variable {b:Frame} {a:Act} {k:List Item} {cs:List Frame} {w:World} {ops:Array Oper} {i:Nat} {rest:List Nat} {o:Oper}
theorem rH (ho:ops[i]? =some o) (v:Value):(b.atR a (.inRegion ops (i::rest)::k)).finish v=b.atR (a.put o.dst v) (.inRegion ops rest::k):=by
 rw[Frame.finish_atR,ho];rfl
theorem lU {P:Program} (kn:o.semAt b.roundOf a.eval=execOp a.eval o) (ho:ops[i]? =some o) (hw:Region.wanted o (yielded ops a.tmps)=true) {v:Value} {w':World} (hr:(execOp a.eval o).run P w= .ok (.value v) w'):
 step P (lone (b.atR a (.inRegion ops (i::rest)::k)) cs w)= .next (lone (b.atR (a.put o.dst v) (.inRegion ops rest::k)) cs w'):=by
 rw[←rH ho]
 exact step_lone_go (by rw[stepGR_op (rest:=rest) ho hw,kn];simp [stepG.apply,hr])
theorem Cs {P:Program} (kn:o.semAt b.roundOf a.eval=execOp a.eval o) (ho:ops[i]? =some o) (hw:Region.wanted o (yielded ops a.tmps)=true) {w':World} (hr:(execOp a.eval o).run P w= .ok .skip w'):
 step P (lone (b.atR a (.inRegion ops (i::rest)::k)) cs w)= .next (lone (b.atR (a.put o.dst undef) (.inRegion ops rest::k)) cs w'):=by
 rw[←rH ho]
 exact step_lone_go (by rw[stepGR_op (rest:=rest) ho hw,kn];simp [stepG.apply,hr])
theorem tE {φ:Ph} (kn:o.semAt b.roundOf a.eval=execOp a.eval o) (ho:ops[i]? =some o) (hw:Region.wanted o (yielded ops a.tmps)=true) {F:Fn} {vs:List Value} {n:Next} {start:Frame} (hp:mZ E φ w F vs n start) (hr:(execOp a.eval o).run E.P w= .ok n w):
 step E.P (lone (b.atR a (.inRegion ops (i::rest)::k)) cs w)= .next (lone start (b.atR a (.inRegion ops (i::rest)::k)::cs) w):=by
 cases hp with
 | fn f vs _=>exact step_lone_go (by rw[stepGR_op (rest:=rest) ho hw,kn];simp [stepG.apply,hr,Frame.atR])
 | vN l ll hl vs f tmps assign body _=>exact step_lone_go (by rw[stepGR_op (rest:=rest) ho hw,kn];simp [stepG.apply,hr,Frame.atR])
theorem Jj {P:Program} (kn:o.semAt b.roundOf a.eval=execOp a.eval o) (ho:ops[i]? =some o) (hw:Region.wanted o (yielded ops a.tmps)=true) {v:Value} {w':World} (hr:(execOp a.eval o).run P w= .halt (.panic v) w'):
 step P (lone (b.atR a (.inRegion ops (i::rest)::k)) cs w)= .next (lone {b.atR a (.inRegion ops (i::rest)::k) with mode:= .panicking [{v,recovered:=false}]} cs w'):=by
 rw[←Frame.raise_atR]
 exact step_lone_go (by rw[stepGR_op (rest:=rest) ho hw,kn];simp [stepG.apply,hr])
theorem HG {P:Program} (kn:o.semAt b.roundOf a.eval=execOp a.eval o) (ho:ops[i]? =some o) (hw:Region.wanted o (yielded ops a.tmps)=true) {d:Deferred} {w':World} (hr:(execOp a.eval o).run P w= .ok (.defer d) w'):
 step P (lone (b.atR a (.inRegion ops (i::rest)::k)) cs w)= .next (lone (b.atR ({a with defers:=d::a.defers}.put o.dst undef) (.inRegion ops rest::k)) cs w'):=by
 have:({b.atR a (.inRegion ops (i::rest)::k) with defers:=d::a.defers}:Frame).finish undef=
  b.atR ({a with defers:=d::a.defers}.put o.dst undef) (.inRegion ops rest::k):=by
  have:=Frame.finish_atR b {a with defers:=d::a.defers} ops i rest k undef
  rw[ho] at this;exact this
 refine step_lone_go ?_
 rw[stepGR_op (rest:=rest) ho hw,kn]
 simp only[stepG.apply,Sem.runT_eq,hr,GStep.bare_after]
 exact congrArg (fun fr=>GStep.go {frame:=fr,callers:=cs,status:= .running,dying:=none} w') this
theorem EN {P:Program} (va:b.roundOf=none) (kn:o.semAt b.roundOf a.eval=execOp a.eval o) (ho:ops[i]? =some o) (hw:Region.wanted o (yielded ops a.tmps)=true) {w':World} (hr:(execOp a.eval o).run P w= .ok .recover w') {v:Value} {iD:List Frame}
 (ht:tryRecover (b.atR a (.inRegion ops (i::rest)::k)) cs=some (v,iD)):
 step P (lone (b.atR a (.inRegion ops (i::rest)::k)) cs w)= .next (lone (b.atR (a.put o.dst v) (.inRegion ops rest::k)) iD w'):=by
 rw[←rH ho]
 refine step_lone_go ?_
 rw[stepGR_op (rest:=rest) ho hw,kn]
 have Jk:(b.atR a (.inRegion ops (i::rest)::k)).roundOf=none:=va
 simp only[stepG.apply,Sem.runT_eq,if_true,hr,GStep.bare_after,Jk,ht,GStep.bare_go]
theorem sh {P:Program} (va:b.roundOf=none) (kn:o.semAt b.roundOf a.eval=execOp a.eval o) (ho:ops[i]? =some o) (hw:Region.wanted o (yielded ops a.tmps)=true) {w':World} (hr:(execOp a.eval o).run P w= .ok .recover w')
 (ht:tryRecover (b.atR a (.inRegion ops (i::rest)::k)) cs=none):
 step P (lone (b.atR a (.inRegion ops (i::rest)::k)) cs w)= .next (lone (b.atR (a.put o.dst .nilIface) (.inRegion ops rest::k)) cs w'):=by
 rw[←rH ho]
 refine step_lone_go ?_
 rw[stepGR_op (rest:=rest) ho hw,kn]
 have Jk:(b.atR a (.inRegion ops (i::rest)::k)).roundOf=none:=va
 simp only[stepG.apply,Sem.runT_eq,if_true,hr,GStep.bare_after,Jk,ht,GStep.bare_go]
end
def R6 (P:Program) (m:Machine) (b:Frame) (ops:Array Oper) (rest:List Nat) (k:List Item) (cs:List Frame):Exit→Act→World→Prop
 | .normal,a,w=>Steps P m (lone (b.atR a (.inRegion ops rest::k)) cs w)
 | .panic chain,a,w=>∃todo,Steps P m (lone {b.atR a todo with mode:= .panicking chain} cs w)
 | _,_,_=>False
def F8 (φ:Ph):Fn→Target→List Value→List Value→Prop
 | .fn f,t,vs,all=>∃cap:List Value,t= .fn (.func f) cap.toArray∧all=vs++cap
 | .vN l,t,vs,all=>∃ll,φ l=some ll∧t= .fn (.yield ll.gG) #[]∧all=vs
theorem F8.R7 {φ:Ph} {F:Fn} {t:Target} {vs all:List Value} (h:F8 φ F t vs all):Jh φ F:=by
 cases F with
 | fn f=>trivial
 | vN l=>obtain ⟨ll,h,_⟩:=h;exact ⟨ll,h⟩
theorem xH {φ:Ph} (hg:GL E φ) {ts:List AV} {a:Act} (ht:LR φ ts a.tmps.toList) {c:Call} {f:Fn} {args:List AV} (h:callee E ts c=some (f,args)) (ty:TypeId):
 ∃(t:Target) (vs all:List Value),LR φ args all∧F8 φ f t vs all∧∀w,(resolve a.eval c ty).run E.P w= .ok {target:=t,args:=vs.toArray} w:=by
 unfold callee at h
 split at h
 · rename_i x Xf
   split at h
   · rename_i g first captured as hx has
     simp at h;obtain ⟨rfl,rfl⟩:=h
     have h1:=ml hg ht hx
     have h2:=ic hg ht has
     generalize kr:a.eval x=cv at h1
     obtain ⟨Mp,iD,rfl,hf,hc⟩:=h1.xm
     refine ⟨.fn (.func g) iD.toList.toArray,Mp.toList++c.args.toList.map a.eval,_,?_,⟨iD.toList,rfl,rfl⟩,fun w=>?_⟩
     · rw[List.append_assoc]
       have:=(hf.append h2).append hc
       simpa [List.append_assoc] using this
     · simp [resolve,Xf,Deferred.ofValue,kr,map_toArray]
   · rename_i l as hx has
     simp at h;obtain ⟨rfl,rfl⟩:=h
     have h1:=ml hg ht hx
     have h2:=ic hg ht has
     generalize kr:a.eval x=cv at h1
     cases h1 with
     | yield hl=>
       refine ⟨_,c.args.toList.map a.eval,_,h2,⟨_,hl,rfl,rfl⟩,fun w=>?_⟩
       simp [resolve,Xf,Deferred.ofValue,kr,map_toArray]
   · simp at h
 · simp at h
theorem zy {φ:Ph} {w:World} {F:Fn} {t:Target} {vs all:List Value} (ht:F8 φ F t vs all) {n:Next} {start:Frame} (hp:mZ E φ w F all n start):(invoke t vs.toArray).run E.P w= .ok n w:=by
 cases hp with
 | fn f pt hr=>
   obtain ⟨cap,rfl,rfl⟩:=ht
   simpa [invoke] using hr
 | vN l ll hl pt f tmps assign body hr=>
   obtain ⟨Zv,Ob,rfl,rfl⟩:=ht
   rw[hl] at Ob;simp at Ob;subst Ob
   simpa [invoke] using hr
theorem px {φ:Ph} {b:Frame} {K:Bool→List Frame} {rc:RC} (gF:mn φ b K rc) {o:Oper} (h:rc.mY=false∨∀c,o.op≠ .defer c) (ρ:Operand→Value):o.semAt b.roundOf ρ=execOp ρ o:=by
 rcases h with h | h
 · rw[gF.plain h];rfl
 · exact Oper.semAt_eq _ _ _ h
end Go.Ab
end
section
namespace Go.Ab
variable {E:Env}
theorem xI {rc:RC} (h:∀l,rc= .Ca l→False):rc.mY=false:=by
 cases rc<;>first | rfl | exact (h _ rfl).elim
theorem OK.gl {φ:Ph} {h:ar} {w:World} (ok:OK E φ h w):GL E φ:=ok.sx
inductive qI (E:Env) (call:bx) (φ:Ph) (ts:List AV) (h:ar) (rc:RC) (o:Oper) (a:Act) (w:World):uP→Prop
 | val (v:AV) (h':ar) (φ':Ph) (w':World) (v':Value) (hv:VR φ' v v') (ok:OK E φ' h' w') (fr:Fr φ h w φ' h' w')
  (run:(execOp a.eval o).run E.P w= .ok (.value v') w'):qI E call φ ts h rc o a w (.val v h')
 | skip (h':ar) (φ':Ph) (w':World) (ok:OK E φ' h' w') (fr:Fr φ h w φ' h' w')
  (run:(execOp a.eval o).run E.P w= .ok .skip w'):qI E call φ ts h rc o a w (.val AV.undef h')
 | enter (v:AV) (h':ar) (F:Fn) (args:List AV) (all:List Value) (hr:EL E F args h v h') (hf:Jh φ F) (hl:LR φ args all)
  (run:∀n start,mZ E φ w F all n start→(execOp a.eval o).run E.P w= .ok n w):qI E call φ ts h rc o a w (.val v h')
 | Mq (v:AV) (h':ar) (F:Fn) (args:List AV) (all:List Value) (hr:EM E F args h v h') (hf:Jh φ F) (hl:LR φ args all)
  (run:∀n start,mZ E φ w F all n start→(execOp a.eval o).run E.P w= .ok n w):qI E call φ ts h rc o a w (.panic v h')
 | defer (d:pf) (d':Deferred) (zm:rc.mY=false) (hd:DR φ d d') (run:(execOp a.eval o).run E.P w= .ok (.defer d') w):qI E call φ ts h rc o a w (.defer d)
 | panic (v:AV) (v':Value) (hv:VR φ v v') (run:(execOp a.eval o).run E.P w= .halt (.panic v') w):qI E call φ ts h rc o a w (.panic v h)
 | p6 (v:AV) (gF:rc= .iE v) (run:(execOp a.eval o).run E.P w= .ok .recover w):qI E call φ ts h rc o a w (.p6 v)
 | Jl (gF:∀v,rc≠ .iE v) (zm:rc.mY=false) (run:(execOp a.eval o).run E.P w= .ok .recover w):qI E call φ ts h rc o a w (.val .nilIface h)
 | fail (why:String) (q:Option Oper):qI E call φ ts h rc o a w (.fail why q)
theorem Ct {t:TypeId} {name:String} {f:FuncId} (h:tq E t name=some f) (v:Value) (w:World):(method (E.P.types.size+Made.depth) t v name).run E.P w= .ok (f,v) w:=by
 unfold tq at h
 split at h
 · rename_i i hi
   split at h
   · rename_i m hm
     split at h
     · rename_i hp
       split at h
       · simp at h
       · rename_i g d eC hf hu
         simp at h;subst h
         have HA:m.path.toList=[]:=by simpa using hp
         have e:E.P.types.size+Made.depth=(E.P.types.size+99)+1:=rfl
         rw[e,method]
         have Yk:(typeInfo t).run E.P w= .ok i w:=by simp [typeInfo,hi]
         simp only[Sem.run_bind,Yk,Result.andThen_ok,hm,HA,follow,Sem.run_pure,hf,receiverAt,run_underlying hu]
         cases d with
         | pointer x=>exact absurd rfl (eC x)
         | _=>simp [Place.get]
       · simp at h
     · simp at h
   · simp at h
 · simp at h
theorem tF {call:bx} {φ:Ph} {ts:List AV} {h:ar} {rc:RC} {o:Oper} {a:Act} {w:World} {s:Sem Value} {v:AV} {h':ar} (hd:HC E φ h w (s.run E.P w) v h')
 (he:execOp a.eval o=(do pure (.value (←s)):Sem Next)):qI E call φ ts h rc o a w (.val v h'):=by
 obtain ⟨φ',w',v',hr,hv,ok,fr⟩:=hd
 exact .val v h' φ' w' v' hv ok fr (by rw[he];exact fi hr)
set_option maxHeartbeats 1000000 in
theorem sF (hE:jX E) {call:bx} (dB:ie E call) {φ:Ph} {ts:List AV} {h:ar} {rc:RC} {o:Oper} {a:Act} {w:World} (ht:LR φ ts a.tmps.toList) (ok:OK E φ h w):
 qI E call φ ts h rc o a w (dv E call ts h rc o):=by
 have ev:∀{x:Operand} {v:AV},ez E ts x=some v→VR φ v (a.eval x):=fun h=>ml ok.gl ht h
 obtain ⟨dst,op,ty,pos,after,guard⟩:=o
 unfold dv
 simp only
 split
 ·
  split
  · rename_i ha hx
    split
    · rename_i h' jd
      obtain ⟨w',hr,mV,qk⟩:=EH ok (ev ha) (ev hx) jd
      exact .skip h' φ w' mV qk (by simp [execOp,hr])
    · exact .fail _ _
  · exact .fail _ _
 ·
  split
  · rename_i hm hk hx
    split
    · rename_i h' jd
      obtain ⟨w',hr,mV,qk⟩:=qH ok (ev hm) (ev hk) (ev hx) jd
      exact .skip h' φ w' mV qk (by simp [execOp,hr])
    · exact .fail _ _
  · exact .fail _ _
 ·
  split
  · rename_i hm hk hx
    split
    · rename_i h' jd
      obtain ⟨w',hr,mV,qk⟩:=qH ok (ev hm) (ev hk) (ev hx) jd
      exact .skip h' φ w' mV qk (by simp [execOp,hr])
    · exact .fail _ _
  · exact .fail _ _
 ·
  rename_i src dst x
  split
  · rename_i v h' hc
    cases hx:ez E ts x with
    | none=>rw[hx] at hc;simp [zU] at hc
    | some xv=>
      rw[hx] at hc
      exact tF (HE ok hc (ev hx)) rfl
  · exact .fail _ _
 ·
  split
  · rename_i hi
    split
    · rename_i hn
      exact tF (HF ok hn (ev hi) ty) rfl
    · exact .fail _ _
  · exact .fail _ _
 ·
  split
  · rename_i hx
    have h1:=ev hx
    generalize kr:a.eval _=cv at h1
    cases h1 with
    | iface t1 v1 v' hv=>
    exact .panic _ _ (.iface _ _ v' hv) (by simp [execOp,kr,Instr.panic])
  · exact .fail _ _
 ·
  split
  · exact .fail _ _
  · rename_i f args zm hc
    obtain ⟨t,vs,all,hl,⟨cap,rfl,rfl⟩,hr⟩:=xH ok.gl ht hc ty
    exact .defer _ {target:= .fn (.func f) cap.toArray,args:=vs.toArray} (xI zm) ⟨cap.toArray,rfl,by simpa using hl⟩ (by simp [execOp,hr])
  · exact .fail _ _
 ·
  rename_i c
  split
  ·
   rename_i zz
   split
   · rename_i s x has
     have hl:=ic ok.gl ht has
     obtain ⟨s',r1,R8,hs,U9⟩:=hl.cW
     obtain ⟨x',r2,U_,hx,Rv⟩:=U9.cW
     have h0:c.args.map a.eval= #[s',x']:=by rw[map_toArray,R8,U_,Rv.iX]
     split
     · rename_i U'
       exact tF (Co ok U' hs hx ty) (by simp [execOp,resolve,zz,invoke,builtin,h0])
     · exact .fail _ _
   · exact .fail _ _
  ·
   rename_i zz
   split
   · rename_i s x has
     have hl:=ic ok.gl ht has
     obtain ⟨s',r1,R8,hs,U9⟩:=hl.cW
     obtain ⟨x',r2,U_,hx,Rv⟩:=U9.cW
     have h0:c.args.map a.eval= #[s',x']:=by rw[map_toArray,R8,U_,Rv.iX]
     split
     · rename_i U'
       exact tF (HD ok U' hs hx ty) (by simp [execOp,resolve,zz,invoke,builtin,h0])
     · exact .fail _ _
   · exact .fail _ _
  ·
   rename_i zz
   have hH:(execOp a.eval ⟨dst,.call c,ty,pos,after,guard⟩).run E.P w= .ok .recover w:=by simp [execOp,resolve,zz,invoke,builtin]
   split
   · exact .p6 _ rfl hH
   · exact .fail _ _
   · rename_i eC zm
     exact .Jl (fun v e=>eC v e) (xI zm) hH
  ·
   rename_i fo zz
   split
   · rename_i F args hc
     obtain ⟨t,vs,all,hl,Va,hr⟩:=xH ok.gl ht hc ty
     have hH:∀n start,mZ E φ w F all n start→(execOp a.eval ⟨dst,.call c,ty,pos,after,guard⟩).run E.P w= .ok n w:=fun n start hp=>by
      have:=zy Va hp
      simp [execOp,hr,this]
     split
     · rename_i g hg
       split
       · rename_i v h' Yl
         cases F with
         | fn f=>exact .enter v h' (.fn f) args all (hE.im f g hg args h v h' Yl).any trivial hl hH
         | vN l=>simp [jx] at hg
       · exact .fail _ _
     · split
       · rename_i v h' kr
         exact .enter v h' F args all (dB.ret F args h v h' kr) Va.R7 hl hH
       · rename_i v h' kr
         exact .Mq v h' F args all (dB.panic F args h v h' kr) Va.R7 hl hH
       · exact .fail _ _
   · exact .fail _ _
  ·
   rename_i r name zz
   split
   · rename_i t x args hx has
     split
     · rename_i f hm
       have h1:=ev hx
       generalize kr:a.eval r=cv at h1
       cases h1 with
       | iface t1 v1 v' hv=>
       have hl:LR φ (x::args) (v'::c.args.toList.map a.eval):= .cons hv (ic ok.gl ht has)
       have hH:∀n start,mZ E φ w (.fn f) (v'::c.args.toList.map a.eval) n start→(execOp a.eval ⟨dst,.call c,ty,pos,after,guard⟩).run E.P w= .ok n w:=fun n start hp=>by
        cases hp with
        | fn f pt hr=>
        have e1:(#[v']++(c.args.map a.eval))=(v'::c.args.toList.map a.eval).toArray:=by rw[map_toArray];simp
        have e2:(#[Value.iface t v']++c.args.map a.eval).extract 1 (#[Value.iface t v']++c.args.map a.eval).size=c.args.map a.eval:=by
         apply Array.ext';simp
         exact List.take_of_length_le (by simp)
        have e3:(#[Value.iface t v']++c.args.map a.eval)[0]? =some (Value.iface t v'):=by rw[Array.getElem?_append];rfl
        simp only[execOp,resolve,zz,kr,Sem.run_bind,Sem.run_pure,Result.andThen_ok,invoke,e3,e2,callMethod,run_program,Ct hm,e1,hr]
       split
       · rename_i v h' Pt
         exact .enter v h' (.fn f) _ _ (dB.ret (.fn f) _ h v h' Pt) trivial hl hH
       · rename_i v h' Pt
         exact .Mq v h' (.fn f) _ _ (dB.panic (.fn f) _ h v h' Pt) trivial hl hH
       · exact .fail _ _
     · exact .fail _ _
   · exact .fail _ _
  · exact .fail _ _
 · exact .fail _ _
structure R9 (E:Env) (φ:Ph) (h:ar) (w:World) (b:Frame) (K:Bool→List Frame) (ops:Array Oper) (rest:List Nat) (k:List Item) (m:Machine) (e:j8) (s':St):Prop where
 is:∃φ' w' a' e',Ps φ' e e'∧SR φ' s'.ts s'.ds a'∧OK E φ' s'.h w'∧Fr φ h w φ' s'.h w'∧mn φ' b K s'.rc∧R6 E.P m b ops rest k (cur K s'.rc) e' a' w'
set_option maxHeartbeats 1000000 in
theorem z8 (hE:jX E) {call:bx} (dB:ie E call) {ops:Array Oper} {i:Nat} {rest:List Nat} {o:Oper} (ho:ops[i]? =some o) {s s':St} {e:j8} (ow:AP E call s o= .ok e s')
 {φ:Ph} {a:Act} {w:World} {b:Frame} {k:List Item} {K:Bool→List Frame} (hs:SR φ s.ts s.ds a) (ok:OK E φ s.h w) (gF:mn φ b K s.rc) (hw:Region.wanted o (yielded ops a.tmps)=true):
 R9 E φ s.h w b K ops rest k (lone (b.atR a (.inRegion ops (i::rest)::k)) (cur K s.rc) w) e s':=by
 have kn:(s.rc.mY=false∨∀c,o.op≠ .defer c)→o.semAt b.roundOf a.eval=execOp a.eval o:=fun h=>px gF h _
 unfold AP at ow
 split at ow
 · rename_i v hp
   have nI:s.rc.mY=false∨∀c,o.op≠ .defer c:= .inr (fun c e=>by rw[e] at hp;simp [bH] at hp)
   simp at ow;obtain ⟨rfl,rfl⟩:=ow
   obtain ⟨v',hv,hr⟩:=vQ hE.ext ok.gl hs.ts hp
   exact ⟨φ,w,_,_,.normal,hs.put o.dst hv,ok,Fr.refl _ _ _,gF,.one (lU (kn nI) ho hw (hr w))⟩
 · split at ow
   · rename_i v hp
     have nI:s.rc.mY=false∨∀c,o.op≠ .defer c:= .inr (fun c e=>by rw[e] at hp;simp [ef] at hp)
     simp at ow;obtain ⟨rfl,rfl⟩:=ow
     obtain ⟨v',hv,hr⟩:=vT ok.gl ok hs.ts hp
     exact ⟨φ,w,_,_,.normal,hs.put o.dst hv,ok,Fr.refl _ _ _,gF,.one (lU (kn nI) ho hw (hr w rfl))⟩
   · split at ow
     · rename_i obj mk hp
       have nI:s.rc.mY=false∨∀c,o.op≠ .defer c:= .inr (fun c e=>by rw[e] at hp;simp [eu] at hp)
       split at ow
       · rename_i h' hn
         simp at ow;obtain ⟨rfl,rfl⟩:=ow
         obtain ⟨O,mk',Cu,hr⟩:=tA ok.gl hs.ts hp
         obtain ⟨mV,qk,hle⟩:=ok.fresh (w':=w.alloc O) hn ⟨w.heap.size,0,0⟩ (by
          have:=Cu.obj (φ.add s.h.nx ⟨w.heap.size,0,0⟩) w.heap.size (fun i m hm=>by
           unfold Ph.add;split
           · rename_i e;subst e;exact absurd (ok.wB _ _ hm) (Nat.lt_irrefl _)
           · exact hm)
          rw[show (w.alloc O).heap=w.heap.push O from rfl]
          simpa using this)
          (fun c eC hc=>by rw[show (w.alloc O).heap=w.heap.push O from rfl,Array.getElem?_push,if_neg (by simpa using eC)]) (by simp) (Nat.le_refl _) rfl rfl rfl
         have hv:=Cu.val (φ.add s.h.nx ⟨w.heap.size,0,0⟩) s.h.nx w.heap.size hle (by simp [Ph.add])
         exact ⟨_,_,_,_,.normal,(hs.mono hle).put o.dst hv,mV,qk,gF.mono hle,.one (lU (kn nI) ho hw (hr w))⟩
       · simp at ow
     · have qJ:=sF hE dB (rc:=s.rc) (o:=o) hs.ts ok
       have nI:(∃d,dv E call s.ts s.h s.rc o= .defer d)∨(∃why q,dv E call s.ts s.h s.rc o= .fail why q)∨(s.rc.mY=false∨∀c,o.op≠ .defer c):=by
        by_cases hd:∃c,o.op= .defer c
        · obtain ⟨c,hd⟩:=hd
          unfold dv
          simp only[hd]
          split
          · exact .inr (.inl ⟨_,_,rfl⟩)
          · exact .inl ⟨_,rfl⟩
          · exact .inr (.inl ⟨_,_,rfl⟩)
        · exact .inr (.inr (.inr (fun c e=>hd ⟨c,e⟩)))
       generalize dv E call s.ts s.h s.rc o=eo at ow qJ nI
       cases qJ with
       | val v h' φ' w' v' hv qq fr run=>
         have nI:=(nI.resolve_left (by simp)).resolve_left (by simp)
         simp at ow;obtain ⟨rfl,rfl⟩:=ow
         exact ⟨φ',w',_,_,.normal,(hs.mono fr.ext).put o.dst hv,qq,fr,gF.mono fr.ext,.one (lU (kn nI) ho hw run)⟩
       | skip h' φ' w' qq fr run=>
         have nI:=(nI.resolve_left (by simp)).resolve_left (by simp)
         simp at ow;obtain ⟨rfl,rfl⟩:=ow
         exact ⟨φ',w',_,_,.normal,(hs.mono fr.ext).put o.dst (VR.undef φ'),qq,fr,gF.mono fr.ext,.one (Cs (kn nI) ho hw run)⟩
       | enter v h' F args all hr hf hl run=>
         have nI:=(nI.resolve_left (by simp)).resolve_left (by simp)
         simp at ow;obtain ⟨rfl,rfl⟩:=ow
         obtain ⟨n,start,hp,jd⟩:=hr φ w all ok hf hl
         obtain ⟨φ',w',v',hv,qq,fr,iU⟩:=jd (b.atR a (.inRegion ops (i::rest)::k)) (cur K s.rc)
         rw[rH ho] at iU
         exact ⟨φ',w',_,_,.normal,(hs.mono fr.ext).put o.dst hv,qq,fr,gF.mono fr.ext,.head (tE (kn nI) ho hw hp (run n start hp)) iU⟩
       | Mq v h' F args all hr hf hl run=>
         have nI:=(nI.resolve_left (by simp)).resolve_left (by simp)
         simp at ow;obtain ⟨rfl,rfl⟩:=ow
         obtain ⟨n,start,hp,jd⟩:=hr φ w all ok hf hl
         obtain ⟨φ',w',v',hv,qq,fr,iU⟩:=jd (b.atR a (.inRegion ops (i::rest)::k)) (cur K s.rc)
         rw[Frame.raise_atR] at iU
         exact ⟨φ',w',a,_,.panic v v' hv,hs.mono fr.ext,qq,fr,gF.mono fr.ext,.inRegion ops (i::rest)::k,.head (tE (kn nI) ho hw hp (run n start hp)) iU⟩
       | defer d d' zm hd run=>
         simp at ow;obtain ⟨rfl,rfl⟩:=ow
         have h1:SR φ s.ts (d::s.ds) {a with defers:=d'::a.defers}:=⟨hs.ts,hd,hs.ds⟩
         exact ⟨φ,w,_,_,.normal,h1.put o.dst (VR.undef φ),ok,Fr.refl _ _ _,gF,.one (HG (px gF (.inl zm) _) ho hw run)⟩
       | panic v v' hv run=>
         have nI:=(nI.resolve_left (by simp)).resolve_left (by simp)
         simp at ow;obtain ⟨rfl,rfl⟩:=ow
         exact ⟨φ,w,a,_,.panic v v' hv,hs,ok,Fr.refl _ _ _,gF,_,.one (Jj (kn nI) ho hw run)⟩
       | p6 v Vb run=>
         simp at ow;obtain ⟨rfl,rfl⟩:=ow
         rw[Vb] at gF ⊢
         have Jm:=gF.plain rfl
         have R_:=px gF (o:=o) (.inl rfl) a.eval
         obtain ⟨_,⟨v',hv,Ym⟩,R'⟩:=gF
         exact ⟨φ,w,_,_,.normal,hs.put o.dst hv,ok,Fr.refl _ _ _,⟨Jm,R'⟩,.one (EN Jm R_ ho hw run (Ym _ rfl))⟩
       | Jl eC zm run=>
         simp at ow;obtain ⟨rfl,rfl⟩:=ow
         have AS:∀fr:Frame,fr.kind=b.kind→tryRecover fr (cur K s.rc)=none:=by
          cases A5:s.rc with
          | no=>rw[A5] at gF;exact gF.2
          | iE v=>exact absurd A5 (eC v)
          | done=>rw[A5] at gF;exact gF.2
          | Ca l=>rw[A5] at zm;simp [RC.mY] at zm
         exact ⟨φ,w,_,_,.normal,hs.put o.dst .nilIface,ok,Fr.refl _ _ _,gF,.one (sh (gF.plain zm) (px gF (.inl zm) _) ho hw run (AS _ rfl))⟩
       | fail why q=>simp at ow
end Go.Ab
end
section
namespace Go.Ab
variable {E:Env}
def z9 (E:Env) (ts lx:List AV) (op:Op):Prop:=∀x∈op.operands,ez E ts x=ez E lx x
theorem tG {α β:Type} {f g:α→Option β}:∀{l:List α} (_:∀x∈l,f x=g x),ey f l=ey g l
 | [],_=>rfl
 | x::xs,h=>by simp only[ey,h x (by simp),tG (l:=xs) (fun y hy=>h y (by simp [hy]))]
theorem nQ {ts lx:List AV} {l:List Operand} (h:∀x∈l,ez E ts x=ez E lx x):fY E ts l=fY E lx l:=tG h
theorem py {ts lx:List AV}:∀{l:List (Nat×Operand)} (_:∀x∈l.map (·.2),ez E ts x=ez E lx x),jJ E ts l=jJ E lx l
 | [],_=>rfl
 | (i,o)::l,h=>by simp only[jJ,h o (by simp),py (l:=l) (fun y hy=>h y (by simp at hy ⊢;exact .inr hy))]
theorem qK {ts lx:List AV} {o:Option Operand} (h:∀x∈o.toArray,ez E ts x=ez E lx x):lS E ts o=lS E lx o:=by
 cases o with
 | none=>rfl
 | some o=>simp only[lS,h o (by simp)]
theorem tH {ts lx:List AV} {c:Call} (h:∀x∈c.operands,ez E ts x=ez E lx x):callee E ts c=callee E lx c:=by
 unfold callee
 cases hc:c.callee with
 | value f=>
   have h1:ez E ts f=ez E lx f:=h f (by simp [Call.operands,hc])
   have h2:fY E ts c.args.toList=fY E lx c.args.toList:=nQ (fun x hx=>h x (by simp [Call.operands,hc];exact .inr (by simpa using hx)))
   simp only[h1,h2]
 | invoke _ _=>rfl
 | builtin _=>rfl
theorem mo {ts lx:List AV} {c:Call} (h:∀x∈c.operands,ez E ts x=ez E lx x):fY E ts c.args.toList=fY E lx c.args.toList:=
 nQ (fun x hx=>h x (by simp [Call.operands];exact .inr (by simpa using hx)))
theorem Cv {ts lx:List AV} {op:Op} (h:z9 E ts lx op):bH E ts op=bH E lx op:=by
 cases op with
 | call c=>
   have hc:=mo (E:=E) (ts:=ts) (lx:=lx) (c:=c) h
   obtain ⟨callee,args,argTypes⟩:=c
   simp only at hc
   cases callee with
   | builtin b=>cases b<;>simp only[bH,hc]
   | value f=>cases f<;>simp only[bH,hc]
   | invoke r m=>simp only[bH]
 | build t ps=>
   have:jJ E ts ps.toList=jJ E lx ps.toList:=py (fun x hx=>h x (by simpa [Op.operands] using hx))
   simp only[bH,this]
 | makeFunc fn first captured=>
   cases fn with
   | func f=>
     have h1:fY E ts first.toList=fY E lx first.toList:=nQ (fun x hx=>h x (by simp [Op.operands];exact .inl (by simpa using hx)))
     have h2:fY E ts captured.toList=fY E lx captured.toList:=nQ (fun x hx=>h x (by simp [Op.operands];exact .inr (by simpa using hx)))
     simp only[bH,h1,h2]
   | _=>simp only[bH]
 | slice t x lo hi mx=>
   have h0:ez E ts x=ez E lx x:=h x (by simp [Op.operands])
   have h1:lS E ts lo=lS E lx lo:=qK (fun y hy=>h y (by simp [Op.operands] at hy ⊢;exact .inr (.inl hy)))
   have h2:lS E ts hi=lS E lx hi:=qK (fun y hy=>h y (by simp [Op.operands] at hy ⊢;exact .inr (.inr (.inl hy))))
   have h3:lS E ts mx=lS E lx mx:=qK (fun y hy=>h y (by simp [Op.operands] at hy ⊢;exact .inr (.inr (.inr hy))))
   simp only[bH,h0,h1,h2,h3]
 | move x=>simp only[bH,h x (by simp [Op.operands])]
 | assign x=>simp only[bH,h x (by simp [Op.operands])]
 | pick c a b=>simp only[bH,h c (by simp [Op.operands]),h a (by simp [Op.operands]),h b (by simp [Op.operands])]
 | nilCheck x=>simp only[bH,h x (by simp [Op.operands])]
 | binOp o t x y u=>simp only[bH,h x (by simp [Op.operands]),h y (by simp [Op.operands])]
 | unOp o t x=>simp only[bH,h x (by simp [Op.operands])]
 | convert s d x=>simp only[bH,h x (by simp [Op.operands])]
 | makeInterface t x=>simp only[bH,h x (by simp [Op.operands])]
 | fieldAddr s x f=>simp only[bH,h x (by simp [Op.operands])]
 | field s x f=>simp only[bH,h x (by simp [Op.operands])]
 | indexAddr t x i=>simp only[bH,h x (by simp [Op.operands]),h i (by simp [Op.operands])]
 | index t x i=>simp only[bH,h x (by simp [Op.operands]),h i (by simp [Op.operands])]
 | extract x i=>simp only[bH,h x (by simp [Op.operands])]
 | typeAssert x a b ok=>simp only[bH,h x (by simp [Op.operands])]
 | _=>simp only[bH]
theorem Cw {ts lx:List AV} {op:Op} (h:z9 E ts lx op) (hp:ar):ef E ts hp op=ef E lx hp op:=by
 cases op with
 | call c=>
   have hc:=mo (E:=E) (ts:=ts) (lx:=lx) (c:=c) h
   obtain ⟨callee,args,argTypes⟩:=c
   simp only at hc
   cases callee with
   | builtin b=>cases b<;>simp only[ef,hc]
   | value f=>simp only[ef]
   | invoke r m=>simp only[ef]
 | load t a=>simp only[ef,h a (by simp [Op.operands])]
 | convert s d x=>simp only[ef,h x (by simp [Op.operands])]
 | lookup t x i ok=>simp only[ef,h x (by simp [Op.operands]),h i (by simp [Op.operands])]
 | _=>simp only[ef]
theorem A6 {ts lx:List AV} {op:Op} (h:z9 E ts lx op):eu E ts op=eu E lx op:=by
 cases op with
 | buildSlice t n ps=>
   have:jJ E ts ps.toList=jJ E lx ps.toList:=py (fun x hx=>h x (by simpa [Op.operands] using hx))
   simp only[eu,this]
 | box t x=>simp only[eu,h x (by simp [Op.operands])]
 | makeSlice t l c=>simp only[eu,h l (by simp [Op.operands]),h c (by simp [Op.operands])]
 | makeMap t r=>
   cases r with
   | none=>simp only[eu]
   | some r=>simp only[eu,h r (by simp [Op.operands])]
 | range t x=>simp only[eu,h x (by simp [Op.operands])]
 | _=>simp only[eu]
theorem xJ {call:bx} {ts lx:List AV} {o:Oper} (h:z9 E ts lx o.op) (hp:ar) (rc:RC):dv E call ts hp rc o=dv E call lx hp rc o:=by
 obtain ⟨dst,op,ty,pos,after,guard⟩:=o
 simp only at h
 unfold dv
 cases op with
 | call c=>
   have hc:=mo (E:=E) (ts:=ts) (lx:=lx) (c:=c) h
   have zz:=tH (E:=E) (ts:=ts) (lx:=lx) (c:=c) h
   cases Pc:c.callee with
   | invoke r name=>
     have hr:ez E ts r=ez E lx r:=h r (by simp [Op.operands,Call.operands,Pc])
     simp only[Pc,hc,hr]
   | builtin b=>cases b<;>simp only[Pc,hc]
   | value f=>simp only[Pc,zz]
 | defer c=>simp only[tH (E:=E) (ts:=ts) (lx:=lx) (c:=c) h]
 | store t a x=>simp only[h a (by simp [Op.operands]),h x (by simp [Op.operands])]
 | mapUpdate t m k x=>simp only[h m (by simp [Op.operands]),h k (by simp [Op.operands]),h x (by simp [Op.operands])]
 | insert t m k x=>simp only[h m (by simp [Op.operands]),h k (by simp [Op.operands]),h x (by simp [Op.operands])]
 | convert s d x=>simp only[h x (by simp [Op.operands])]
 | next i s=>simp only[h i (by simp [Op.operands])]
 | panic x=>simp only[h x (by simp [Op.operands])]
 | _=>rfl
end Go.Ab
end
