import Derived.Laws.BitsLemmas
import Derived.Laws.RangeString
import Derived.Defers
import Derived.AtR
import Derived.RangeFuncNested
import Derived.Test.YtobmbjlcklkpoaaA1
set_option linter.unusedVariables false
set_option linter.unusedSimpArgs false
section
namespace Go.Ab
variable {E:Env}
def Kl (E:Env) (φ:Ph) (h:aw) (w:World) (r:Result Value) (v:AV) (h':aw):Prop:=
 ∃φ' w' v',r= .ok v' w'∧VR φ' v v'∧OK E φ' h' w'∧Fr φ h w φ' h' w'
theorem vn {φ:Ph} {vs:List AV} {qJ:List Value} (h:LR φ vs qJ) (hs:vs.all AV.scalar=true):∀v∈qJ,v.oneCell'=true:=by
 intro v hv
 obtain ⟨i,hi⟩:=List.getElem?_of_mem hv
 have hil:i<vs.length:=by rw[h.1];exact (List.getElem?_eq_some_iff.1 hi).1
 have:=h.2 i vs[i] v (by simp [hil]) hi
 exact this.scalar (List.all_eq_true.1 hs _ (List.getElem_mem hil))
theorem tR {φ:Ph} {h:aw} {w:World} (ok:OK E φ h w) {i:Nat} {cs:List AV} {e:TypeId} (hg:h.get i=some (.cells cs e false)) {l:Loc} (hφ:φ i=some l)
 {vs:List AV} {qJ:List Value} (hl:LR φ vs qJ) (o:Nat) (hle:o+vs.length≤cs.length) (qz:vs.all AV.scalar=true):
 ∃w',(storeCells ⟨l.eg,l.off+o,none⟩ qJ).run E.P w= .ok () w'∧OK E φ (h.put i (some (.cells (setFrom cs o vs) e false))) w'∧
  Fr φ h w φ (h.put i (some (.cells (setFrom cs o vs) e false))) w':=by
 obtain ⟨C,e',lo,hi,hb,hc⟩:=ok.cells hg hφ
 have NS:=hc.size
 have hlen:=hl.1
 have gv:=pI (P:=E.P) hb (l.off+o) qJ (by omega) (fun k h1 h2=>hc.free rfl k (by omega) (by omega)) (vn hl qz)
 refine ⟨_,gv,?_⟩
 obtain ⟨h1,h2,h3⟩:=su qJ w l.eg (l.off+o)
 refine ok.change hg rfl hφ ?_ (fun c eM=>kz qJ (Ne.symm eM) _) (size_setCells _ _ _ _) h1 h2 h3
 refine ⟨ky C (l.off+o) qJ,e',lo,hi,pH qJ hb _,⟨?_,fun k x hk=>?_,fun _ k a b=>hc.free rfl k a (by rw[lQ] at b;exact b),fun h=>by cases h⟩,fun _=>by have q:=hc.shape rfl;rw[lQ,po];exact q⟩
 · rw[lQ,po];exact NS
 · rw[eD] at hk
   rw[vk]
   split at hk
   · rename_i hin
     rw[if_pos (by omega)]
     obtain ⟨y,hy,hr⟩:=hl.get hk
     exact ⟨y,by rw[show l.off+k -(l.off+o)=k - o by omega];exact hy,hr⟩
   · rename_i hin
     have hkl:k<cs.length:=(List.getElem?_eq_some_iff.1 hk).1
     rw[if_neg (by omega)]
     exact hc.val k x hk
theorem Km {φ:Ph} {h h':aw} {w:World} (ok:OK E φ h w) {t:TypeId} {av xv:AV} {a' x':Value} (ha:VR φ av a') (hx:VR φ xv x') (e:fp E h t av xv=some h'):
 ∃w',(Instr.storeAt t a' x').run E.P w= .ok () w'∧OK E φ h' w'∧Fr φ h w φ h' w':=by
 unfold fp at e
 split at e
 · rename_i i o
   cases ha with
   | @ptr _ l _ hφ=>
   split at e
   · rename_i cs el n hg hn
     split at e
     · rename_i hc
       simp at e;subst e
       obtain ⟨w',gv,kH,oa⟩:=tR ok hg hφ hx.cells o (by omega) hc.2.2
       refine ⟨w',?_,kH,oa⟩
       have hs:x'.cells.size=n:=by have:=hx.cells.1;simp at this;omega
       simp only[Instr.storeAt,Instr.sureAddr,Sem.run_bind,Sem.run_pure,Result.andThen_ok,storeVar,eE hn,hs,ne_eq,not_true_eq_false,if_false,gv]
     · simp at e
   · simp at e
 · simp at e
theorem A2 {φ:Ph} {h:aw} {w:World} (ok:OK E φ h w) {size n:Nat} {x:AV} {x':Value} (hx:VR φ x x') {new:List AV} (e:fq h size n x=some new) (hn:nu x=some n∨True):
 ∃rT:List Value,LR φ new rT∧∀w',w'.heap=w.heap→(Builtin.firstCells size n x').run E.P w'= .ok rT.toArray w':=by
 unfold fq at e
 split at e
 · split at e
   · rename_i h0
     simp at e;subst e
     cases hx
     exact ⟨[],LR.nil φ,fun w' _=>by simp [Builtin.firstCells]⟩
   · simp at e
 · split at e
   · rename_i h0
     simp at e;subst e
     cases hx
     exact ⟨[],LR.nil φ,fun w' _=>by subst h0;simp only[Builtin.firstCells,Nat.zero_mul];rfl⟩
   · simp at e
 · rename_i i o len _ _
   split at e
   · split at e
     · rename_i h0
       simp at e;subst e
       cases hx
       exact ⟨[],LR.nil φ,fun w' _=>by subst h0;simp only[Builtin.firstCells,Nat.zero_mul];rfl⟩
     · split at e
       · rename_i cs el ro hg
         split at e
         · rename_i hle
           simp at e;subst e
           cases hx with
           | @slice _ l _ _ _ _ hφ=>
           obtain ⟨C,e',lo,hi,hb,hc⟩:=ok.cells hg hφ
           obtain ⟨vs,hvl,C1,AX⟩:=hc.range o (n*size) hle
           refine ⟨vs,AX,fun w' hw=>?_⟩
           rw[←hw] at hb
           have A0:=nM (P:=E.P) hb (l.off+o) vs C1
           rw[hvl] at A0
           simp only[Builtin.firstCells,A0]
         · simp at e
       · simp at e
   · simp at e
 · rename_i s
   split at e
   · rename_i r7
     simp at e;subst e
     generalize Kj:AV.str s=s0 at hx
     cases hx<;>cases Kj
     rename_i s'
     refine ⟨(s'.data.toList.take n).map (fun b=>Value.int .u8 b.toNat),⟨by simp,fun i p q hp hq=>?_⟩,fun w' _=>?_⟩
     · rw[←List.map_take,List.getElem?_map] at hp
       rw[List.getElem?_map] at hq
       cases hb:(s'.data.toList.take n)[i]? with
       | none=>rw[hb] at hp;simp at hp
       | some b=>
         rw[hb] at hp hq
         simp at hp hq
         subst hp;subst hq
         exact .int _ _
     · simp only[Builtin.firstCells,Sem.run_pure]
       congr 1
       apply Array.ext'
       simp
   · simp at e
 · simp at e
end Go.Ab
namespace Go.Ab
variable {E:Env}
theorem OK.reuse {φ:Ph} {h h':aw} {w w':World} (ok:OK E φ h w) {i:Nat} {o o':aY} {l l':Loc} (hg:h.get i=some o) (He:o.rw=true) (hl:φ i=some l) (hb:l'.eg=l.eg)
 (hn:(h.put i none).new o'=some h') (ho:OR E (φ.add h.nx l') o' l' w'.heap[l.eg]?) (sv:∀c,c≠l.eg→w'.heap[c]? =w.heap[c]?) (fP:w'.heap.size=w.heap.size)
 (hos:w'.os=w.os) (Hs:w'.tape=w.tape) (pZ:w'.output=w.output):
 OK E (φ.add h.nx l') h' w'∧Fr φ h w (φ.add h.nx l') h' w':=by
 obtain ⟨lR,hnx,AT,hold⟩:=aw.lP hn
 have hpn:(h.put i none).nx=h.nx:=rfl
 rw[hpn] at hnx AT hold
 have EN:φ h.nx=none:=by
  cases e:φ h.nx with
  | none=>rfl
  | some m=>exact absurd (ok.z_ _ _ e) (Nat.lt_irrefl _)
 have hle:φ.le (φ.add h.nx l'):=fun j m hm=>by
  unfold Ph.add;split
  · rename_i e;subst e;rw[EN] at hm;simp at hm
  · exact hm
 have gZ:∀j p,h'.get j=some p→(j=h.nx∧p=o')∨(j≠h.nx∧j≠i∧h.get j=some p):=fun j p hj=>by
  by_cases e:j=h.nx
  · subst e;rw[AT] at hj;simp at hj;exact .inl ⟨rfl,hj.symm⟩
  · rw[hold j e] at hj
    by_cases e':i=j
    · subst e';rw[aw.bU] at hj;simp at hj
    · rw[aw.bx e'] at hj;exact .inr ⟨e,Ne.symm e',hj⟩
 have kA:∀j,j≠h.nx→(φ.add h.nx l') j=φ j:=fun j hj=>by simp [Ph.add,hj]
 have iE:(φ.add h.nx l') h.nx=some l':=by simp [Ph.add]
 refine ⟨⟨fun j m hm=>?_,?_,fun g hg=>hle _ _ (ok.vh g hg),fun j p m hj hm=>?_,fun j k p q m n hj hk hm rR hw hbb=>?_⟩,
  ⟨hle,fun j hj=>kA j (by omega),by omega,hos,Hs,pZ,Nat.le_of_eq fP.symm,fun b _ Yg=>sv b (fun e=>Yg i o l hg He hl e.symm),fun j p m hj hr hm=>?_⟩⟩
 · rw[hnx]
   by_cases e:j=h.nx
   · omega
   · rw[kA j e] at hm;have:=ok.z_ j m hm;omega
 · have:=ok.nx;omega
 · rcases gZ j p hj with ⟨rfl,rfl⟩ | ⟨eM,EO,pf⟩
   · rw[iE] at hm;simp at hm;subst hm;exact hb▸ho
   · rw[kA j eM] at hm
     rw[sv _ (fun e=>EO (ok.inj j i p o m l pf hg hm hl (.inr He) e))]
     exact (ok.live j p m pf hm).mono hle
 · rcases gZ j p hj with ⟨rfl,rfl⟩ | ⟨eM,hni,pf⟩<;>rcases gZ k q hk with ⟨rfl,rfl⟩ | ⟨EO,aec,Ht⟩
   · rfl
   · rw[iE] at hm;simp at hm;subst hm
     rw[kA k EO] at rR
     exact absurd (ok.inj k i q o n l Ht hg rR hl (.inr He) (hbb.symm.trans hb)) aec
   · rw[iE] at rR;simp at rR;subst rR
     rw[kA j eM] at hm
     exact absurd (ok.inj j i p o m l pf hg hm hl (.inr He) (hbb.trans hb)) hni
   · rw[kA j eM] at hm;rw[kA k EO] at rR;exact ok.inj _ _ _ _ _ _ pf Ht hm rR hw hbb
 · rcases gZ j p hj with ⟨rfl,rfl⟩ | ⟨eM,hni,pf⟩
   · rw[iE] at hm;simp at hm;subst hm;exact .inr ⟨i,o,l,hg,He,hl,hb.symm⟩
   · rw[kA j eM] at hm;exact .inr ⟨j,p,m,pf,hr,hm,rfl⟩
theorem DD:∀(rounds c Kn:Nat),c<Kn→Builtin.growBy Kn rounds c≤2*Kn+1000
 | 0,c,n,h=>by simp [Builtin.growBy];omega
 | r+1,c,n,h=>by
   simp only[Builtin.growBy]
   split
   · omega
   · by_cases hc:c+(c+768) /4<n
     · exact DD r _ n hc
     · cases r with
       | zero=>simp only[Builtin.growBy];omega
       | succ r=>simp only[Builtin.growBy];rw[if_pos (by omega)];omega
theorem nextslicecap_le {n c:Nat} (h:c<n):Builtin.nextslicecap n c≤4*n+4096:=by
 unfold Builtin.nextslicecap
 split
 · omega
 · split
   · omega
   · have:=DD 4 c n h;omega
theorem ot (z:Array Value) (n:Nat):(Builtin.zeroCells z n).size=n*z.size:=by simp [Builtin.zeroCells]
theorem rH {P:Program} {w:World} {sT xT ty elem:TypeId} {xd:TypeDesc} (hs:P.underlying sT=some (.slice elem)) (hx:P.underlying xT=some xd) (UE:∀k,xd≠ .int k)
 {size bytes n:Nat} (fP:(P.info? elem).map (·.size)=some size) (ik:(P.info? elem).map (·.bytes)=some bytes) {z:Value} (hz:∀w,(zeroValue elem).run P w= .ok z w) (UF:z.cells.size=size)
 {base:Option Addr} {len cap:Nat} {x':Value} (hn:∀w,(Builtin.lenOf x').run P w= .ok n w) {old new:List Value} (hold:∀w',w'.heap=w.heap→(Builtin.firstCells size len (.slice base len cap)).run P w'= .ok old.toArray w')
 (AT:∀w',w'.heap=w.heap→(Builtin.firstCells size n x').run P w'= .ok new.toArray w') (lR:cap<len+n) (UG:(4*(len+n)+4096)*(bytes+1)≤1099511627776) (Uf:old.length=len*size) (PV:new.length=n*size):
 ∃nc:Nat,∃C:Array Value,len+n≤nc∧(∃rest,C.toList=old++new++rest)∧C.size=nc*size∧
  (Builtin.append_ #[sT,xT] ty #[.slice base len cap,x']).run P w= .ok (.slice (some ⟨w.heap.size,0,none⟩) (len+n) nc) (w.drew.alloc (.cells C elem)):=by
 let nc:=(Question.appendCap (len+n) cap elem).cut (w.tape w.drawn (.appendCap (len+n) cap elem))
 have Pe:len+n≤nc:=by show len+n≤len+n+_;omega
 let C:Array Value:=old.toArray++new.toArray++Builtin.zeroCells z.cells (nc -(len+n))
 refine ⟨nc,C,Pe,⟨(Builtin.zeroCells z.cells (nc -(len+n))).toList,by simp [C]⟩,?_,?_⟩
 · simp only[C,Array.size_append,ot,UF,List.size_toArray,Uf,PV]
   rw[←Nat.add_mul,←Nat.add_mul];congr 1;omega
 · obtain ⟨inf,HA,hb⟩:=p_ ik w
   obtain ⟨aed,PW,Ue⟩:=p_ ik w.drew
   have Yo:(match xd with | .int _=>true | _=>false)=false:=by cases xd<;>first | rfl | exact absurd rfl (UE _)
   have Yp:¬len+n≤cap:=by omega
   have Yq:=nextslicecap_le lR
   have hmul:(4*(len+n)+4096)*(bytes+1)=(4*(len+n)+4096)*bytes+(4*(len+n)+4096):=by rw[Nat.mul_add,Nat.mul_one]
   have Ko:¬Builtin.nextslicecap (len+n) cap*bytes>2^48:=by
    have:Builtin.nextslicecap (len+n) cap*bytes≤(4*(len+n)+4096)*bytes:=Nat.mul_le_mul_right _ Yq
    omega
   have Yr:IntKind.i64.max=9223372036854775807:=by decide
   have E0:¬(((len+n:Nat):Int) >IntKind.i64.max):=by rw[Yr];omega
   have o1:=hold w.drew rfl
   have n1:=AT w.drew rfl
   have z1:=hz w.drew
   have hf:((!false)=true)=True:=by simp
   simp only[Builtin.append_,List.getElem?_toArray,List.getElem?_cons_zero,List.getElem?_cons_succ,Sem.run_bind,Sem.run_pure,Result.andThen_ok,run_underlying hs,run_underlying hx,eE fP,Bool.false_eq_true,if_false,hn,Yp,HA]
   rw[if_neg (fun h=>E0 h.1)]
   simp only[Sem.run_bind,HA,hb,Result.andThen_ok]
   rw[if_neg Ko]
   simp only[Sem.run_bind,run_choose,Question.forced,Bool.false_eq_true,if_false,World.drew_eq,Result.andThen_ok,PW,run_askRoom,o1,hf,if_true,n1,z1,newRow,run_newObj,World.alloc_eq,Sem.run_pure]
   rfl
theorem qc {P:Program} {w w':World} {sT xT ty elem:TypeId} {xd:TypeDesc} (hs:P.underlying sT=some (.slice elem)) (hx:P.underlying xT=some xd) (UE:∀k,xd≠ .int k)
 {size n:Nat} (fP:(P.info? elem).map (·.size)=some size) {b O len cap:Nat} {x':Value} (hn:∀w,(Builtin.lenOf x').run P w= .ok n w) {new:List Value}
 (AT:(Builtin.firstCells size n x').run P w= .ok new.toArray w) (hle:len+n≤cap) (jk:(storeCells ⟨b,O+len*size,none⟩ new).run P w= .ok () w'):
 (Builtin.append_ #[sT,xT] ty #[.slice (some ⟨b,O,none⟩) len cap,x']).run P w= .ok (.slice (some ⟨b,O,none⟩) (len+n) cap) w':=by
 have Yo:(match xd with | .int _=>true | _=>false)=false:=by cases xd<;>first | rfl | exact absurd rfl (UE _)
 have hf:((!false)=true)=True:=by simp
 simp only[Builtin.append_,List.getElem?_toArray,List.getElem?_cons_zero,List.getElem?_cons_succ,Sem.run_bind,Sem.run_pure,Result.andThen_ok,run_underlying hs,run_underlying hx,eE fP,hf,Bool.false_eq_true,if_false,if_true,hn,hle,AT,tP,jk]
theorem wj {φ:Ph} {h h':aw} {w:World} (ok:OK E φ h w) {new:List AV} {elem:TypeId} (hn:h.new (.cells new elem false)=some h') {l:List Value} (hl:LR φ new l)
 {size nc n bytes:Nat} (fP:cq E elem=some size) (ik:fT E elem=some bytes) {C:Array Value} {rest:List Value} (hC:C.toList=l++rest) (O':C.size=nc*size) (Pe:n≤nc) (E1:l.length=n*size):
 Kl E φ h w (.ok (.slice (some ⟨w.heap.size,0,none⟩) n nc) (w.drew.alloc (.cells C elem))) (.slice h.nx 0 n n true) h':=by
 have PV:new.length=n*size:=by rw[hl.1,E1]
 obtain ⟨kH,oa,hle⟩:=ok.fresh (w':=w.drew.alloc (.cells C elem)) hn ⟨w.heap.size,0,nc - n⟩ (by
  refine ⟨C,elem,0,0,by rw[show (w.drew.alloc (.cells C elem)).heap=w.heap.push (.cells C elem) from rfl];simp,⟨?_,fun k x hk=>?_,fun _ k _ _=>by omega,fun _ _ _=>rfl⟩,fun _=>⟨rfl,rfl,fun _ _ z=>by rw[ik] at z;cases z⟩⟩
  · simp only[fK,fP,Option.getD_some,PV,O',Nat.zero_add]
    rw[←Nat.add_mul];exact Nat.mul_le_mul_right _ (by omega)
  · obtain ⟨y,hy,hr⟩:=hl.get hk
    have hkl:k<l.length:=(List.getElem?_eq_some_iff.1 hy).1
    refine ⟨y,?_,hr.mono (fun i m hm=>?_)⟩
    · have:C.toList[k]? =some y:=by rw[hC,List.getElem?_append_left hkl];exact hy
      simpa using this
    · unfold Ph.add
      split
      · rename_i e;subst e;exact absurd (ok.z_ _ _ hm) (Nat.lt_irrefl _)
      · exact hm)
  (fun c eM hc=>by
   have:(w.drew.alloc (.cells C elem)).heap[c]? =w.heap[c]? :=by
    rw[show (w.drew.alloc (.cells C elem)).heap=w.heap.push (.cells C elem) from rfl,Array.getElem?_push,if_neg (by simpa using eM)]
   exact this) (by simp) (Nat.le_refl _) rfl rfl rfl
 refine ⟨_,_,_,rfl,?_,kH,oa⟩
 have:=VR.slice (φ:=φ.add h.nx ⟨w.heap.size,0,nc - n⟩) (i:=h.nx) (l:=⟨w.heap.size,0,nc - n⟩) 0 n n true (by simp [Ph.add])
 simp only[gT,if_true] at this
 rw[show n+(nc - n)=nc by omega] at this
 exact this
theorem Fr.UH {φ φ':Ph} {h h':aw} {w w':World} {i:Nat} (f:Fr φ (h.put i none) w φ' h' w'):Fr φ h w φ' h' w':=by
 have gZ:∀j p,(h.put i none).get j=some p→h.get j=some p:=fun j p hj=>by
  by_cases e:i=j
  · subst e;rw[aw.bU] at hj;simp at hj
  · rw[aw.bx e] at hj;exact hj
 exact ⟨f.ext,f.old,f.nx,f.os,f.tape,f.output,f.size,fun b hb hn=>f.wb b hb (fun j p m hj=>hn j p m (gZ j p hj)),
  fun j p m hj hr hm=>(f.own j p m hj hr hm).imp id (fun ⟨k,q,n,a,b⟩=>⟨k,q,n,gZ k q a,b⟩)⟩
theorem ou {φ:Ph} {x:AV} {n:Nat} (h:nu x=some n) {x':Value} (hx:VR φ x x') (P:Program) (w:World):(Builtin.lenOf x').run P w= .ok n w:=by
 cases x<;>simp [nu] at h
 · subst h
   generalize Kj:AV.str _=s0 at hx
   cases hx<;>cases Kj
   rfl
 · cases hx;subst h;rfl
 · cases hx;subst h;rfl
 · cases hx;subst h;rfl
theorem Ac {P:Program} {w:World} {sT xT ty elem:TypeId} {kx:IntKind} (hs:P.underlying sT=some (.slice elem)) (hx:P.underlying xT=some (.int kx))
 {size bytes:Nat} (fP:(P.info? elem).map (·.size)=some size) (ik:(P.info? elem).map (·.bytes)=some bytes) {z:Value} (hz:∀w,(zeroValue elem).run P w= .ok z w) (UF:z.cells.size=size)
 {k:IntKind} {n:Int} (hn:0<n) (Ug:0<size) (UG:(4*n.toNat+4096)*(bytes+1)≤1099511627776):
 ∃nc:Nat,∃C:Array Value,n.toNat≤nc∧(∃rest,C.toList=(Builtin.zeroCells z.cells n.toNat).toList++rest)∧C.size=nc*size∧
  (Builtin.append_ #[sT,xT] ty #[.slice none 0 0,.int k n]).run P w= .ok (.slice (some ⟨w.heap.size,0,none⟩) n.toNat nc) (w.drew.alloc (.cells C elem)):=by
 let nc:=(Question.appendCap (0+n.toNat) 0 elem).cut (w.tape w.drawn (.appendCap (0+n.toNat) 0 elem))
 have Pe:n.toNat≤nc:=by show n.toNat≤0+n.toNat+_;omega
 let C:Array Value:= #[]++Builtin.zeroCells z.cells n.toNat++Builtin.zeroCells z.cells (nc -(0+n.toNat))
 refine ⟨nc,C,Pe,⟨(Builtin.zeroCells z.cells (nc -(0+n.toNat))).toList,by simp [C]⟩,?_,?_⟩
 · simp only[C,Array.size_append,ot,UF,Array.size_empty,Nat.zero_add]
   rw[←Nat.add_mul];congr 1;omega
 · obtain ⟨inf,HA,hb⟩:=p_ ik w
   obtain ⟨aed,PW,Ue⟩:=p_ ik w.drew
   have hmul:(4*n.toNat+4096)*(bytes+1)=(4*n.toNat+4096)*bytes+(4*n.toNat+4096):=by rw[Nat.mul_add,Nat.mul_one]
   have PV:n.toNat≤1099511627776:=by omega
   have aa5:IntKind.i64.wrap n=n:=by
    rw[IntKind.wrap_i64];omega
   have aee:¬n<0:=by omega
   have CV:n*(bytes:Int)=((n.toNat*bytes:Nat):Int):=by rw[Int.natCast_mul,Int.toNat_of_nonneg (by omega)]
   have hle:n.toNat*bytes≤(4*n.toNat+4096)*bytes:=Nat.mul_le_mul_right _ (by omega)
   have aa6:¬n*(bytes:Int) >2^48:=by rw[CV];omega
   have Yp:¬0+n.toNat≤0:=by omega
   have Yq:=nextslicecap_le (show 0<0+n.toNat by omega)
   have Ko:¬Builtin.nextslicecap (0+n.toNat) 0*bytes>2^48:=by
    have:Builtin.nextslicecap (0+n.toNat) 0*bytes≤(4*(0+n.toNat)+4096)*bytes:=Nat.mul_le_mul_right _ Yq
    rw[Nat.zero_add] at this
    rw[Nat.zero_add]
    omega
   have Yr:IntKind.i64.max=9223372036854775807:=by decide
   have E0:¬(((0+n.toNat:Nat):Int) >IntKind.i64.max):=by rw[Yr];omega
   have hns:¬n.toNat*size=0:=by
    have h1:0<n.toNat:=by omega
    have:=Nat.mul_pos h1 Ug;omega
   have z1:=hz w.drew
   have hf:((!true)=true)=False:=by simp
   have hai:∀w,(asInt (.int k n)).run P w= .ok n w:=fun _=>rfl
   simp only[Builtin.append_,List.getElem?_toArray,List.getElem?_cons_zero,List.getElem?_cons_succ,Sem.run_bind,Sem.run_pure,Result.andThen_ok,run_underlying hs,run_underlying hx,eE fP,if_true,hai,aa5]
   rw[if_neg aee]
   simp only[Sem.run_bind,HA,hb,Result.andThen_ok]
   rw[if_neg aa6]
   simp only[Sem.run_bind,Sem.run_pure,Result.andThen_ok]
   rw[if_neg Yp]
   simp only[Sem.run_bind,Result.andThen_ok,HA,hb]
   rw[if_neg (fun h=>E0 h.1)]
   simp only[Sem.run_bind,HA,hb,Result.andThen_ok]
   rw[if_neg Ko]
   simp only[Sem.run_bind,run_choose,Question.forced,Bool.false_eq_true,if_false,World.drew_eq,Result.andThen_ok,PW,run_askRoom,Builtin.firstCells,hf,if_neg hns,z1,newRow,run_newObj,World.alloc_eq,Sem.run_pure]
   simp only[nc,C,Nat.zero_add]
   rfl
theorem HB {φ:Ph} {h h':aw} {w:World} (ok:OK E φ h w) {argTypes:Array TypeId} {s x v:AV} (e:b8 E h argTypes s x=some (v,h')) {s' x':Value} (hs:VR φ s s') (hx:VR φ x x') (ty:TypeId):
 Kl E φ h w ((Builtin.append_ argTypes ty #[s',x']).run E.P w) v h':=by
 unfold b8 at e
 split at e
 · rename_i sT xT hsT hxT
   split at e
   · rename_i elem xd hus hux
     split at e
     · rename_i hint
       cases xd<;>simp [mC] at hint
       have key:(Builtin.append_ argTypes ty #[s',x']).run E.P w=(Builtin.append_ #[sT,xT] ty #[s',x']).run E.P w:=by
        unfold Builtin.append_;simp only[hsT,hxT];rfl
       rw[key]
       unfold sh at e
       split at e
       · rename_i k0 k size bytes z fP ik hzero
         split at e
         · rename_i hc
           obtain ⟨hk,Ug,UG,Yn⟩:=hc
           split at e
           · rename_i h1 zk
             simp at e;obtain ⟨rfl,rfl⟩:=e
             cases hs;cases hx
             obtain ⟨z',xX,jE⟩:=iH hzero
             have UF:z'.cells.size=size:=by have:=(xX φ).cells.1;simp at this;omega
             obtain ⟨nc,C,Pe,⟨rest,hC⟩,O',gv⟩:=Ac (P:=E.P) (w:=w) (ty:=ty) (k:=k0) hus hux fP (tO _ ik) jE UF hk Ug UG
             rw[gv]
             exact wj (n:=k.toNat) ok zk (l:=(Builtin.zeroCells z'.cells k.toNat).toList) (Kk (xX φ).cells k.toNat) fP ik hC O' Pe (by rw[Array.length_toList,ot,UF])
           · simp at e
         · simp at e
       · simp at e
     rename_i aa7
     have UE:∀k,xd≠ .int k:=fun k he=>by subst he;simp [mC] at aa7
     split at e
     · rename_i size bytes n fP ik hlen
       split at e
       · rename_i new z A3 hzero
         split at e
         · rename_i hc
           obtain ⟨Yn,qz,W2⟩:=hc
           obtain ⟨z',xX,jE⟩:=iH hzero
           have UF:z'.cells.size=size:=by have:=(xX φ).cells.1;simp at this;omega
           obtain ⟨rT,C2,wm⟩:=A2 ok hx A3 (.inr trivial)
           have PV:rT.length=n*size:=by rw[←C2.1];exact W2
           have key:(Builtin.append_ argTypes ty #[s',x']).run E.P w=(Builtin.append_ #[sT,xT] ty #[s',x']).run E.P w:=by
            unfold Builtin.append_;simp only[hsT,hxT];rfl
           rw[key]
           split at e
           ·
            cases hs
            split at e
            · rename_i Pb
              simp at e;obtain ⟨rfl,rfl⟩:=e
              subst Pb
              refine ⟨φ,w,_,?_,.aK,ok,Fr.refl φ h w⟩
              have Yo:(match xd with | .int _=>true | _=>false)=false:=by cases xd<;>first | rfl | exact absurd rfl (UE _)
              have hf:((!false)=true)=True:=by simp
              have hn1:=wm w rfl
              simp only[Builtin.append_,List.getElem?_toArray,List.getElem?_cons_zero,List.getElem?_cons_succ,Sem.run_bind,Sem.run_pure,Result.andThen_ok,run_underlying hus,run_underlying hux,eE fP,hf,Bool.false_eq_true,if_false,if_true,ou hlen hx,hn1,Nat.le_refl,Nat.add_zero]
            · rename_i Pb
              split at e
              · rename_i UG
                split at e
                · rename_i h1 zk
                  simp at e;obtain ⟨rfl,rfl⟩:=e
                  obtain ⟨nc,C,Pe,⟨rest,hC⟩,O',gv⟩:=rH (P:=E.P) (w:=w) (ty:=ty) hus hux UE fP (tO _ ik) jE UF (base:=none) (len:=0) (cap:=0) (fun w=>ou hlen hx E.P w) (old:=[]) (fun w' _=>by simp [Builtin.firstCells]) (fun w' hw=>wm w' hw) (by omega) (by simpa using UG) (by simp) PV
                  have:=wj (n:=n) ok zk (l:=[]++rT) (by simpa using C2) (by simpa using fP) ik (by simpa using hC) O' (by omega) (by simp [PV])
                  rw[gv]
                  simp only[Nat.zero_add] at this ⊢
                  exact this
                · simp at e
              · simp at e
           · rename_i i o len cap op
             cases hs with
             | @slice _ l _ _ _ _ hφ=>
             split at e
             · rename_i cs el hg
               split at e
               ·
                rename_i aa8
                split at e
                · rename_i hle
                  simp at e;obtain ⟨rfl,rfl⟩:=e
                  have Yj:cap≤gT op cap l.iT:=by unfold gT;split<;>omega
                  obtain ⟨w',jk,kH,oa⟩:=tR ok hg hφ C2 (o+len*size) (by rw[W2,Nat.add_assoc,←Nat.add_mul];exact hle) qz
                  refine ⟨φ,w',_,qc (P:=E.P) hus hux UE fP (fun w=>ou hlen hx E.P w) (wm w rfl) (by omega) (by rw[Nat.add_assoc];exact jk),?_,kH,oa⟩
                  have:=VR.slice (φ:=φ) o (len+n) cap op hφ
                  exact this
                · simp at e
               · rename_i aa8
                 split at e
                 · rename_i Kh
                   obtain ⟨UG,Uf,pY⟩:=Kh
                   split at e
                   · rename_i h1 zk
                     simp at e;obtain ⟨rfl,rfl⟩:=e
                     obtain ⟨C0,e0,lo,hi,Pd,Kp⟩:=ok.cells hg hφ
                     obtain ⟨UI,HC,aa9,Kq⟩:=Kp.range o (len*size) Uf
                     have UJ:∀cp w',w'.heap=w.heap→(Builtin.firstCells size len (.slice (some ⟨l.eg,l.off+o,none⟩) len cp)).run E.P w'= .ok UI.toArray w':=fun cp w' hw=>by
                      rw[←hw] at Pd
                      have A0:=nM (P:=E.P) Pd (l.off+o) UI aa9
                      rw[HC] at A0
                      simp only[Builtin.firstCells,A0]
                     by_cases hin:len+n≤gT op cap l.iT
                     ·
                      have aef:op=true:=by
                       cases op with
                       | true=>rfl
                       | false=>simp [gT] at hin;omega
                      subst aef
                      obtain ⟨rfl,aa3,ho0⟩:=pY rfl
                      simp only[gT,if_true] at hin ⊢
                      simp only[if_true] at zk
                      have NS:=Kp.size
                      simp only[fK,fP,Option.getD_some] at NS
                      have hmul:(len+n)*size≤(cap+l.iT)*size:=Nat.mul_le_mul_right _ hin
                      have e1:(len+n)*size=len*size+n*size:=Nat.add_mul _ _ _
                      have e2:(cap+l.iT)*size=cap*size+l.iT*size:=Nat.add_mul _ _ _
                      have jk:=pI (P:=E.P) Pd (l.off+o+len*size) rT (by omega) (fun k k1 k2=>Kp.free rfl k (by omega) (by simp only[fK,fP,Option.getD_some];omega)) (vn C2 qz)
                      obtain ⟨p1,p2,p3⟩:=su rT w l.eg (l.off+o+len*size)
                      obtain ⟨kH,oa⟩:=ok.reuse (w':=w.setCells l.eg (l.off+o+len*size) rT) (l':=⟨l.eg,l.off+o,cap+l.iT -(len+n)⟩) hg rfl hφ rfl zk (by
                       refine ⟨ky C0 (l.off+o+len*size) rT,e0,lo,hi,pH rT Pd _,⟨?_,fun k x hk=>?_,fun _ k a b=>Kp.free rfl k (by simp at a;omega) ?_,fun h=>by cases h⟩,fun _=>⟨(Kp.shape rfl).1,by show l.off+o=0;have:=(Kp.shape rfl).2.1;omega,fun _ _ z=>by rw[ik] at z;cases z⟩⟩
                       · simp only[fK,fP,Option.getD_some,po,List.length_append,Kq.1,HC,C2.1,PV]
                         rw[Nat.sub_mul];omega
                       · show ∃y,(ky C0 (l.off+o+len*size) rT)[l.off+o+k]? =some y∧_
                         rw[vk]
                         by_cases hk1:k<len*size
                         · rw[List.getElem?_append_left (by rw[Kq.1,HC];exact hk1)] at hk
                           obtain ⟨y,hy,hr⟩:=Kq.get hk
                           rw[if_neg (by omega)]
                           exact ⟨y,aa9 k y hy,hr.mono (fun j m hm=>by
                            unfold Ph.add
                            split
                            · rename_i ej;subst ej;exact absurd (ok.z_ _ _ hm) (Nat.lt_irrefl _)
                            · exact hm)⟩
                         · rw[List.getElem?_append_right (by rw[Kq.1,HC];omega)] at hk
                           obtain ⟨y,hy,hr⟩:=C2.get hk
                           have hyl:k -((List.take (len*size) (List.drop o cs)).length)<rT.length:=(List.getElem?_eq_some_iff.1 hy).1
                           rw[Kq.1,HC] at hyl hy
                           rw[if_pos (by omega)]
                           exact ⟨y,by rw[show l.off+o+k -(l.off+o+len*size)=k - len*size by omega];exact hy,hr.mono (fun j m hm=>by
                            unfold Ph.add
                            split
                            · rename_i ej;subst ej;exact absurd (ok.z_ _ _ hm) (Nat.lt_irrefl _)
                            · exact hm)⟩
                       · simp only[fK,fP,Option.getD_some,List.length_append,Kq.1,HC,C2.1,PV] at b ⊢
                         rw[Nat.sub_mul] at b;omega)
                       (fun c eM=>kz rT (Ne.symm eM) _) (size_setCells _ _ _ _) p1 p2 p3
                      refine ⟨_,_,_,qc (P:=E.P) hus hux UE fP (fun w=>ou hlen hx E.P w) (wm w rfl) hin jk,?_,kH,oa⟩
                      have:=VR.slice (φ:=φ.add h.nx ⟨l.eg,l.off+o,cap+l.iT -(len+n)⟩) (i:=h.nx) (l:=⟨l.eg,l.off+o,cap+l.iT -(len+n)⟩) 0 (len+n) (len+n) true (by simp [Ph.add])
                      simp only[gT,if_true] at this
                      rw[show len+n+(cap+l.iT -(len+n))=cap+l.iT by omega] at this
                      exact this
                     ·
                      obtain ⟨nc,C,Pe,⟨rest,hC⟩,O',gv⟩:=rH (P:=E.P) (w:=w) (ty:=ty) hus hux UE fP (tO _ ik) jE UF (base:=some ⟨l.eg,l.off+o,none⟩) (len:=len) (cap:=gT op cap l.iT) (fun w=>ou hlen hx E.P w) (old:=UI) (fun w' hw=>UJ _ w' hw) (fun w' hw=>wm w' hw) (by omega) UG HC PV
                      rw[gv]
                      have AX:=Kq.append C2
                      have E1:(UI++rT).length=(len+n)*size:=by rw[List.length_append,HC,PV,Nat.add_mul]
                      cases op with
                      | false=>exact wj ok zk AX fP ik hC O' Pe E1
                      | true=>
                        obtain ⟨φ',w',v',a1,a2,a3,a4⟩:=wj ok.kill zk AX fP ik hC O' Pe E1
                        exact ⟨φ',w',v',a1,a2,a3,a4.UH⟩
                   · simp at e
                 · simp at e
             · simp at e
           · simp at e
         · simp at e
       · simp at e
     · simp at e
   · simp at e
 · simp at e
end Go.Ab
end
section
namespace Go.Ab
variable {E:Env}
theorem NV {φ:Ph} {h h':aw} {w:World} (ok:OK E φ h w) {argTypes:Array TypeId} {s d v:AV} (e:uJ E h argTypes d s=some (v,h')) {s' d':Value} (hd:VR φ d d') (hs:VR φ s s') (ty:TypeId):
 Kl E φ h w ((Builtin.copy_ argTypes ty #[d',s']).run E.P w) v h':=by
 unfold uJ at e
 split at e
 · rename_i dT hdT
   split at e
   · rename_i elem m hu hm
     split at e
     · rename_i size fP
       simp at e;obtain ⟨rfl,rfl⟩:=e
       cases hd
       refine ⟨φ,w,_,?_,.int .i64 0,ok,Fr.refl φ h w⟩
       have h0:Nat.min m 0=0:=Nat.min_eq_right (Nat.zero_le _)
       obtain ⟨rT,_,wm⟩:∃rT:List Value,True∧(Builtin.firstCells size 0 s').run E.P w= .ok rT.toArray w:=by
        cases s<;>simp [nu] at hm
        · generalize Kj:AV.str _=s0 at hs
          cases hs<;>cases Kj
          refine ⟨[],trivial,?_⟩
          simp [Builtin.firstCells]
        · cases hs;exact ⟨[],trivial,by simp [Builtin.firstCells]⟩
        · cases hs;exact ⟨[],trivial,by simp [Builtin.firstCells,loadCells,loadCellsFrom]⟩
        · cases hs;exact ⟨[],trivial,by simp [Builtin.firstCells,loadCells,loadCellsFrom]⟩
       simp only[Builtin.copy_,hdT,List.getElem?_toArray,List.getElem?_cons_zero,List.getElem?_cons_succ,Sem.run_bind,Result.andThen_ok,run_underlying hu,ou hm hs,h0,eE fP,wm,Sem.run_pure]
       rfl
     · rename_i size i o len _ _ fP
       split at e
       · rename_i new cs el A3 hg
         split at e
         · rename_i hc
           simp at e;obtain ⟨rfl,rfl⟩:=e
           cases hd with
           | @slice _ l _ _ _ _ hφ=>
           obtain ⟨rT,C2,wm⟩:=A2 ok hs A3 (.inr trivial)
           obtain ⟨w',jk,kH,oa⟩:=tR ok hg hφ C2 o hc.1 hc.2
           refine ⟨φ,w',_,?_,.int .i64 _,kH,oa⟩
           have h0:Nat.min m len=min m len:=rfl
           simp only[Builtin.copy_,hdT,List.getElem?_toArray,List.getElem?_cons_zero,List.getElem?_cons_succ,Sem.run_bind,Result.andThen_ok,run_underlying hu,ou hm hs,h0,eE fP,wm w rfl,jk,Sem.run_pure]
           rfl
         · simp at e
       · simp at e
     · simp at e
   · simp at e
 · simp at e
theorem HD {w:World} {b n:Nat} {C:Array Value} {e:TypeId} (h:w.heap[b]? =some (.cells C e)):(w.freeze ⟨b,n,none⟩ 1).heap[b]? =some (.cells C e (n,n+1)):=by
 simp [World.freeze,Array.getElem?_modify,h]
theorem E2 {w:World} {b c n:Nat} (h:b≠c):(w.freeze ⟨b,n,none⟩ 1).heap[c]? =w.heap[c]? :=by
 simp [World.freeze,Array.getElem?_modify,h]
theorem HE (w:World) (b n:Nat):(w.freeze ⟨b,n,none⟩ 1).heap.size=w.heap.size:=by simp [World.freeze]
theorem NW {φ:Ph} {h h':aw} {w:World} (ok:OK E φ h w) {src dst:TypeId} {x:AV} {v:AV} (e:Dw E h src dst (some x)=some (v,h')) {x':Value} (hx:VR φ x x'):
 Kl E φ h w ((convert src dst x').run E.P w) v h':=by
 unfold Dw at e
 split at e
 · rename_i el s hs hd CU
   simp at CU;subst CU
   generalize Kj:AV.str s=s0 at hx
   cases hx<;>cases Kj
   rename_i s'
   split at e
   · rename_i h1 he hn
     split at e
     · rename_i NS
       simp at e;obtain ⟨rfl,rfl⟩:=e
       have e1:s'.size=s'.data.toList.length:=by cases s';rfl
       let nc:=(Question.appendCap s'.size 0 el).cut (w.tape w.drawn (.appendCap s'.size 0 el))
       have Pe:s'.size≤nc:=by show s'.size≤s'.size+_;omega
       let C:Array Value:=(s'.data.map fun b=>Value.int .u8 b.toNat)++Array.replicate (nc - s'.size) (.int .u8 0)
       have O':C.size=nc:=by
        have e0:s'.size=s'.data.size:=rfl
        have:C.size=s'.data.size+(nc - s'.size):=by simp only[C,Array.size_append,Array.size_map,Array.size_replicate]
        omega
       have CW:(w.drew.alloc (.cells C el)).heap=w.heap.push (.cells C el):=rfl
       have aba:(w.drew.alloc (.cells C el)).heap[w.heap.size]? =some (.cells C el):=by rw[CW];simp
       obtain ⟨kH,oa,hle⟩:=ok.fresh (w':=(w.drew.alloc (.cells C el)).freeze ⟨w.heap.size,nc,none⟩ 1) hn ⟨w.heap.size,0,nc - s'.size⟩ (by
        refine ⟨C,el,nc,nc+1,HD aba,⟨?_,fun k x hk=>?_,fun _ k _ b=>?_,fun _ _ _=>rfl⟩,fun _=>⟨rfl,rfl,fun fs z=>by rw[he] at z;cases z⟩⟩
        · simp only[fK,NS,Option.getD_some,O',List.length_map];rw[←e1];omega
        · rw[List.getElem?_map] at hk
          cases hb:s'.data.toList[k]? with
          | none=>rw[hb] at hk;simp at hk
          | some b=>
            rw[hb] at hk;simp at hk;subst hk
            have hkl:k<s'.data.toList.length:=(List.getElem?_eq_some_iff.1 hb).1
            refine ⟨.int .u8 b.toNat,?_,.int _ _⟩
            have:C[0+k]? =(s'.data.map fun b=>Value.int .u8 b.toNat)[k]? :=by
             simp only[C,Nat.zero_add];rw[Array.getElem?_append_left (by simpa using hkl)]
            show C[0+k]? =_
            rw[this]
            rw[Array.getElem?_map]
            have Ue:s'.data[k]? =some b:=by simpa using hb
            rw[Ue];rfl
        · simp only[fK,NS,Option.getD_some,List.length_map] at b;rw[←e1] at b;omega)
        (fun c eM hc=>by
         rw[E2 (Ne.symm eM),CW,Array.getElem?_push,if_neg (by omega)]) (by rw[HE,CW];simp) (Nat.le_refl _) rfl rfl rfl
       refine ⟨_,_,.slice (some ⟨w.heap.size,0,none⟩) s'.size nc,?_,?_,kH,oa⟩
       · have hsh:(w.drew.alloc (.cells C el)).shape? w.heap.size=some (el,nc):=by
          simp only[World.shape?,aba,O']
         simp only[convert,Sem.run_bind,run_underlying hs,run_underlying hd,Result.andThen_ok,run_underlying he,Conv.stringToBytes,run_choose,Question.forced,Bool.false_eq_true,if_false,World.drew_eq,newRow,run_newObj,World.alloc_eq,Sem.run_pure,markStringish]
         rw[show (Question.appendCap s'.size 0 el).cut (w.tape w.drawn (Question.appendCap s'.size 0 el))=nc from rfl,show (Array.map (fun b=>Value.int .u8 b.toNat) s'.data++Array.replicate (nc - s'.size) (Value.int .u8 0))=C from rfl]
         simp only[World.size_drew,run_shape,hsh,Result.andThen_ok,run_freeze]
       · have:=VR.slice (φ:=φ.add h.nx ⟨w.heap.size,0,nc - s'.size⟩) (i:=h.nx) (l:=⟨w.heap.size,0,nc - s'.size⟩) 0 s'.size s'.size true (by simp [Ph.add])
         simp only[gT,if_true] at this
         rw[show s'.size+(nc - s'.size)=nc by omega] at this
         exact this
     · simp at e
   · simp at e
 · simp at e
theorem qL {φ:Ph} {v:AV} {v':Value} (hv:VR φ v v') {k':Value}:∀{es:List ig} {gL:List MapEntry} (_:Hr φ es gL) (i:Nat) (_:∀e,es[i]? =some e→VR φ e.key k'),
 Hr φ (dX es i v) (gL.modify i fun e=>{e with key:=k',val:=v'})
 | [],gL,h,i,_=>by
   cases gL with
   | nil=>simpa [dX] using h
   | cons _ _=>simp [Hr] at h
 | e::es,gL,h,i,hk=>by
   obtain ⟨hl,C1⟩:=h
   cases gL with
   | nil=>simp at hl
   | cons y ys=>
     have h0:=C1 0 e y (by simp) (by simp)
     have oq:Hr φ es ys:=⟨by simpa using hl,fun i a b p q=>C1 (i+1) a b (by simpa using p) (by simpa using q)⟩
     cases i with
     | zero=>
       simp only[dX,List.modify_zero_cons]
       refine ⟨by simpa using hl,fun j a b p q=>?_⟩
       cases j with
       | zero=>simp at p q;subst p;subst q;exact ⟨hk e (by simp),hv,h0.born⟩
       | succ j=>simp at p q;exact oq.2 j a b p q
     | succ i=>
       simp only[dX,List.modify_succ_cons]
       obtain ⟨g1,g2⟩:=qL hv oq i (fun e he=>hk e (by simpa using he))
       refine ⟨by simp [g1],fun j a b p q=>?_⟩
       cases j with
       | zero=>simp at p q;subst p;subst q;exact h0
       | succ j=>simp at p;exact g2 j a b p (by simpa using q)
theorem UK (s:ByteArray):(s==s)=true:=by cases s;rename_i d;show (d==d)=true;simp
theorem E3 {φ:Ph} {k j:AV} (e:Du k j=some true) {k' j':Value} (h:VR φ k k') (h':VR φ j j'):Instr.sameBits 10000 j' k'=true∧j'=k':=by
 unfold Du at e
 split at e
 · generalize hs:AV.str _=s at h
   generalize qI:AV.str _=s' at h'
   cases h<;>cases hs
   cases h'<;>cases qI
   rename_i s s'
   simp at e
   have:s'=s:=by cases s;cases s';simp_all
   subst this
   exact ⟨by simp only[Instr.sameBits];exact UK _,rfl⟩
 · cases h;cases h'
   split at e
   · rename_i xY
     simp at e;subst e;subst xY
     exact ⟨by simp [Instr.sameBits],rfl⟩
   · simp at e
 · cases h;cases h'
   simp at e;subst e
   exact ⟨by simp [Instr.sameBits],rfl⟩
 · simp at e
theorem sx {φ:Ph} {h h':aw} {w:World} (ok:OK E φ h w) {t:TypeId} {m k v:AV} {m' k' v':Value} (hm:VR φ m m') (hk:VR φ k k') (hv:VR φ v v') (e:eQ E h t m k v=some h'):
 ∃w',(Instr.mapUpdate t m' k' v').run E.P w= .ok () w'∧OK E φ h' w'∧Fr φ h w φ h' w':=by
 unfold eQ at e
 split at e
 · rename_i key elem i hu
   cases hm with
   | @map _ l hφ=>
   split at e
   · rename_i es clock hg
     split at e
     · rename_i xY
       have EZ:∃d,E.P.underlying key=some d∧iY (some d) k=true:=by
        cases hd:E.P.underlying key with
        | none=>rw[hd] at xY;simp [iY] at xY
        | some d=>rw[hd] at xY;exact ⟨d,rfl,xY⟩
       obtain ⟨d,hd,yi⟩:=EZ
       have Az:=ok.live i _ l hg hφ
       obtain ⟨Hf,gL,hb,g_⟩:=Az
       have zh:(getObj l.eg).run E.P w= .ok (.map gL clock) w:=by simp [getObj,Sem.run,hb]
       have EY:=qK (P:=E.P) hd yi hk false 9999 w
       have qd:∀o':Obj,(setObj l.eg o').run E.P w= .ok () {w with heap:=w.heap.setIfInBounds l.eg o'}:=fun o'=>by simp [setObj,Sem.run,hb]
       have Ys:∀(o:aY) (o':Obj),OR E φ o l (some o')→o.rw=true→OK E φ (h.put i (some o)) {w with heap:=w.heap.setIfInBounds l.eg o'}∧Fr φ h w φ (h.put i (some o)) {w with heap:=w.heap.setIfInBounds l.eg o'}:=fun o o' ho He=>by
        have lR:l.eg<w.heap.size:=by
         rcases Nat.lt_or_ge l.eg w.heap.size with a | a
         · exact a
         · rw[Array.getElem?_eq_none a] at hb;simp at hb
        exact ok.change hg rfl hφ (by simp [lR];exact ho) (fun c eM=>by simp [Ne.symm eM]) (by simp) rfl rfl rfl
       split at e
       · rename_i j v0 hf
         obtain ⟨r',h1,h2⟩:=qb yi hk g_ hf
         cases r' with
         | none=>exact h2.elim
         | some q=>
         obtain ⟨j',v1⟩:=q
         obtain ⟨rfl,C1,_,PX,vm,HF⟩:=h2
         simp at e;subst e
         obtain ⟨y,hy⟩:∃y,gL.toList[j]? =some y:=by
          have lR:j<es.length:=by simpa using (List.getElem?_eq_some_iff.1 vm).1
          exact ⟨gL.toList[j]'(by rw[←g_.1];exact lR),by simp⟩
         have UL:=g_.2 j PX y (by simpa using vm) hy
         obtain ⟨hsb,PY⟩:=E3 HF hk UL.key
         have PZ:gL[j]? =some y:=by simpa using hy
         obtain ⟨kH,oa⟩:=Ys (.map (dX es j v) clock) (.map (gL.modify j fun e=>{e with key:=k',val:=v'}) clock) ⟨Hf,_,rfl,by
          have:=qL hv g_ j (k':=k') (fun e he=>by
           have:e=PX:=by
            have h3:es[j]? =some PX:=by simpa using vm
            rw[h3] at he;simp at he;exact he.symm
           subst this;rw[←PY];exact UL.key)
          simpa using this⟩ rfl
         refine ⟨_,?_,kH,oa⟩
         simp only[Instr.mapUpdate,Sem.run_bind,run_underlying hu,Result.andThen_ok,zh,EY,Instr.findKey,run_underlying hd,h1,Sem.run_pure,PZ,Option.map_some,Option.getD_some,Instr.keyThatStays,hsb,if_true,qd _]
       · rename_i hf
         obtain ⟨r',h1,h2⟩:=qb yi hk g_ hf
         cases r' with
         | some q=>exact h2.elim
         | none=>
         simp at e;subst e
         obtain ⟨kH,oa⟩:=Ys (.map (es++[{key:=k,val:=v,born:=clock}]) (clock+1)) (.map (gL.push {key:=k',val:=v',born:=clock}) (clock+1)) ⟨Hf,_,rfl,by
          refine ⟨by simp [g_.1],fun j a b p q=>?_⟩
          rw[Array.toList_push] at q
          by_cases hj:j<es.length
          · rw[List.getElem?_append_left hj] at p
            rw[List.getElem?_append_left (by rw[←g_.1];exact hj)] at q
            exact g_.2 j a b p q
          · rw[List.getElem?_append_right (by omega)] at p
            rw[List.getElem?_append_right (by rw[←g_.1];omega),←g_.1] at q
            cases W3:j - es.length with
            | zero=>rw[W3] at p q;simp at p q;subst p;subst q;exact ⟨hk,hv,rfl⟩
            | succ n=>rw[W3] at p;simp at p⟩ rfl
         refine ⟨_,?_,kH,oa⟩
         simp only[Instr.mapUpdate,Sem.run_bind,run_underlying hu,Result.andThen_ok,zh,EY,Instr.findKey,run_underlying hd,h1,Sem.run_pure,qd _]
       · simp at e
     · split at e
       · rename_i xY
         have EZ:∃d,E.P.underlying key=some d∧j0 E (some d) k=true:=by
          cases hd:E.P.underlying key with
          | none=>rw[hd] at xY;simp [j0] at xY
          | some d=>rw[hd] at xY;exact ⟨d,rfl,xY⟩
         obtain ⟨d,hd,yi⟩:=EZ
         have Az:=ok.live i _ l hg hφ
         obtain ⟨Hf,gL,hb,g_⟩:=Az
         have zh:(getObj l.eg).run E.P w= .ok (.map gL clock) w:=by simp [getObj,Sem.run,hb]
         have EY:=pr hd yi hk false 9998 w
         have qd:∀o':Obj,(setObj l.eg o').run E.P w= .ok () {w with heap:=w.heap.setIfInBounds l.eg o'}:=fun o'=>by simp [setObj,Sem.run,hb]
         have Ys:∀(o:aY) (o':Obj),OR E φ o l (some o')→o.rw=true→OK E φ (h.put i (some o)) {w with heap:=w.heap.setIfInBounds l.eg o'}∧Fr φ h w φ (h.put i (some o)) {w with heap:=w.heap.setIfInBounds l.eg o'}:=fun o o' ho He=>by
          have lR:l.eg<w.heap.size:=by
           rcases Nat.lt_or_ge l.eg w.heap.size with a | a
           · exact a
           · rw[Array.getElem?_eq_none a] at hb;simp at hb
          exact ok.change hg rfl hφ (by simp [lR];exact ho) (fun c eM=>by simp [Ne.symm eM]) (by simp) rfl rfl rfl
         split at e
         · rename_i j v0 hf
           obtain ⟨r',h1,h2⟩:=mE hk g_ hf
           cases r' with
           | none=>exact h2.elim
           | some q=>
           obtain ⟨j',v1⟩:=q
           obtain ⟨rfl,C1,_,PX,vm,HF⟩:=h2
           simp at e;subst e
           obtain ⟨y,hy⟩:∃y,gL.toList[j]? =some y:=by
            have lR:j<es.length:=by simpa using (List.getElem?_eq_some_iff.1 vm).1
            exact ⟨gL.toList[j]'(by rw[←g_.1];exact lR),by simp⟩
           have UL:=g_.2 j PX y (by simpa using vm) hy
           obtain ⟨hsb,PY⟩:=HF hk UL.key
           have PZ:gL[j]? =some y:=by simpa using hy
           obtain ⟨kH,oa⟩:=Ys (.map (dX es j v) clock) (.map (gL.modify j fun e=>{e with key:=k',val:=v'}) clock) ⟨Hf,_,rfl,by
            have:=qL hv g_ j (k':=k') (fun e he=>by
             have:e=PX:=by
              have h3:es[j]? =some PX:=by simpa using vm
              rw[h3] at he;simp at he;exact he.symm
             subst this;rw[←PY];exact UL.key)
            simpa using this⟩ rfl
           refine ⟨_,?_,kH,oa⟩
           simp only[Instr.mapUpdate,Sem.run_bind,run_underlying hu,Result.andThen_ok,zh,EY,j7 hd yi hk (h1 w),Sem.run_pure,PZ,Option.map_some,Option.getD_some,Instr.keyThatStays,hsb,if_true,qd _]
         · rename_i hf
           obtain ⟨r',h1,h2⟩:=mE hk g_ hf
           cases r' with
           | some q=>exact h2.elim
           | none=>
           simp at e;subst e
           obtain ⟨kH,oa⟩:=Ys (.map (es++[{key:=k,val:=v,born:=clock}]) (clock+1)) (.map (gL.push {key:=k',val:=v',born:=clock}) (clock+1)) ⟨Hf,_,rfl,by
            refine ⟨by simp [g_.1],fun j a b p q=>?_⟩
            rw[Array.toList_push] at q
            by_cases hj:j<es.length
            · rw[List.getElem?_append_left hj] at p
              rw[List.getElem?_append_left (by rw[←g_.1];exact hj)] at q
              exact g_.2 j a b p q
            · rw[List.getElem?_append_right (by omega)] at p
              rw[List.getElem?_append_right (by rw[←g_.1];omega),←g_.1] at q
              cases W3:j - es.length with
              | zero=>rw[W3] at p q;simp at p q;subst p;subst q;exact ⟨hk,hv,rfl⟩
              | succ n=>rw[W3] at p;simp at p⟩ rfl
           refine ⟨_,?_,kH,oa⟩
           simp only[Instr.mapUpdate,Sem.run_bind,run_underlying hu,Result.andThen_ok,zh,EY,j7 hd yi hk (h1 w),Sem.run_pure,qd _]
         · simp at e
       · simp at e
   · simp at e
 · simp at e
theorem E4 {φ:Ph} {k':Value} {es:List ig} {gL:List MapEntry} (h:Hr φ es gL) (i:Nat) (hk:∀e,es[i]? =some e→VR φ e.key k'):
 Hr φ es (gL.modify i fun e=>{e with key:=k'}):=by
 obtain ⟨hl,hv⟩:=h
 refine ⟨by rw[List.length_modify];exact hl,fun j a b p q=>?_⟩
 rw[List.getElem?_modify] at q
 by_cases e:i=j
 · subst e
   cases hb:gL[i]? with
   | none=>rw[hb] at q;simp at q
   | some y=>
     rw[hb] at q;simp at q;subst q
     have r:=hv i a y p hb
     exact ⟨hk a p,r.val,r.born⟩
 · have q':gL[j]? =some b:=by simpa [e] using q
   exact hv j a b p q'
theorem wo:∀(es:List ig) (i j:Nat) (v:AV),(dX es i v)[j]? =if i=j then (es[j]?).map (fun e=>{e with val:=v}) else es[j]?
 | [],i,j,v=>by cases i<;>simp [dX]
 | e::es,0,0,v=>by simp [dX]
 | e::es,0,j+1,v=>by simp [dX]
 | e::es,i+1,0,v=>by simp [dX]
 | e::es,i+1,j+1,v=>by simp [dX,wo es i j v]
theorem rI:∀(es:List ig) (i:Nat) (v:AV),(dX es i v).length=es.length
 | [],i,v=>by cases i<;>simp [dX]
 | e::es,0,v=>by simp [dX]
 | e::es,i+1,v=>by simp [dX,rI es i v]
theorem Kr {φ:Ph} {v:AV} {v':Value} (hv:VR φ v v') {es:List ig} {gL:List MapEntry} (h:Hr φ es gL) (i:Nat):
 Hr φ (dX es i v) (gL.modify i fun e=>{e with val:=v'}):=by
 obtain ⟨hl,C1⟩:=h
 refine ⟨by rw[List.length_modify,rI];exact hl,fun j a b p q=>?_⟩
 rw[List.getElem?_modify] at q
 rw[wo] at p
 by_cases e:i=j
 · subst e
   cases hb:gL[i]? with
   | none=>rw[hb] at q;simp at q
   | some y=>
     rw[hb] at q;simp at q;subst q
     cases ha:es[i]? with
     | none=>rw[ha] at p;simp at p
     | some x=>
       rw[ha] at p;simp at p;subst p
       have r:=C1 i x y ha hb
       exact ⟨r.key,hv,r.born⟩
 · have q':gL[j]? =some b:=by simpa [e] using q
   have p':es[j]? =some a:=by simpa [e] using p
   exact C1 j a b p' q'
theorem OK.Kt {φ:Ph} {h:aw} {w:World} (ok:OK E φ h w) {i:Nat} {es es2:List ig} {clock clock2:Nat} {NX:Array MapEntry} {l:Loc} {O:Obj} (hg:h.get i=some (.map es clock)) (hφ:φ i=some l) (Hf:l.off=0) (hb:w.heap[l.eg]? =some O) (he:Hr φ es2 NX.toList):
 OK E φ (h.put i (some (.map es2 clock2))) {w with heap:=w.heap.setIfInBounds l.eg (.map NX clock2)}∧Fr φ h w φ (h.put i (some (.map es2 clock2))) {w with heap:=w.heap.setIfInBounds l.eg (.map NX clock2)}:=by
 have lR:l.eg<w.heap.size:=by
  rcases Nat.lt_or_ge l.eg w.heap.size with a | a
  · exact a
  · rw[Array.getElem?_eq_none a] at hb;simp at hb
 exact ok.change hg rfl hφ (by simp [lR];exact ⟨Hf,_,rfl,he⟩) (fun c eM=>by simp [Ne.symm eM]) (by simp) rfl rfl rfl
theorem C3 {φ:Ph} {h h':aw} {w:World} (ok:OK E φ h w) {t:TypeId} {m k v:AV} {m' k':Value} (hm:VR φ m m') (hk:VR φ k k') (e:ya E h t m k=some (v,h')):
 Kl E φ h w ((Instr.mapEntry t m' k').run E.P w) v h':=by
 unfold ya at e
 split at e
 · rename_i key elem i hu
   cases hm with
   | @map _ l hφ=>
   split at e
   · rename_i es clock hg
     split at e
     · rename_i xY
       have EZ:∃d,E.P.underlying key=some d∧j0 E (some d) k=true:=by
        cases hd:E.P.underlying key with
        | none=>rw[hd] at xY;simp [j0] at xY
        | some d=>rw[hd] at xY;exact ⟨d,rfl,xY⟩
       obtain ⟨d,hd,yi⟩:=EZ
       have Az:=ok.live i _ l hg hφ
       obtain ⟨Hf,gL,hb,g_⟩:=Az
       have zh:(getObj l.eg).run E.P w= .ok (.map gL clock) w:=by simp [getObj,Sem.run,hb]
       have EY:=pr hd yi hk false 9998 w
       have qd:∀o':Obj,(setObj l.eg o').run E.P w= .ok () {w with heap:=w.heap.setIfInBounds l.eg o'}:=fun o'=>by simp [setObj,Sem.run,hb]
       split at e
       · rename_i j v0 hf
         obtain ⟨r',h1,h2⟩:=mE hk g_ hf
         cases r' with
         | none=>exact h2.elim
         | some q=>
         obtain ⟨j',v1⟩:=q
         obtain ⟨rfl,C1,_,PX,vm,HF⟩:=h2
         have Md:es[j]? =some PX:=by simpa using vm
         rw[Md] at e
         simp at e;obtain ⟨rfl,rfl⟩:=e
         obtain ⟨y,hy⟩:∃y,gL.toList[j]? =some y:=by
          have lR:j<es.length:=by simpa using (List.getElem?_eq_some_iff.1 Md).1
          exact ⟨gL.toList[j]'(by rw[←g_.1];exact lR),by simp⟩
         have UL:=g_.2 j PX y Md hy
         obtain ⟨hsb,PY⟩:=HF hk UL.key
         have PZ:gL[j]? =some y:=by simpa using hy
         obtain ⟨kH,oa⟩:=ok.Kt (NX:=gL.modify j fun e=>{e with key:=k'}) (clock2:=clock) hg hφ Hf hb (by
          have:=E4 g_ j (k':=k') (fun e he=>by
           have:e=PX:=by rw[Md] at he;simp at he;exact he.symm
           subst this;rw[←PY];exact UL.key)
          simpa using this)
         refine ⟨φ,_,.tuple #[v1,goInt y.born],?_,VR.tuple' (LR.cons C1 (LR.cons (by rw[←UL.born];exact .int _ _) (LR.nil φ))),kH,oa⟩
         simp only[Instr.mapEntry,Sem.run_bind,run_underlying hu,Result.andThen_ok,zh,EY,j7 hd yi hk (h1 w),Sem.run_pure,PZ,Option.map_some,Option.getD_some,Instr.keyThatStays,hsb,if_true,qd _]
       · rename_i hf
         obtain ⟨r',h1,h2⟩:=mE hk g_ hf
         cases r' with
         | some q=>exact h2.elim
         | none=>
         split at e
         · rename_i z hz
           simp at e;obtain ⟨rfl,rfl⟩:=e
           obtain ⟨z',xX,jE⟩:=iH hz
           obtain ⟨kH,oa⟩:=ok.Kt (NX:=gL.push {key:=k',val:=z',born:=clock}) (clock2:=clock+1) (es2:=es++[{key:=k,val:=z,born:=clock}]) hg hφ Hf hb (by
            refine ⟨by simp [g_.1],fun j a b p q=>?_⟩
            rw[Array.toList_push] at q
            by_cases hj:j<es.length
            · rw[List.getElem?_append_left hj] at p
              rw[List.getElem?_append_left (by rw[←g_.1];exact hj)] at q
              exact g_.2 j a b p q
            · rw[List.getElem?_append_right (by omega)] at p
              rw[List.getElem?_append_right (by rw[←g_.1];omega),←g_.1] at q
              cases W3:j - es.length with
              | zero=>rw[W3] at p q;simp at p q;subst p;subst q;exact ⟨hk,xX φ,rfl⟩
              | succ n=>rw[W3] at p;simp at p)
           refine ⟨φ,_,.tuple #[z',goInt clock],?_,VR.tuple' (LR.cons (xX φ) (LR.cons (.int _ _) (LR.nil φ))),kH,oa⟩
           simp only[Instr.mapEntry,Sem.run_bind,run_underlying hu,Result.andThen_ok,zh,EY,j7 hd yi hk (h1 w),Sem.run_pure,jE,qd _]
         · simp at e
       · simp at e
     · simp at e
   · simp at e
 · simp at e
theorem NY {φ:Ph} {es:List ig} {gL:List MapEntry} (h:Hr φ es gL) (p:Int→Bool):gL.findIdx? (fun e=>p (e.born:Int))=es.findIdx? (fun e=>p (e.born:Int)):=by
 have hm:gL.map (fun e=>(e.born:Int))=es.map (fun e=>(e.born:Int)):=by
  apply List.ext_getElem?
  intro j
  rw[List.getElem?_map,List.getElem?_map]
  by_cases hj:j<es.length
  · have h1:es[j]? =some es[j]:=by simp [hj]
    have pf:j<gL.length:=by rw[←h.1];exact hj
    have h2:gL[j]? =some gL[j]:=by simp [pf]
    rw[h1,h2,Option.map_some,Option.map_some,(h.2 j _ _ h1 h2).born]
  · rw[List.getElem?_eq_none (by rw[←h.1];omega),List.getElem?_eq_none (by omega)];rfl
 have a:=congrArg (List.findIdx? p) hm
 rw[List.findIdx?_map,List.findIdx?_map] at a
 exact a
theorem Ad {φ:Ph} {h h':aw} {w:World} (ok:OK E φ h w) {t:TypeId} {m s x:AV} {m' s' x':Value} (hm:VR φ m m') (hs:VR φ s s') (hx:VR φ x x') (e:si h m s x=some h'):
 ∃w',(Instr.entryStore t m' s' x').run E.P w= .ok () w'∧OK E φ h' w'∧Fr φ h w φ h' w':=by
 unfold si at e
 split at e
 · rename_i i kd n
   cases hm with
   | @map _ l hφ=>
   cases hs with
   | int=>
   split at e
   · rename_i es clock hg
     split at e
     · rename_i j hj
       simp at e;subst e
       obtain ⟨Hf,gL,hb,g_⟩:=ok.live i _ l hg hφ
       have zh:(getObj l.eg).run E.P w= .ok (.map gL clock) w:=by simp [getObj,Sem.run,hb]
       have qd:∀o':Obj,(setObj l.eg o').run E.P w= .ok () {w with heap:=w.heap.setIfInBounds l.eg o'}:=fun o'=>by simp [setObj,Sem.run,hb]
       have pf:gL.findIdx? (fun e=>(e.born:Int)==n)=some j:=by
        have:=NY g_ (fun b=>b==n)
        rw[hj] at this
        cases gL;rw[List.findIdx?_toArray];exact this
       obtain ⟨kH,oa⟩:=ok.Kt (NX:=gL.modify j fun e=>{e with val:=x'}) (clock2:=clock) hg hφ Hf hb (by
        have:=Kr hx g_ j
        simpa using this)
       refine ⟨_,?_,kH,oa⟩
       have e0:(Instr.entryStore t (.map (some l.eg)) (.int kd n) x').run E.P w=(setObj l.eg (.map (gL.modify j fun e=>{e with val:=x'}) clock)).run E.P w:=by
        have ha:(asInt (.int kd n)).run E.P w= .ok n w:=rfl
        simp only[Instr.entryStore,Sem.run_bind,Result.andThen_ok,zh,ha,Sem.run_pure,pf]
       rw[e0];exact qd _
     · simp at e
   · simp at e
 · simp at e
theorem E5 {s:ByteArray} {pos:Nat} {b:UInt8} (h:s.data.toList[pos]? =some b) (hb:b.toNat<128):Utf8.decode s pos=(b.toNat,1):=by
 have hl:pos<s.size:=(List.getElem?_eq_some_iff.1 h).1
 have Ue:s[pos]'hl=b:=by
  have:=(List.getElem?_eq_some_iff.1 h).2
  rw[←this];rfl
 rw[decode_ascii s pos hl (by rw[Ue];exact hb),Ue]
set_option linter.unusedSimpArgs false in
theorem NZ {φ:Ph} {h h':aw} {w:World} (ok:OK E φ h w) {it v:AV} {b:Bool} (e:Dv h it b=some (v,h')) {it':Value} (hit:VR φ it it') (ty:TypeId):
 Kl E φ h w ((Instr.next it' b ty).run E.P w) v h':=by
 unfold Dv at e
 split at e
 · rename_i r
   cases hit with
   | @ptr _ l _ hφ=>
   split at e
   · rename_i s pos hg
     have Az:=ok.live r _ l hg hφ
     obtain ⟨Hf,s',hb,qI⟩:=Az
     have zh:(getObj l.eg).run E.P w= .ok (.stringIter s' pos) w:=by simp [getObj,Sem.run,hb]
     have e1:s'.size=s.length:=by rw[←qI];cases s';rfl
     split at e
     · rename_i lR
       split at e
       · rename_i c hc
         split at e
         · rename_i aeg
           simp at e;obtain ⟨rfl,rfl⟩:=e
           have qd:(setObj l.eg (.stringIter s' (pos+1))).run E.P w= .ok () {w with heap:=w.heap.setIfInBounds l.eg (.stringIter s' (pos+1))}:=by simp [setObj,Sem.run,hb]
           have aeh:l.eg<w.heap.size:=by
            rcases Nat.lt_or_ge l.eg w.heap.size with a | a
            · exact a
            · rw[Array.getElem?_eq_none a] at hb;simp at hb
           obtain ⟨kH,oa⟩:=ok.change (w':={w with heap:=w.heap.setIfInBounds l.eg (.stringIter s' (pos+1))}) (o':= .uH s (pos+1)) hg rfl hφ (by simp [aeh];exact ⟨Hf,s',rfl,qI⟩) (fun c eM=>by simp [Array.getElem?_setIfInBounds,Ne.symm eM]) (by simp) rfl rfl rfl
           refine ⟨φ,_,.tuple #[.bool true,.int .i64 pos,.int .i32 c.toNat],?_,VR.tuple' (iO:=[.bool true,.int .i64 pos,.int .i32 c.toNat]) (.cons (.bool true) (.cons (.int _ _) (.cons (.int _ _) (.nil φ)))),kH,oa⟩
           have aei:=E5 (s:=s') (pos:=pos) (b:=c) (by rw[qI];exact hc) aeg
           have h0:l.off+0=0:=by omega
           simp only[Instr.next,h0,Sem.run_bind,zh,Result.andThen_ok,e1,lR,if_true,aei,qd,Sem.run_pure,goInt]
         · simp at e
       · simp at e
     · rename_i lR
       simp at e;obtain ⟨rfl,rfl⟩:=e
       refine ⟨φ,w,.tuple #[.bool false],?_,VR.tuple' (iO:=[.bool false]) (.cons (.bool false) (.nil φ)),ok,Fr.refl φ h w⟩
       have h0:l.off+0=0:=by omega
       simp only[Instr.next,h0,Sem.run_bind,zh,Result.andThen_ok,e1,lR,if_false,Sem.run_pure]
   · rename_i s1 s2 s3 hg
     have Az:=ok.live r _ l hg hφ
     obtain ⟨Hf,hb⟩:=Az
     have zh:(getObj l.eg).run E.P w= .ok (.mapIter none s1 s2.toArray s3) w:=by simp [getObj,Sem.run,hb]
     simp at e;obtain ⟨rfl,rfl⟩:=e
     refine ⟨φ,w,.tuple #[.bool false],?_,VR.tuple' (iO:=[.bool false]) (.cons (.bool false) (.nil φ)),ok,Fr.refl φ h w⟩
     have h0:l.off+0=0:=by omega
     simp only[Instr.next,h0,Sem.run_bind,zh,Result.andThen_ok,Sem.run_pure]
   · simp at e
 · simp at e
end Go.Ab
end
section
namespace Go.Ab
variable {E:Env}
def DR (φ:Ph):oh→Deferred→Prop
 | .call f args,d'=>∃cap,d'.target= .fn (.func f) cap∧LR φ args (d'.args++cap).toList
 | .rQ r,d'=>∃l,φ r=some l∧d'.target= .collected l.eg
def W5 (φ:Ph):List oh→List Deferred→Prop
 | [],[]=>True
 | d::ds,d'::yj=>DR φ d d'∧W5 φ ds yj
 | _,_=>False
theorem DR.mono {φ φ':Ph} (hle:φ.le φ') {d:oh} {d':Deferred} (h:DR φ d d'):DR φ' d d':=by
 cases d with
 | call f args=>obtain ⟨c,a,b⟩:=h;exact ⟨c,a,b.mono hle⟩
 | rQ r=>obtain ⟨l,a,b⟩:=h;exact ⟨l,hle _ _ a,b⟩
theorem W5.mono {φ φ':Ph} (hle:φ.le φ'):∀{ds:List oh} {yj:List Deferred} (_:W5 φ ds yj),W5 φ' ds yj
 | [],[],_=>trivial
 | _::_,_::_,h=>⟨h.1.mono hle,W5.mono hle h.2⟩
structure SR (φ:Ph) (ts:List AV) (ds:List oh) (a:Act):Prop where
 ts:LR φ ts a.tmps.toList
 ds:W5 φ ds a.defers
theorem SR.mono {φ φ':Ph} (hle:φ.le φ') {ts:List AV} {ds:List oh} {a:Act} (h:SR φ ts ds a):SR φ' ts ds a:=⟨h.ts.mono hle,h.ds.mono hle⟩
def nA (φ:Ph) (b:Frame) (K:Bool→List Frame):RC→Prop
 | .no=>b.roundOf=none∧∀fr:Frame,fr.kind=b.kind→tryRecover fr (K false)=none
 | .iy v=>b.roundOf=none∧(∃v',VR φ v v'∧∀fr:Frame,fr.kind=b.kind→tryRecover fr (K false)=some (v',K true))∧∀fr:Frame,fr.kind=b.kind→tryRecover fr (K true)=none
 | .done=>b.roundOf=none∧∀fr:Frame,fr.kind=b.kind→tryRecover fr (K true)=none
 | .pX l=>∃ll,φ l=some ll∧b.roundOf=some ll.eg
def cur (K:Bool→List Frame):RC→List Frame
 | .done=>K true
 | _=>K false
def RC.ov:RC→Bool
 | .pX _=>true
 | _=>false
theorem nA.mono {φ φ':Ph} (hle:φ.le φ') {b:Frame} {K:Bool→List Frame}:∀{rc:RC} (_:nA φ b K rc),nA φ' b K rc
 | .no,h=>h
 | .iy _,h=>let ⟨n,⟨v',a,b⟩,c⟩:=h;⟨n,⟨v',a.mono hle,b⟩,c⟩
 | .done,h=>h
 | .pX _,h=>let ⟨l,a,b⟩:=h;⟨l,hle _ _ a,b⟩
theorem nA.plain {φ:Ph} {b:Frame} {K:Bool→List Frame} {rc:RC} (h:nA φ b K rc) (hn:rc.ov=false):b.roundOf=none:=by
 cases rc with
 | no=>exact h.1
 | iy v=>exact h.1
 | done=>exact h.1
 | pX l=>simp [RC.ov] at hn
inductive Yt (φ:Ph):iC→Exit→Prop
 | normal:Yt φ .normal .normal
 | exit (id:Nat):Yt φ (.exit id) (.exit id)
 | ret:Yt φ .ret .ret
 | panic (v:AV) (v':Value) (h:VR φ v v'):Yt φ (.panic v) (.panic [{v:=v',recovered:=false}])
def lD (E:Env) (f:FuncId) (args:List AV) (h:aw) (v:AV) (h':aw):Prop:=
 ∀(φ:Ph) (w:World) (vs:List Value),OK E φ h w→LR φ args vs→(callFunc f vs.toArray).run E.P w= .ok (.enter f vs.toArray) w∧
  ∀cs,∃φ' w' v' fr,VR φ' v v'∧OK E φ' h' w'∧Fr φ h w φ' h' w'∧
   Steps E.P (lone (Frame.enter E.P f vs.toArray .normal) cs w) (lone fr cs w')∧fr.fn=f∧fr.leaving E.P w' (.returned v')
def Me (E:Env) (f:FuncId) (args:List AV) (h:aw) (v:AV) (h':aw):Prop:=
 ∀(φ:Ph) (w:World) (vs:List Value),OK E φ h w→LR φ args vs→(callFunc f vs.toArray).run E.P w= .ok (.enter f vs.toArray) w∧
  ∀cs,∃φ' w' v' fr,VR φ' v v'∧OK E φ' h' w'∧Fr φ h w φ' h' w'∧
   Steps E.P (lone (Frame.enter E.P f vs.toArray .normal) cs w) (lone fr cs w')∧fr.fn=f∧fr.leaving E.P w' (.panicked [{v:=v',recovered:=false}])
inductive ow (E:Env) (φ:Ph) (w:World):Fn→List Value→Next→Frame→Prop
 | fn (f:FuncId) (vs:List Value) (hr:(callFunc f vs.toArray).run E.P w= .ok (.enter f vs.toArray) w):ow E φ w (.fn f) vs (.enter f vs.toArray) (Frame.enter E.P f vs.toArray .normal)
 | vg (l:Nat) (ll:Loc) (hl:φ l=some ll) (vs:List Value) (f:FuncId) (tmps:Array Value) (assign body:Code) (hr:(Instr.yield ll.eg vs.toArray).run E.P w= .ok (.round ll.eg f tmps assign body) w):
  ow E φ w (.vg l) vs (.round ll.eg f tmps assign body) (Frame.round ll.eg f tmps assign body .normal)
def P3 (φ:Ph):Fn→Prop
 | .fn _=>True
 | .vg l=>∃ll,φ l=some ll
def Ku (E:Env) (F:Fn) (args:List AV) (h:aw) (v:AV) (h':aw):Prop:=
 ∀(φ:Ph) (w:World) (vs:List Value),OK E φ h w→P3 φ F→LR φ args vs→∃n start,ow E φ w F vs n start∧
  ∀c cs,∃φ' w' v',VR φ' v v'∧OK E φ' h' w'∧Fr φ h w φ' h' w'∧Steps E.P (lone start (c::cs) w) (lone (c.finish v') cs w')
def Kv (E:Env) (F:Fn) (args:List AV) (h:aw) (v:AV) (h':aw):Prop:=
 ∀(φ:Ph) (w:World) (vs:List Value),OK E φ h w→P3 φ F→LR φ args vs→∃n start,ow E φ w F vs n start∧
  ∀c cs,∃φ' w' v',VR φ' v v'∧OK E φ' h' w'∧Fr φ h w φ' h' w'∧Steps E.P (lone start (c::cs) w) (lone (c.raise [{v:=v',recovered:=false}]) cs w')
theorem lD.any {f:FuncId} {args:List AV} {h:aw} {v:AV} {h':aw} (r:lD E f args h v h'):Ku E (.fn f) args h v h':=fun φ w vs ok _ hl=>by
 obtain ⟨h1,h2⟩:=r φ w vs ok hl
 refine ⟨_,_,.fn f vs h1,fun c cs=>?_⟩
 obtain ⟨φ',w',v',fr,x1,x2,x3,x4,_,x5⟩:=h2 (c::cs)
 exact ⟨φ',w',v',x1,x2,x3,x4.trans (.one (step_leave_returned x5))⟩
theorem Me.any {f:FuncId} {args:List AV} {h:aw} {v:AV} {h':aw} (r:Me E f args h v h'):Kv E (.fn f) args h v h':=fun φ w vs ok _ hl=>by
 obtain ⟨h1,h2⟩:=r φ w vs ok hl
 refine ⟨_,_,.fn f vs h1,fun c cs=>?_⟩
 obtain ⟨φ',w',v',fr,x1,x2,x3,x4,_,x5⟩:=h2 (c::cs)
 exact ⟨φ',w',v',x1,x2,x3,x4.trans (.one (step_leave_panicked x5))⟩
structure iI (E:Env) (call:bj):Prop where
 ret:∀f args h v h',call f args h= .ret v h'→Ku E f args h v h'
 panic:∀f args h v h',call f args h= .panic v h'→Kv E f args h v h'
structure kK (E:Env):Prop where
 ext:W1 E
 iW:∀f g,E.iW f=some g→∀args h v h',g args h=some (v,h')→lD E f args h v h'
 names:∀(f:FuncId) (fn:Func),E.P.funcs[f]? =some fn→fn.name≠ "runtime.NumGoroutine"
 mixed:E.P.follows .mixedOrders=true
theorem P4 {φ:Ph} {ts:List AV} {a:Act} (h:LR φ ts a.tmps.toList) (d:Option Tmp) {v:AV} {v':Value} (hv:VR φ v v'):LR φ (dR ts d v) (a.put d v').tmps.toList:=by
 cases d with
 | none=>exact h
 | some d=>simp only[dR,Act.put,Array.toList_setIfInBounds];exact h.set hv d
theorem put_defers (a:Act) (d:Option Tmp) (v:Value):(a.put d v).defers=a.defers:=by cases d<;>rfl
theorem SR.put {φ:Ph} {ts:List AV} {ds:List oh} {a:Act} (h:SR φ ts ds a) (d:Option Tmp) {v:AV} {v':Value} (hv:VR φ v v'):SR φ (dR ts d v) ds (a.put d v'):=
 ⟨P4 h.ts d hv,by rw[put_defers];exact h.ds⟩
theorem vo {φ:Ph} {ops:Array Oper} {ts:List AV} {a:Act} (h:LR φ ts a.tmps.toList) (o:Oper):Region.wanted o (yielded ops a.tmps)=cF ops ts o:=by
 unfold Region.wanted cF
 cases o.guard with
 | none=>rfl
 | some g=>
   obtain ⟨j,want⟩:=g
   simp only[yielded]
   cases hd:(ops[j]?).bind (·.dst) with
   | none=>simp
   | some d=>
     simp only[Option.bind_some]
     cases hx:ts[d]? with
     | none=>
       have:a.tmps[d]? =none:=by
        have h1:=List.getElem?_eq_none_iff.1 hx
        rw[h.1] at h1
        have:=List.getElem?_eq_none_iff.2 h1
        simpa using this
       simp [this]
     | some x=>
       obtain ⟨y,hy,hv⟩:=h.get hx
       have PZ:a.tmps[d]? =some y:=by simpa using hy
       rw[PZ]
       cases hv with
       | any _ h=>cases y<;>first | (simp;done) | cases h
       | _=>simp
section
variable {b:Frame} {a:Act} {k:List Item} {cs:List Frame} {w:World} {ops:Array Oper} {i:Nat} {rest:List Nat} {o:Oper}
theorem tS (ho:ops[i]? =some o) (v:Value):(b.atR a (.inRegion ops (i::rest)::k)).finish v=b.atR (a.put o.dst v) (.inRegion ops rest::k):=by
 rw[Frame.finish_atR,ho];rfl
theorem mV {P:Program} (lk:o.semAt b.roundOf a.eval=execOp a.eval o) (ho:ops[i]? =some o) (hw:Region.wanted o (yielded ops a.tmps)=true) {v:Value} {w':World} (hr:(execOp a.eval o).run P w= .ok (.value v) w'):
 step P (lone (b.atR a (.inRegion ops (i::rest)::k)) cs w)= .next (lone (b.atR (a.put o.dst v) (.inRegion ops rest::k)) cs w'):=by
 rw[←tS ho]
 exact step_lone_go (by rw[stepGR_op (rest:=rest) ho hw,lk];simp [stepG.apply,hr])
theorem HG {P:Program} (lk:o.semAt b.roundOf a.eval=execOp a.eval o) (ho:ops[i]? =some o) (hw:Region.wanted o (yielded ops a.tmps)=true) {w':World} (hr:(execOp a.eval o).run P w= .ok .skip w'):
 step P (lone (b.atR a (.inRegion ops (i::rest)::k)) cs w)= .next (lone (b.atR (a.put o.dst undef) (.inRegion ops rest::k)) cs w'):=by
 rw[←tS ho]
 exact step_lone_go (by rw[stepGR_op (rest:=rest) ho hw,lk];simp [stepG.apply,hr])
theorem go_enter {φ:Ph} (lk:o.semAt b.roundOf a.eval=execOp a.eval o) (ho:ops[i]? =some o) (hw:Region.wanted o (yielded ops a.tmps)=true) {F:Fn} {vs:List Value} {n:Next} {start:Frame} (hp:ow E φ w F vs n start) (hr:(execOp a.eval o).run E.P w= .ok n w):
 step E.P (lone (b.atR a (.inRegion ops (i::rest)::k)) cs w)= .next (lone start (b.atR a (.inRegion ops (i::rest)::k)::cs) w):=by
 cases hp with
 | fn f vs _=>exact step_lone_go (by rw[stepGR_op (rest:=rest) ho hw,lk];simp [stepG.apply,hr,Frame.atR])
 | vg l ll hl vs f tmps assign body _=>exact step_lone_go (by rw[stepGR_op (rest:=rest) ho hw,lk];simp [stepG.apply,hr,Frame.atR])
theorem P5 {P:Program} (lk:o.semAt b.roundOf a.eval=execOp a.eval o) (ho:ops[i]? =some o) (hw:Region.wanted o (yielded ops a.tmps)=true) {v:Value} {w':World} (hr:(execOp a.eval o).run P w= .halt (.panic v) w'):
 step P (lone (b.atR a (.inRegion ops (i::rest)::k)) cs w)= .next (lone {b.atR a (.inRegion ops (i::rest)::k) with mode:= .panicking [{v,recovered:=false}]} cs w'):=by
 rw[←Frame.raise_atR]
 exact step_lone_go (by rw[stepGR_op (rest:=rest) ho hw,lk];simp [stepG.apply,hr])
theorem N0 {P:Program} (lk:o.semAt b.roundOf a.eval=execOp a.eval o) (ho:ops[i]? =some o) (hw:Region.wanted o (yielded ops a.tmps)=true) {d:Deferred} {w':World} (hr:(execOp a.eval o).run P w= .ok (.defer d) w'):
 step P (lone (b.atR a (.inRegion ops (i::rest)::k)) cs w)= .next (lone (b.atR ({a with defers:=d::a.defers}.put o.dst undef) (.inRegion ops rest::k)) cs w'):=by
 have:({b.atR a (.inRegion ops (i::rest)::k) with defers:=d::a.defers}:Frame).finish undef=
  b.atR ({a with defers:=d::a.defers}.put o.dst undef) (.inRegion ops rest::k):=by
  have:=Frame.finish_atR b {a with defers:=d::a.defers} ops i rest k undef
  rw[ho] at this;exact this
 refine step_lone_go ?_
 rw[stepGR_op (rest:=rest) ho hw,lk]
 simp only[stepG.apply,Sem.runT_eq,hr,GStep.bare_after]
 exact congrArg (fun fr=>GStep.go {frame:=fr,callers:=cs,status:= .running,dying:=none} w') this
theorem Kw {P:Program} (ym:b.roundOf=none) (lk:o.semAt b.roundOf a.eval=execOp a.eval o) (ho:ops[i]? =some o) (hw:Region.wanted o (yielded ops a.tmps)=true) {w':World} (hr:(execOp a.eval o).run P w= .ok .recover w') {v:Value} {iO:List Frame}
 (ht:tryRecover (b.atR a (.inRegion ops (i::rest)::k)) cs=some (v,iO)):
 step P (lone (b.atR a (.inRegion ops (i::rest)::k)) cs w)= .next (lone (b.atR (a.put o.dst v) (.inRegion ops rest::k)) iO w'):=by
 rw[←tS ho]
 refine step_lone_go ?_
 rw[stepGR_op (rest:=rest) ho hw,lk]
 have P7:(b.atR a (.inRegion ops (i::rest)::k)).roundOf=none:=ym
 simp only[stepG.apply,Sem.runT_eq,if_true,hr,GStep.bare_after,P7,ht,GStep.bare_go]
theorem uL {P:Program} (ym:b.roundOf=none) (lk:o.semAt b.roundOf a.eval=execOp a.eval o) (ho:ops[i]? =some o) (hw:Region.wanted o (yielded ops a.tmps)=true) {w':World} (hr:(execOp a.eval o).run P w= .ok .recover w')
 (ht:tryRecover (b.atR a (.inRegion ops (i::rest)::k)) cs=none):
 step P (lone (b.atR a (.inRegion ops (i::rest)::k)) cs w)= .next (lone (b.atR (a.put o.dst .nilIface) (.inRegion ops rest::k)) cs w'):=by
 rw[←tS ho]
 refine step_lone_go ?_
 rw[stepGR_op (rest:=rest) ho hw,lk]
 have P7:(b.atR a (.inRegion ops (i::rest)::k)).roundOf=none:=ym
 simp only[stepG.apply,Sem.runT_eq,if_true,hr,GStep.bare_after,P7,ht,GStep.bare_go]
end
def abb (P:Program) (m:Machine) (b:Frame) (ops:Array Oper) (rest:List Nat) (k:List Item) (cs:List Frame):Exit→Act→World→Prop
 | .normal,a,w=>Steps P m (lone (b.atR a (.inRegion ops rest::k)) cs w)
 | .panic chain,a,w=>∃todo,Steps P m (lone {b.atR a todo with mode:= .panicking chain} cs w)
 | _,_,_=>False
def Mf (φ:Ph):Fn→Target→List Value→List Value→Prop
 | .fn f,t,vs,all=>∃cap:List Value,t= .fn (.func f) cap.toArray∧all=vs++cap
 | .vg l,t,vs,all=>∃ll,φ l=some ll∧t= .fn (.yield ll.eg) #[]∧all=vs
theorem Mf.abc {φ:Ph} {F:Fn} {t:Target} {vs all:List Value} (h:Mf φ F t vs all):P3 φ F:=by
 cases F with
 | fn f=>trivial
 | vg l=>obtain ⟨ll,h,_⟩:=h;exact ⟨ll,h⟩
theorem A4 {φ:Ph} (hg:GL E φ) {ts:List AV} {a:Act} (ht:LR φ ts a.tmps.toList) {c:Call} {f:Fn} {args:List AV} (h:callee E ts c=some (f,args)) (ty:TypeId):
 ∃(t:Target) (vs all:List Value),LR φ args all∧Mf φ f t vs all∧∀w,(resolve a.eval c ty).run E.P w= .ok {target:=t,args:=vs.toArray} w:=by
 unfold callee at h
 split at h
 · rename_i x hcx
   split at h
   · rename_i g first captured as_ hx has
     simp at h;obtain ⟨rfl,rfl⟩:=h
     have h1:=nw hg ht hx
     have h2:=iG hg ht has
     generalize lC:a.eval x=cv at h1
     obtain ⟨UM,iO,rfl,hf,hc⟩:=h1.v_
     refine ⟨.fn (.func g) iO.toList.toArray,UM.toList++c.args.toList.map a.eval,_,?_,⟨iO.toList,rfl,rfl⟩,fun w=>?_⟩
     · rw[List.append_assoc]
       have:=(hf.append h2).append hc
       simpa [List.append_assoc] using this
     · simp [resolve,hcx,Deferred.ofValue,lC,map_toArray]
   · rename_i l as_ hx has
     simp at h;obtain ⟨rfl,rfl⟩:=h
     have h1:=nw hg ht hx
     have h2:=iG hg ht has
     generalize lC:a.eval x=cv at h1
     cases h1 with
     | yield hl=>
       refine ⟨_,c.args.toList.map a.eval,_,h2,⟨_,hl,rfl,rfl⟩,fun w=>?_⟩
       simp [resolve,hcx,Deferred.ofValue,lC,map_toArray]
   · simp at h
 · simp at h
theorem C4 {φ:Ph} {w:World} {F:Fn} {t:Target} {vs all:List Value} (ht:Mf φ F t vs all) {n:Next} {start:Frame} (hp:ow E φ w F all n start):(invoke t vs.toArray).run E.P w= .ok n w:=by
 cases hp with
 | fn f qJ hr=>
   obtain ⟨cap,rfl,rfl⟩:=ht
   simpa [invoke] using hr
 | vg l ll hl qJ f tmps assign body hr=>
   obtain ⟨ll',Uh,rfl,rfl⟩:=ht
   rw[hl] at Uh;simp at Uh;subst Uh
   simpa [invoke] using hr
theorem qM {φ:Ph} {b:Frame} {K:Bool→List Frame} {rc:RC} (gM:nA φ b K rc) {o:Oper} (h:rc.ov=false∨∀c,o.op≠ .defer c) (ρ:Operand→Value):o.semAt b.roundOf ρ=execOp ρ o:=by
 rcases h with h | h
 · rw[gM.plain h];rfl
 · exact Oper.semAt_eq _ _ _ h
end Go.Ab
end
section
namespace Go.Ab
variable {E:Env}
theorem A5 {rc:RC} (h:∀l,rc= .pX l→False):rc.ov=false:=by
 cases rc<;>first | rfl | exact (h _ rfl).elim
theorem OK.gl {φ:Ph} {h:aw} {w:World} (ok:OK E φ h w):GL E φ:=ok.vh
inductive sy (E:Env) (call:bj) (φ:Ph) (ts:List AV) (h:aw) (rc:RC) (o:Oper) (a:Act) (w:World):yb→Prop
 | val (v:AV) (h':aw) (φ':Ph) (w':World) (v':Value) (hv:VR φ' v v') (ok:OK E φ' h' w') (fr:Fr φ h w φ' h' w')
  (run:(execOp a.eval o).run E.P w= .ok (.value v') w'):sy E call φ ts h rc o a w (.val v h')
 | skip (h':aw) (φ':Ph) (w':World) (ok:OK E φ' h' w') (fr:Fr φ h w φ' h' w')
  (run:(execOp a.eval o).run E.P w= .ok .skip w'):sy E call φ ts h rc o a w (.val AV.undef h')
 | enter (v:AV) (h':aw) (F:Fn) (args:List AV) (all:List Value) (hr:Ku E F args h v h') (hf:P3 φ F) (hl:LR φ args all)
  (run:∀n start,ow E φ w F all n start→(execOp a.eval o).run E.P w= .ok n w):sy E call φ ts h rc o a w (.val v h')
 | UN (v:AV) (h':aw) (F:Fn) (args:List AV) (all:List Value) (hr:Kv E F args h v h') (hf:P3 φ F) (hl:LR φ args all)
  (run:∀n start,ow E φ w F all n start→(execOp a.eval o).run E.P w= .ok n w):sy E call φ ts h rc o a w (.panic v h')
 | defer (d:oh) (d':Deferred) (CV:rc.ov=false) (hd:DR φ d d') (run:(execOp a.eval o).run E.P w= .ok (.defer d') w):sy E call φ ts h rc o a w (.defer d)
 | panic (v:AV) (v':Value) (hv:VR φ v v') (run:(execOp a.eval o).run E.P w= .halt (.panic v') w):sy E call φ ts h rc o a w (.panic v h)
 | rG (v:AV) (gM:rc= .iy v) (run:(execOp a.eval o).run E.P w= .ok .recover w):sy E call φ ts h rc o a w (.rG v)
 | P_ (gM:∀v,rc≠ .iy v) (CV:rc.ov=false) (run:(execOp a.eval o).run E.P w= .ok .recover w):sy E call φ ts h rc o a w (.val .nilIface h)
 | fail (why:String) (q:Option Oper):sy E call φ ts h rc o a w (.fail why q)
theorem HI {t:TypeId} {name:String} {f:FuncId} (h:v7 E t name=some f) (v:Value) (w:World):(method (E.P.types.size+Made.depth) t v name).run E.P w= .ok (f,v) w:=by
 unfold v7 at h
 split at h
 · rename_i i hi
   split at h
   · rename_i m hm
     split at h
     · rename_i hp
       split at h
       · simp at h
       · rename_i g d eM hf hu
         simp at h;subst h
         have NT:m.path.toList=[]:=by simpa using hp
         have e:E.P.types.size+Made.depth=(E.P.types.size+99)+1:=rfl
         rw[e,method]
         have hti:(typeInfo t).run E.P w= .ok i w:=by simp [typeInfo,hi]
         simp only[Sem.run_bind,hti,Result.andThen_ok,hm,NT,follow,Sem.run_pure,hf,receiverAt,run_underlying hu]
         cases d with
         | pointer x=>exact absurd rfl (eM x)
         | _=>simp [Place.get]
       · simp at h
     · simp at h
   · simp at h
 · simp at h
theorem sA {call:bj} {φ:Ph} {ts:List AV} {h:aw} {rc:RC} {o:Oper} {a:Act} {w:World} {s:Sem Value} {v:AV} {h':aw} (hd:Kl E φ h w (s.run E.P w) v h')
 (he:execOp a.eval o=(do pure (.value (←s)):Sem Next)):sy E call φ ts h rc o a w (.val v h'):=by
 obtain ⟨φ',w',v',hr,hv,ok,fr⟩:=hd
 exact .val v h' φ' w' v' hv ok fr (by rw[he];exact fB hr)
set_option maxHeartbeats 1000000 in
theorem vp (hE:kK E) {call:bj} (dq:iI E call) {φ:Ph} {ts:List AV} {h:aw} {rc:RC} {o:Oper} {a:Act} {w:World} (ht:LR φ ts a.tmps.toList) (ok:OK E φ h w):
 sy E call φ ts h rc o a w (dp E call ts h rc o):=by
 have ev:∀{x:Operand} {v:AV},eu E ts x=some v→VR φ v (a.eval x):=fun h=>nw ok.gl ht h
 obtain ⟨dst,op,ty,pos,after,guard⟩:=o
 unfold dp
 simp only
 split
 ·
  split
  · rename_i ha hx
    split
    · rename_i h' jk
      obtain ⟨w',hr,kH,oa⟩:=Km ok (ev ha) (ev hx) jk
      exact .skip h' φ w' kH oa (by simp [execOp,hr])
    · exact .fail _ _
  · exact .fail _ _
 ·
  split
  · rename_i hm hk hx
    split
    · rename_i h' jk
      obtain ⟨w',hr,kH,oa⟩:=sx ok (ev hm) (ev hk) (ev hx) jk
      exact .skip h' φ w' kH oa (by simp [execOp,hr])
    · exact .fail _ _
  · exact .fail _ _
 ·
  split
  · rename_i hm hk hx
    split
    · rename_i h' jk
      obtain ⟨w',hr,kH,oa⟩:=sx ok (ev hm) (ev hk) (ev hx) jk
      exact .skip h' φ w' kH oa (by simp [execOp,hr])
    · exact .fail _ _
  · exact .fail _ _
 ·
  split
  · rename_i hm hk
    split
    · rename_i v h' hc
      exact sA (C3 ok (ev hm) (ev hk) hc) rfl
    · exact .fail _ _
  · exact .fail _ _
 ·
  rename_i tt mm bb xx
  split
  · rename_i hm hk hx
    split
    · rename_i h' jk
      obtain ⟨w',hr,kH,oa⟩:=Ad (t:=tt) ok (ev hm) (ev hk) (ev hx) jk
      exact .skip h' φ w' kH oa (by simp [execOp,hr])
    · exact .fail _ _
  · exact .fail _ _
 ·
  rename_i src dst x
  split
  · rename_i v h' hc
    cases hx:eu E ts x with
    | none=>rw[hx] at hc;simp [Dw] at hc
    | some xv=>
      rw[hx] at hc
      exact sA (NW ok hc (ev hx)) rfl
  · exact .fail _ _
 ·
  split
  · rename_i hi
    split
    · rename_i hn
      exact sA (NZ ok hn (ev hi) ty) rfl
    · exact .fail _ _
  · exact .fail _ _
 ·
  split
  · rename_i hx
    have h1:=ev hx
    generalize lC:a.eval _=cv at h1
    cases h1 with
    | iface t1 v1 v' hv=>
    exact .panic _ _ (.iface _ _ v' hv) (by simp [execOp,lC,Instr.panic])
  · exact .fail _ _
 ·
  split
  · exact .fail _ _
  · rename_i f args CV hc
    obtain ⟨t,vs,all,hl,⟨cap,rfl,rfl⟩,hr⟩:=A4 ok.gl ht hc ty
    exact .defer _ {target:= .fn (.func f) cap.toArray,args:=vs.toArray} (A5 CV) ⟨cap.toArray,rfl,by simpa using hl⟩ (by simp [execOp,hr])
  · exact .fail _ _
 ·
  rename_i c
  split
  ·
   rename_i C5
   split
   · rename_i s x has
     have hl:=iG ok.gl ht has
     obtain ⟨s',r1,hr1,hs,hl1⟩:=hl.cz
     obtain ⟨x',r2,hr2,hx,Qa⟩:=hl1.cz
     have h0:c.args.map a.eval= #[s',x']:=by rw[map_toArray,hr1,hr2,Qa.gK]
     split
     · rename_i hap
       exact sA (HB ok hap hs hx ty) (by simp [execOp,resolve,C5,invoke,builtin,h0])
     · exact .fail _ _
   · exact .fail _ _
  ·
   rename_i C5
   split
   · rename_i s x has
     have hl:=iG ok.gl ht has
     obtain ⟨s',r1,hr1,hs,hl1⟩:=hl.cz
     obtain ⟨x',r2,hr2,hx,Qa⟩:=hl1.cz
     have h0:c.args.map a.eval= #[s',x']:=by rw[map_toArray,hr1,hr2,Qa.gK]
     split
     · rename_i hap
       exact sA (NV ok hap hs hx ty) (by simp [execOp,resolve,C5,invoke,builtin,h0])
     · exact .fail _ _
   · exact .fail _ _
  ·
   rename_i C5
   have gv:(execOp a.eval ⟨dst,.call c,ty,pos,after,guard⟩).run E.P w= .ok .recover w:=by simp [execOp,resolve,C5,invoke,builtin]
   split
   · exact .rG _ rfl gv
   · exact .fail _ _
   · rename_i eM CV
     exact .P_ (fun v e=>eM v e) (A5 CV) gv
  ·
   rename_i fo C5
   split
   · rename_i F args hc
     obtain ⟨t,vs,all,hl,htg,hr⟩:=A4 ok.gl ht hc ty
     have gv:∀n start,ow E φ w F all n start→(execOp a.eval ⟨dst,.call c,ty,pos,after,guard⟩).run E.P w= .ok n w:=fun n start hp=>by
      have:=C4 htg hp
      simp [execOp,hr,this]
     split
     · rename_i g hg
       split
       · rename_i v h' hgv
         cases F with
         | fn f=>exact .enter v h' (.fn f) args all (hE.iW f g hg args h v h' hgv).any trivial hl gv
         | vg l=>simp [j3] at hg
       · exact .fail _ _
     · split
       · rename_i v h' lC
         exact .enter v h' F args all (dq.ret F args h v h' lC) htg.abc hl gv
       · rename_i v h' lC
         exact .UN v h' F args all (dq.panic F args h v h' lC) htg.abc hl gv
       · exact .fail _ _
   · exact .fail _ _
  ·
   rename_i r name C5
   split
   · rename_i t x args hx has
     split
     · rename_i f hm
       have h1:=ev hx
       generalize lC:a.eval r=cv at h1
       cases h1 with
       | iface t1 v1 v' hv=>
       have hl:LR φ (x::args) (v'::c.args.toList.map a.eval):= .cons hv (iG ok.gl ht has)
       have gv:∀n start,ow E φ w (.fn f) (v'::c.args.toList.map a.eval) n start→(execOp a.eval ⟨dst,.call c,ty,pos,after,guard⟩).run E.P w= .ok n w:=fun n start hp=>by
        cases hp with
        | fn f qJ hr=>
        have e1:(#[v']++(c.args.map a.eval))=(v'::c.args.toList.map a.eval).toArray:=by rw[map_toArray];simp
        have e2:(#[Value.iface t v']++c.args.map a.eval).extract 1 (#[Value.iface t v']++c.args.map a.eval).size=c.args.map a.eval:=by
         apply Array.ext';simp
         exact List.take_of_length_le (by simp)
        have e3:(#[Value.iface t v']++c.args.map a.eval)[0]? =some (Value.iface t v'):=by rw[Array.getElem?_append];rfl
        simp only[execOp,resolve,C5,lC,Sem.run_bind,Sem.run_pure,Result.andThen_ok,invoke,e3,e2,callMethod,run_program,HI hm,e1,hr]
       split
       · rename_i v h' Yu
         exact .enter v h' (.fn f) _ _ (dq.ret (.fn f) _ h v h' Yu) trivial hl gv
       · rename_i v h' Yu
         exact .UN v h' (.fn f) _ _ (dq.panic (.fn f) _ h v h' Yu) trivial hl gv
       · exact .fail _ _
     · exact .fail _ _
   · exact .fail _ _
  · exact .fail _ _
 · exact .fail _ _
structure abd (E:Env) (φ:Ph) (h:aw) (w:World) (b:Frame) (K:Bool→List Frame) (ops:Array Oper) (rest:List Nat) (k:List Item) (m:Machine) (e:iC) (s':St):Prop where
 is:∃φ' w' a' e',Yt φ' e e'∧SR φ' s'.ts s'.ds a'∧OK E φ' s'.h w'∧Fr φ h w φ' s'.h w'∧nA φ' b K s'.rc∧abb E.P m b ops rest k (cur K s'.rc) e' a' w'
set_option maxHeartbeats 1000000 in
theorem DE (hE:kK E) {call:bj} (dq:iI E call) {ops:Array Oper} {i:Nat} {rest:List Nat} {o:Oper} (ho:ops[i]? =some o) {s s':St} {e:iC} (pY:EK E call s o= .ok e s')
 {φ:Ph} {a:Act} {w:World} {b:Frame} {k:List Item} {K:Bool→List Frame} (hs:SR φ s.ts s.ds a) (ok:OK E φ s.h w) (gM:nA φ b K s.rc) (hw:Region.wanted o (yielded ops a.tmps)=true):
 abd E φ s.h w b K ops rest k (lone (b.atR a (.inRegion ops (i::rest)::k)) (cur K s.rc) w) e s':=by
 have lk:(s.rc.ov=false∨∀c,o.op≠ .defer c)→o.semAt b.roundOf a.eval=execOp a.eval o:=fun h=>qM gM h _
 unfold EK at pY
 split at pY
 · rename_i v hp
   have pg:s.rc.ov=false∨∀c,o.op≠ .defer c:= .inr (fun c e=>by rw[e] at hp;simp [bE] at hp)
   simp at pY;obtain ⟨rfl,rfl⟩:=pY
   obtain ⟨v',hv,hr⟩:=zf hE.ext ok.gl hs.ts hp
   exact ⟨φ,w,_,_,.normal,hs.put o.dst hv,ok,Fr.refl _ _ _,gM,.one (mV (lk pg) ho hw (hr w))⟩
 · split at pY
   · rename_i v hp
     have pg:s.rc.ov=false∨∀c,o.op≠ .defer c:= .inr (fun c e=>by rw[e] at hp;simp [dW] at hp)
     simp at pY;obtain ⟨rfl,rfl⟩:=pY
     obtain ⟨v',hv,hr⟩:=zj ok.gl ok hs.ts hp
     exact ⟨φ,w,_,_,.normal,hs.put o.dst hv,ok,Fr.refl _ _ _,gM,.one (mV (lk pg) ho hw (hr w rfl))⟩
   · split at pY
     · rename_i obj mk hp
       have pg:s.rc.ov=false∨∀c,o.op≠ .defer c:= .inr (fun c e=>by rw[e] at hp;simp [ey] at hp)
       split at pY
       · rename_i h' hn
         simp at pY;obtain ⟨rfl,rfl⟩:=pY
         obtain ⟨O,mk',HJ,hr⟩:=wh ok.gl hs.ts hp
         obtain ⟨kH,oa,hle⟩:=ok.fresh (w':=w.alloc O) hn ⟨w.heap.size,0,0⟩ (by
          have:=HJ.obj (φ.add s.h.nx ⟨w.heap.size,0,0⟩) w.heap.size (fun i m hm=>by
           unfold Ph.add;split
           · rename_i e;subst e;exact absurd (ok.z_ _ _ hm) (Nat.lt_irrefl _)
           · exact hm)
          rw[show (w.alloc O).heap=w.heap.push O from rfl]
          simpa using this)
          (fun c eM hc=>by rw[show (w.alloc O).heap=w.heap.push O from rfl,Array.getElem?_push,if_neg (by simpa using eM)]) (by simp) (Nat.le_refl _) rfl rfl rfl
         have hv:=HJ.val (φ.add s.h.nx ⟨w.heap.size,0,0⟩) s.h.nx w.heap.size hle (by simp [Ph.add])
         exact ⟨_,_,_,_,.normal,(hs.mono hle).put o.dst hv,kH,oa,gM.mono hle,.one (mV (lk pg) ho hw (hr w))⟩
       · simp at pY
     · have sB:=vp hE dq (rc:=s.rc) (o:=o) hs.ts ok
       have pg:(∃d,dp E call s.ts s.h s.rc o= .defer d)∨(∃why q,dp E call s.ts s.h s.rc o= .fail why q)∨(s.rc.ov=false∨∀c,o.op≠ .defer c):=by
        by_cases hd:∃c,o.op= .defer c
        · obtain ⟨c,hd⟩:=hd
          unfold dp
          simp only[hd]
          split
          · exact .inr (.inl ⟨_,_,rfl⟩)
          · exact .inl ⟨_,rfl⟩
          · exact .inr (.inl ⟨_,_,rfl⟩)
        · exact .inr (.inr (.inr (fun c e=>hd ⟨c,e⟩)))
       generalize dp E call s.ts s.h s.rc o=eo at pY sB pg
       cases sB with
       | val v h' φ' w' v' hv r_ fr run=>
         have pg:=(pg.resolve_left (by simp)).resolve_left (by simp)
         simp at pY;obtain ⟨rfl,rfl⟩:=pY
         exact ⟨φ',w',_,_,.normal,(hs.mono fr.ext).put o.dst hv,r_,fr,gM.mono fr.ext,.one (mV (lk pg) ho hw run)⟩
       | skip h' φ' w' r_ fr run=>
         have pg:=(pg.resolve_left (by simp)).resolve_left (by simp)
         simp at pY;obtain ⟨rfl,rfl⟩:=pY
         exact ⟨φ',w',_,_,.normal,(hs.mono fr.ext).put o.dst (VR.undef φ'),r_,fr,gM.mono fr.ext,.one (HG (lk pg) ho hw run)⟩
       | enter v h' F args all hr hf hl run=>
         have pg:=(pg.resolve_left (by simp)).resolve_left (by simp)
         simp at pY;obtain ⟨rfl,rfl⟩:=pY
         obtain ⟨n,start,hp,jk⟩:=hr φ w all ok hf hl
         obtain ⟨φ',w',v',hv,r_,fr,jv⟩:=jk (b.atR a (.inRegion ops (i::rest)::k)) (cur K s.rc)
         rw[tS ho] at jv
         exact ⟨φ',w',_,_,.normal,(hs.mono fr.ext).put o.dst hv,r_,fr,gM.mono fr.ext,.head (go_enter (lk pg) ho hw hp (run n start hp)) jv⟩
       | UN v h' F args all hr hf hl run=>
         have pg:=(pg.resolve_left (by simp)).resolve_left (by simp)
         simp at pY;obtain ⟨rfl,rfl⟩:=pY
         obtain ⟨n,start,hp,jk⟩:=hr φ w all ok hf hl
         obtain ⟨φ',w',v',hv,r_,fr,jv⟩:=jk (b.atR a (.inRegion ops (i::rest)::k)) (cur K s.rc)
         rw[Frame.raise_atR] at jv
         exact ⟨φ',w',a,_,.panic v v' hv,hs.mono fr.ext,r_,fr,gM.mono fr.ext,.inRegion ops (i::rest)::k,.head (go_enter (lk pg) ho hw hp (run n start hp)) jv⟩
       | defer d d' CV hd run=>
         simp at pY;obtain ⟨rfl,rfl⟩:=pY
         have h1:SR φ s.ts (d::s.ds) {a with defers:=d'::a.defers}:=⟨hs.ts,hd,hs.ds⟩
         exact ⟨φ,w,_,_,.normal,h1.put o.dst (VR.undef φ),ok,Fr.refl _ _ _,gM,.one (N0 (qM gM (.inl CV) _) ho hw run)⟩
       | panic v v' hv run=>
         have pg:=(pg.resolve_left (by simp)).resolve_left (by simp)
         simp at pY;obtain ⟨rfl,rfl⟩:=pY
         exact ⟨φ,w,a,_,.panic v v' hv,hs,ok,Fr.refl _ _ _,gM,_,.one (P5 (lk pg) ho hw run)⟩
       | rG v aej run=>
         simp at pY;obtain ⟨rfl,rfl⟩:=pY
         rw[aej] at gM ⊢
         have Qb:=gM.plain rfl
         have abe:=qM gM (o:=o) (.inl rfl) a.eval
         obtain ⟨_,⟨v',hv,htr⟩,abf⟩:=gM
         exact ⟨φ,w,_,_,.normal,hs.put o.dst hv,ok,Fr.refl _ _ _,⟨Qb,abf⟩,.one (Kw Qb abe ho hw run (htr _ rfl))⟩
       | P_ eM CV run=>
         simp at pY;obtain ⟨rfl,rfl⟩:=pY
         have EN:∀fr:Frame,fr.kind=b.kind→tryRecover fr (cur K s.rc)=none:=by
          cases E6:s.rc with
          | no=>rw[E6] at gM;exact gM.2
          | iy v=>exact absurd E6 (eM v)
          | done=>rw[E6] at gM;exact gM.2
          | pX l=>rw[E6] at CV;simp [RC.ov] at CV
         exact ⟨φ,w,_,_,.normal,hs.put o.dst .nilIface,ok,Fr.refl _ _ _,gM,.one (uL (gM.plain CV) (qM gM (.inl CV) _) ho hw run (EN _ rfl))⟩
       | fail why q=>simp at pY
end Go.Ab
end
