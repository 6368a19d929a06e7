import Derived.Laws.BitsLemmas
import Derived.Laws.RangeString
import Derived.Defers
import Derived.AtR
import Derived.RangeFuncNested
import Derived.Test.YtfllahfbmaafcaaA1
set_option linter.unusedVariables false
set_option linter.unusedSimpArgs false
section
namespace Go.Ab
variable {E:Env}
def Ki (E:Env) (φ:Ph) (h:aw) (w:World) (r:Result Value) (v:AV) (h':aw):Prop:=
 ∃φ' w' v',r= .ok v' w'∧VR φ' v v'∧OK E φ' h' w'∧Fr φ h w φ' h' w'
theorem va {φ:Ph} {vs:List AV} {qx:List Value} (h:LR φ vs qx) (hs:vs.all AV.scalar=true):∀v∈qx,v.oneCell'=true:=by
 intro v hv
 obtain ⟨i,hi⟩:=List.getElem?_of_mem hv
 have hil:i<vs.length:=by rw[h.1];exact (List.getElem?_eq_some_iff.1 hi).1
 have:=h.2 i vs[i] v (by simp [hil]) hi
 exact this.scalar (List.all_eq_true.1 hs _ (List.getElem_mem hil))
theorem tG {φ:Ph} {h:aw} {w:World} (ok:OK E φ h w) {i:Nat} {cs:List AV} {e:TypeId} (hg:h.get i=some (.cells cs e false)) {l:Loc} (hφ:φ i=some l)
 {vs:List AV} {qx:List Value} (hl:LR φ vs qx) (o:Nat) (hle:o+vs.length≤cs.length) (oU:vs.all AV.scalar=true):
 ∃w',(storeCells ⟨l.dZ,l.off+o,none⟩ qx).run E.P w= .ok () w'∧OK E φ (h.put i (some (.cells (setFrom cs o vs) e false))) w'∧
  Fr φ h w φ (h.put i (some (.cells (setFrom cs o vs) e false))) w':=by
 obtain ⟨C,e',lo,hi,hb,hc⟩:=ok.cells hg hφ
 have E9:=hc.size
 have hlen:=hl.1
 have fJ:=py (P:=E.P) hb (l.off+o) qx (by omega) (fun k h1 h2=>hc.free rfl k (by omega) (by omega)) (va hl oU)
 refine ⟨_,fJ,?_⟩
 obtain ⟨h1,h2,h3⟩:=rY qx w l.dZ (l.off+o)
 refine ok.change hg rfl hφ ?_ (fun c eu=>jS qx (Ne.symm eu) _) (size_setCells _ _ _ _) h1 h2 h3
 refine ⟨jR C (l.off+o) qx,e',lo,hi,px qx hb _,⟨?_,fun k x hk=>?_,fun _ k a b=>hc.free rfl k a (by rw[kR] at b;exact b),fun h=>by cases h⟩,fun _=>by have q:=hc.shape rfl;rw[kR,o7];exact q⟩
 · rw[kR,o7];exact E9
 · rw[eC] at hk
   rw[uY]
   split at hk
   · rename_i hin
     rw[if_pos (by omega)]
     obtain ⟨y,hy,hr⟩:=hl.get hk
     exact ⟨y,by rw[show l.off+k -(l.off+o)=k - o by omega];exact hy,hr⟩
   · rename_i hin
     have hkl:k<cs.length:=(List.getElem?_eq_some_iff.1 hk).1
     rw[if_neg (by omega)]
     exact hc.val k x hk
theorem Kj {φ:Ph} {h h':aw} {w:World} (ok:OK E φ h w) {t:TypeId} {av xv:AV} {a' x':Value} (ha:VR φ av a') (hx:VR φ xv x') (e:eG E h t av xv=some h'):
 ∃w',(Instr.storeAt t a' x').run E.P w= .ok () w'∧OK E φ h' w'∧Fr φ h w φ h' w':=by
 unfold eG at e
 split at e
 · rename_i i o
   cases ha with
   | @ptr _ l _ hφ=>
   split at e
   · rename_i cs el n hg hn
     split at e
     · rename_i hc
       simp at e;subst e
       obtain ⟨w',fJ,jI,nG⟩:=tG ok hg hφ hx.cells o (by omega) hc.2.2
       refine ⟨w',?_,jI,nG⟩
       have hs:x'.cells.size=n:=by have:=hx.cells.1;simp at this;omega
       simp only[Instr.storeAt,Instr.sureAddr,Sem.run_bind,Sem.run_pure,Result.andThen_ok,storeVar,eD hn,hs,ne_eq,not_true_eq_false,if_false,fJ]
     · simp at e
   · simp at e
 · simp at e
theorem Bc {φ:Ph} {h:aw} {w:World} (ok:OK E φ h w) {size n:Nat} {x:AV} {x':Value} (hx:VR φ x x') {new:List AV} (e:eU h size n x=some new) (hn:kM x=some n∨True):
 ∃rF:List Value,LR φ new rF∧∀w',w'.heap=w.heap→(Builtin.firstCells size n x').run E.P w'= .ok rF.toArray w':=by
 unfold eU at e
 split at e
 · split at e
   · rename_i h0
     simp at e;subst e
     cases hx
     exact ⟨[],LR.nil φ,fun w' _=>by simp [Builtin.firstCells]⟩
   · simp at e
 · split at e
   · rename_i h0
     simp at e;subst e
     cases hx
     exact ⟨[],LR.nil φ,fun w' _=>by subst h0;simp only[Builtin.firstCells,Nat.zero_mul];rfl⟩
   · simp at e
 · rename_i i o len _ _
   split at e
   · split at e
     · rename_i h0
       simp at e;subst e
       cases hx
       exact ⟨[],LR.nil φ,fun w' _=>by subst h0;simp only[Builtin.firstCells,Nat.zero_mul];rfl⟩
     · split at e
       · rename_i cs el ro hg
         split at e
         · rename_i hle
           simp at e;subst e
           cases hx with
           | @slice _ l _ _ _ _ hφ=>
           obtain ⟨C,e',lo,hi,hb,hc⟩:=ok.cells hg hφ
           obtain ⟨vs,hvl,Dd,zt⟩:=hc.range o (n*size) hle
           refine ⟨vs,zt,fun w' hw=>?_⟩
           rw[←hw] at hb
           have Ba:=nq (P:=E.P) hb (l.off+o) vs Dd
           rw[hvl] at Ba
           simp only[Builtin.firstCells,Ba]
         · simp at e
       · simp at e
   · simp at e
 · rename_i s
   split at e
   · rename_i rO
     simp at e;subst e
     generalize Kg:AV.str s=s0 at hx
     cases hx<;>cases Kg
     rename_i s'
     refine ⟨(s'.data.toList.take n).map (fun b=>Value.int .u8 b.toNat),⟨by simp,fun i p q hp hq=>?_⟩,fun w' _=>?_⟩
     · rw[←List.map_take,List.getElem?_map] at hp
       rw[List.getElem?_map] at hq
       cases hb:(s'.data.toList.take n)[i]? with
       | none=>rw[hb] at hp;simp at hp
       | some b=>
         rw[hb] at hp hq
         simp at hp hq
         subst hp;subst hq
         exact .int _ _
     · simp only[Builtin.firstCells,Sem.run_pure]
       congr 1
       apply Array.ext'
       simp
   · simp at e
 · simp at e
end Go.Ab
namespace Go.Ab
variable {E:Env}
theorem OK.reuse {φ:Ph} {h h':aw} {w w':World} (ok:OK E φ h w) {i:Nat} {o o':aR} {l l':Loc} (hg:h.get i=some o) (Hg:o.rw=true) (hl:φ i=some l) (hb:l'.dZ=l.dZ)
 (hn:(h.put i none).new o'=some h') (ho:OR E (φ.add h.nx l') o' l' w'.heap[l.dZ]?) (rZ:∀c,c≠l.dZ→w'.heap[c]? =w.heap[c]?) (fA:w'.heap.size=w.heap.size)
 (hos:w'.os=w.os) (Ht:w'.tape=w.tape) (pN:w'.output=w.output):
 OK E (φ.add h.nx l') h' w'∧Fr φ h w (φ.add h.nx l') h' w':=by
 obtain ⟨j0,hnx,A7,hold⟩:=aw.kQ hn
 have hpn:(h.put i none).nx=h.nx:=rfl
 rw[hpn] at hnx A7 hold
 have E_:φ h.nx=none:=by
  cases e:φ h.nx with
  | none=>rfl
  | some m=>exact absurd (ok.Ao _ _ e) (Nat.lt_irrefl _)
 have hle:φ.le (φ.add h.nx l'):=fun j m hm=>by
  unfold Ph.add;split
  · rename_i e;subst e;rw[E_] at hm;simp at hm
  · exact hm
 have fP:∀j p,h'.get j=some p→(j=h.nx∧p=o')∨(j≠h.nx∧j≠i∧h.get j=some p):=fun j p hj=>by
  by_cases e:j=h.nx
  · subst e;rw[A7] at hj;simp at hj;exact .inl ⟨rfl,hj.symm⟩
  · rw[hold j e] at hj
    by_cases e':i=j
    · subst e';rw[aw.bS] at hj;simp at hj
    · rw[aw.bx e'] at hj;exact .inr ⟨e,Ne.symm e',hj⟩
 have jT:∀j,j≠h.nx→(φ.add h.nx l') j=φ j:=fun j hj=>by simp [Ph.add,hj]
 have gH:(φ.add h.nx l') h.nx=some l':=by simp [Ph.add]
 refine ⟨⟨fun j m hm=>?_,?_,fun g hg=>hle _ _ (ok.uW g hg),fun j p m hj hm=>?_,fun j k p q m n hj hk hm rE hw hbb=>?_⟩,
  ⟨hle,fun j hj=>jT j (by omega),by omega,hos,Ht,pN,Nat.le_of_eq fA.symm,fun b _ ZE=>rZ b (fun e=>ZE i o l hg Hg hl e.symm),fun j p m hj hr hm=>?_⟩⟩
 · rw[hnx]
   by_cases e:j=h.nx
   · omega
   · rw[jT j e] at hm;have:=ok.Ao j m hm;omega
 · have:=ok.nx;omega
 · rcases fP j p hj with ⟨rfl,rfl⟩ | ⟨eu,E',nD⟩
   · rw[gH] at hm;simp at hm;subst hm;exact hb▸ho
   · rw[jT j eu] at hm
     rw[rZ _ (fun e=>E' (ok.inj j i p o m l nD hg hm hl (.inr Hg) e))]
     exact (ok.live j p m nD hm).mono hle
 · rcases fP j p hj with ⟨rfl,rfl⟩ | ⟨eu,hni,nD⟩<;>rcases fP k q hk with ⟨rfl,rfl⟩ | ⟨E',af9,DM⟩
   · rfl
   · rw[gH] at hm;simp at hm;subst hm
     rw[jT k E'] at rE
     exact absurd (ok.inj k i q o n l DM hg rE hl (.inr Hg) (hbb.symm.trans hb)) af9
   · rw[gH] at rE;simp at rE;subst rE
     rw[jT j eu] at hm
     exact absurd (ok.inj j i p o m l nD hg hm hl (.inr Hg) (hbb.trans hb)) hni
   · rw[jT j eu] at hm;rw[jT k E'] at rE;exact ok.inj _ _ _ _ _ _ nD DM hm rE hw hbb
 · rcases fP j p hj with ⟨rfl,rfl⟩ | ⟨eu,hni,nD⟩
   · rw[gH] at hm;simp at hm;subst hm;exact .inr ⟨i,o,l,hg,Hg,hl,hb.symm⟩
   · rw[jT j eu] at hm;exact .inr ⟨j,p,m,nD,hr,hm,rfl⟩
theorem DT:∀(rounds c Kk:Nat),c<Kk→Builtin.growBy Kk rounds c≤2*Kk+1000
 | 0,c,n,h=>by simp [Builtin.growBy];omega
 | r+1,c,n,h=>by
   simp only[Builtin.growBy]
   split
   · omega
   · by_cases hc:c+(c+768) /4<n
     · exact DT r _ n hc
     · cases r with
       | zero=>simp only[Builtin.growBy];omega
       | succ r=>simp only[Builtin.growBy];rw[if_pos (by omega)];omega
theorem nextslicecap_le {n c:Nat} (h:c<n):Builtin.nextslicecap n c≤4*n+4096:=by
 unfold Builtin.nextslicecap
 split
 · omega
 · split
   · omega
   · have:=DT 4 c n h;omega
theorem nU (z:Array Value) (n:Nat):(Builtin.zeroCells z n).size=n*z.size:=by simp [Builtin.zeroCells]
theorem ru {P:Program} {w:World} {sT xT ty elem:TypeId} {xd:TypeDesc} (hs:P.underlying sT=some (.slice elem)) (hx:P.underlying xT=some xd) (Vs:∀k,xd≠ .int k)
 {size bytes n:Nat} (fA:(P.info? elem).map (·.size)=some size) (gP:(P.info? elem).map (·.bytes)=some bytes) {z:Value} (hz:∀w,(zeroValue elem).run P w= .ok z w) (Vt:z.cells.size=size)
 {base:Option Addr} {len cap:Nat} {x':Value} (hn:∀w,(Builtin.lenOf x').run P w= .ok n w) {old new:List Value} (hold:∀w',w'.heap=w.heap→(Builtin.firstCells size len (.slice base len cap)).run P w'= .ok old.toArray w')
 (A7:∀w',w'.heap=w.heap→(Builtin.firstCells size n x').run P w'= .ok new.toArray w') (j0:cap<len+n) (U6:(4*(len+n)+4096)*(bytes+1)≤1099511627776) (U7:old.length=len*size) (Qy:new.length=n*size):
 ∃nc:Nat,∃C:Array Value,len+n≤nc∧(∃rest,C.toList=old++new++rest)∧C.size=nc*size∧
  (Builtin.append_ #[sT,xT] ty #[.slice base len cap,x']).run P w= .ok (.slice (some ⟨w.heap.size,0,none⟩) (len+n) nc) (w.drew.alloc (.cells C elem)):=by
 let nc:=(Question.appendCap (len+n) cap elem).cut (w.tape w.drawn (.appendCap (len+n) cap elem))
 have PY:len+n≤nc:=by show len+n≤len+n+_;omega
 let C:Array Value:=old.toArray++new.toArray++Builtin.zeroCells z.cells (nc -(len+n))
 refine ⟨nc,C,PY,⟨(Builtin.zeroCells z.cells (nc -(len+n))).toList,by simp [C]⟩,?_,?_⟩
 · simp only[C,Array.size_append,nU,Vt,List.size_toArray,U7,Qy]
   rw[←Nat.add_mul,←Nat.add_mul];congr 1;omega
 · obtain ⟨inf,HA,hb⟩:=pO gP w
   obtain ⟨aga,Qz,U5⟩:=pO gP w.drew
   have ZO:(match xd with | .int _=>true | _=>false)=false:=by cases xd<;>first | rfl | exact absurd rfl (Vs _)
   have ZP:¬len+n≤cap:=by omega
   have ZQ:=nextslicecap_le j0
   have hmul:(4*(len+n)+4096)*(bytes+1)=(4*(len+n)+4096)*bytes+(4*(len+n)+4096):=by rw[Nat.mul_add,Nat.mul_one]
   have Kl:¬Builtin.nextslicecap (len+n) cap*bytes>2^48:=by
    have:Builtin.nextslicecap (len+n) cap*bytes≤(4*(len+n)+4096)*bytes:=Nat.mul_le_mul_right _ ZQ
    omega
   have ZR:IntKind.i64.max=9223372036854775807:=by decide
   have Fx:¬(((len+n:Nat):Int) >IntKind.i64.max):=by rw[ZR];omega
   have o1:=hold w.drew rfl
   have n1:=A7 w.drew rfl
   have z1:=hz w.drew
   have hf:((!false)=true)=True:=by simp
   simp only[Builtin.append_,List.getElem?_toArray,List.getElem?_cons_zero,List.getElem?_cons_succ,Sem.run_bind,Sem.run_pure,Result.andThen_ok,run_underlying hs,run_underlying hx,eD fA,Bool.false_eq_true,if_false,hn,ZP,HA]
   rw[if_neg (fun h=>Fx h.1)]
   simp only[Sem.run_bind,HA,hb,Result.andThen_ok]
   rw[if_neg Kl]
   simp only[Sem.run_bind,run_choose,Question.forced,Bool.false_eq_true,if_false,World.drew_eq,Result.andThen_ok,Qz,run_askRoom,o1,hf,if_true,n1,z1,newRow,run_newObj,World.alloc_eq,Sem.run_pure]
   rfl
theorem pR {P:Program} {w w':World} {sT xT ty elem:TypeId} {xd:TypeDesc} (hs:P.underlying sT=some (.slice elem)) (hx:P.underlying xT=some xd) (Vs:∀k,xd≠ .int k)
 {size n:Nat} (fA:(P.info? elem).map (·.size)=some size) {b O len cap:Nat} {x':Value} (hn:∀w,(Builtin.lenOf x').run P w= .ok n w) {new:List Value}
 (A7:(Builtin.firstCells size n x').run P w= .ok new.toArray w) (hle:len+n≤cap) (ir:(storeCells ⟨b,O+len*size,none⟩ new).run P w= .ok () w'):
 (Builtin.append_ #[sT,xT] ty #[.slice (some ⟨b,O,none⟩) len cap,x']).run P w= .ok (.slice (some ⟨b,O,none⟩) (len+n) cap) w':=by
 have ZO:(match xd with | .int _=>true | _=>false)=false:=by cases xd<;>first | rfl | exact absurd rfl (Vs _)
 have hf:((!false)=true)=True:=by simp
 simp only[Builtin.append_,List.getElem?_toArray,List.getElem?_cons_zero,List.getElem?_cons_succ,Sem.run_bind,Sem.run_pure,Result.andThen_ok,run_underlying hs,run_underlying hx,eD fA,hf,Bool.false_eq_true,if_false,if_true,hn,hle,A7,tE,ir]
theorem wg {φ:Ph} {h h':aw} {w:World} (ok:OK E φ h w) {new:List AV} {elem:TypeId} (hn:h.new (.cells new elem false)=some h') {l:List Value} (hl:LR φ new l)
 {size nc n bytes:Nat} (fA:bZ E elem=some size) (gP:fm E elem=some bytes) {C:Array Value} {rest:List Value} (hC:C.toList=l++rest) (PV:C.size=nc*size) (PY:n≤nc) (HB:l.length=n*size):
 Ki E φ h w (.ok (.slice (some ⟨w.heap.size,0,none⟩) n nc) (w.drew.alloc (.cells C elem))) (.slice h.nx 0 n n true) h':=by
 have Qy:new.length=n*size:=by rw[hl.1,HB]
 obtain ⟨jI,nG,hle⟩:=ok.fresh (w':=w.drew.alloc (.cells C elem)) hn ⟨w.heap.size,0,nc - n⟩ (by
  refine ⟨C,elem,0,0,by rw[show (w.drew.alloc (.cells C elem)).heap=w.heap.push (.cells C elem) from rfl];simp,⟨?_,fun k x hk=>?_,fun _ k _ _=>by omega,fun _ _ _=>rfl⟩,fun _=>⟨rfl,rfl,fun _ _ z=>by rw[gP] at z;cases z⟩⟩
  · simp only[fp,fA,Option.getD_some,Qy,PV,Nat.zero_add]
    rw[←Nat.add_mul];exact Nat.mul_le_mul_right _ (by omega)
  · obtain ⟨y,hy,hr⟩:=hl.get hk
    have hkl:k<l.length:=(List.getElem?_eq_some_iff.1 hy).1
    refine ⟨y,?_,hr.mono (fun i m hm=>?_)⟩
    · have:C.toList[k]? =some y:=by rw[hC,List.getElem?_append_left hkl];exact hy
      simpa using this
    · unfold Ph.add
      split
      · rename_i e;subst e;exact absurd (ok.Ao _ _ hm) (Nat.lt_irrefl _)
      · exact hm)
  (fun c eu hc=>by
   have:(w.drew.alloc (.cells C elem)).heap[c]? =w.heap[c]? :=by
    rw[show (w.drew.alloc (.cells C elem)).heap=w.heap.push (.cells C elem) from rfl,Array.getElem?_push,if_neg (by simpa using eu)]
   exact this) (by simp) (Nat.le_refl _) rfl rfl rfl
 refine ⟨_,_,_,rfl,?_,jI,nG⟩
 have:=VR.slice (φ:=φ.add h.nx ⟨w.heap.size,0,nc - n⟩) (i:=h.nx) (l:=⟨w.heap.size,0,nc - n⟩) 0 n n true (by simp [Ph.add])
 simp only[gu,if_true] at this
 rw[show n+(nc - n)=nc by omega] at this
 exact this
theorem Fr.Vu {φ φ':Ph} {h h':aw} {w w':World} {i:Nat} (f:Fr φ (h.put i none) w φ' h' w'):Fr φ h w φ' h' w':=by
 have fP:∀j p,(h.put i none).get j=some p→h.get j=some p:=fun j p hj=>by
  by_cases e:i=j
  · subst e;rw[aw.bS] at hj;simp at hj
  · rw[aw.bx e] at hj;exact hj
 exact ⟨f.ext,f.old,f.nx,f.os,f.tape,f.output,f.size,fun b hb hn=>f.Ap b hb (fun j p m hj=>hn j p m (fP j p hj)),
  fun j p m hj hr hm=>(f.own j p m hj hr hm).imp id (fun ⟨k,q,n,a,b⟩=>⟨k,q,n,fP k q a,b⟩)⟩
theorem nV {φ:Ph} {x:AV} {n:Nat} (h:kM x=some n) {x':Value} (hx:VR φ x x') (P:Program) (w:World):(Builtin.lenOf x').run P w= .ok n w:=by
 cases x<;>simp [kM] at h
 · subst h
   generalize Kg:AV.str _=s0 at hx
   cases hx<;>cases Kg
   rfl
 · cases hx;subst h;rfl
 · cases hx;subst h;rfl
 · cases hx;subst h;rfl
theorem Ar {P:Program} {w:World} {sT xT ty elem:TypeId} {kx:IntKind} (hs:P.underlying sT=some (.slice elem)) (hx:P.underlying xT=some (.int kx))
 {size bytes:Nat} (fA:(P.info? elem).map (·.size)=some size) (gP:(P.info? elem).map (·.bytes)=some bytes) {z:Value} (hz:∀w,(zeroValue elem).run P w= .ok z w) (Vt:z.cells.size=size)
 {k:IntKind} {n:Int} (hn:0<n) (Km:0<size) (U6:(4*n.toNat+4096)*(bytes+1)≤1099511627776):
 ∃nc:Nat,∃C:Array Value,n.toNat≤nc∧(∃rest,C.toList=(Builtin.zeroCells z.cells n.toNat).toList++rest)∧C.size=nc*size∧
  (Builtin.append_ #[sT,xT] ty #[.slice none 0 0,.int k n]).run P w= .ok (.slice (some ⟨w.heap.size,0,none⟩) n.toNat nc) (w.drew.alloc (.cells C elem)):=by
 let nc:=(Question.appendCap (0+n.toNat) 0 elem).cut (w.tape w.drawn (.appendCap (0+n.toNat) 0 elem))
 have PY:n.toNat≤nc:=by show n.toNat≤0+n.toNat+_;omega
 let C:Array Value:= #[]++Builtin.zeroCells z.cells n.toNat++Builtin.zeroCells z.cells (nc -(0+n.toNat))
 refine ⟨nc,C,PY,⟨(Builtin.zeroCells z.cells (nc -(0+n.toNat))).toList,by simp [C]⟩,?_,?_⟩
 · simp only[C,Array.size_append,nU,Vt,Array.size_empty,Nat.zero_add]
   rw[←Nat.add_mul];congr 1;omega
 · obtain ⟨inf,HA,hb⟩:=pO gP w
   obtain ⟨aga,Qz,U5⟩:=pO gP w.drew
   have hmul:(4*n.toNat+4096)*(bytes+1)=(4*n.toNat+4096)*bytes+(4*n.toNat+4096):=by rw[Nat.mul_add,Nat.mul_one]
   have Qy:n.toNat≤1099511627776:=by omega
   have acF:IntKind.i64.wrap n=n:=by
    rw[IntKind.wrap_i64];omega
   have agb:¬n<0:=by omega
   have C8:n*(bytes:Int)=((n.toNat*bytes:Nat):Int):=by rw[Int.natCast_mul,Int.toNat_of_nonneg (by omega)]
   have hle:n.toNat*bytes≤(4*n.toNat+4096)*bytes:=Nat.mul_le_mul_right _ (by omega)
   have acG:¬n*(bytes:Int) >2^48:=by rw[C8];omega
   have ZP:¬0+n.toNat≤0:=by omega
   have ZQ:=nextslicecap_le (show 0<0+n.toNat by omega)
   have Kl:¬Builtin.nextslicecap (0+n.toNat) 0*bytes>2^48:=by
    have:Builtin.nextslicecap (0+n.toNat) 0*bytes≤(4*(0+n.toNat)+4096)*bytes:=Nat.mul_le_mul_right _ ZQ
    rw[Nat.zero_add] at this
    rw[Nat.zero_add]
    omega
   have ZR:IntKind.i64.max=9223372036854775807:=by decide
   have Fx:¬(((0+n.toNat:Nat):Int) >IntKind.i64.max):=by rw[ZR];omega
   have hns:¬n.toNat*size=0:=by
    have h1:0<n.toNat:=by omega
    have:=Nat.mul_pos h1 Km;omega
   have z1:=hz w.drew
   have hf:((!true)=true)=False:=by simp
   have hai:∀w,(asInt (.int k n)).run P w= .ok n w:=fun _=>rfl
   simp only[Builtin.append_,List.getElem?_toArray,List.getElem?_cons_zero,List.getElem?_cons_succ,Sem.run_bind,Sem.run_pure,Result.andThen_ok,run_underlying hs,run_underlying hx,eD fA,if_true,hai,acF]
   rw[if_neg agb]
   simp only[Sem.run_bind,HA,hb,Result.andThen_ok]
   rw[if_neg acG]
   simp only[Sem.run_bind,Sem.run_pure,Result.andThen_ok]
   rw[if_neg ZP]
   simp only[Sem.run_bind,Result.andThen_ok,HA,hb]
   rw[if_neg (fun h=>Fx h.1)]
   simp only[Sem.run_bind,HA,hb,Result.andThen_ok]
   rw[if_neg Kl]
   simp only[Sem.run_bind,run_choose,Question.forced,Bool.false_eq_true,if_false,World.drew_eq,Result.andThen_ok,Qz,run_askRoom,Builtin.firstCells,hf,if_neg hns,z1,newRow,run_newObj,World.alloc_eq,Sem.run_pure]
   simp only[nc,C,Nat.zero_add]
   rfl
theorem HC {φ:Ph} {h h':aw} {w:World} (ok:OK E φ h w) {argTypes:Array TypeId} {s x v:AV} (e:bR E h argTypes s x=some (v,h')) {s' x':Value} (hs:VR φ s s') (hx:VR φ x x') (ty:TypeId):
 Ki E φ h w ((Builtin.append_ argTypes ty #[s',x']).run E.P w) v h':=by
 unfold bR at e
 split at e
 · rename_i sT xT hsT hxT
   split at e
   · rename_i elem xd hus hux
     split at e
     · rename_i hint
       cases xd<;>simp [ks] at hint
       have key:(Builtin.append_ argTypes ty #[s',x']).run E.P w=(Builtin.append_ #[sT,xT] ty #[s',x']).run E.P w:=by
        unfold Builtin.append_;simp only[hsT,hxT];rfl
       rw[key]
       unfold rR at e
       split at e
       · rename_i k0 k size bytes z fA gP hzero
         split at e
         · rename_i hc
           obtain ⟨hk,Km,U6,ZM⟩:=hc
           split at e
           · rename_i h1 zz
             simp at e;obtain ⟨rfl,rfl⟩:=e
             cases hs;cases hx
             obtain ⟨z',yf,iZ⟩:=hD hzero
             have Vt:z'.cells.size=size:=by have:=(yf φ).cells.1;simp at this;omega
             obtain ⟨nc,C,PY,⟨rest,hC⟩,PV,fJ⟩:=Ar (P:=E.P) (w:=w) (ty:=ty) (k:=k0) hus hux fA (tD _ gP) iZ Vt hk Km U6
             rw[fJ]
             exact wg (n:=k.toNat) ok zz (l:=(Builtin.zeroCells z'.cells k.toNat).toList) (Kh (yf φ).cells k.toNat) fA gP hC PV PY (by rw[Array.length_toList,nU,Vt])
           · simp at e
         · simp at e
       · simp at e
     rename_i acH
     have Vs:∀k,xd≠ .int k:=fun k he=>by subst he;simp [ks] at acH
     split at e
     · rename_i size bytes n fA gP hlen
       split at e
       · rename_i new z Be hzero
         split at e
         · rename_i hc
           obtain ⟨ZM,oU,X4⟩:=hc
           obtain ⟨z',yf,iZ⟩:=hD hzero
           have Vt:z'.cells.size=size:=by have:=(yf φ).cells.1;simp at this;omega
           obtain ⟨rF,De,wh⟩:=Bc ok hx Be (.inr trivial)
           have Qy:rF.length=n*size:=by rw[←De.1];exact X4
           have key:(Builtin.append_ argTypes ty #[s',x']).run E.P w=(Builtin.append_ #[sT,xT] ty #[s',x']).run E.P w:=by
            unfold Builtin.append_;simp only[hsT,hxT];rfl
           rw[key]
           split at e
           ·
            cases hs
            split at e
            · rename_i Mz
              simp at e;obtain ⟨rfl,rfl⟩:=e
              subst Mz
              refine ⟨φ,w,_,?_,.aN,ok,Fr.refl φ h w⟩
              have ZO:(match xd with | .int _=>true | _=>false)=false:=by cases xd<;>first | rfl | exact absurd rfl (Vs _)
              have hf:((!false)=true)=True:=by simp
              have hn1:=wh w rfl
              simp only[Builtin.append_,List.getElem?_toArray,List.getElem?_cons_zero,List.getElem?_cons_succ,Sem.run_bind,Sem.run_pure,Result.andThen_ok,run_underlying hus,run_underlying hux,eD fA,hf,Bool.false_eq_true,if_false,if_true,nV hlen hx,hn1,Nat.le_refl,Nat.add_zero]
            · rename_i Mz
              split at e
              · rename_i U6
                split at e
                · rename_i h1 zz
                  simp at e;obtain ⟨rfl,rfl⟩:=e
                  obtain ⟨nc,C,PY,⟨rest,hC⟩,PV,fJ⟩:=ru (P:=E.P) (w:=w) (ty:=ty) hus hux Vs fA (tD _ gP) iZ Vt (base:=none) (len:=0) (cap:=0) (fun w=>nV hlen hx E.P w) (old:=[]) (fun w' _=>by simp [Builtin.firstCells]) (fun w' hw=>wh w' hw) (by omega) (by simpa using U6) (by simp) Qy
                  have:=wg (n:=n) ok zz (l:=[]++rF) (by simpa using De) (by simpa using fA) gP (by simpa using hC) PV (by omega) (by simp [Qy])
                  rw[fJ]
                  simp only[Nat.zero_add] at this ⊢
                  exact this
                · simp at e
              · simp at e
           · rename_i i o len cap op
             cases hs with
             | @slice _ l _ _ _ _ hφ=>
             split at e
             · rename_i cs el hg
               split at e
               ·
                rename_i acI
                split at e
                · rename_i hle
                  simp at e;obtain ⟨rfl,rfl⟩:=e
                  have ZI:cap≤gu op cap l.ic:=by unfold gu;split<;>omega
                  obtain ⟨w',ir,jI,nG⟩:=tG ok hg hφ De (o+len*size) (by rw[X4,Nat.add_assoc,←Nat.add_mul];exact hle) oU
                  refine ⟨φ,w',_,pR (P:=E.P) hus hux Vs fA (fun w=>nV hlen hx E.P w) (wh w rfl) (by omega) (by rw[Nat.add_assoc];exact ir),?_,jI,nG⟩
                  have:=VR.slice (φ:=φ) o (len+n) cap op hφ
                  exact this
                · simp at e
               · rename_i acI
                 split at e
                 · rename_i Ke
                   obtain ⟨U6,U7,pK⟩:=Ke
                   split at e
                   · rename_i h1 zz
                     simp at e;obtain ⟨rfl,rfl⟩:=e
                     obtain ⟨C0,e0,lo,hi,ZN,Vv⟩:=ok.cells hg hφ
                     obtain ⟨Vw,HD,acJ,Kn⟩:=Vv.range o (len*size) U7
                     have Vx:∀cp w',w'.heap=w.heap→(Builtin.firstCells size len (.slice (some ⟨l.dZ,l.off+o,none⟩) len cp)).run E.P w'= .ok Vw.toArray w':=fun cp w' hw=>by
                      rw[←hw] at ZN
                      have Ba:=nq (P:=E.P) ZN (l.off+o) Vw acJ
                      rw[HD] at Ba
                      simp only[Builtin.firstCells,Ba]
                     by_cases hin:len+n≤gu op cap l.ic
                     ·
                      have agc:op=true:=by
                       cases op with
                       | true=>rfl
                       | false=>simp [gu] at hin;omega
                      subst agc
                      obtain ⟨rfl,acD,ho0⟩:=pK rfl
                      simp only[gu,if_true] at hin ⊢
                      simp only[if_true] at zz
                      have E9:=Vv.size
                      simp only[fp,fA,Option.getD_some] at E9
                      have hmul:(len+n)*size≤(cap+l.ic)*size:=Nat.mul_le_mul_right _ hin
                      have e1:(len+n)*size=len*size+n*size:=Nat.add_mul _ _ _
                      have e2:(cap+l.ic)*size=cap*size+l.ic*size:=Nat.add_mul _ _ _
                      have ir:=py (P:=E.P) ZN (l.off+o+len*size) rF (by omega) (fun k k1 k2=>Vv.free rfl k (by omega) (by simp only[fp,fA,Option.getD_some];omega)) (va De oU)
                      obtain ⟨p1,p2,p3⟩:=rY rF w l.dZ (l.off+o+len*size)
                      obtain ⟨jI,nG⟩:=ok.reuse (w':=w.setCells l.dZ (l.off+o+len*size) rF) (l':=⟨l.dZ,l.off+o,cap+l.ic -(len+n)⟩) hg rfl hφ rfl zz (by
                       refine ⟨jR C0 (l.off+o+len*size) rF,e0,lo,hi,px rF ZN _,⟨?_,fun k x hk=>?_,fun _ k a b=>Vv.free rfl k (by simp at a;omega) ?_,fun h=>by cases h⟩,fun _=>⟨(Vv.shape rfl).1,by show l.off+o=0;have:=(Vv.shape rfl).2.1;omega,fun _ _ z=>by rw[gP] at z;cases z⟩⟩
                       · simp only[fp,fA,Option.getD_some,o7,List.length_append,Kn.1,HD,De.1,Qy]
                         rw[Nat.sub_mul];omega
                       · show ∃y,(jR C0 (l.off+o+len*size) rF)[l.off+o+k]? =some y∧_
                         rw[uY]
                         by_cases hk1:k<len*size
                         · rw[List.getElem?_append_left (by rw[Kn.1,HD];exact hk1)] at hk
                           obtain ⟨y,hy,hr⟩:=Kn.get hk
                           rw[if_neg (by omega)]
                           exact ⟨y,acJ k y hy,hr.mono (fun j m hm=>by
                            unfold Ph.add
                            split
                            · rename_i ej;subst ej;exact absurd (ok.Ao _ _ hm) (Nat.lt_irrefl _)
                            · exact hm)⟩
                         · rw[List.getElem?_append_right (by rw[Kn.1,HD];omega)] at hk
                           obtain ⟨y,hy,hr⟩:=De.get hk
                           have hyl:k -((List.take (len*size) (List.drop o cs)).length)<rF.length:=(List.getElem?_eq_some_iff.1 hy).1
                           rw[Kn.1,HD] at hyl hy
                           rw[if_pos (by omega)]
                           exact ⟨y,by rw[show l.off+o+k -(l.off+o+len*size)=k - len*size by omega];exact hy,hr.mono (fun j m hm=>by
                            unfold Ph.add
                            split
                            · rename_i ej;subst ej;exact absurd (ok.Ao _ _ hm) (Nat.lt_irrefl _)
                            · exact hm)⟩
                       · simp only[fp,fA,Option.getD_some,List.length_append,Kn.1,HD,De.1,Qy] at b ⊢
                         rw[Nat.sub_mul] at b;omega)
                       (fun c eu=>jS rF (Ne.symm eu) _) (size_setCells _ _ _ _) p1 p2 p3
                      refine ⟨_,_,_,pR (P:=E.P) hus hux Vs fA (fun w=>nV hlen hx E.P w) (wh w rfl) hin ir,?_,jI,nG⟩
                      have:=VR.slice (φ:=φ.add h.nx ⟨l.dZ,l.off+o,cap+l.ic -(len+n)⟩) (i:=h.nx) (l:=⟨l.dZ,l.off+o,cap+l.ic -(len+n)⟩) 0 (len+n) (len+n) true (by simp [Ph.add])
                      simp only[gu,if_true] at this
                      rw[show len+n+(cap+l.ic -(len+n))=cap+l.ic by omega] at this
                      exact this
                     ·
                      obtain ⟨nc,C,PY,⟨rest,hC⟩,PV,fJ⟩:=ru (P:=E.P) (w:=w) (ty:=ty) hus hux Vs fA (tD _ gP) iZ Vt (base:=some ⟨l.dZ,l.off+o,none⟩) (len:=len) (cap:=gu op cap l.ic) (fun w=>nV hlen hx E.P w) (old:=Vw) (fun w' hw=>Vx _ w' hw) (fun w' hw=>wh w' hw) (by omega) U6 HD Qy
                      rw[fJ]
                      have zt:=Kn.append De
                      have HB:(Vw++rF).length=(len+n)*size:=by rw[List.length_append,HD,Qy,Nat.add_mul]
                      cases op with
                      | false=>exact wg ok zz zt fA gP hC PV PY HB
                      | true=>
                        obtain ⟨φ',w',v',a1,a2,a3,a4⟩:=wg ok.kill zz zt fA gP hC PV PY HB
                        exact ⟨φ',w',v',a1,a2,a3,a4.Vu⟩
                   · simp at e
                 · simp at e
             · simp at e
           · simp at e
         · simp at e
       · simp at e
     · simp at e
   · simp at e
 · simp at e
end Go.Ab
end
section
namespace Go.Ab
variable {E:Env}
theorem Oh {φ:Ph} {h h':aw} {w:World} (ok:OK E φ h w) {argTypes:Array TypeId} {s d v:AV} (e:uy E h argTypes d s=some (v,h')) {s' d':Value} (hd:VR φ d d') (hs:VR φ s s') (ty:TypeId):
 Ki E φ h w ((Builtin.copy_ argTypes ty #[d',s']).run E.P w) v h':=by
 unfold uy at e
 split at e
 · rename_i dT hdT
   split at e
   · rename_i elem m hu hm
     split at e
     · rename_i size fA
       simp at e;obtain ⟨rfl,rfl⟩:=e
       cases hd
       refine ⟨φ,w,_,?_,.int .i64 0,ok,Fr.refl φ h w⟩
       have h0:Nat.min m 0=0:=Nat.min_eq_right (Nat.zero_le _)
       obtain ⟨rF,_,wh⟩:∃rF:List Value,True∧(Builtin.firstCells size 0 s').run E.P w= .ok rF.toArray w:=by
        cases s<;>simp [kM] at hm
        · generalize Kg:AV.str _=s0 at hs
          cases hs<;>cases Kg
          refine ⟨[],trivial,?_⟩
          simp [Builtin.firstCells]
        · cases hs;exact ⟨[],trivial,by simp [Builtin.firstCells]⟩
        · cases hs;exact ⟨[],trivial,by simp [Builtin.firstCells,loadCells,loadCellsFrom]⟩
        · cases hs;exact ⟨[],trivial,by simp [Builtin.firstCells,loadCells,loadCellsFrom]⟩
       simp only[Builtin.copy_,hdT,List.getElem?_toArray,List.getElem?_cons_zero,List.getElem?_cons_succ,Sem.run_bind,Result.andThen_ok,run_underlying hu,nV hm hs,h0,eD fA,wh,Sem.run_pure]
       rfl
     · rename_i size i o len _ _ fA
       split at e
       · rename_i new cs el Be hg
         split at e
         · rename_i hc
           simp at e;obtain ⟨rfl,rfl⟩:=e
           cases hd with
           | @slice _ l _ _ _ _ hφ=>
           obtain ⟨rF,De,wh⟩:=Bc ok hs Be (.inr trivial)
           obtain ⟨w',ir,jI,nG⟩:=tG ok hg hφ De o hc.1 hc.2
           refine ⟨φ,w',_,?_,.int .i64 _,jI,nG⟩
           have h0:Nat.min m len=min m len:=rfl
           simp only[Builtin.copy_,hdT,List.getElem?_toArray,List.getElem?_cons_zero,List.getElem?_cons_succ,Sem.run_bind,Result.andThen_ok,run_underlying hu,nV hm hs,h0,eD fA,wh w rfl,ir,Sem.run_pure]
           rfl
         · simp at e
       · simp at e
     · simp at e
   · simp at e
 · simp at e
theorem HE {w:World} {b n:Nat} {C:Array Value} {e:TypeId} (h:w.heap[b]? =some (.cells C e)):(w.freeze ⟨b,n,none⟩ 1).heap[b]? =some (.cells C e (n,n+1)):=by
 simp [World.freeze,Array.getElem?_modify,h]
theorem Fy {w:World} {b c n:Nat} (h:b≠c):(w.freeze ⟨b,n,none⟩ 1).heap[c]? =w.heap[c]? :=by
 simp [World.freeze,Array.getElem?_modify,h]
theorem HF (w:World) (b n:Nat):(w.freeze ⟨b,n,none⟩ 1).heap.size=w.heap.size:=by simp [World.freeze]
theorem Oi {φ:Ph} {h h':aw} {w:World} (ok:OK E φ h w) {src dst:TypeId} {x:AV} {v:AV} (e:DJ E h src dst (some x)=some (v,h')) {x':Value} (hx:VR φ x x'):
 Ki E φ h w ((convert src dst x').run E.P w) v h':=by
 unfold DJ at e
 split at e
 · rename_i el s hs hd C7
   simp at C7;subst C7
   generalize Kg:AV.str s=s0 at hx
   cases hx<;>cases Kg
   rename_i s'
   split at e
   · rename_i h1 he hn
     split at e
     · rename_i E9
       simp at e;obtain ⟨rfl,rfl⟩:=e
       have e1:s'.size=s'.data.toList.length:=by cases s';rfl
       let nc:=(Question.appendCap s'.size 0 el).cut (w.tape w.drawn (.appendCap s'.size 0 el))
       have PY:s'.size≤nc:=by show s'.size≤s'.size+_;omega
       let C:Array Value:=(s'.data.map fun b=>Value.int .u8 b.toNat)++Array.replicate (nc - s'.size) (.int .u8 0)
       have PV:C.size=nc:=by
        have e0:s'.size=s'.data.size:=rfl
        have:C.size=s'.data.size+(nc - s'.size):=by simp only[C,Array.size_append,Array.size_map,Array.size_replicate]
        omega
       have As:(w.drew.alloc (.cells C el)).heap=w.heap.push (.cells C el):=rfl
       have acK:(w.drew.alloc (.cells C el)).heap[w.heap.size]? =some (.cells C el):=by rw[As];simp
       obtain ⟨jI,nG,hle⟩:=ok.fresh (w':=(w.drew.alloc (.cells C el)).freeze ⟨w.heap.size,nc,none⟩ 1) hn ⟨w.heap.size,0,nc - s'.size⟩ (by
        refine ⟨C,el,nc,nc+1,HE acK,⟨?_,fun k x hk=>?_,fun _ k _ b=>?_,fun _ _ _=>rfl⟩,fun _=>⟨rfl,rfl,fun fs z=>by rw[he] at z;cases z⟩⟩
        · simp only[fp,E9,Option.getD_some,PV,List.length_map];rw[←e1];omega
        · rw[List.getElem?_map] at hk
          cases hb:s'.data.toList[k]? with
          | none=>rw[hb] at hk;simp at hk
          | some b=>
            rw[hb] at hk;simp at hk;subst hk
            have hkl:k<s'.data.toList.length:=(List.getElem?_eq_some_iff.1 hb).1
            refine ⟨.int .u8 b.toNat,?_,.int _ _⟩
            have:C[0+k]? =(s'.data.map fun b=>Value.int .u8 b.toNat)[k]? :=by
             simp only[C,Nat.zero_add];rw[Array.getElem?_append_left (by simpa using hkl)]
            show C[0+k]? =_
            rw[this]
            rw[Array.getElem?_map]
            have U5:s'.data[k]? =some b:=by simpa using hb
            rw[U5];rfl
        · simp only[fp,E9,Option.getD_some,List.length_map] at b;rw[←e1] at b;omega)
        (fun c eu hc=>by
         rw[Fy (Ne.symm eu),As,Array.getElem?_push,if_neg (by omega)]) (by rw[HF,As];simp) (Nat.le_refl _) rfl rfl rfl
       refine ⟨_,_,.slice (some ⟨w.heap.size,0,none⟩) s'.size nc,?_,?_,jI,nG⟩
       · have hsh:(w.drew.alloc (.cells C el)).shape? w.heap.size=some (el,nc):=by
          simp only[World.shape?,acK,PV]
         simp only[convert,Sem.run_bind,run_underlying hs,run_underlying hd,Result.andThen_ok,run_underlying he,Conv.stringToBytes,run_choose,Question.forced,Bool.false_eq_true,if_false,World.drew_eq,newRow,run_newObj,World.alloc_eq,Sem.run_pure,markStringish]
         rw[show (Question.appendCap s'.size 0 el).cut (w.tape w.drawn (Question.appendCap s'.size 0 el))=nc from rfl,show (Array.map (fun b=>Value.int .u8 b.toNat) s'.data++Array.replicate (nc - s'.size) (Value.int .u8 0))=C from rfl]
         simp only[World.size_drew,run_shape,hsh,Result.andThen_ok,run_freeze]
       · have:=VR.slice (φ:=φ.add h.nx ⟨w.heap.size,0,nc - s'.size⟩) (i:=h.nx) (l:=⟨w.heap.size,0,nc - s'.size⟩) 0 s'.size s'.size true (by simp [Ph.add])
         simp only[gu,if_true] at this
         rw[show s'.size+(nc - s'.size)=nc by omega] at this
         exact this
     · simp at e
   · simp at e
 · simp at e
theorem qz {φ:Ph} {v:AV} {v':Value} (hv:VR φ v v') {k':Value}:∀{es:List gO} {fX:List MapEntry} (_:Hs φ es fX) (i:Nat) (_:∀e,es[i]? =some e→VR φ e.key k'),
 Hs φ (dU es i v) (fX.modify i fun e=>{e with key:=k',val:=v'})
 | [],fX,h,i,_=>by
   cases fX with
   | nil=>simpa [dU] using h
   | cons _ _=>simp [Hs] at h
 | e::es,fX,h,i,hk=>by
   obtain ⟨hl,Dd⟩:=h
   cases fX with
   | nil=>simp at hl
   | cons y ys=>
     have h0:=Dd 0 e y (by simp) (by simp)
     have nR:Hs φ es ys:=⟨by simpa using hl,fun i a b p q=>Dd (i+1) a b (by simpa using p) (by simpa using q)⟩
     cases i with
     | zero=>
       simp only[dU,List.modify_zero_cons]
       refine ⟨by simpa using hl,fun j a b p q=>?_⟩
       cases j with
       | zero=>simp at p q;subst p;subst q;exact ⟨hk e (by simp),hv,h0.born⟩
       | succ j=>simp at p q;exact nR.2 j a b p q
     | succ i=>
       simp only[dU,List.modify_succ_cons]
       obtain ⟨g1,g2⟩:=qz hv nR i (fun e he=>hk e (by simpa using he))
       refine ⟨by simp [g1],fun j a b p q=>?_⟩
       cases j with
       | zero=>simp at p q;subst p;subst q;exact h0
       | succ j=>simp at p;exact g2 j a b p (by simpa using q)
theorem Vy (s:ByteArray):(s==s)=true:=by cases s;rename_i d;show (d==d)=true;simp
theorem Fz {φ:Ph} {k j:AV} (e:DH k j=some true) {k' j':Value} (h:VR φ k k') (h':VR φ j j'):Instr.sameBits 10000 j' k'=true∧j'=k':=by
 unfold DH at e
 split at e
 · generalize hs:AV.str _=s at h
   generalize qw:AV.str _=s' at h'
   cases h<;>cases hs
   cases h'<;>cases qw
   rename_i s s'
   simp at e
   have:s'=s:=by cases s;cases s';simp_all
   subst this
   exact ⟨by simp only[Instr.sameBits];exact Vy _,rfl⟩
 · cases h;cases h'
   split at e
   · rename_i yg
     simp at e;subst e;subst yg
     exact ⟨by simp [Instr.sameBits],rfl⟩
   · simp at e
 · cases h;cases h'
   simp at e;subst e
   exact ⟨by simp [Instr.sameBits],rfl⟩
 · simp at e
theorem r9 {φ:Ph} {h h':aw} {w:World} (ok:OK E φ h w) {t:TypeId} {m k v:AV} {m' k' v':Value} (hm:VR φ m m') (hk:VR φ k k') (hv:VR φ v v') (e:eK E h t m k v=some h'):
 ∃w',(Instr.mapUpdate t m' k' v').run E.P w= .ok () w'∧OK E φ h' w'∧Fr φ h w φ h' w':=by
 unfold eK at e
 split at e
 · rename_i key elem i hu
   cases hm with
   | @map _ l hφ=>
   split at e
   · rename_i es clock hg
     split at e
     · rename_i yg
       have Fv:∃d,E.P.underlying key=some d∧im (some d) k=true:=by
        cases hd:E.P.underlying key with
        | none=>rw[hd] at yg;simp [im] at yg
        | some d=>rw[hd] at yg;exact ⟨d,rfl,yg⟩
       obtain ⟨d,hd,yu⟩:=Fv
       have AO:=ok.live i _ l hg hφ
       obtain ⟨Hh,fX,hb,gv⟩:=AO
       have zw:(getObj l.dZ).run E.P w= .ok (.map fX clock) w:=by simp [getObj,Sem.run,hb]
       have Fu:=qy (P:=E.P) hd yu hk false 9999 w
       have pS:∀o':Obj,(setObj l.dZ o').run E.P w= .ok () {w with heap:=w.heap.setIfInBounds l.dZ o'}:=fun o'=>by simp [setObj,Sem.run,hb]
       have ZS:∀(o:aR) (o':Obj),OR E φ o l (some o')→o.rw=true→OK E φ (h.put i (some o)) {w with heap:=w.heap.setIfInBounds l.dZ o'}∧Fr φ h w φ (h.put i (some o)) {w with heap:=w.heap.setIfInBounds l.dZ o'}:=fun o o' ho Hg=>by
        have j0:l.dZ<w.heap.size:=by
         rcases Nat.lt_or_ge l.dZ w.heap.size with a | a
         · exact a
         · rw[Array.getElem?_eq_none a] at hb;simp at hb
        exact ok.change hg rfl hφ (by simp [j0];exact ho) (fun c eu=>by simp [Ne.symm eu]) (by simp) rfl rfl rfl
       split at e
       · rename_i j v0 hf
         obtain ⟨r',h1,h2⟩:=pQ yu hk gv hf
         cases r' with
         | none=>exact h2.elim
         | some q=>
         obtain ⟨j',v1⟩:=q
         obtain ⟨rfl,Dd,_,QA,u_,HG⟩:=h2
         simp at e;subst e
         obtain ⟨y,hy⟩:∃y,fX.toList[j]? =some y:=by
          have j0:j<es.length:=by simpa using (List.getElem?_eq_some_iff.1 u_).1
          exact ⟨fX.toList[j]'(by rw[←gv.1];exact j0),by simp⟩
         have Vz:=gv.2 j QA y (by simpa using u_) hy
         obtain ⟨hsb,QB⟩:=Fz HG hk Vz.key
         have QC:fX[j]? =some y:=by simpa using hy
         obtain ⟨jI,nG⟩:=ZS (.map (dU es j v) clock) (.map (fX.modify j fun e=>{e with key:=k',val:=v'}) clock) ⟨Hh,_,rfl,by
          have:=qz hv gv j (k':=k') (fun e he=>by
           have:e=QA:=by
            have h3:es[j]? =some QA:=by simpa using u_
            rw[h3] at he;simp at he;exact he.symm
           subst this;rw[←QB];exact Vz.key)
          simpa using this⟩ rfl
         refine ⟨_,?_,jI,nG⟩
         simp only[Instr.mapUpdate,Sem.run_bind,run_underlying hu,Result.andThen_ok,zw,Fu,Instr.findKey,run_underlying hd,h1,Sem.run_pure,QC,Option.map_some,Option.getD_some,Instr.keyThatStays,hsb,if_true,pS _]
       · rename_i hf
         obtain ⟨r',h1,h2⟩:=pQ yu hk gv hf
         cases r' with
         | some q=>exact h2.elim
         | none=>
         simp at e;subst e
         obtain ⟨jI,nG⟩:=ZS (.map (es++[{key:=k,val:=v,born:=clock}]) (clock+1)) (.map (fX.push {key:=k',val:=v',born:=clock}) (clock+1)) ⟨Hh,_,rfl,by
          refine ⟨by simp [gv.1],fun j a b p q=>?_⟩
          rw[Array.toList_push] at q
          by_cases hj:j<es.length
          · rw[List.getElem?_append_left hj] at p
            rw[List.getElem?_append_left (by rw[←gv.1];exact hj)] at q
            exact gv.2 j a b p q
          · rw[List.getElem?_append_right (by omega)] at p
            rw[List.getElem?_append_right (by rw[←gv.1];omega),←gv.1] at q
            cases X5:j - es.length with
            | zero=>rw[X5] at p q;simp at p q;subst p;subst q;exact ⟨hk,hv,rfl⟩
            | succ n=>rw[X5] at p;simp at p⟩ rfl
         refine ⟨_,?_,jI,nG⟩
         simp only[Instr.mapUpdate,Sem.run_bind,run_underlying hu,Result.andThen_ok,zw,Fu,Instr.findKey,run_underlying hd,h1,Sem.run_pure,pS _]
       · simp at e
     · split at e
       · rename_i yg
         have Fv:∃d,E.P.underlying key=some d∧jt E (some d) k=true:=by
          cases hd:E.P.underlying key with
          | none=>rw[hd] at yg;simp [jt] at yg
          | some d=>rw[hd] at yg;exact ⟨d,rfl,yg⟩
         obtain ⟨d,hd,yu⟩:=Fv
         have AO:=ok.live i _ l hg hφ
         obtain ⟨Hh,fX,hb,gv⟩:=AO
         have zw:(getObj l.dZ).run E.P w= .ok (.map fX clock) w:=by simp [getObj,Sem.run,hb]
         have Fu:=o9 hd yu hk false 9998 w
         have pS:∀o':Obj,(setObj l.dZ o').run E.P w= .ok () {w with heap:=w.heap.setIfInBounds l.dZ o'}:=fun o'=>by simp [setObj,Sem.run,hb]
         have ZS:∀(o:aR) (o':Obj),OR E φ o l (some o')→o.rw=true→OK E φ (h.put i (some o)) {w with heap:=w.heap.setIfInBounds l.dZ o'}∧Fr φ h w φ (h.put i (some o)) {w with heap:=w.heap.setIfInBounds l.dZ o'}:=fun o o' ho Hg=>by
          have j0:l.dZ<w.heap.size:=by
           rcases Nat.lt_or_ge l.dZ w.heap.size with a | a
           · exact a
           · rw[Array.getElem?_eq_none a] at hb;simp at hb
          exact ok.change hg rfl hφ (by simp [j0];exact ho) (fun c eu=>by simp [Ne.symm eu]) (by simp) rfl rfl rfl
         split at e
         · rename_i j v0 hf
           obtain ⟨r',h1,h2⟩:=lM hk gv hf
           cases r' with
           | none=>exact h2.elim
           | some q=>
           obtain ⟨j',v1⟩:=q
           obtain ⟨rfl,Dd,_,QA,u_,HG⟩:=h2
           simp at e;subst e
           obtain ⟨y,hy⟩:∃y,fX.toList[j]? =some y:=by
            have j0:j<es.length:=by simpa using (List.getElem?_eq_some_iff.1 u_).1
            exact ⟨fX.toList[j]'(by rw[←gv.1];exact j0),by simp⟩
           have Vz:=gv.2 j QA y (by simpa using u_) hy
           obtain ⟨hsb,QB⟩:=HG hk Vz.key
           have QC:fX[j]? =some y:=by simpa using hy
           obtain ⟨jI,nG⟩:=ZS (.map (dU es j v) clock) (.map (fX.modify j fun e=>{e with key:=k',val:=v'}) clock) ⟨Hh,_,rfl,by
            have:=qz hv gv j (k':=k') (fun e he=>by
             have:e=QA:=by
              have h3:es[j]? =some QA:=by simpa using u_
              rw[h3] at he;simp at he;exact he.symm
             subst this;rw[←QB];exact Vz.key)
            simpa using this⟩ rfl
           refine ⟨_,?_,jI,nG⟩
           simp only[Instr.mapUpdate,Sem.run_bind,run_underlying hu,Result.andThen_ok,zw,Fu,jz hd yu hk (h1 w),Sem.run_pure,QC,Option.map_some,Option.getD_some,Instr.keyThatStays,hsb,if_true,pS _]
         · rename_i hf
           obtain ⟨r',h1,h2⟩:=lM hk gv hf
           cases r' with
           | some q=>exact h2.elim
           | none=>
           simp at e;subst e
           obtain ⟨jI,nG⟩:=ZS (.map (es++[{key:=k,val:=v,born:=clock}]) (clock+1)) (.map (fX.push {key:=k',val:=v',born:=clock}) (clock+1)) ⟨Hh,_,rfl,by
            refine ⟨by simp [gv.1],fun j a b p q=>?_⟩
            rw[Array.toList_push] at q
            by_cases hj:j<es.length
            · rw[List.getElem?_append_left hj] at p
              rw[List.getElem?_append_left (by rw[←gv.1];exact hj)] at q
              exact gv.2 j a b p q
            · rw[List.getElem?_append_right (by omega)] at p
              rw[List.getElem?_append_right (by rw[←gv.1];omega),←gv.1] at q
              cases X5:j - es.length with
              | zero=>rw[X5] at p q;simp at p q;subst p;subst q;exact ⟨hk,hv,rfl⟩
              | succ n=>rw[X5] at p;simp at p⟩ rfl
           refine ⟨_,?_,jI,nG⟩
           simp only[Instr.mapUpdate,Sem.run_bind,run_underlying hu,Result.andThen_ok,zw,Fu,jz hd yu hk (h1 w),Sem.run_pure,pS _]
         · simp at e
       · simp at e
   · simp at e
 · simp at e
theorem FA {φ:Ph} {k':Value} {es:List gO} {fX:List MapEntry} (h:Hs φ es fX) (i:Nat) (hk:∀e,es[i]? =some e→VR φ e.key k'):
 Hs φ es (fX.modify i fun e=>{e with key:=k'}):=by
 obtain ⟨hl,hv⟩:=h
 refine ⟨by rw[List.length_modify];exact hl,fun j a b p q=>?_⟩
 rw[List.getElem?_modify] at q
 by_cases e:i=j
 · subst e
   cases hb:fX[i]? with
   | none=>rw[hb] at q;simp at q
   | some y=>
     rw[hb] at q;simp at q;subst q
     have r:=hv i a y p hb
     exact ⟨hk a p,r.val,r.born⟩
 · have q':fX[j]? =some b:=by simpa [e] using q
   exact hv j a b p q'
theorem wj:∀(es:List gO) (i j:Nat) (v:AV),(dU es i v)[j]? =if i=j then (es[j]?).map (fun e=>{e with val:=v}) else es[j]?
 | [],i,j,v=>by cases i<;>simp [dU]
 | e::es,0,0,v=>by simp [dU]
 | e::es,0,j+1,v=>by simp [dU]
 | e::es,i+1,0,v=>by simp [dU]
 | e::es,i+1,j+1,v=>by simp [dU,wj es i j v]
theorem ry:∀(es:List gO) (i:Nat) (v:AV),(dU es i v).length=es.length
 | [],i,v=>by cases i<;>simp [dU]
 | e::es,0,v=>by simp [dU]
 | e::es,i+1,v=>by simp [dU,ry es i v]
theorem Ko {φ:Ph} {v:AV} {v':Value} (hv:VR φ v v') {es:List gO} {fX:List MapEntry} (h:Hs φ es fX) (i:Nat):
 Hs φ (dU es i v) (fX.modify i fun e=>{e with val:=v'}):=by
 obtain ⟨hl,Dd⟩:=h
 refine ⟨by rw[List.length_modify,ry];exact hl,fun j a b p q=>?_⟩
 rw[List.getElem?_modify] at q
 rw[wj] at p
 by_cases e:i=j
 · subst e
   cases hb:fX[i]? with
   | none=>rw[hb] at q;simp at q
   | some y=>
     rw[hb] at q;simp at q;subst q
     cases ha:es[i]? with
     | none=>rw[ha] at p;simp at p
     | some x=>
       rw[ha] at p;simp at p;subst p
       have r:=Dd i x y ha hb
       exact ⟨r.key,hv,r.born⟩
 · have q':fX[j]? =some b:=by simpa [e] using q
   have p':es[j]? =some a:=by simpa [e] using p
   exact Dd j a b p' q'
theorem OK.Kp {φ:Ph} {h:aw} {w:World} (ok:OK E φ h w) {i:Nat} {es es2:List gO} {clock clock2:Nat} {Oj:Array MapEntry} {l:Loc} {O:Obj} (hg:h.get i=some (.map es clock)) (hφ:φ i=some l) (Hh:l.off=0) (hb:w.heap[l.dZ]? =some O) (he:Hs φ es2 Oj.toList):
 OK E φ (h.put i (some (.map es2 clock2))) {w with heap:=w.heap.setIfInBounds l.dZ (.map Oj clock2)}∧Fr φ h w φ (h.put i (some (.map es2 clock2))) {w with heap:=w.heap.setIfInBounds l.dZ (.map Oj clock2)}:=by
 have j0:l.dZ<w.heap.size:=by
  rcases Nat.lt_or_ge l.dZ w.heap.size with a | a
  · exact a
  · rw[Array.getElem?_eq_none a] at hb;simp at hb
 exact ok.change hg rfl hφ (by simp [j0];exact ⟨Hh,_,rfl,he⟩) (fun c eu=>by simp [Ne.symm eu]) (by simp) rfl rfl rfl
theorem Df {φ:Ph} {h h':aw} {w:World} (ok:OK E φ h w) {t:TypeId} {m k v:AV} {m' k':Value} (hm:VR φ m m') (hk:VR φ k k') (e:yi E h t m k=some (v,h')):
 Ki E φ h w ((Instr.mapEntry t m' k').run E.P w) v h':=by
 unfold yi at e
 split at e
 · rename_i key elem i hu
   cases hm with
   | @map _ l hφ=>
   split at e
   · rename_i es clock hg
     split at e
     · rename_i yg
       have Fv:∃d,E.P.underlying key=some d∧jt E (some d) k=true:=by
        cases hd:E.P.underlying key with
        | none=>rw[hd] at yg;simp [jt] at yg
        | some d=>rw[hd] at yg;exact ⟨d,rfl,yg⟩
       obtain ⟨d,hd,yu⟩:=Fv
       have AO:=ok.live i _ l hg hφ
       obtain ⟨Hh,fX,hb,gv⟩:=AO
       have zw:(getObj l.dZ).run E.P w= .ok (.map fX clock) w:=by simp [getObj,Sem.run,hb]
       have Fu:=o9 hd yu hk false 9998 w
       have pS:∀o':Obj,(setObj l.dZ o').run E.P w= .ok () {w with heap:=w.heap.setIfInBounds l.dZ o'}:=fun o'=>by simp [setObj,Sem.run,hb]
       split at e
       · rename_i j v0 hf
         obtain ⟨r',h1,h2⟩:=lM hk gv hf
         cases r' with
         | none=>exact h2.elim
         | some q=>
         obtain ⟨j',v1⟩:=q
         obtain ⟨rfl,Dd,_,QA,u_,HG⟩:=h2
         have MB:es[j]? =some QA:=by simpa using u_
         rw[MB] at e
         simp at e;obtain ⟨rfl,rfl⟩:=e
         obtain ⟨y,hy⟩:∃y,fX.toList[j]? =some y:=by
          have j0:j<es.length:=by simpa using (List.getElem?_eq_some_iff.1 MB).1
          exact ⟨fX.toList[j]'(by rw[←gv.1];exact j0),by simp⟩
         have Vz:=gv.2 j QA y MB hy
         obtain ⟨hsb,QB⟩:=HG hk Vz.key
         have QC:fX[j]? =some y:=by simpa using hy
         obtain ⟨jI,nG⟩:=ok.Kp (Oj:=fX.modify j fun e=>{e with key:=k'}) (clock2:=clock) hg hφ Hh hb (by
          have:=FA gv j (k':=k') (fun e he=>by
           have:e=QA:=by rw[MB] at he;simp at he;exact he.symm
           subst this;rw[←QB];exact Vz.key)
          simpa using this)
         refine ⟨φ,_,.tuple #[v1,goInt y.born],?_,VR.tuple' (LR.cons Dd (LR.cons (by rw[←Vz.born];exact .int _ _) (LR.nil φ))),jI,nG⟩
         simp only[Instr.mapEntry,Sem.run_bind,run_underlying hu,Result.andThen_ok,zw,Fu,jz hd yu hk (h1 w),Sem.run_pure,QC,Option.map_some,Option.getD_some,Instr.keyThatStays,hsb,if_true,pS _]
       · rename_i hf
         obtain ⟨r',h1,h2⟩:=lM hk gv hf
         cases r' with
         | some q=>exact h2.elim
         | none=>
         split at e
         · rename_i z hz
           simp at e;obtain ⟨rfl,rfl⟩:=e
           obtain ⟨z',yf,iZ⟩:=hD hz
           obtain ⟨jI,nG⟩:=ok.Kp (Oj:=fX.push {key:=k',val:=z',born:=clock}) (clock2:=clock+1) (es2:=es++[{key:=k,val:=z,born:=clock}]) hg hφ Hh hb (by
            refine ⟨by simp [gv.1],fun j a b p q=>?_⟩
            rw[Array.toList_push] at q
            by_cases hj:j<es.length
            · rw[List.getElem?_append_left hj] at p
              rw[List.getElem?_append_left (by rw[←gv.1];exact hj)] at q
              exact gv.2 j a b p q
            · rw[List.getElem?_append_right (by omega)] at p
              rw[List.getElem?_append_right (by rw[←gv.1];omega),←gv.1] at q
              cases X5:j - es.length with
              | zero=>rw[X5] at p q;simp at p q;subst p;subst q;exact ⟨hk,yf φ,rfl⟩
              | succ n=>rw[X5] at p;simp at p)
           refine ⟨φ,_,.tuple #[z',goInt clock],?_,VR.tuple' (LR.cons (yf φ) (LR.cons (.int _ _) (LR.nil φ))),jI,nG⟩
           simp only[Instr.mapEntry,Sem.run_bind,run_underlying hu,Result.andThen_ok,zw,Fu,jz hd yu hk (h1 w),Sem.run_pure,iZ,pS _]
         · simp at e
       · simp at e
     · simp at e
   · simp at e
 · simp at e
theorem Ol {φ:Ph} {es:List gO} {fX:List MapEntry} (h:Hs φ es fX) (p:Int→Bool):fX.findIdx? (fun e=>p (e.born:Int))=es.findIdx? (fun e=>p (e.born:Int)):=by
 have hm:fX.map (fun e=>(e.born:Int))=es.map (fun e=>(e.born:Int)):=by
  apply List.ext_getElem?
  intro j
  rw[List.getElem?_map,List.getElem?_map]
  by_cases hj:j<es.length
  · have h1:es[j]? =some es[j]:=by simp [hj]
    have nD:j<fX.length:=by rw[←h.1];exact hj
    have h2:fX[j]? =some fX[j]:=by simp [nD]
    rw[h1,h2,Option.map_some,Option.map_some,(h.2 j _ _ h1 h2).born]
  · rw[List.getElem?_eq_none (by rw[←h.1];omega),List.getElem?_eq_none (by omega)];rfl
 have a:=congrArg (List.findIdx? p) hm
 rw[List.findIdx?_map,List.findIdx?_map] at a
 exact a
theorem Au {φ:Ph} {h h':aw} {w:World} (ok:OK E φ h w) {t:TypeId} {m s x:AV} {m' s' x':Value} (hm:VR φ m m') (hs:VR φ s s') (hx:VR φ x x') (e:rT h m s x=some h'):
 ∃w',(Instr.entryStore t m' s' x').run E.P w= .ok () w'∧OK E φ h' w'∧Fr φ h w φ h' w':=by
 unfold rT at e
 split at e
 · rename_i i kd n
   cases hm with
   | @map _ l hφ=>
   cases hs with
   | int=>
   split at e
   · rename_i es clock hg
     split at e
     · rename_i j hj
       simp at e;subst e
       obtain ⟨Hh,fX,hb,gv⟩:=ok.live i _ l hg hφ
       have zw:(getObj l.dZ).run E.P w= .ok (.map fX clock) w:=by simp [getObj,Sem.run,hb]
       have pS:∀o':Obj,(setObj l.dZ o').run E.P w= .ok () {w with heap:=w.heap.setIfInBounds l.dZ o'}:=fun o'=>by simp [setObj,Sem.run,hb]
       have nD:fX.findIdx? (fun e=>(e.born:Int)==n)=some j:=by
        have:=Ol gv (fun b=>b==n)
        rw[hj] at this
        cases fX;rw[List.findIdx?_toArray];exact this
       obtain ⟨jI,nG⟩:=ok.Kp (Oj:=fX.modify j fun e=>{e with val:=x'}) (clock2:=clock) hg hφ Hh hb (by
        have:=Ko hx gv j
        simpa using this)
       refine ⟨_,?_,jI,nG⟩
       have e0:(Instr.entryStore t (.map (some l.dZ)) (.int kd n) x').run E.P w=(setObj l.dZ (.map (fX.modify j fun e=>{e with val:=x'}) clock)).run E.P w:=by
        have ha:(asInt (.int kd n)).run E.P w= .ok n w:=rfl
        simp only[Instr.entryStore,Sem.run_bind,Result.andThen_ok,zw,ha,Sem.run_pure,nD]
       rw[e0];exact pS _
     · simp at e
   · simp at e
 · simp at e
theorem FB {s:ByteArray} {pos:Nat} {b:UInt8} (h:s.data.toList[pos]? =some b) (hb:b.toNat<128):Utf8.decode s pos=(b.toNat,1):=by
 have hl:pos<s.size:=(List.getElem?_eq_some_iff.1 h).1
 have U5:s[pos]'hl=b:=by
  have:=(List.getElem?_eq_some_iff.1 h).2
  rw[←this];rfl
 rw[decode_ascii s pos hl (by rw[U5];exact hb),U5]
set_option linter.unusedSimpArgs false in
theorem Om {φ:Ph} {h h':aw} {w:World} (ok:OK E φ h w) {it v:AV} {b:Bool} (e:DI h it b=some (v,h')) {it':Value} (hit:VR φ it it') (ty:TypeId):
 Ki E φ h w ((Instr.next it' b ty).run E.P w) v h':=by
 unfold DI at e
 split at e
 · rename_i r
   cases hit with
   | @ptr _ l _ hφ=>
   split at e
   · rename_i s pos hg
     have AO:=ok.live r _ l hg hφ
     obtain ⟨Hh,s',hb,qw⟩:=AO
     have zw:(getObj l.dZ).run E.P w= .ok (.stringIter s' pos) w:=by simp [getObj,Sem.run,hb]
     have e1:s'.size=s.length:=by rw[←qw];cases s';rfl
     split at e
     · rename_i j0
       split at e
       · rename_i c hc
         split at e
         · rename_i agd
           simp at e;obtain ⟨rfl,rfl⟩:=e
           have pS:(setObj l.dZ (.stringIter s' (pos+1))).run E.P w= .ok () {w with heap:=w.heap.setIfInBounds l.dZ (.stringIter s' (pos+1))}:=by simp [setObj,Sem.run,hb]
           have age:l.dZ<w.heap.size:=by
            rcases Nat.lt_or_ge l.dZ w.heap.size with a | a
            · exact a
            · rw[Array.getElem?_eq_none a] at hb;simp at hb
           obtain ⟨jI,nG⟩:=ok.change (w':={w with heap:=w.heap.setIfInBounds l.dZ (.stringIter s' (pos+1))}) (o':= .uw s (pos+1)) hg rfl hφ (by simp [age];exact ⟨Hh,s',rfl,qw⟩) (fun c eu=>by simp [Array.getElem?_setIfInBounds,Ne.symm eu]) (by simp) rfl rfl rfl
           refine ⟨φ,_,.tuple #[.bool true,.int .i64 pos,.int .i32 c.toNat],?_,VR.tuple' (hZ:=[.bool true,.int .i64 pos,.int .i32 c.toNat]) (.cons (.bool true) (.cons (.int _ _) (.cons (.int _ _) (.nil φ)))),jI,nG⟩
           have agf:=FB (s:=s') (pos:=pos) (b:=c) (by rw[qw];exact hc) agd
           have h0:l.off+0=0:=by omega
           simp only[Instr.next,h0,Sem.run_bind,zw,Result.andThen_ok,e1,j0,if_true,agf,pS,Sem.run_pure,goInt]
         · simp at e
       · simp at e
     · rename_i j0
       simp at e;obtain ⟨rfl,rfl⟩:=e
       refine ⟨φ,w,.tuple #[.bool false],?_,VR.tuple' (hZ:=[.bool false]) (.cons (.bool false) (.nil φ)),ok,Fr.refl φ h w⟩
       have h0:l.off+0=0:=by omega
       simp only[Instr.next,h0,Sem.run_bind,zw,Result.andThen_ok,e1,j0,if_false,Sem.run_pure]
   · rename_i s1 s2 s3 hg
     have AO:=ok.live r _ l hg hφ
     obtain ⟨Hh,hb⟩:=AO
     have zw:(getObj l.dZ).run E.P w= .ok (.mapIter none s1 s2.toArray s3) w:=by simp [getObj,Sem.run,hb]
     simp at e;obtain ⟨rfl,rfl⟩:=e
     refine ⟨φ,w,.tuple #[.bool false],?_,VR.tuple' (hZ:=[.bool false]) (.cons (.bool false) (.nil φ)),ok,Fr.refl φ h w⟩
     have h0:l.off+0=0:=by omega
     simp only[Instr.next,h0,Sem.run_bind,zw,Result.andThen_ok,Sem.run_pure]
   · simp at e
 · simp at e
end Go.Ab
end
section
namespace Go.Ab
variable {E:Env}
def DR (φ:Ph):pw→Deferred→Prop
 | .call f args,d'=>∃cap,d'.target= .fn (.func f) cap∧LR φ args (d'.args++cap).toList
 | .Db r,d'=>∃l,φ r=some l∧d'.target= .collected l.dZ
def X6 (φ:Ph):List pw→List Deferred→Prop
 | [],[]=>True
 | d::ds,d'::yv=>DR φ d d'∧X6 φ ds yv
 | _,_=>False
theorem DR.mono {φ φ':Ph} (hle:φ.le φ') {d:pw} {d':Deferred} (h:DR φ d d'):DR φ' d d':=by
 cases d with
 | call f args=>obtain ⟨c,a,b⟩:=h;exact ⟨c,a,b.mono hle⟩
 | Db r=>obtain ⟨l,a,b⟩:=h;exact ⟨l,hle _ _ a,b⟩
theorem X6.mono {φ φ':Ph} (hle:φ.le φ'):∀{ds:List pw} {yv:List Deferred} (_:X6 φ ds yv),X6 φ' ds yv
 | [],[],_=>trivial
 | _::_,_::_,h=>⟨h.1.mono hle,X6.mono hle h.2⟩
structure SR (φ:Ph) (ts:List AV) (ds:List pw) (a:Act):Prop where
 ts:LR φ ts a.tmps.toList
 ds:X6 φ ds a.defers
theorem SR.mono {φ φ':Ph} (hle:φ.le φ') {ts:List AV} {ds:List pw} {a:Act} (h:SR φ ts ds a):SR φ' ts ds a:=⟨h.ts.mono hle,h.ds.mono hle⟩
def mV (φ:Ph) (b:Frame) (K:Bool→List Frame):RC→Prop
 | .no=>b.roundOf=none∧∀fr:Frame,fr.kind=b.kind→tryRecover fr (K false)=none
 | .gV v=>b.roundOf=none∧(∃v',VR φ v v'∧∀fr:Frame,fr.kind=b.kind→tryRecover fr (K false)=some (v',K true))∧∀fr:Frame,fr.kind=b.kind→tryRecover fr (K true)=none
 | .done=>b.roundOf=none∧∀fr:Frame,fr.kind=b.kind→tryRecover fr (K true)=none
 | .rN l=>∃ll,φ l=some ll∧b.roundOf=some ll.dZ
def cur (K:Bool→List Frame):RC→List Frame
 | .done=>K true
 | _=>K false
def RC.nW:RC→Bool
 | .rN _=>true
 | _=>false
theorem mV.mono {φ φ':Ph} (hle:φ.le φ') {b:Frame} {K:Bool→List Frame}:∀{rc:RC} (_:mV φ b K rc),mV φ' b K rc
 | .no,h=>h
 | .gV _,h=>let ⟨n,⟨v',a,b⟩,c⟩:=h;⟨n,⟨v',a.mono hle,b⟩,c⟩
 | .done,h=>h
 | .rN _,h=>let ⟨l,a,b⟩:=h;⟨l,hle _ _ a,b⟩
theorem mV.plain {φ:Ph} {b:Frame} {K:Bool→List Frame} {rc:RC} (h:mV φ b K rc) (hn:rc.nW=false):b.roundOf=none:=by
 cases rc with
 | no=>exact h.1
 | gV v=>exact h.1
 | done=>exact h.1
 | rN l=>simp [RC.nW] at hn
inductive ZT (φ:Ph):h_→Exit→Prop
 | normal:ZT φ .normal .normal
 | exit (id:Nat):ZT φ (.exit id) (.exit id)
 | ret:ZT φ .ret .ret
 | panic (v:AV) (v':Value) (h:VR φ v v'):ZT φ (.panic v) (.panic [{v:=v',recovered:=false}])
def kD (E:Env) (f:FuncId) (args:List AV) (h:aw) (v:AV) (h':aw):Prop:=
 ∀(φ:Ph) (w:World) (vs:List Value),OK E φ h w→LR φ args vs→(callFunc f vs.toArray).run E.P w= .ok (.enter f vs.toArray) w∧
  ∀cs,∃φ' w' v' fr,VR φ' v v'∧OK E φ' h' w'∧Fr φ h w φ' h' w'∧
   Steps E.P (lone (Frame.enter E.P f vs.toArray .normal) cs w) (lone fr cs w')∧fr.fn=f∧fr.leaving E.P w' (.returned v')
def MC (E:Env) (f:FuncId) (args:List AV) (h:aw) (v:AV) (h':aw):Prop:=
 ∀(φ:Ph) (w:World) (vs:List Value),OK E φ h w→LR φ args vs→(callFunc f vs.toArray).run E.P w= .ok (.enter f vs.toArray) w∧
  ∀cs,∃φ' w' v' fr,VR φ' v v'∧OK E φ' h' w'∧Fr φ h w φ' h' w'∧
   Steps E.P (lone (Frame.enter E.P f vs.toArray .normal) cs w) (lone fr cs w')∧fr.fn=f∧fr.leaving E.P w' (.panicked [{v:=v',recovered:=false}])
inductive nX (E:Env) (φ:Ph) (w:World):Fn→List Value→Next→Frame→Prop
 | fn (f:FuncId) (vs:List Value) (hr:(callFunc f vs.toArray).run E.P w= .ok (.enter f vs.toArray) w):nX E φ w (.fn f) vs (.enter f vs.toArray) (Frame.enter E.P f vs.toArray .normal)
 | uV (l:Nat) (ll:Loc) (hl:φ l=some ll) (vs:List Value) (f:FuncId) (tmps:Array Value) (assign body:Code) (hr:(Instr.yield ll.dZ vs.toArray).run E.P w= .ok (.round ll.dZ f tmps assign body) w):
  nX E φ w (.uV l) vs (.round ll.dZ f tmps assign body) (Frame.round ll.dZ f tmps assign body .normal)
def QD (φ:Ph):Fn→Prop
 | .fn _=>True
 | .uV l=>∃ll,φ l=some ll
def Kq (E:Env) (F:Fn) (args:List AV) (h:aw) (v:AV) (h':aw):Prop:=
 ∀(φ:Ph) (w:World) (vs:List Value),OK E φ h w→QD φ F→LR φ args vs→∃n start,nX E φ w F vs n start∧
  ∀c cs,∃φ' w' v',VR φ' v v'∧OK E φ' h' w'∧Fr φ h w φ' h' w'∧Steps E.P (lone start (c::cs) w) (lone (c.finish v') cs w')
def Kr (E:Env) (F:Fn) (args:List AV) (h:aw) (v:AV) (h':aw):Prop:=
 ∀(φ:Ph) (w:World) (vs:List Value),OK E φ h w→QD φ F→LR φ args vs→∃n start,nX E φ w F vs n start∧
  ∀c cs,∃φ' w' v',VR φ' v v'∧OK E φ' h' w'∧Fr φ h w φ' h' w'∧Steps E.P (lone start (c::cs) w) (lone (c.raise [{v:=v',recovered:=false}]) cs w')
theorem kD.any {f:FuncId} {args:List AV} {h:aw} {v:AV} {h':aw} (r:kD E f args h v h'):Kq E (.fn f) args h v h':=fun φ w vs ok _ hl=>by
 obtain ⟨h1,h2⟩:=r φ w vs ok hl
 refine ⟨_,_,.fn f vs h1,fun c cs=>?_⟩
 obtain ⟨φ',w',v',fr,x1,x2,x3,x4,_,x5⟩:=h2 (c::cs)
 exact ⟨φ',w',v',x1,x2,x3,x4.trans (.one (step_leave_returned x5))⟩
theorem MC.any {f:FuncId} {args:List AV} {h:aw} {v:AV} {h':aw} (r:MC E f args h v h'):Kr E (.fn f) args h v h':=fun φ w vs ok _ hl=>by
 obtain ⟨h1,h2⟩:=r φ w vs ok hl
 refine ⟨_,_,.fn f vs h1,fun c cs=>?_⟩
 obtain ⟨φ',w',v',fr,x1,x2,x3,x4,_,x5⟩:=h2 (c::cs)
 exact ⟨φ',w',v',x1,x2,x3,x4.trans (.one (step_leave_panicked x5))⟩
structure hF (E:Env) (call:bj):Prop where
 ret:∀f args h v h',call f args h= .ret v h'→Kq E f args h v h'
 panic:∀f args h v h',call f args h= .panic v h'→Kr E f args h v h'
structure j5 (E:Env):Prop where
 ext:X3 E
 ij:∀f g,E.ij f=some g→∀args h v h',g args h=some (v,h')→kD E f args h v h'
 names:∀(f:FuncId) (fn:Func),E.P.funcs[f]? =some fn→fn.name≠ "runtime.NumGoroutine"
 mixed:E.P.follows .mixedOrders=true
theorem QE {φ:Ph} {ts:List AV} {a:Act} (h:LR φ ts a.tmps.toList) (d:Option Tmp) {v:AV} {v':Value} (hv:VR φ v v'):LR φ (dJ ts d v) (a.put d v').tmps.toList:=by
 cases d with
 | none=>exact h
 | some d=>simp only[dJ,Act.put,Array.toList_setIfInBounds];exact h.set hv d
theorem put_defers (a:Act) (d:Option Tmp) (v:Value):(a.put d v).defers=a.defers:=by cases d<;>rfl
theorem SR.put {φ:Ph} {ts:List AV} {ds:List pw} {a:Act} (h:SR φ ts ds a) (d:Option Tmp) {v:AV} {v':Value} (hv:VR φ v v'):SR φ (dJ ts d v) ds (a.put d v'):=
 ⟨QE h.ts d hv,by rw[put_defers];exact h.ds⟩
theorem vb {φ:Ph} {ops:Array Oper} {ts:List AV} {a:Act} (h:LR φ ts a.tmps.toList) (o:Oper):Region.wanted o (yielded ops a.tmps)=cz ops ts o:=by
 unfold Region.wanted cz
 cases o.guard with
 | none=>rfl
 | some g=>
   obtain ⟨j,want⟩:=g
   simp only[yielded]
   cases hd:(ops[j]?).bind (·.dst) with
   | none=>simp
   | some d=>
     simp only[Option.bind_some]
     cases hx:ts[d]? with
     | none=>
       have:a.tmps[d]? =none:=by
        have h1:=List.getElem?_eq_none_iff.1 hx
        rw[h.1] at h1
        have:=List.getElem?_eq_none_iff.2 h1
        simpa using this
       simp [this]
     | some x=>
       obtain ⟨y,hy,hv⟩:=h.get hx
       have QC:a.tmps[d]? =some y:=by simpa using hy
       rw[QC]
       cases hv with
       | any _ h=>cases y<;>first | (simp;done) | cases h
       | _=>simp
section
variable {b:Frame} {a:Act} {k:List Item} {cs:List Frame} {w:World} {ops:Array Oper} {i:Nat} {rest:List Nat} {o:Oper}
theorem tH (ho:ops[i]? =some o) (v:Value):(b.atR a (.inRegion ops (i::rest)::k)).finish v=b.atR (a.put o.dst v) (.inRegion ops rest::k):=by
 rw[Frame.finish_atR,ho];rfl
theorem mq {P:Program} (kt:o.semAt b.roundOf a.eval=execOp a.eval o) (ho:ops[i]? =some o) (hw:Region.wanted o (yielded ops a.tmps)=true) {v:Value} {w':World} (hr:(execOp a.eval o).run P w= .ok (.value v) w'):
 step P (lone (b.atR a (.inRegion ops (i::rest)::k)) cs w)= .next (lone (b.atR (a.put o.dst v) (.inRegion ops rest::k)) cs w'):=by
 rw[←tH ho]
 exact step_lone_go (by rw[stepGR_op (rest:=rest) ho hw,kt];simp [stepG.apply,hr])
theorem HI {P:Program} (kt:o.semAt b.roundOf a.eval=execOp a.eval o) (ho:ops[i]? =some o) (hw:Region.wanted o (yielded ops a.tmps)=true) {w':World} (hr:(execOp a.eval o).run P w= .ok .skip w'):
 step P (lone (b.atR a (.inRegion ops (i::rest)::k)) cs w)= .next (lone (b.atR (a.put o.dst undef) (.inRegion ops rest::k)) cs w'):=by
 rw[←tH ho]
 exact step_lone_go (by rw[stepGR_op (rest:=rest) ho hw,kt];simp [stepG.apply,hr])
theorem go_enter {φ:Ph} (kt:o.semAt b.roundOf a.eval=execOp a.eval o) (ho:ops[i]? =some o) (hw:Region.wanted o (yielded ops a.tmps)=true) {F:Fn} {vs:List Value} {n:Next} {start:Frame} (hp:nX E φ w F vs n start) (hr:(execOp a.eval o).run E.P w= .ok n w):
 step E.P (lone (b.atR a (.inRegion ops (i::rest)::k)) cs w)= .next (lone start (b.atR a (.inRegion ops (i::rest)::k)::cs) w):=by
 cases hp with
 | fn f vs _=>exact step_lone_go (by rw[stepGR_op (rest:=rest) ho hw,kt];simp [stepG.apply,hr,Frame.atR])
 | uV l ll hl vs f tmps assign body _=>exact step_lone_go (by rw[stepGR_op (rest:=rest) ho hw,kt];simp [stepG.apply,hr,Frame.atR])
theorem QF {P:Program} (kt:o.semAt b.roundOf a.eval=execOp a.eval o) (ho:ops[i]? =some o) (hw:Region.wanted o (yielded ops a.tmps)=true) {v:Value} {w':World} (hr:(execOp a.eval o).run P w= .halt (.panic v) w'):
 step P (lone (b.atR a (.inRegion ops (i::rest)::k)) cs w)= .next (lone {b.atR a (.inRegion ops (i::rest)::k) with mode:= .panicking [{v,recovered:=false}]} cs w'):=by
 rw[←Frame.raise_atR]
 exact step_lone_go (by rw[stepGR_op (rest:=rest) ho hw,kt];simp [stepG.apply,hr])
theorem On {P:Program} (kt:o.semAt b.roundOf a.eval=execOp a.eval o) (ho:ops[i]? =some o) (hw:Region.wanted o (yielded ops a.tmps)=true) {d:Deferred} {w':World} (hr:(execOp a.eval o).run P w= .ok (.defer d) w'):
 step P (lone (b.atR a (.inRegion ops (i::rest)::k)) cs w)= .next (lone (b.atR ({a with defers:=d::a.defers}.put o.dst undef) (.inRegion ops rest::k)) cs w'):=by
 have:({b.atR a (.inRegion ops (i::rest)::k) with defers:=d::a.defers}:Frame).finish undef=
  b.atR ({a with defers:=d::a.defers}.put o.dst undef) (.inRegion ops rest::k):=by
  have:=Frame.finish_atR b {a with defers:=d::a.defers} ops i rest k undef
  rw[ho] at this;exact this
 refine step_lone_go ?_
 rw[stepGR_op (rest:=rest) ho hw,kt]
 simp only[stepG.apply,Sem.runT_eq,hr,GStep.bare_after]
 exact congrArg (fun fr=>GStep.go {frame:=fr,callers:=cs,status:= .running,dying:=none} w') this
theorem Kt {P:Program} (yw:b.roundOf=none) (kt:o.semAt b.roundOf a.eval=execOp a.eval o) (ho:ops[i]? =some o) (hw:Region.wanted o (yielded ops a.tmps)=true) {w':World} (hr:(execOp a.eval o).run P w= .ok .recover w') {v:Value} {hZ:List Frame}
 (ht:tryRecover (b.atR a (.inRegion ops (i::rest)::k)) cs=some (v,hZ)):
 step P (lone (b.atR a (.inRegion ops (i::rest)::k)) cs w)= .next (lone (b.atR (a.put o.dst v) (.inRegion ops rest::k)) hZ w'):=by
 rw[←tH ho]
 refine step_lone_go ?_
 rw[stepGR_op (rest:=rest) ho hw,kt]
 have QG:(b.atR a (.inRegion ops (i::rest)::k)).roundOf=none:=yw
 simp only[stepG.apply,Sem.runT_eq,if_true,hr,GStep.bare_after,QG,ht,GStep.bare_go]
theorem uA {P:Program} (yw:b.roundOf=none) (kt:o.semAt b.roundOf a.eval=execOp a.eval o) (ho:ops[i]? =some o) (hw:Region.wanted o (yielded ops a.tmps)=true) {w':World} (hr:(execOp a.eval o).run P w= .ok .recover w')
 (ht:tryRecover (b.atR a (.inRegion ops (i::rest)::k)) cs=none):
 step P (lone (b.atR a (.inRegion ops (i::rest)::k)) cs w)= .next (lone (b.atR (a.put o.dst .nilIface) (.inRegion ops rest::k)) cs w'):=by
 rw[←tH ho]
 refine step_lone_go ?_
 rw[stepGR_op (rest:=rest) ho hw,kt]
 have QG:(b.atR a (.inRegion ops (i::rest)::k)).roundOf=none:=yw
 simp only[stepG.apply,Sem.runT_eq,if_true,hr,GStep.bare_after,QG,ht,GStep.bare_go]
end
def acL (P:Program) (m:Machine) (b:Frame) (ops:Array Oper) (rest:List Nat) (k:List Item) (cs:List Frame):Exit→Act→World→Prop
 | .normal,a,w=>Steps P m (lone (b.atR a (.inRegion ops rest::k)) cs w)
 | .panic chain,a,w=>∃todo,Steps P m (lone {b.atR a todo with mode:= .panicking chain} cs w)
 | _,_,_=>False
def MD (φ:Ph):Fn→Target→List Value→List Value→Prop
 | .fn f,t,vs,all=>∃cap:List Value,t= .fn (.func f) cap.toArray∧all=vs++cap
 | .uV l,t,vs,all=>∃ll,φ l=some ll∧t= .fn (.yield ll.dZ) #[]∧all=vs
theorem MD.acM {φ:Ph} {F:Fn} {t:Target} {vs all:List Value} (h:MD φ F t vs all):QD φ F:=by
 cases F with
 | fn f=>trivial
 | uV l=>obtain ⟨ll,h,_⟩:=h;exact ⟨ll,h⟩
theorem Bf {φ:Ph} (hg:GL E φ) {ts:List AV} {a:Act} (ht:LR φ ts a.tmps.toList) {c:Call} {f:Fn} {args:List AV} (h:callee E ts c=some (f,args)) (ty:TypeId):
 ∃(t:Target) (vs all:List Value),LR φ args all∧MD φ f t vs all∧∀w,(resolve a.eval c ty).run E.P w= .ok {target:=t,args:=vs.toArray} w:=by
 unfold callee at h
 split at h
 · rename_i x hcx
   split at h
   · rename_i g first captured as_ hx has
     simp at h;obtain ⟨rfl,rfl⟩:=h
     have h1:=mT hg ht hx
     have h2:=hB hg ht has
     generalize kC:a.eval x=cv at h1
     obtain ⟨VA,hZ,rfl,hf,hc⟩:=h1.v7
     refine ⟨.fn (.func g) hZ.toList.toArray,VA.toList++c.args.toList.map a.eval,_,?_,⟨hZ.toList,rfl,rfl⟩,fun w=>?_⟩
     · rw[List.append_assoc]
       have:=(hf.append h2).append hc
       simpa [List.append_assoc] using this
     · simp [resolve,hcx,Deferred.ofValue,kC,map_toArray]
   · rename_i l as_ hx has
     simp at h;obtain ⟨rfl,rfl⟩:=h
     have h1:=mT hg ht hx
     have h2:=hB hg ht has
     generalize kC:a.eval x=cv at h1
     cases h1 with
     | yield hl=>
       refine ⟨_,c.args.toList.map a.eval,_,h2,⟨_,hl,rfl,rfl⟩,fun w=>?_⟩
       simp [resolve,hcx,Deferred.ofValue,kC,map_toArray]
   · simp at h
 · simp at h
theorem Dg {φ:Ph} {w:World} {F:Fn} {t:Target} {vs all:List Value} (ht:MD φ F t vs all) {n:Next} {start:Frame} (hp:nX E φ w F all n start):(invoke t vs.toArray).run E.P w= .ok n w:=by
 cases hp with
 | fn f qx hr=>
   obtain ⟨cap,rfl,rfl⟩:=ht
   simpa [invoke] using hr
 | uV l ll hl qx f tmps assign body hr=>
   obtain ⟨ll',U8,rfl,rfl⟩:=ht
   rw[hl] at U8;simp at U8;subst U8
   simpa [invoke] using hr
theorem qA {φ:Ph} {b:Frame} {K:Bool→List Frame} {rc:RC} (fY:mV φ b K rc) {o:Oper} (h:rc.nW=false∨∀c,o.op≠ .defer c) (ρ:Operand→Value):o.semAt b.roundOf ρ=execOp ρ o:=by
 rcases h with h | h
 · rw[fY.plain h];rfl
 · exact Oper.semAt_eq _ _ _ h
end Go.Ab
end
section
namespace Go.Ab
variable {E:Env}
theorem Bg {rc:RC} (h:∀l,rc= .rN l→False):rc.nW=false:=by
 cases rc<;>first | rfl | exact (h _ rfl).elim
theorem OK.gl {φ:Ph} {h:aw} {w:World} (ok:OK E φ h w):GL E φ:=ok.uW
inductive r_ (E:Env) (call:bj) (φ:Ph) (ts:List AV) (h:aw) (rc:RC) (o:Oper) (a:Act) (w:World):yj→Prop
 | val (v:AV) (h':aw) (φ':Ph) (w':World) (v':Value) (hv:VR φ' v v') (ok:OK E φ' h' w') (fr:Fr φ h w φ' h' w')
  (run:(execOp a.eval o).run E.P w= .ok (.value v') w'):r_ E call φ ts h rc o a w (.val v h')
 | skip (h':aw) (φ':Ph) (w':World) (ok:OK E φ' h' w') (fr:Fr φ h w φ' h' w')
  (run:(execOp a.eval o).run E.P w= .ok .skip w'):r_ E call φ ts h rc o a w (.val AV.undef h')
 | enter (v:AV) (h':aw) (F:Fn) (args:List AV) (all:List Value) (hr:Kq E F args h v h') (hf:QD φ F) (hl:LR φ args all)
  (run:∀n start,nX E φ w F all n start→(execOp a.eval o).run E.P w= .ok n w):r_ E call φ ts h rc o a w (.val v h')
 | VB (v:AV) (h':aw) (F:Fn) (args:List AV) (all:List Value) (hr:Kr E F args h v h') (hf:QD φ F) (hl:LR φ args all)
  (run:∀n start,nX E φ w F all n start→(execOp a.eval o).run E.P w= .ok n w):r_ E call φ ts h rc o a w (.panic v h')
 | defer (d:pw) (d':Deferred) (C8:rc.nW=false) (hd:DR φ d d') (run:(execOp a.eval o).run E.P w= .ok (.defer d') w):r_ E call φ ts h rc o a w (.defer d)
 | panic (v:AV) (v':Value) (hv:VR φ v v') (run:(execOp a.eval o).run E.P w= .halt (.panic v') w):r_ E call φ ts h rc o a w (.panic v h)
 | rq (v:AV) (fY:rc= .gV v) (run:(execOp a.eval o).run E.P w= .ok .recover w):r_ E call φ ts h rc o a w (.rq v)
 | QH (fY:∀v,rc≠ .gV v) (C8:rc.nW=false) (run:(execOp a.eval o).run E.P w= .ok .recover w):r_ E call φ ts h rc o a w (.val .nilIface h)
 | fail (why:String) (q:Option Oper):r_ E call φ ts h rc o a w (.fail why q)
theorem HJ {t:TypeId} {name:String} {f:FuncId} (h:vX E t name=some f) (v:Value) (w:World):(method (E.P.types.size+Made.depth) t v name).run E.P w= .ok (f,v) w:=by
 unfold vX at h
 split at h
 · rename_i i hi
   split at h
   · rename_i m hm
     split at h
     · rename_i hp
       split at h
       · simp at h
       · rename_i g d eu hf hu
         simp at h;subst h
         have Of:m.path.toList=[]:=by simpa using hp
         have e:E.P.types.size+Made.depth=(E.P.types.size+99)+1:=rfl
         rw[e,method]
         have hti:(typeInfo t).run E.P w= .ok i w:=by simp [typeInfo,hi]
         simp only[Sem.run_bind,hti,Result.andThen_ok,hm,Of,follow,Sem.run_pure,hf,receiverAt,run_underlying hu]
         cases d with
         | pointer x=>exact absurd rfl (eu x)
         | _=>simp [Place.get]
       · simp at h
     · simp at h
   · simp at h
 · simp at h
theorem sa {call:bj} {φ:Ph} {ts:List AV} {h:aw} {rc:RC} {o:Oper} {a:Act} {w:World} {s:Sem Value} {v:AV} {h':aw} (hd:Ki E φ h w (s.run E.P w) v h')
 (he:execOp a.eval o=(do pure (.value (←s)):Sem Next)):r_ E call φ ts h rc o a w (.val v h'):=by
 obtain ⟨φ',w',v',hr,hv,ok,fr⟩:=hd
 exact .val v h' φ' w' v' hv ok fr (by rw[he];exact fh hr)
set_option maxHeartbeats 1000000 in
theorem vc (hE:j5 E) {call:bj} (dp:hF E call) {φ:Ph} {ts:List AV} {h:aw} {rc:RC} {o:Oper} {a:Act} {w:World} (ht:LR φ ts a.tmps.toList) (ok:OK E φ h w):
 r_ E call φ ts h rc o a w (dm E call ts h rc o):=by
 have ev:∀{x:Operand} {v:AV},eh E ts x=some v→VR φ v (a.eval x):=fun h=>mT ok.gl ht h
 obtain ⟨dst,op,ty,pos,after,guard⟩:=o
 unfold dm
 simp only
 split
 ·
  split
  · rename_i ha hx
    split
    · rename_i h' ir
      obtain ⟨w',hr,jI,nG⟩:=Kj ok (ev ha) (ev hx) ir
      exact .skip h' φ w' jI nG (by simp [execOp,hr])
    · exact .fail _ _
  · exact .fail _ _
 ·
  split
  · rename_i hm hk hx
    split
    · rename_i h' ir
      obtain ⟨w',hr,jI,nG⟩:=r9 ok (ev hm) (ev hk) (ev hx) ir
      exact .skip h' φ w' jI nG (by simp [execOp,hr])
    · exact .fail _ _
  · exact .fail _ _
 ·
  split
  · rename_i hm hk hx
    split
    · rename_i h' ir
      obtain ⟨w',hr,jI,nG⟩:=r9 ok (ev hm) (ev hk) (ev hx) ir
      exact .skip h' φ w' jI nG (by simp [execOp,hr])
    · exact .fail _ _
  · exact .fail _ _
 ·
  split
  · rename_i hm hk
    split
    · rename_i v h' hc
      exact sa (Df ok (ev hm) (ev hk) hc) rfl
    · exact .fail _ _
  · exact .fail _ _
 ·
  rename_i tt mm bb xx
  split
  · rename_i hm hk hx
    split
    · rename_i h' ir
      obtain ⟨w',hr,jI,nG⟩:=Au (t:=tt) ok (ev hm) (ev hk) (ev hx) ir
      exact .skip h' φ w' jI nG (by simp [execOp,hr])
    · exact .fail _ _
  · exact .fail _ _
 ·
  rename_i src dst x
  split
  · rename_i v h' hc
    cases hx:eh E ts x with
    | none=>rw[hx] at hc;simp [DJ] at hc
    | some xv=>
      rw[hx] at hc
      exact sa (Oi ok hc (ev hx)) rfl
  · exact .fail _ _
 ·
  split
  · rename_i hi
    split
    · rename_i hn
      exact sa (Om ok hn (ev hi) ty) rfl
    · exact .fail _ _
  · exact .fail _ _
 ·
  split
  · rename_i hx
    have h1:=ev hx
    generalize kC:a.eval _=cv at h1
    cases h1 with
    | iface t1 v1 v' hv=>
    exact .panic _ _ (.iface _ _ v' hv) (by simp [execOp,kC,Instr.panic])
  · exact .fail _ _
 ·
  split
  · exact .fail _ _
  · rename_i f args C8 hc
    obtain ⟨t,vs,all,hl,⟨cap,rfl,rfl⟩,hr⟩:=Bf ok.gl ht hc ty
    exact .defer _ {target:= .fn (.func f) cap.toArray,args:=vs.toArray} (Bg C8) ⟨cap.toArray,rfl,by simpa using hl⟩ (by simp [execOp,hr])
  · exact .fail _ _
 ·
  rename_i c
  split
  ·
   rename_i Dh
   split
   · rename_i s x has
     have hl:=hB ok.gl ht has
     obtain ⟨s',r1,hr1,hs,hl1⟩:=hl.cf
     obtain ⟨x',r2,hr2,hx,ME⟩:=hl1.cf
     have h0:c.args.map a.eval= #[s',x']:=by rw[map_toArray,hr1,hr2,ME.fW]
     split
     · rename_i hap
       exact sa (HC ok hap hs hx ty) (by simp [execOp,resolve,Dh,invoke,builtin,h0])
     · exact .fail _ _
   · exact .fail _ _
  ·
   rename_i Dh
   split
   · rename_i s x has
     have hl:=hB ok.gl ht has
     obtain ⟨s',r1,hr1,hs,hl1⟩:=hl.cf
     obtain ⟨x',r2,hr2,hx,ME⟩:=hl1.cf
     have h0:c.args.map a.eval= #[s',x']:=by rw[map_toArray,hr1,hr2,ME.fW]
     split
     · rename_i hap
       exact sa (Oh ok hap hs hx ty) (by simp [execOp,resolve,Dh,invoke,builtin,h0])
     · exact .fail _ _
   · exact .fail _ _
  ·
   rename_i Dh
   have fJ:(execOp a.eval ⟨dst,.call c,ty,pos,after,guard⟩).run E.P w= .ok .recover w:=by simp [execOp,resolve,Dh,invoke,builtin]
   split
   · exact .rq _ rfl fJ
   · exact .fail _ _
   · rename_i eu C8
     exact .QH (fun v e=>eu v e) (Bg C8) fJ
  ·
   rename_i fo Dh
   split
   · rename_i F args hc
     obtain ⟨t,vs,all,hl,htg,hr⟩:=Bf ok.gl ht hc ty
     have fJ:∀n start,nX E φ w F all n start→(execOp a.eval ⟨dst,.call c,ty,pos,after,guard⟩).run E.P w= .ok n w:=fun n start hp=>by
      have:=Dg htg hp
      simp [execOp,hr,this]
     split
     · rename_i g hg
       split
       · rename_i v h' hgv
         cases F with
         | fn f=>exact .enter v h' (.fn f) args all (hE.ij f g hg args h v h' hgv).any trivial hl fJ
         | uV l=>simp [ju] at hg
       · exact .fail _ _
     · split
       · rename_i v h' kC
         exact .enter v h' F args all (dp.ret F args h v h' kC) htg.acM hl fJ
       · rename_i v h' kC
         exact .VB v h' F args all (dp.panic F args h v h' kC) htg.acM hl fJ
       · exact .fail _ _
   · exact .fail _ _
  ·
   rename_i r name Dh
   split
   · rename_i t x args hx has
     split
     · rename_i f hm
       have h1:=ev hx
       generalize kC:a.eval r=cv at h1
       cases h1 with
       | iface t1 v1 v' hv=>
       have hl:LR φ (x::args) (v'::c.args.toList.map a.eval):= .cons hv (hB ok.gl ht has)
       have fJ:∀n start,nX E φ w (.fn f) (v'::c.args.toList.map a.eval) n start→(execOp a.eval ⟨dst,.call c,ty,pos,after,guard⟩).run E.P w= .ok n w:=fun n start hp=>by
        cases hp with
        | fn f qx hr=>
        have e1:(#[v']++(c.args.map a.eval))=(v'::c.args.toList.map a.eval).toArray:=by rw[map_toArray];simp
        have e2:(#[Value.iface t v']++c.args.map a.eval).extract 1 (#[Value.iface t v']++c.args.map a.eval).size=c.args.map a.eval:=by
         apply Array.ext';simp
         exact List.take_of_length_le (by simp)
        have e3:(#[Value.iface t v']++c.args.map a.eval)[0]? =some (Value.iface t v'):=by rw[Array.getElem?_append];rfl
        simp only[execOp,resolve,Dh,kC,Sem.run_bind,Sem.run_pure,Result.andThen_ok,invoke,e3,e2,callMethod,run_program,HJ hm,e1,hr]
       split
       · rename_i v h' ZU
         exact .enter v h' (.fn f) _ _ (dp.ret (.fn f) _ h v h' ZU) trivial hl fJ
       · rename_i v h' ZU
         exact .VB v h' (.fn f) _ _ (dp.panic (.fn f) _ h v h' ZU) trivial hl fJ
       · exact .fail _ _
     · exact .fail _ _
   · exact .fail _ _
  · exact .fail _ _
 · exact .fail _ _
structure acN (E:Env) (φ:Ph) (h:aw) (w:World) (b:Frame) (K:Bool→List Frame) (ops:Array Oper) (rest:List Nat) (k:List Item) (m:Machine) (e:h_) (s':St):Prop where
 is:∃φ' w' a' e',ZT φ' e e'∧SR φ' s'.ts s'.ds a'∧OK E φ' s'.h w'∧Fr φ h w φ' s'.h w'∧mV φ' b K s'.rc∧acL E.P m b ops rest k (cur K s'.rc) e' a' w'
set_option maxHeartbeats 1000000 in
theorem DU (hE:j5 E) {call:bj} (dp:hF E call) {ops:Array Oper} {i:Nat} {rest:List Nat} {o:Oper} (ho:ops[i]? =some o) {s s':St} {e:h_} (pK:E6 E call s o= .ok e s')
 {φ:Ph} {a:Act} {w:World} {b:Frame} {k:List Item} {K:Bool→List Frame} (hs:SR φ s.ts s.ds a) (ok:OK E φ s.h w) (fY:mV φ b K s.rc) (hw:Region.wanted o (yielded ops a.tmps)=true):
 acN E φ s.h w b K ops rest k (lone (b.atR a (.inRegion ops (i::rest)::k)) (cur K s.rc) w) e s':=by
 have kt:(s.rc.nW=false∨∀c,o.op≠ .defer c)→o.semAt b.roundOf a.eval=execOp a.eval o:=fun h=>qA fY h _
 unfold E6 at pK
 split at pK
 · rename_i v hp
   have oW:s.rc.nW=false∨∀c,o.op≠ .defer c:= .inr (fun c e=>by rw[e] at hp;simp [bF] at hp)
   simp at pK;obtain ⟨rfl,rfl⟩:=pK
   obtain ⟨v',hv,hr⟩:=zu hE.ext ok.gl hs.ts hp
   exact ⟨φ,w,_,_,.normal,hs.put o.dst hv,ok,Fr.refl _ _ _,fY,.one (mq (kt oW) ho hw (hr w))⟩
 · split at pK
   · rename_i v hp
     have oW:s.rc.nW=false∨∀c,o.op≠ .defer c:= .inr (fun c e=>by rw[e] at hp;simp [dS] at hp)
     simp at pK;obtain ⟨rfl,rfl⟩:=pK
     obtain ⟨v',hv,hr⟩:=zy ok.gl ok hs.ts hp
     exact ⟨φ,w,_,_,.normal,hs.put o.dst hv,ok,Fr.refl _ _ _,fY,.one (mq (kt oW) ho hw (hr w rfl))⟩
   · split at pK
     · rename_i obj mk hp
       have oW:s.rc.nW=false∨∀c,o.op≠ .defer c:= .inr (fun c e=>by rw[e] at hp;simp [et] at hp)
       split at pK
       · rename_i h' hn
         simp at pK;obtain ⟨rfl,rfl⟩:=pK
         obtain ⟨O,mk',HK,hr⟩:=we ok.gl hs.ts hp
         obtain ⟨jI,nG,hle⟩:=ok.fresh (w':=w.alloc O) hn ⟨w.heap.size,0,0⟩ (by
          have:=HK.obj (φ.add s.h.nx ⟨w.heap.size,0,0⟩) w.heap.size (fun i m hm=>by
           unfold Ph.add;split
           · rename_i e;subst e;exact absurd (ok.Ao _ _ hm) (Nat.lt_irrefl _)
           · exact hm)
          rw[show (w.alloc O).heap=w.heap.push O from rfl]
          simpa using this)
          (fun c eu hc=>by rw[show (w.alloc O).heap=w.heap.push O from rfl,Array.getElem?_push,if_neg (by simpa using eu)]) (by simp) (Nat.le_refl _) rfl rfl rfl
         have hv:=HK.val (φ.add s.h.nx ⟨w.heap.size,0,0⟩) s.h.nx w.heap.size hle (by simp [Ph.add])
         exact ⟨_,_,_,_,.normal,(hs.mono hle).put o.dst hv,jI,nG,fY.mono hle,.one (mq (kt oW) ho hw (hr w))⟩
       · simp at pK
     · have sb:=vc hE dp (rc:=s.rc) (o:=o) hs.ts ok
       have oW:(∃d,dm E call s.ts s.h s.rc o= .defer d)∨(∃why q,dm E call s.ts s.h s.rc o= .fail why q)∨(s.rc.nW=false∨∀c,o.op≠ .defer c):=by
        by_cases hd:∃c,o.op= .defer c
        · obtain ⟨c,hd⟩:=hd
          unfold dm
          simp only[hd]
          split
          · exact .inr (.inl ⟨_,_,rfl⟩)
          · exact .inl ⟨_,rfl⟩
          · exact .inr (.inl ⟨_,_,rfl⟩)
        · exact .inr (.inr (.inr (fun c e=>hd ⟨c,e⟩)))
       generalize dm E call s.ts s.h s.rc o=eo at pK sb oW
       cases sb with
       | val v h' φ' w' v' hv rz fr run=>
         have oW:=(oW.resolve_left (by simp)).resolve_left (by simp)
         simp at pK;obtain ⟨rfl,rfl⟩:=pK
         exact ⟨φ',w',_,_,.normal,(hs.mono fr.ext).put o.dst hv,rz,fr,fY.mono fr.ext,.one (mq (kt oW) ho hw run)⟩
       | skip h' φ' w' rz fr run=>
         have oW:=(oW.resolve_left (by simp)).resolve_left (by simp)
         simp at pK;obtain ⟨rfl,rfl⟩:=pK
         exact ⟨φ',w',_,_,.normal,(hs.mono fr.ext).put o.dst (VR.undef φ'),rz,fr,fY.mono fr.ext,.one (HI (kt oW) ho hw run)⟩
       | enter v h' F args all hr hf hl run=>
         have oW:=(oW.resolve_left (by simp)).resolve_left (by simp)
         simp at pK;obtain ⟨rfl,rfl⟩:=pK
         obtain ⟨n,start,hp,ir⟩:=hr φ w all ok hf hl
         obtain ⟨φ',w',v',hv,rz,fr,iR⟩:=ir (b.atR a (.inRegion ops (i::rest)::k)) (cur K s.rc)
         rw[tH ho] at iR
         exact ⟨φ',w',_,_,.normal,(hs.mono fr.ext).put o.dst hv,rz,fr,fY.mono fr.ext,.head (go_enter (kt oW) ho hw hp (run n start hp)) iR⟩
       | VB v h' F args all hr hf hl run=>
         have oW:=(oW.resolve_left (by simp)).resolve_left (by simp)
         simp at pK;obtain ⟨rfl,rfl⟩:=pK
         obtain ⟨n,start,hp,ir⟩:=hr φ w all ok hf hl
         obtain ⟨φ',w',v',hv,rz,fr,iR⟩:=ir (b.atR a (.inRegion ops (i::rest)::k)) (cur K s.rc)
         rw[Frame.raise_atR] at iR
         exact ⟨φ',w',a,_,.panic v v' hv,hs.mono fr.ext,rz,fr,fY.mono fr.ext,.inRegion ops (i::rest)::k,.head (go_enter (kt oW) ho hw hp (run n start hp)) iR⟩
       | defer d d' C8 hd run=>
         simp at pK;obtain ⟨rfl,rfl⟩:=pK
         have h1:SR φ s.ts (d::s.ds) {a with defers:=d'::a.defers}:=⟨hs.ts,hd,hs.ds⟩
         exact ⟨φ,w,_,_,.normal,h1.put o.dst (VR.undef φ),ok,Fr.refl _ _ _,fY,.one (On (qA fY (.inl C8) _) ho hw run)⟩
       | panic v v' hv run=>
         have oW:=(oW.resolve_left (by simp)).resolve_left (by simp)
         simp at pK;obtain ⟨rfl,rfl⟩:=pK
         exact ⟨φ,w,a,_,.panic v v' hv,hs,ok,Fr.refl _ _ _,fY,_,.one (QF (kt oW) ho hw run)⟩
       | rq v agi run=>
         simp at pK;obtain ⟨rfl,rfl⟩:=pK
         rw[agi] at fY ⊢
         have QI:=fY.plain rfl
         have acO:=qA fY (o:=o) (.inl rfl) a.eval
         obtain ⟨_,⟨v',hv,htr⟩,acP⟩:=fY
         exact ⟨φ,w,_,_,.normal,hs.put o.dst hv,ok,Fr.refl _ _ _,⟨QI,acP⟩,.one (Kt QI acO ho hw run (htr _ rfl))⟩
       | QH eu C8 run=>
         simp at pK;obtain ⟨rfl,rfl⟩:=pK
         have E_:∀fr:Frame,fr.kind=b.kind→tryRecover fr (cur K s.rc)=none:=by
          cases FC:s.rc with
          | no=>rw[FC] at fY;exact fY.2
          | gV v=>exact absurd FC (eu v)
          | done=>rw[FC] at fY;exact fY.2
          | rN l=>rw[FC] at C8;simp [RC.nW] at C8
         exact ⟨φ,w,_,_,.normal,hs.put o.dst .nilIface,ok,Fr.refl _ _ _,fY,.one (uA (fY.plain C8) (qA fY (.inl C8) _) ho hw run (E_ _ rfl))⟩
       | fail why q=>simp at pK
end Go.Ab
end
