import Derived.Laws.BitsLemmas
import Derived.Laws.RangeString
import Derived.Defers
import Derived.AtR
import Derived.RangeFuncNested
import Derived.Test.YtfllahfbmaafcaaA1
set_option linter.unusedVariables false
set_option linter.unusedSimpArgs false
section
namespace Go.Ab
variable {E:Env}
def K6 (E:Env) (φ:Ph) (h:au) (w:World) (r:Result Value) (v:AV) (h':au):Prop:=
 ∃φ' w' v',r= .ok v' w'∧VR φ' v v'∧OK E φ' h' w'∧Fr φ h w φ' h' w'
theorem vq {φ:Ph} {vs:List AV} {qJ:List Value} (h:LR φ vs qJ) (hs:vs.all AV.scalar=true):∀v∈qJ,v.oneCell'=true:=by
 intro v hv
 obtain ⟨i,hi⟩:=List.getElem?_of_mem hv
 have hil:i<vs.length:=by rw[h.1];exact (List.getElem?_eq_some_iff.1 hi).1
 have:=h.2 i vs[i] v (by simp [hil]) hi
 exact this.scalar (List.all_eq_true.1 hs _ (List.getElem_mem hil))
theorem tS {φ:Ph} {h:au} {w:World} (ok:OK E φ h w) {i:Nat} {cs:List AV} {e:TypeId} (hg:h.get i=some (.cells cs e false)) {l:Loc} (hφ:φ i=some l)
 {vs:List AV} {qJ:List Value} (hl:LR φ vs qJ) (o:Nat) (hle:o+vs.length≤cs.length) (o7:vs.all AV.scalar=true):
 ∃w',(storeCells ⟨l.dY,l.off+o,none⟩ qJ).run E.P w= .ok () w'∧OK E φ (h.put i (some (.cells (setFrom cs o vs) e false))) w'∧
  Fr φ h w φ (h.put i (some (.cells (setFrom cs o vs) e false))) w':=by
 obtain ⟨C,e',lo,hi,hb,hc⟩:=ok.cells hg hφ
 have FN:=hc.size
 have hlen:=hl.1
 have fU:=pB (P:=E.P) hb (l.off+o) qJ (by omega) (fun k h1 h2=>hc.free rfl k (by omega) (by omega)) (vq hl o7)
 refine ⟨_,fU,?_⟩
 obtain ⟨h1,h2,h3⟩:=ss qJ w l.dY (l.off+o)
 refine ok.change hg rfl hφ ?_ (fun c dR=>j4 qJ (Ne.symm dR) _) (size_setCells _ _ _ _) h1 h2 h3
 refine ⟨j3 C (l.off+o) qJ,e',lo,hi,pA qJ hb _,⟨?_,fun k x hk=>?_,fun _ k a b=>hc.free rfl k a (by rw[lk] at b;exact b),fun h=>by cases h⟩,fun _=>by have q:=hc.shape rfl;rw[lk,pf];exact q⟩
 · rw[lk,pf];exact FN
 · rw[eu] at hk
   rw[vn]
   split at hk
   · rename_i hin
     rw[if_pos (by omega)]
     obtain ⟨y,hy,hr⟩:=hl.get hk
     exact ⟨y,by rw[show l.off+k -(l.off+o)=k - o by omega];exact hy,hr⟩
   · rename_i hin
     have hkl:k<cs.length:=(List.getElem?_eq_some_iff.1 hk).1
     rw[if_neg (by omega)]
     exact hc.val k x hk
theorem K7 {φ:Ph} {h h':au} {w:World} (ok:OK E φ h w) {t:TypeId} {av xv:AV} {a' x':Value} (ha:VR φ av a') (hx:VR φ xv x') (e:eF E h t av xv=some h'):
 ∃w',(Instr.storeAt t a' x').run E.P w= .ok () w'∧OK E φ h' w'∧Fr φ h w φ h' w':=by
 unfold eF at e
 split at e
 · rename_i i o
   cases ha with
   | @ptr _ l _ hφ=>
   split at e
   · rename_i cs el n hg hn
     split at e
     · rename_i hc
       simp at e;subst e
       obtain ⟨w',fU,jV,nV⟩:=tS ok hg hφ hx.cells o (by omega) hc.2.2
       refine ⟨w',?_,jV,nV⟩
       have hs:x'.cells.size=n:=by have:=hx.cells.1;simp at this;omega
       simp only[Instr.storeAt,Instr.sureAddr,Sem.run_bind,Sem.run_pure,Result.andThen_ok,storeVar,eB hn,hs,ne_eq,not_true_eq_false,if_false,fU]
     · simp at e
   · simp at e
 · simp at e
theorem BE {φ:Ph} {h:au} {w:World} (ok:OK E φ h w) {size n:Nat} {x:AV} {x':Value} (hx:VR φ x x') {new:List AV} (e:eR h size n x=some new) (hn:kV x=some n∨True):
 ∃rT:List Value,LR φ new rT∧∀w',w'.heap=w.heap→(Builtin.firstCells size n x').run E.P w'= .ok rT.toArray w':=by
 unfold eR at e
 split at e
 · split at e
   · rename_i h0
     simp at e;subst e
     cases hx
     exact ⟨[],LR.nil φ,fun w' _=>by simp [Builtin.firstCells]⟩
   · simp at e
 · split at e
   · rename_i h0
     simp at e;subst e
     cases hx
     exact ⟨[],LR.nil φ,fun w' _=>by subst h0;simp only[Builtin.firstCells,Nat.zero_mul];rfl⟩
   · simp at e
 · rename_i i o len _ _
   split at e
   · split at e
     · rename_i h0
       simp at e;subst e
       cases hx
       exact ⟨[],LR.nil φ,fun w' _=>by subst h0;simp only[Builtin.firstCells,Nat.zero_mul];rfl⟩
     · split at e
       · rename_i cs el ro hg
         split at e
         · rename_i hle
           simp at e;subst e
           cases hx with
           | @slice _ l _ _ _ _ hφ=>
           obtain ⟨C,e',lo,hi,hb,hc⟩:=ok.cells hg hφ
           obtain ⟨vs,hvl,DC,zH⟩:=hc.range o (n*size) hle
           refine ⟨vs,zH,fun w' hw=>?_⟩
           rw[←hw] at hb
           have BA:=nG (P:=E.P) hb (l.off+o) vs DC
           rw[hvl] at BA
           simp only[Builtin.firstCells,BA]
         · simp at e
       · simp at e
   · simp at e
 · rename_i s
   split at e
   · rename_i r_
     simp at e;subst e
     generalize K3:AV.str s=s0 at hx
     cases hx<;>cases K3
     rename_i s'
     refine ⟨(s'.data.toList.take n).map (fun b=>Value.int .u8 b.toNat),⟨by simp,fun i p q hp hq=>?_⟩,fun w' _=>?_⟩
     · rw[←List.map_take,List.getElem?_map] at hp
       rw[List.getElem?_map] at hq
       cases hb:(s'.data.toList.take n)[i]? with
       | none=>rw[hb] at hp;simp at hp
       | some b=>
         rw[hb] at hp hq
         simp at hp hq
         subst hp;subst hq
         exact .int _ _
     · simp only[Builtin.firstCells,Sem.run_pure]
       congr 1
       apply Array.ext'
       simp
   · simp at e
 · simp at e
end Go.Ab
namespace Go.Ab
variable {E:Env}
theorem OK.reuse {φ:Ph} {h h':au} {w w':World} (ok:OK E φ h w) {i:Nat} {o o':a_} {l l':Loc} (hg:h.get i=some o) (HV:o.rw=true) (hl:φ i=some l) (hb:l'.dY=l.dY)
 (hn:(h.put i none).new o'=some h') (ho:OR E (φ.add h.nx l') o' l' w'.heap[l.dY]?) (su:∀c,c≠l.dY→w'.heap[c]? =w.heap[c]?) (fI:w'.heap.size=w.heap.size)
 (hos:w'.os=w.os) (Ic:w'.tape=w.tape) (pS:w'.output=w.output):
 OK E (φ.add h.nx l') h' w'∧Fr φ h w (φ.add h.nx l') h' w':=by
 obtain ⟨ke,hnx,Bv,hold⟩:=au.lj hn
 have hpn:(h.put i none).nx=h.nx:=rfl
 rw[hpn] at hnx Bv hold
 have FP:φ h.nx=none:=by
  cases e:φ h.nx with
  | none=>rfl
  | some m=>exact absurd (ok.AO _ _ e) (Nat.lt_irrefl _)
 have hle:φ.le (φ.add h.nx l'):=fun j m hm=>by
  unfold Ph.add;split
  · rename_i e;subst e;rw[FP] at hm;simp at hm
  · exact hm
 have fZ:∀j p,h'.get j=some p→(j=h.nx∧p=o')∨(j≠h.nx∧j≠i∧h.get j=some p):=fun j p hj=>by
  by_cases e:j=h.nx
  · subst e;rw[Bv] at hj;simp at hj;exact .inl ⟨rfl,hj.symm⟩
  · rw[hold j e] at hj
    by_cases e':i=j
    · subst e';rw[au.bS] at hj;simp at hj
    · rw[au.bA e'] at hj;exact .inr ⟨e,Ne.symm e',hj⟩
 have j5:∀j,j≠h.nx→(φ.add h.nx l') j=φ j:=fun j hj=>by simp [Ph.add,hj]
 have gT:(φ.add h.nx l') h.nx=some l':=by simp [Ph.add]
 refine ⟨⟨fun j m hm=>?_,?_,fun g hg=>hle _ _ (ok.vl g hg),fun j p m hj hm=>?_,fun j k p q m n hj hk hm rR hw hbb=>?_⟩,
  ⟨hle,fun j hj=>j5 j (by omega),by omega,hos,Ic,pS,Nat.le_of_eq fI.symm,fun b _ hn'=>su b (fun e=>hn' i o l hg HV hl e.symm),fun j p m hj hr hm=>?_⟩⟩
 · rw[hnx]
   by_cases e:j=h.nx
   · omega
   · rw[j5 j e] at hm;have:=ok.AO j m hm;omega
 · have:=ok.nx;omega
 · rcases fZ j p hj with ⟨rfl,rfl⟩ | ⟨dR,FQ,nR⟩
   · rw[gT] at hm;simp at hm;subst hm;exact hb▸ho
   · rw[j5 j dR] at hm
     rw[su _ (fun e=>FQ (ok.inj j i p o m l nR hg hm hl (.inr HV) e))]
     exact (ok.live j p m nR hm).mono hle
 · rcases fZ j p hj with ⟨rfl,rfl⟩ | ⟨dR,hni,nR⟩<;>rcases fZ k q hk with ⟨rfl,rfl⟩ | ⟨FQ,agN,Ec⟩
   · rfl
   · rw[gT] at hm;simp at hm;subst hm
     rw[j5 k FQ] at rR
     exact absurd (ok.inj k i q o n l Ec hg rR hl (.inr HV) (hbb.symm.trans hb)) agN
   · rw[gT] at rR;simp at rR;subst rR
     rw[j5 j dR] at hm
     exact absurd (ok.inj j i p o m l nR hg hm hl (.inr HV) (hbb.trans hb)) hni
   · rw[j5 j dR] at hm;rw[j5 k FQ] at rR;exact ok.inj _ _ _ _ _ _ nR Ec hm rR hw hbb
 · rcases fZ j p hj with ⟨rfl,rfl⟩ | ⟨dR,hni,nR⟩
   · rw[gT] at hm;simp at hm;subst hm;exact .inr ⟨i,o,l,hg,HV,hl,hb.symm⟩
   · rw[j5 j dR] at hm;exact .inr ⟨j,p,m,nR,hr,hm,rfl⟩
theorem Eh:∀(rounds c K9:Nat),c<K9→Builtin.growBy K9 rounds c≤2*K9+1000
 | 0,c,n,h=>by simp [Builtin.growBy];omega
 | r+1,c,n,h=>by
   simp only[Builtin.growBy]
   split
   · omega
   · by_cases hc:c+(c+768) /4<n
     · exact Eh r _ n hc
     · cases r with
       | zero=>simp only[Builtin.growBy];omega
       | succ r=>simp only[Builtin.growBy];rw[if_pos (by omega)];omega
theorem nextslicecap_le {n c:Nat} (h:c<n):Builtin.nextslicecap n c≤4*n+4096:=by
 unfold Builtin.nextslicecap
 split
 · omega
 · split
   · omega
   · have:=Eh 4 c n h;omega
theorem om (z:Array Value) (n:Nat):(Builtin.zeroCells z n).size=n*z.size:=by simp [Builtin.zeroCells]
theorem rH {P:Program} {w:World} {sT xT ty elem:TypeId} {xd:TypeDesc} (hs:P.underlying sT=some (.slice elem)) (hx:P.underlying xT=some xd) (Wt:∀k,xd≠ .int k)
 {size bytes n:Nat} (fI:(P.info? elem).map (·.size)=some size) (gZ:(P.info? elem).map (·.bytes)=some bytes) {z:Value} (hz:∀w,(zeroValue elem).run P w= .ok z w) (Wu:z.cells.size=size)
 {base:Option Addr} {len cap:Nat} {x':Value} (hn:∀w,(Builtin.lenOf x').run P w= .ok n w) {old new:List Value} (hold:∀w',w'.heap=w.heap→(Builtin.firstCells size len (.slice base len cap)).run P w'= .ok old.toArray w')
 (Bv:∀w',w'.heap=w.heap→(Builtin.firstCells size n x').run P w'= .ok new.toArray w') (ke:cap<len+n) (V4:(4*(len+n)+4096)*(bytes+1)≤1099511627776) (V5:old.length=len*size) (Rc:new.length=n*size):
 ∃nc:Nat,∃C:Array Value,len+n≤nc∧(∃rest,C.toList=old++new++rest)∧C.size=nc*size∧
  (Builtin.append_ #[sT,xT] ty #[.slice base len cap,x']).run P w= .ok (.slice (some ⟨w.heap.size,0,none⟩) (len+n) nc) (w.drew.alloc (.cells C elem)):=by
 let nc:=(Question.appendCap (len+n) cap elem).cut (w.tape w.drawn (.appendCap (len+n) cap elem))
 have QH:len+n≤nc:=by show len+n≤len+n+_;omega
 let C:Array Value:=old.toArray++new.toArray++Builtin.zeroCells z.cells (nc -(len+n))
 refine ⟨nc,C,QH,⟨(Builtin.zeroCells z.cells (nc -(len+n))).toList,by simp [C]⟩,?_,?_⟩
 · simp only[C,Array.size_append,om,Wu,List.size_toArray,V5,Rc]
   rw[←Nat.add_mul,←Nat.add_mul];congr 1;omega
 · obtain ⟨inf,Il,hb⟩:=pT gZ w
   obtain ⟨agO,Re,V3⟩:=pT gZ w.drew
   have hxm:(match xd with | .int _=>true | _=>false)=false:=by cases xd<;>first | rfl | exact absurd rfl (Wt _)
   have aas:¬len+n≤cap:=by omega
   have aat:=nextslicecap_le ke
   have hmul:(4*(len+n)+4096)*(bytes+1)=(4*(len+n)+4096)*bytes+(4*(len+n)+4096):=by rw[Nat.mul_add,Nat.mul_one]
   have K_:¬Builtin.nextslicecap (len+n) cap*bytes>2^48:=by
    have:Builtin.nextslicecap (len+n) cap*bytes≤(4*(len+n)+4096)*bytes:=Nat.mul_le_mul_right _ aat
    omega
   have aau:IntKind.i64.max=9223372036854775807:=by decide
   have F1:¬(((len+n:Nat):Int) >IntKind.i64.max):=by rw[aau];omega
   have o1:=hold w.drew rfl
   have n1:=Bv w.drew rfl
   have z1:=hz w.drew
   have hf:((!false)=true)=True:=by simp
   simp only[Builtin.append_,List.getElem?_toArray,List.getElem?_cons_zero,List.getElem?_cons_succ,Sem.run_bind,Sem.run_pure,Result.andThen_ok,run_underlying hs,run_underlying hx,eB fI,Bool.false_eq_true,if_false,hn,aas,Il]
   rw[if_neg (fun h=>F1 h.1)]
   simp only[Sem.run_bind,Il,hb,Result.andThen_ok]
   rw[if_neg K_]
   simp only[Sem.run_bind,run_choose,Question.forced,Bool.false_eq_true,if_false,World.drew_eq,Result.andThen_ok,Re,run_askRoom,o1,hf,if_true,n1,z1,newRow,run_newObj,World.alloc_eq,Sem.run_pure]
   rfl
theorem pW {P:Program} {w w':World} {sT xT ty elem:TypeId} {xd:TypeDesc} (hs:P.underlying sT=some (.slice elem)) (hx:P.underlying xT=some xd) (Wt:∀k,xd≠ .int k)
 {size n:Nat} (fI:(P.info? elem).map (·.size)=some size) {b O len cap:Nat} {x':Value} (hn:∀w,(Builtin.lenOf x').run P w= .ok n w) {new:List Value}
 (Bv:(Builtin.firstCells size n x').run P w= .ok new.toArray w) (hle:len+n≤cap) (iP:(storeCells ⟨b,O+len*size,none⟩ new).run P w= .ok () w'):
 (Builtin.append_ #[sT,xT] ty #[.slice (some ⟨b,O,none⟩) len cap,x']).run P w= .ok (.slice (some ⟨b,O,none⟩) (len+n) cap) w':=by
 have hxm:(match xd with | .int _=>true | _=>false)=false:=by cases xd<;>first | rfl | exact absurd rfl (Wt _)
 have hf:((!false)=true)=True:=by simp
 simp only[Builtin.append_,List.getElem?_toArray,List.getElem?_cons_zero,List.getElem?_cons_succ,Sem.run_bind,Sem.run_pure,Result.andThen_ok,run_underlying hs,run_underlying hx,eB fI,hf,Bool.false_eq_true,if_false,if_true,hn,hle,Bv,tQ,iP]
theorem wy {φ:Ph} {h h':au} {w:World} (ok:OK E φ h w) {new:List AV} {elem:TypeId} (hn:h.new (.cells new elem false)=some h') {l:List Value} (hl:LR φ new l)
 {size nc n bytes:Nat} (fI:b7 E elem=some size) (gZ:fh E elem=some bytes) {C:Array Value} {rest:List Value} (hC:C.toList=l++rest) (QD:C.size=nc*size) (QH:n≤nc) (F2:l.length=n*size):
 K6 E φ h w (.ok (.slice (some ⟨w.heap.size,0,none⟩) n nc) (w.drew.alloc (.cells C elem))) (.slice h.nx 0 n n true) h':=by
 have Rc:new.length=n*size:=by rw[hl.1,F2]
 obtain ⟨jV,nV,hle⟩:=ok.fresh (w':=w.drew.alloc (.cells C elem)) hn ⟨w.heap.size,0,nc - n⟩ (by
  refine ⟨C,elem,0,0,by rw[show (w.drew.alloc (.cells C elem)).heap=w.heap.push (.cells C elem) from rfl];simp,⟨?_,fun k x hk=>?_,fun _ k _ _=>by omega,fun _ _ _=>rfl⟩,fun _=>⟨rfl,rfl,fun _ _ z=>by rw[gZ] at z;cases z⟩⟩
  · simp only[ft,fI,Option.getD_some,Rc,QD,Nat.zero_add]
    rw[←Nat.add_mul];exact Nat.mul_le_mul_right _ (by omega)
  · obtain ⟨y,hy,hr⟩:=hl.get hk
    have hkl:k<l.length:=(List.getElem?_eq_some_iff.1 hy).1
    refine ⟨y,?_,hr.mono (fun i m hm=>?_)⟩
    · have:C.toList[k]? =some y:=by rw[hC,List.getElem?_append_left hkl];exact hy
      simpa using this
    · unfold Ph.add
      split
      · rename_i e;subst e;exact absurd (ok.AO _ _ hm) (Nat.lt_irrefl _)
      · exact hm)
  (fun c dR hc=>by
   have:(w.drew.alloc (.cells C elem)).heap[c]? =w.heap[c]? :=by
    rw[show (w.drew.alloc (.cells C elem)).heap=w.heap.push (.cells C elem) from rfl,Array.getElem?_push,if_neg (by simpa using dR)]
   exact this) (by simp) (Nat.le_refl _) rfl rfl rfl
 refine ⟨_,_,_,rfl,?_,jV,nV⟩
 have:=VR.slice (φ:=φ.add h.nx ⟨w.heap.size,0,nc - n⟩) (i:=h.nx) (l:=⟨w.heap.size,0,nc - n⟩) 0 n n true (by simp [Ph.add])
 simp only[gJ,if_true] at this
 rw[show n+(nc - n)=nc by omega] at this
 exact this
theorem Fr.Wv {φ φ':Ph} {h h':au} {w w':World} {i:Nat} (f:Fr φ (h.put i none) w φ' h' w'):Fr φ h w φ' h' w':=by
 have fZ:∀j p,(h.put i none).get j=some p→h.get j=some p:=fun j p hj=>by
  by_cases e:i=j
  · subst e;rw[au.bS] at hj;simp at hj
  · rw[au.bA e] at hj;exact hj
 exact ⟨f.ext,f.old,f.nx,f.os,f.tape,f.output,f.size,fun b hb hn=>f.wo b hb (fun j p m hj=>hn j p m (fZ j p hj)),
  fun j p m hj hr hm=>(f.own j p m hj hr hm).imp id (fun ⟨k,q,n,a,b⟩=>⟨k,q,n,fZ k q a,b⟩)⟩
theorem oo {φ:Ph} {x:AV} {n:Nat} (h:kV x=some n) {x':Value} (hx:VR φ x x') (P:Program) (w:World):(Builtin.lenOf x').run P w= .ok n w:=by
 cases x<;>simp [kV] at h
 · subst h
   generalize K3:AV.str _=s0 at hx
   cases hx<;>cases K3
   rfl
 · cases hx;subst h;rfl
 · cases hx;subst h;rfl
 · cases hx;subst h;rfl
theorem AQ {P:Program} {w:World} {sT xT ty elem:TypeId} {kx:IntKind} (hs:P.underlying sT=some (.slice elem)) (hx:P.underlying xT=some (.int kx))
 {size bytes:Nat} (fI:(P.info? elem).map (·.size)=some size) (gZ:(P.info? elem).map (·.bytes)=some bytes) {z:Value} (hz:∀w,(zeroValue elem).run P w= .ok z w) (Wu:z.cells.size=size)
 {k:IntKind} {n:Int} (hn:0<n) (La:0<size) (V4:(4*n.toNat+4096)*(bytes+1)≤1099511627776):
 ∃nc:Nat,∃C:Array Value,n.toNat≤nc∧(∃rest,C.toList=(Builtin.zeroCells z.cells n.toNat).toList++rest)∧C.size=nc*size∧
  (Builtin.append_ #[sT,xT] ty #[.slice none 0 0,.int k n]).run P w= .ok (.slice (some ⟨w.heap.size,0,none⟩) n.toNat nc) (w.drew.alloc (.cells C elem)):=by
 let nc:=(Question.appendCap (0+n.toNat) 0 elem).cut (w.tape w.drawn (.appendCap (0+n.toNat) 0 elem))
 have QH:n.toNat≤nc:=by show n.toNat≤0+n.toNat+_;omega
 let C:Array Value:= #[]++Builtin.zeroCells z.cells n.toNat++Builtin.zeroCells z.cells (nc -(0+n.toNat))
 refine ⟨nc,C,QH,⟨(Builtin.zeroCells z.cells (nc -(0+n.toNat))).toList,by simp [C]⟩,?_,?_⟩
 · simp only[C,Array.size_append,om,Wu,Array.size_empty,Nat.zero_add]
   rw[←Nat.add_mul];congr 1;omega
 · obtain ⟨inf,Il,hb⟩:=pT gZ w
   obtain ⟨agO,Re,V3⟩:=pT gZ w.drew
   have hmul:(4*n.toNat+4096)*(bytes+1)=(4*n.toNat+4096)*bytes+(4*n.toNat+4096):=by rw[Nat.mul_add,Nat.mul_one]
   have Rc:n.toNat≤1099511627776:=by omega
   have adj:IntKind.i64.wrap n=n:=by
    rw[IntKind.wrap_i64];omega
   have agP:¬n<0:=by omega
   have Dy:n*(bytes:Int)=((n.toNat*bytes:Nat):Int):=by rw[Int.natCast_mul,Int.toNat_of_nonneg (by omega)]
   have hle:n.toNat*bytes≤(4*n.toNat+4096)*bytes:=Nat.mul_le_mul_right _ (by omega)
   have adk:¬n*(bytes:Int) >2^48:=by rw[Dy];omega
   have aas:¬0+n.toNat≤0:=by omega
   have aat:=nextslicecap_le (show 0<0+n.toNat by omega)
   have K_:¬Builtin.nextslicecap (0+n.toNat) 0*bytes>2^48:=by
    have:Builtin.nextslicecap (0+n.toNat) 0*bytes≤(4*(0+n.toNat)+4096)*bytes:=Nat.mul_le_mul_right _ aat
    rw[Nat.zero_add] at this
    rw[Nat.zero_add]
    omega
   have aau:IntKind.i64.max=9223372036854775807:=by decide
   have F1:¬(((0+n.toNat:Nat):Int) >IntKind.i64.max):=by rw[aau];omega
   have hns:¬n.toNat*size=0:=by
    have h1:0<n.toNat:=by omega
    have:=Nat.mul_pos h1 La;omega
   have z1:=hz w.drew
   have hf:((!true)=true)=False:=by simp
   have hai:∀w,(asInt (.int k n)).run P w= .ok n w:=fun _=>rfl
   simp only[Builtin.append_,List.getElem?_toArray,List.getElem?_cons_zero,List.getElem?_cons_succ,Sem.run_bind,Sem.run_pure,Result.andThen_ok,run_underlying hs,run_underlying hx,eB fI,if_true,hai,adj]
   rw[if_neg agP]
   simp only[Sem.run_bind,Il,hb,Result.andThen_ok]
   rw[if_neg adk]
   simp only[Sem.run_bind,Sem.run_pure,Result.andThen_ok]
   rw[if_neg aas]
   simp only[Sem.run_bind,Result.andThen_ok,Il,hb]
   rw[if_neg (fun h=>F1 h.1)]
   simp only[Sem.run_bind,Il,hb,Result.andThen_ok]
   rw[if_neg K_]
   simp only[Sem.run_bind,run_choose,Question.forced,Bool.false_eq_true,if_false,World.drew_eq,Result.andThen_ok,Re,run_askRoom,Builtin.firstCells,hf,if_neg hns,z1,newRow,run_newObj,World.alloc_eq,Sem.run_pure]
   simp only[nc,C,Nat.zero_add]
   rfl
theorem Im {φ:Ph} {h h':au} {w:World} (ok:OK E φ h w) {argTypes:Array TypeId} {s x v:AV} (e:bU E h argTypes s x=some (v,h')) {s' x':Value} (hs:VR φ s s') (hx:VR φ x x') (ty:TypeId):
 K6 E φ h w ((Builtin.append_ argTypes ty #[s',x']).run E.P w) v h':=by
 unfold bU at e
 split at e
 · rename_i sT xT hsT hxT
   split at e
   · rename_i elem xd hus hux
     split at e
     · rename_i hint
       cases xd<;>simp [kB] at hint
       have key:(Builtin.append_ argTypes ty #[s',x']).run E.P w=(Builtin.append_ #[sT,xT] ty #[s',x']).run E.P w:=by
        unfold Builtin.append_;simp only[hsT,hxT];rfl
       rw[key]
       unfold se at e
       split at e
       · rename_i k0 k size bytes z fI gZ hzero
         split at e
         · rename_i hc
           obtain ⟨hk,La,V4,hzl⟩:=hc
           split at e
           · rename_i h1 zN
             simp at e;obtain ⟨rfl,rfl⟩:=e
             cases hs;cases hx
             obtain ⟨z',yq,js⟩:=ib hzero
             have Wu:z'.cells.size=size:=by have:=(yq φ).cells.1;simp at this;omega
             obtain ⟨nc,C,QH,⟨rest,hC⟩,QD,fU⟩:=AQ (P:=E.P) (w:=w) (ty:=ty) (k:=k0) hus hux fI (tP _ gZ) js Wu hk La V4
             rw[fU]
             exact wy (n:=k.toNat) ok zN (l:=(Builtin.zeroCells z'.cells k.toNat).toList) (K4 (yq φ).cells k.toNat) fI gZ hC QD QH (by rw[Array.length_toList,om,Wu])
           · simp at e
         · simp at e
       · simp at e
     rename_i adl
     have Wt:∀k,xd≠ .int k:=fun k he=>by subst he;simp [kB] at adl
     split at e
     · rename_i size bytes n fI gZ hlen
       split at e
       · rename_i new z BF hzero
         split at e
         · rename_i hc
           obtain ⟨hzl,o7,Y3⟩:=hc
           obtain ⟨z',yq,js⟩:=ib hzero
           have Wu:z'.cells.size=size:=by have:=(yq φ).cells.1;simp at this;omega
           obtain ⟨rT,DD,wz⟩:=BE ok hx BF (.inr trivial)
           have Rc:rT.length=n*size:=by rw[←DD.1];exact Y3
           have key:(Builtin.append_ argTypes ty #[s',x']).run E.P w=(Builtin.append_ #[sT,xT] ty #[s',x']).run E.P w:=by
            unfold Builtin.append_;simp only[hsT,hxT];rfl
           rw[key]
           split at e
           ·
            cases hs
            split at e
            · rename_i M9
              simp at e;obtain ⟨rfl,rfl⟩:=e
              subst M9
              refine ⟨φ,w,_,?_,.aQ,ok,Fr.refl φ h w⟩
              have hxm:(match xd with | .int _=>true | _=>false)=false:=by cases xd<;>first | rfl | exact absurd rfl (Wt _)
              have hf:((!false)=true)=True:=by simp
              have hn1:=wz w rfl
              simp only[Builtin.append_,List.getElem?_toArray,List.getElem?_cons_zero,List.getElem?_cons_succ,Sem.run_bind,Sem.run_pure,Result.andThen_ok,run_underlying hus,run_underlying hux,eB fI,hf,Bool.false_eq_true,if_false,if_true,oo hlen hx,hn1,Nat.le_refl,Nat.add_zero]
            · rename_i M9
              split at e
              · rename_i V4
                split at e
                · rename_i h1 zN
                  simp at e;obtain ⟨rfl,rfl⟩:=e
                  obtain ⟨nc,C,QH,⟨rest,hC⟩,QD,fU⟩:=rH (P:=E.P) (w:=w) (ty:=ty) hus hux Wt fI (tP _ gZ) js Wu (base:=none) (len:=0) (cap:=0) (fun w=>oo hlen hx E.P w) (old:=[]) (fun w' _=>by simp [Builtin.firstCells]) (fun w' hw=>wz w' hw) (by omega) (by simpa using V4) (by simp) Rc
                  have:=wy (n:=n) ok zN (l:=[]++rT) (by simpa using DD) (by simpa using fI) gZ (by simpa using hC) QD (by omega) (by simp [Rc])
                  rw[fU]
                  simp only[Nat.zero_add] at this ⊢
                  exact this
                · simp at e
              · simp at e
           · rename_i i o len cap op
             cases hs with
             | @slice _ l _ _ _ _ hφ=>
             split at e
             · rename_i cs el hg
               split at e
               ·
                rename_i adm
                split at e
                · rename_i hle
                  simp at e;obtain ⟨rfl,rfl⟩:=e
                  have hcc:cap≤gJ op cap l.iy:=by unfold gJ;split<;>omega
                  obtain ⟨w',iP,jV,nV⟩:=tS ok hg hφ DD (o+len*size) (by rw[Y3,Nat.add_assoc,←Nat.add_mul];exact hle) o7
                  refine ⟨φ,w',_,pW (P:=E.P) hus hux Wt fI (fun w=>oo hlen hx E.P w) (wz w rfl) (by omega) (by rw[Nat.add_assoc];exact iP),?_,jV,nV⟩
                  have:=VR.slice (φ:=φ) o (len+n) cap op hφ
                  exact this
                · simp at e
               · rename_i adm
                 split at e
                 · rename_i K0
                   obtain ⟨V4,V5,pQ⟩:=K0
                   split at e
                   · rename_i h1 zN
                     simp at e;obtain ⟨rfl,rfl⟩:=e
                     obtain ⟨C0,e0,lo,hi,QG,QI⟩:=ok.cells hg hφ
                     obtain ⟨Ww,Io,adn,Lb⟩:=QI.range o (len*size) V5
                     have Wx:∀cp w',w'.heap=w.heap→(Builtin.firstCells size len (.slice (some ⟨l.dY,l.off+o,none⟩) len cp)).run E.P w'= .ok Ww.toArray w':=fun cp w' hw=>by
                      rw[←hw] at QG
                      have BA:=nG (P:=E.P) QG (l.off+o) Ww adn
                      rw[Io] at BA
                      simp only[Builtin.firstCells,BA]
                     by_cases hin:len+n≤gJ op cap l.iy
                     ·
                      have agQ:op=true:=by
                       cases op with
                       | true=>rfl
                       | false=>simp [gJ] at hin;omega
                      subst agQ
                      obtain ⟨rfl,adh,ho0⟩:=pQ rfl
                      simp only[gJ,if_true] at hin ⊢
                      simp only[if_true] at zN
                      have FN:=QI.size
                      simp only[ft,fI,Option.getD_some] at FN
                      have hmul:(len+n)*size≤(cap+l.iy)*size:=Nat.mul_le_mul_right _ hin
                      have e1:(len+n)*size=len*size+n*size:=Nat.add_mul _ _ _
                      have e2:(cap+l.iy)*size=cap*size+l.iy*size:=Nat.add_mul _ _ _
                      have iP:=pB (P:=E.P) QG (l.off+o+len*size) rT (by omega) (fun k k1 k2=>QI.free rfl k (by omega) (by simp only[ft,fI,Option.getD_some];omega)) (vq DD o7)
                      obtain ⟨p1,p2,p3⟩:=ss rT w l.dY (l.off+o+len*size)
                      obtain ⟨jV,nV⟩:=ok.reuse (w':=w.setCells l.dY (l.off+o+len*size) rT) (l':=⟨l.dY,l.off+o,cap+l.iy -(len+n)⟩) hg rfl hφ rfl zN (by
                       refine ⟨j3 C0 (l.off+o+len*size) rT,e0,lo,hi,pA rT QG _,⟨?_,fun k x hk=>?_,fun _ k a b=>QI.free rfl k (by simp at a;omega) ?_,fun h=>by cases h⟩,fun _=>⟨(QI.shape rfl).1,by show l.off+o=0;have:=(QI.shape rfl).2.1;omega,fun _ _ z=>by rw[gZ] at z;cases z⟩⟩
                       · simp only[ft,fI,Option.getD_some,pf,List.length_append,Lb.1,Io,DD.1,Rc]
                         rw[Nat.sub_mul];omega
                       · show ∃y,(j3 C0 (l.off+o+len*size) rT)[l.off+o+k]? =some y∧_
                         rw[vn]
                         by_cases hk1:k<len*size
                         · rw[List.getElem?_append_left (by rw[Lb.1,Io];exact hk1)] at hk
                           obtain ⟨y,hy,hr⟩:=Lb.get hk
                           rw[if_neg (by omega)]
                           exact ⟨y,adn k y hy,hr.mono (fun j m hm=>by
                            unfold Ph.add
                            split
                            · rename_i ej;subst ej;exact absurd (ok.AO _ _ hm) (Nat.lt_irrefl _)
                            · exact hm)⟩
                         · rw[List.getElem?_append_right (by rw[Lb.1,Io];omega)] at hk
                           obtain ⟨y,hy,hr⟩:=DD.get hk
                           have hyl:k -((List.take (len*size) (List.drop o cs)).length)<rT.length:=(List.getElem?_eq_some_iff.1 hy).1
                           rw[Lb.1,Io] at hyl hy
                           rw[if_pos (by omega)]
                           exact ⟨y,by rw[show l.off+o+k -(l.off+o+len*size)=k - len*size by omega];exact hy,hr.mono (fun j m hm=>by
                            unfold Ph.add
                            split
                            · rename_i ej;subst ej;exact absurd (ok.AO _ _ hm) (Nat.lt_irrefl _)
                            · exact hm)⟩
                       · simp only[ft,fI,Option.getD_some,List.length_append,Lb.1,Io,DD.1,Rc] at b ⊢
                         rw[Nat.sub_mul] at b;omega)
                       (fun c dR=>j4 rT (Ne.symm dR) _) (size_setCells _ _ _ _) p1 p2 p3
                      refine ⟨_,_,_,pW (P:=E.P) hus hux Wt fI (fun w=>oo hlen hx E.P w) (wz w rfl) hin iP,?_,jV,nV⟩
                      have:=VR.slice (φ:=φ.add h.nx ⟨l.dY,l.off+o,cap+l.iy -(len+n)⟩) (i:=h.nx) (l:=⟨l.dY,l.off+o,cap+l.iy -(len+n)⟩) 0 (len+n) (len+n) true (by simp [Ph.add])
                      simp only[gJ,if_true] at this
                      rw[show len+n+(cap+l.iy -(len+n))=cap+l.iy by omega] at this
                      exact this
                     ·
                      obtain ⟨nc,C,QH,⟨rest,hC⟩,QD,fU⟩:=rH (P:=E.P) (w:=w) (ty:=ty) hus hux Wt fI (tP _ gZ) js Wu (base:=some ⟨l.dY,l.off+o,none⟩) (len:=len) (cap:=gJ op cap l.iy) (fun w=>oo hlen hx E.P w) (old:=Ww) (fun w' hw=>Wx _ w' hw) (fun w' hw=>wz w' hw) (by omega) V4 Io Rc
                      rw[fU]
                      have zH:=Lb.append DD
                      have F2:(Ww++rT).length=(len+n)*size:=by rw[List.length_append,Io,Rc,Nat.add_mul]
                      cases op with
                      | false=>exact wy ok zN zH fI gZ hC QD QH F2
                      | true=>
                        obtain ⟨φ',w',v',a1,a2,a3,a4⟩:=wy ok.kill zN zH fI gZ hC QD QH F2
                        exact ⟨φ',w',v',a1,a2,a3,a4.Wv⟩
                   · simp at e
                 · simp at e
             · simp at e
           · simp at e
         · simp at e
       · simp at e
     · simp at e
   · simp at e
 · simp at e
end Go.Ab
end
section
namespace Go.Ab
variable {E:Env}
theorem OO {φ:Ph} {h h':au} {w:World} (ok:OK E φ h w) {argTypes:Array TypeId} {s d v:AV} (e:uM E h argTypes d s=some (v,h')) {s' d':Value} (hd:VR φ d d') (hs:VR φ s s') (ty:TypeId):
 K6 E φ h w ((Builtin.copy_ argTypes ty #[d',s']).run E.P w) v h':=by
 unfold uM at e
 split at e
 · rename_i dT hdT
   split at e
   · rename_i elem m hu hm
     split at e
     · rename_i size fI
       simp at e;obtain ⟨rfl,rfl⟩:=e
       cases hd
       refine ⟨φ,w,_,?_,.int .i64 0,ok,Fr.refl φ h w⟩
       have h0:Nat.min m 0=0:=Nat.min_eq_right (Nat.zero_le _)
       obtain ⟨rT,_,wz⟩:∃rT:List Value,True∧(Builtin.firstCells size 0 s').run E.P w= .ok rT.toArray w:=by
        cases s<;>simp [kV] at hm
        · generalize K3:AV.str _=s0 at hs
          cases hs<;>cases K3
          refine ⟨[],trivial,?_⟩
          simp [Builtin.firstCells]
        · cases hs;exact ⟨[],trivial,by simp [Builtin.firstCells]⟩
        · cases hs;exact ⟨[],trivial,by simp [Builtin.firstCells,loadCells,loadCellsFrom]⟩
        · cases hs;exact ⟨[],trivial,by simp [Builtin.firstCells,loadCells,loadCellsFrom]⟩
       simp only[Builtin.copy_,hdT,List.getElem?_toArray,List.getElem?_cons_zero,List.getElem?_cons_succ,Sem.run_bind,Result.andThen_ok,run_underlying hu,oo hm hs,h0,eB fI,wz,Sem.run_pure]
       rfl
     · rename_i size i o len _ _ fI
       split at e
       · rename_i new cs el BF hg
         split at e
         · rename_i hc
           simp at e;obtain ⟨rfl,rfl⟩:=e
           cases hd with
           | @slice _ l _ _ _ _ hφ=>
           obtain ⟨rT,DD,wz⟩:=BE ok hs BF (.inr trivial)
           obtain ⟨w',iP,jV,nV⟩:=tS ok hg hφ DD o hc.1 hc.2
           refine ⟨φ,w',_,?_,.int .i64 _,jV,nV⟩
           have h0:Nat.min m len=min m len:=rfl
           simp only[Builtin.copy_,hdT,List.getElem?_toArray,List.getElem?_cons_zero,List.getElem?_cons_succ,Sem.run_bind,Result.andThen_ok,run_underlying hu,oo hm hs,h0,eB fI,wz w rfl,iP,Sem.run_pure]
           rfl
         · simp at e
       · simp at e
     · simp at e
   · simp at e
 · simp at e
theorem Ip {w:World} {b n:Nat} {C:Array Value} {e:TypeId} (h:w.heap[b]? =some (.cells C e)):(w.freeze ⟨b,n,none⟩ 1).heap[b]? =some (.cells C e (n,n+1)):=by
 simp [World.freeze,Array.getElem?_modify,h]
theorem F3 {w:World} {b c n:Nat} (h:b≠c):(w.freeze ⟨b,n,none⟩ 1).heap[c]? =w.heap[c]? :=by
 simp [World.freeze,Array.getElem?_modify,h]
theorem Iq (w:World) (b n:Nat):(w.freeze ⟨b,n,none⟩ 1).heap.size=w.heap.size:=by simp [World.freeze]
theorem OP {φ:Ph} {h h':au} {w:World} (ok:OK E φ h w) {src dst:TypeId} {x:AV} {v:AV} (e:D9 E h src dst (some x)=some (v,h')) {x':Value} (hx:VR φ x x'):
 K6 E φ h w ((convert src dst x').run E.P w) v h':=by
 unfold D9 at e
 split at e
 · rename_i el s hs hd Dx
   simp at Dx;subst Dx
   generalize K3:AV.str s=s0 at hx
   cases hx<;>cases K3
   rename_i s'
   split at e
   · rename_i h1 he hn
     split at e
     · rename_i FN
       simp at e;obtain ⟨rfl,rfl⟩:=e
       have e1:s'.size=s'.data.toList.length:=by cases s';rfl
       let nc:=(Question.appendCap s'.size 0 el).cut (w.tape w.drawn (.appendCap s'.size 0 el))
       have QH:s'.size≤nc:=by show s'.size≤s'.size+_;omega
       let C:Array Value:=(s'.data.map fun b=>Value.int .u8 b.toNat)++Array.replicate (nc - s'.size) (.int .u8 0)
       have QD:C.size=nc:=by
        have e0:s'.size=s'.data.size:=rfl
        have:C.size=s'.data.size+(nc - s'.size):=by simp only[C,Array.size_append,Array.size_map,Array.size_replicate]
        omega
       have AR:(w.drew.alloc (.cells C el)).heap=w.heap.push (.cells C el):=rfl
       have ado:(w.drew.alloc (.cells C el)).heap[w.heap.size]? =some (.cells C el):=by rw[AR];simp
       obtain ⟨jV,nV,hle⟩:=ok.fresh (w':=(w.drew.alloc (.cells C el)).freeze ⟨w.heap.size,nc,none⟩ 1) hn ⟨w.heap.size,0,nc - s'.size⟩ (by
        refine ⟨C,el,nc,nc+1,Ip ado,⟨?_,fun k x hk=>?_,fun _ k _ b=>?_,fun _ _ _=>rfl⟩,fun _=>⟨rfl,rfl,fun fs z=>by rw[he] at z;cases z⟩⟩
        · simp only[ft,FN,Option.getD_some,QD,List.length_map];rw[←e1];omega
        · rw[List.getElem?_map] at hk
          cases hb:s'.data.toList[k]? with
          | none=>rw[hb] at hk;simp at hk
          | some b=>
            rw[hb] at hk;simp at hk;subst hk
            have hkl:k<s'.data.toList.length:=(List.getElem?_eq_some_iff.1 hb).1
            refine ⟨.int .u8 b.toNat,?_,.int _ _⟩
            have:C[0+k]? =(s'.data.map fun b=>Value.int .u8 b.toNat)[k]? :=by
             simp only[C,Nat.zero_add];rw[Array.getElem?_append_left (by simpa using hkl)]
            show C[0+k]? =_
            rw[this]
            rw[Array.getElem?_map]
            have V3:s'.data[k]? =some b:=by simpa using hb
            rw[V3];rfl
        · simp only[ft,FN,Option.getD_some,List.length_map] at b;rw[←e1] at b;omega)
        (fun c dR hc=>by
         rw[F3 (Ne.symm dR),AR,Array.getElem?_push,if_neg (by omega)]) (by rw[Iq,AR];simp) (Nat.le_refl _) rfl rfl rfl
       refine ⟨_,_,.slice (some ⟨w.heap.size,0,none⟩) s'.size nc,?_,?_,jV,nV⟩
       · have hsh:(w.drew.alloc (.cells C el)).shape? w.heap.size=some (el,nc):=by
          simp only[World.shape?,ado,QD]
         simp only[convert,Sem.run_bind,run_underlying hs,run_underlying hd,Result.andThen_ok,run_underlying he,Conv.stringToBytes,run_choose,Question.forced,Bool.false_eq_true,if_false,World.drew_eq,newRow,run_newObj,World.alloc_eq,Sem.run_pure,markStringish]
         rw[show (Question.appendCap s'.size 0 el).cut (w.tape w.drawn (Question.appendCap s'.size 0 el))=nc from rfl,show (Array.map (fun b=>Value.int .u8 b.toNat) s'.data++Array.replicate (nc - s'.size) (Value.int .u8 0))=C from rfl]
         simp only[World.size_drew,run_shape,hsh,Result.andThen_ok,run_freeze]
       · have:=VR.slice (φ:=φ.add h.nx ⟨w.heap.size,0,nc - s'.size⟩) (i:=h.nx) (l:=⟨w.heap.size,0,nc - s'.size⟩) 0 s'.size s'.size true (by simp [Ph.add])
         simp only[gJ,if_true] at this
         rw[show s'.size+(nc - s'.size)=nc by omega] at this
         exact this
     · simp at e
   · simp at e
 · simp at e
theorem qL {φ:Ph} {v:AV} {v':Value} (hv:VR φ v v') {k':Value}:∀{es:List gY} {gD:List MapEntry} (_:Ib φ es gD) (i:Nat) (_:∀e,es[i]? =some e→VR φ e.key k'),
 Ib φ (dQ es i v) (gD.modify i fun e=>{e with key:=k',val:=v'})
 | [],gD,h,i,_=>by
   cases gD with
   | nil=>simpa [dQ] using h
   | cons _ _=>simp [Ib] at h
 | e::es,gD,h,i,hk=>by
   obtain ⟨hl,DC⟩:=h
   cases gD with
   | nil=>simp at hl
   | cons y ys=>
     have h0:=DC 0 e y (by simp) (by simp)
     have oi:Ib φ es ys:=⟨by simpa using hl,fun i a b p q=>DC (i+1) a b (by simpa using p) (by simpa using q)⟩
     cases i with
     | zero=>
       simp only[dQ,List.modify_zero_cons]
       refine ⟨by simpa using hl,fun j a b p q=>?_⟩
       cases j with
       | zero=>simp at p q;subst p;subst q;exact ⟨hk e (by simp),hv,h0.born⟩
       | succ j=>simp at p q;exact oi.2 j a b p q
     | succ i=>
       simp only[dQ,List.modify_succ_cons]
       obtain ⟨g1,g2⟩:=qL hv oi i (fun e he=>hk e (by simpa using he))
       refine ⟨by simp [g1],fun j a b p q=>?_⟩
       cases j with
       | zero=>simp at p q;subst p;subst q;exact h0
       | succ j=>simp at p;exact g2 j a b p (by simpa using q)
theorem Wy (s:ByteArray):(s==s)=true:=by cases s;rename_i d;show (d==d)=true;simp
theorem F4 {φ:Ph} {k j:AV} (e:D7 k j=some true) {k' j':Value} (h:VR φ k k') (h':VR φ j j'):Instr.sameBits 10000 j' k'=true∧j'=k':=by
 unfold D7 at e
 split at e
 · generalize hs:AV.str _=s at h
   generalize qI:AV.str _=s' at h'
   cases h<;>cases hs
   cases h'<;>cases qI
   rename_i s s'
   simp at e
   have:s'=s:=by cases s;cases s';simp_all
   subst this
   exact ⟨by simp only[Instr.sameBits];exact Wy _,rfl⟩
 · cases h;cases h'
   split at e
   · rename_i yr
     simp at e;subst e;subst yr
     exact ⟨by simp [Instr.sameBits],rfl⟩
   · simp at e
 · cases h;cases h'
   simp at e;subst e
   exact ⟨by simp [Instr.sameBits],rfl⟩
 · simp at e
theorem sw {φ:Ph} {h h':au} {w:World} (ok:OK E φ h w) {t:TypeId} {m k v:AV} {m' k' v':Value} (hm:VR φ m m') (hk:VR φ k k') (hv:VR φ v v') (e:eI E h t m k v=some h'):
 ∃w',(Instr.mapUpdate t m' k' v').run E.P w= .ok () w'∧OK E φ h' w'∧Fr φ h w φ h' w':=by
 unfold eI at e
 split at e
 · rename_i key elem i hu
   cases hm with
   | @map _ l hφ=>
   split at e
   · rename_i es clock hg
     split at e
     · rename_i yr
       have F0:∃d,E.P.underlying key=some d∧iE (some d) k=true:=by
        cases hd:E.P.underlying key with
        | none=>rw[hd] at yr;simp [iE] at yr
        | some d=>rw[hd] at yr;exact ⟨d,rfl,yr⟩
       obtain ⟨d,hd,yC⟩:=F0
       have Bf:=ok.live i _ l hg hφ
       obtain ⟨HW,gD,hb,gK⟩:=Bf
       have zK:(getObj l.dY).run E.P w= .ok (.map gD clock) w:=by simp [getObj,Sem.run,hb]
       have FZ:=qK (P:=E.P) hd yC hk false 9999 w
       have pX:∀o':Obj,(setObj l.dY o').run E.P w= .ok () {w with heap:=w.heap.setIfInBounds l.dY o'}:=fun o'=>by simp [setObj,Sem.run,hb]
       have hch:∀(o:a_) (o':Obj),OR E φ o l (some o')→o.rw=true→OK E φ (h.put i (some o)) {w with heap:=w.heap.setIfInBounds l.dY o'}∧Fr φ h w φ (h.put i (some o)) {w with heap:=w.heap.setIfInBounds l.dY o'}:=fun o o' ho HV=>by
        have ke:l.dY<w.heap.size:=by
         rcases Nat.lt_or_ge l.dY w.heap.size with a | a
         · exact a
         · rw[Array.getElem?_eq_none a] at hb;simp at hb
        exact ok.change hg rfl hφ (by simp [ke];exact ho) (fun c dR=>by simp [Ne.symm dR]) (by simp) rfl rfl rfl
       split at e
       · rename_i j v0 hf
         obtain ⟨r',h1,h2⟩:=pV yC hk gK hf
         cases r' with
         | none=>exact h2.elim
         | some q=>
         obtain ⟨j',v1⟩:=q
         obtain ⟨rfl,DC,_,Rf,vp,Ir⟩:=h2
         simp at e;subst e
         obtain ⟨y,hy⟩:∃y,gD.toList[j]? =some y:=by
          have ke:j<es.length:=by simpa using (List.getElem?_eq_some_iff.1 vp).1
          exact ⟨gD.toList[j]'(by rw[←gK.1];exact ke),by simp⟩
         have Wz:=gK.2 j Rf y (by simpa using vp) hy
         obtain ⟨hsb,Rg⟩:=F4 Ir hk Wz.key
         have Ri:gD[j]? =some y:=by simpa using hy
         obtain ⟨jV,nV⟩:=hch (.map (dQ es j v) clock) (.map (gD.modify j fun e=>{e with key:=k',val:=v'}) clock) ⟨HW,_,rfl,by
          have:=qL hv gK j (k':=k') (fun e he=>by
           have:e=Rf:=by
            have h3:es[j]? =some Rf:=by simpa using vp
            rw[h3] at he;simp at he;exact he.symm
           subst this;rw[←Rg];exact Wz.key)
          simpa using this⟩ rfl
         refine ⟨_,?_,jV,nV⟩
         simp only[Instr.mapUpdate,Sem.run_bind,run_underlying hu,Result.andThen_ok,zK,FZ,Instr.findKey,run_underlying hd,h1,Sem.run_pure,Ri,Option.map_some,Option.getD_some,Instr.keyThatStays,hsb,if_true,pX _]
       · rename_i hf
         obtain ⟨r',h1,h2⟩:=pV yC hk gK hf
         cases r' with
         | some q=>exact h2.elim
         | none=>
         simp at e;subst e
         obtain ⟨jV,nV⟩:=hch (.map (es++[{key:=k,val:=v,born:=clock}]) (clock+1)) (.map (gD.push {key:=k',val:=v',born:=clock}) (clock+1)) ⟨HW,_,rfl,by
          refine ⟨by simp [gK.1],fun j a b p q=>?_⟩
          rw[Array.toList_push] at q
          by_cases hj:j<es.length
          · rw[List.getElem?_append_left hj] at p
            rw[List.getElem?_append_left (by rw[←gK.1];exact hj)] at q
            exact gK.2 j a b p q
          · rw[List.getElem?_append_right (by omega)] at p
            rw[List.getElem?_append_right (by rw[←gK.1];omega),←gK.1] at q
            cases Y4:j - es.length with
            | zero=>rw[Y4] at p q;simp at p q;subst p;subst q;exact ⟨hk,hv,rfl⟩
            | succ n=>rw[Y4] at p;simp at p⟩ rfl
         refine ⟨_,?_,jV,nV⟩
         simp only[Instr.mapUpdate,Sem.run_bind,run_underlying hu,Result.andThen_ok,zK,FZ,Instr.findKey,run_underlying hd,h1,Sem.run_pure,pX _]
       · simp at e
     · split at e
       · rename_i yr
         have F0:∃d,E.P.underlying key=some d∧jJ E (some d) k=true:=by
          cases hd:E.P.underlying key with
          | none=>rw[hd] at yr;simp [jJ] at yr
          | some d=>rw[hd] at yr;exact ⟨d,rfl,yr⟩
         obtain ⟨d,hd,yC⟩:=F0
         have Bf:=ok.live i _ l hg hφ
         obtain ⟨HW,gD,hb,gK⟩:=Bf
         have zK:(getObj l.dY).run E.P w= .ok (.map gD clock) w:=by simp [getObj,Sem.run,hb]
         have FZ:=ph hd yC hk false 9998 w
         have pX:∀o':Obj,(setObj l.dY o').run E.P w= .ok () {w with heap:=w.heap.setIfInBounds l.dY o'}:=fun o'=>by simp [setObj,Sem.run,hb]
         have hch:∀(o:a_) (o':Obj),OR E φ o l (some o')→o.rw=true→OK E φ (h.put i (some o)) {w with heap:=w.heap.setIfInBounds l.dY o'}∧Fr φ h w φ (h.put i (some o)) {w with heap:=w.heap.setIfInBounds l.dY o'}:=fun o o' ho HV=>by
          have ke:l.dY<w.heap.size:=by
           rcases Nat.lt_or_ge l.dY w.heap.size with a | a
           · exact a
           · rw[Array.getElem?_eq_none a] at hb;simp at hb
          exact ok.change hg rfl hφ (by simp [ke];exact ho) (fun c dR=>by simp [Ne.symm dR]) (by simp) rfl rfl rfl
         split at e
         · rename_i j v0 hf
           obtain ⟨r',h1,h2⟩:=lZ hk gK hf
           cases r' with
           | none=>exact h2.elim
           | some q=>
           obtain ⟨j',v1⟩:=q
           obtain ⟨rfl,DC,_,Rf,vp,Ir⟩:=h2
           simp at e;subst e
           obtain ⟨y,hy⟩:∃y,gD.toList[j]? =some y:=by
            have ke:j<es.length:=by simpa using (List.getElem?_eq_some_iff.1 vp).1
            exact ⟨gD.toList[j]'(by rw[←gK.1];exact ke),by simp⟩
           have Wz:=gK.2 j Rf y (by simpa using vp) hy
           obtain ⟨hsb,Rg⟩:=Ir hk Wz.key
           have Ri:gD[j]? =some y:=by simpa using hy
           obtain ⟨jV,nV⟩:=hch (.map (dQ es j v) clock) (.map (gD.modify j fun e=>{e with key:=k',val:=v'}) clock) ⟨HW,_,rfl,by
            have:=qL hv gK j (k':=k') (fun e he=>by
             have:e=Rf:=by
              have h3:es[j]? =some Rf:=by simpa using vp
              rw[h3] at he;simp at he;exact he.symm
             subst this;rw[←Rg];exact Wz.key)
            simpa using this⟩ rfl
           refine ⟨_,?_,jV,nV⟩
           simp only[Instr.mapUpdate,Sem.run_bind,run_underlying hu,Result.andThen_ok,zK,FZ,jO hd yC hk (h1 w),Sem.run_pure,Ri,Option.map_some,Option.getD_some,Instr.keyThatStays,hsb,if_true,pX _]
         · rename_i hf
           obtain ⟨r',h1,h2⟩:=lZ hk gK hf
           cases r' with
           | some q=>exact h2.elim
           | none=>
           simp at e;subst e
           obtain ⟨jV,nV⟩:=hch (.map (es++[{key:=k,val:=v,born:=clock}]) (clock+1)) (.map (gD.push {key:=k',val:=v',born:=clock}) (clock+1)) ⟨HW,_,rfl,by
            refine ⟨by simp [gK.1],fun j a b p q=>?_⟩
            rw[Array.toList_push] at q
            by_cases hj:j<es.length
            · rw[List.getElem?_append_left hj] at p
              rw[List.getElem?_append_left (by rw[←gK.1];exact hj)] at q
              exact gK.2 j a b p q
            · rw[List.getElem?_append_right (by omega)] at p
              rw[List.getElem?_append_right (by rw[←gK.1];omega),←gK.1] at q
              cases Y4:j - es.length with
              | zero=>rw[Y4] at p q;simp at p q;subst p;subst q;exact ⟨hk,hv,rfl⟩
              | succ n=>rw[Y4] at p;simp at p⟩ rfl
           refine ⟨_,?_,jV,nV⟩
           simp only[Instr.mapUpdate,Sem.run_bind,run_underlying hu,Result.andThen_ok,zK,FZ,jO hd yC hk (h1 w),Sem.run_pure,pX _]
         · simp at e
       · simp at e
   · simp at e
 · simp at e
theorem F5 {φ:Ph} {k':Value} {es:List gY} {gD:List MapEntry} (h:Ib φ es gD) (i:Nat) (hk:∀e,es[i]? =some e→VR φ e.key k'):
 Ib φ es (gD.modify i fun e=>{e with key:=k'}):=by
 obtain ⟨hl,hv⟩:=h
 refine ⟨by rw[List.length_modify];exact hl,fun j a b p q=>?_⟩
 rw[List.getElem?_modify] at q
 by_cases e:i=j
 · subst e
   cases hb:gD[i]? with
   | none=>rw[hb] at q;simp at q
   | some y=>
     rw[hb] at q;simp at q;subst q
     have r:=hv i a y p hb
     exact ⟨hk a p,r.val,r.born⟩
 · have q':gD[j]? =some b:=by simpa [e] using q
   exact hv j a b p q'
theorem wB:∀(es:List gY) (i j:Nat) (v:AV),(dQ es i v)[j]? =if i=j then (es[j]?).map (fun e=>{e with val:=v}) else es[j]?
 | [],i,j,v=>by cases i<;>simp [dQ]
 | e::es,0,0,v=>by simp [dQ]
 | e::es,0,j+1,v=>by simp [dQ]
 | e::es,i+1,0,v=>by simp [dQ]
 | e::es,i+1,j+1,v=>by simp [dQ,wB es i j v]
theorem rI:∀(es:List gY) (i:Nat) (v:AV),(dQ es i v).length=es.length
 | [],i,v=>by cases i<;>simp [dQ]
 | e::es,0,v=>by simp [dQ]
 | e::es,i+1,v=>by simp [dQ,rI es i v]
theorem Lc {φ:Ph} {v:AV} {v':Value} (hv:VR φ v v') {es:List gY} {gD:List MapEntry} (h:Ib φ es gD) (i:Nat):
 Ib φ (dQ es i v) (gD.modify i fun e=>{e with val:=v'}):=by
 obtain ⟨hl,DC⟩:=h
 refine ⟨by rw[List.length_modify,rI];exact hl,fun j a b p q=>?_⟩
 rw[List.getElem?_modify] at q
 rw[wB] at p
 by_cases e:i=j
 · subst e
   cases hb:gD[i]? with
   | none=>rw[hb] at q;simp at q
   | some y=>
     rw[hb] at q;simp at q;subst q
     cases ha:es[i]? with
     | none=>rw[ha] at p;simp at p
     | some x=>
       rw[ha] at p;simp at p;subst p
       have r:=DC i x y ha hb
       exact ⟨r.key,hv,r.born⟩
 · have q':gD[j]? =some b:=by simpa [e] using q
   have p':es[j]? =some a:=by simpa [e] using p
   exact DC j a b p' q'
theorem OK.Ld {φ:Ph} {h:au} {w:World} (ok:OK E φ h w) {i:Nat} {es es2:List gY} {clock clock2:Nat} {OQ:Array MapEntry} {l:Loc} {O:Obj} (hg:h.get i=some (.map es clock)) (hφ:φ i=some l) (HW:l.off=0) (hb:w.heap[l.dY]? =some O) (he:Ib φ es2 OQ.toList):
 OK E φ (h.put i (some (.map es2 clock2))) {w with heap:=w.heap.setIfInBounds l.dY (.map OQ clock2)}∧Fr φ h w φ (h.put i (some (.map es2 clock2))) {w with heap:=w.heap.setIfInBounds l.dY (.map OQ clock2)}:=by
 have ke:l.dY<w.heap.size:=by
  rcases Nat.lt_or_ge l.dY w.heap.size with a | a
  · exact a
  · rw[Array.getElem?_eq_none a] at hb;simp at hb
 exact ok.change hg rfl hφ (by simp [ke];exact ⟨HW,_,rfl,he⟩) (fun c dR=>by simp [Ne.symm dR]) (by simp) rfl rfl rfl
theorem DE {φ:Ph} {h h':au} {w:World} (ok:OK E φ h w) {t:TypeId} {m k v:AV} {m' k':Value} (hm:VR φ m m') (hk:VR φ k k') (e:yu E h t m k=some (v,h')):
 K6 E φ h w ((Instr.mapEntry t m' k').run E.P w) v h':=by
 unfold yu at e
 split at e
 · rename_i key elem i hu
   cases hm with
   | @map _ l hφ=>
   split at e
   · rename_i es clock hg
     split at e
     · rename_i yr
       have F0:∃d,E.P.underlying key=some d∧jJ E (some d) k=true:=by
        cases hd:E.P.underlying key with
        | none=>rw[hd] at yr;simp [jJ] at yr
        | some d=>rw[hd] at yr;exact ⟨d,rfl,yr⟩
       obtain ⟨d,hd,yC⟩:=F0
       have Bf:=ok.live i _ l hg hφ
       obtain ⟨HW,gD,hb,gK⟩:=Bf
       have zK:(getObj l.dY).run E.P w= .ok (.map gD clock) w:=by simp [getObj,Sem.run,hb]
       have FZ:=ph hd yC hk false 9998 w
       have pX:∀o':Obj,(setObj l.dY o').run E.P w= .ok () {w with heap:=w.heap.setIfInBounds l.dY o'}:=fun o'=>by simp [setObj,Sem.run,hb]
       split at e
       · rename_i j v0 hf
         obtain ⟨r',h1,h2⟩:=lZ hk gK hf
         cases r' with
         | none=>exact h2.elim
         | some q=>
         obtain ⟨j',v1⟩:=q
         obtain ⟨rfl,DC,_,Rf,vp,Ir⟩:=h2
         have M_:es[j]? =some Rf:=by simpa using vp
         rw[M_] at e
         simp at e;obtain ⟨rfl,rfl⟩:=e
         obtain ⟨y,hy⟩:∃y,gD.toList[j]? =some y:=by
          have ke:j<es.length:=by simpa using (List.getElem?_eq_some_iff.1 M_).1
          exact ⟨gD.toList[j]'(by rw[←gK.1];exact ke),by simp⟩
         have Wz:=gK.2 j Rf y M_ hy
         obtain ⟨hsb,Rg⟩:=Ir hk Wz.key
         have Ri:gD[j]? =some y:=by simpa using hy
         obtain ⟨jV,nV⟩:=ok.Ld (OQ:=gD.modify j fun e=>{e with key:=k'}) (clock2:=clock) hg hφ HW hb (by
          have:=F5 gK j (k':=k') (fun e he=>by
           have:e=Rf:=by rw[M_] at he;simp at he;exact he.symm
           subst this;rw[←Rg];exact Wz.key)
          simpa using this)
         refine ⟨φ,_,.tuple #[v1,goInt y.born],?_,VR.tuple' (LR.cons DC (LR.cons (by rw[←Wz.born];exact .int _ _) (LR.nil φ))),jV,nV⟩
         simp only[Instr.mapEntry,Sem.run_bind,run_underlying hu,Result.andThen_ok,zK,FZ,jO hd yC hk (h1 w),Sem.run_pure,Ri,Option.map_some,Option.getD_some,Instr.keyThatStays,hsb,if_true,pX _]
       · rename_i hf
         obtain ⟨r',h1,h2⟩:=lZ hk gK hf
         cases r' with
         | some q=>exact h2.elim
         | none=>
         split at e
         · rename_i z hz
           simp at e;obtain ⟨rfl,rfl⟩:=e
           obtain ⟨z',yq,js⟩:=ib hz
           obtain ⟨jV,nV⟩:=ok.Ld (OQ:=gD.push {key:=k',val:=z',born:=clock}) (clock2:=clock+1) (es2:=es++[{key:=k,val:=z,born:=clock}]) hg hφ HW hb (by
            refine ⟨by simp [gK.1],fun j a b p q=>?_⟩
            rw[Array.toList_push] at q
            by_cases hj:j<es.length
            · rw[List.getElem?_append_left hj] at p
              rw[List.getElem?_append_left (by rw[←gK.1];exact hj)] at q
              exact gK.2 j a b p q
            · rw[List.getElem?_append_right (by omega)] at p
              rw[List.getElem?_append_right (by rw[←gK.1];omega),←gK.1] at q
              cases Y4:j - es.length with
              | zero=>rw[Y4] at p q;simp at p q;subst p;subst q;exact ⟨hk,yq φ,rfl⟩
              | succ n=>rw[Y4] at p;simp at p)
           refine ⟨φ,_,.tuple #[z',goInt clock],?_,VR.tuple' (LR.cons (yq φ) (LR.cons (.int _ _) (LR.nil φ))),jV,nV⟩
           simp only[Instr.mapEntry,Sem.run_bind,run_underlying hu,Result.andThen_ok,zK,FZ,jO hd yC hk (h1 w),Sem.run_pure,js,pX _]
         · simp at e
       · simp at e
     · simp at e
   · simp at e
 · simp at e
theorem OS {φ:Ph} {es:List gY} {gD:List MapEntry} (h:Ib φ es gD) (p:Int→Bool):gD.findIdx? (fun e=>p (e.born:Int))=es.findIdx? (fun e=>p (e.born:Int)):=by
 have hm:gD.map (fun e=>(e.born:Int))=es.map (fun e=>(e.born:Int)):=by
  apply List.ext_getElem?
  intro j
  rw[List.getElem?_map,List.getElem?_map]
  by_cases hj:j<es.length
  · have h1:es[j]? =some es[j]:=by simp [hj]
    have nR:j<gD.length:=by rw[←h.1];exact hj
    have h2:gD[j]? =some gD[j]:=by simp [nR]
    rw[h1,h2,Option.map_some,Option.map_some,(h.2 j _ _ h1 h2).born]
  · rw[List.getElem?_eq_none (by rw[←h.1];omega),List.getElem?_eq_none (by omega)];rfl
 have a:=congrArg (List.findIdx? p) hm
 rw[List.findIdx?_map,List.findIdx?_map] at a
 exact a
theorem AS {φ:Ph} {h h':au} {w:World} (ok:OK E φ h w) {t:TypeId} {m s x:AV} {m' s' x':Value} (hm:VR φ m m') (hs:VR φ s s') (hx:VR φ x x') (e:sf h m s x=some h'):
 ∃w',(Instr.entryStore t m' s' x').run E.P w= .ok () w'∧OK E φ h' w'∧Fr φ h w φ h' w':=by
 unfold sf at e
 split at e
 · rename_i i kd n
   cases hm with
   | @map _ l hφ=>
   cases hs with
   | int=>
   split at e
   · rename_i es clock hg
     split at e
     · rename_i j hj
       simp at e;subst e
       obtain ⟨HW,gD,hb,gK⟩:=ok.live i _ l hg hφ
       have zK:(getObj l.dY).run E.P w= .ok (.map gD clock) w:=by simp [getObj,Sem.run,hb]
       have pX:∀o':Obj,(setObj l.dY o').run E.P w= .ok () {w with heap:=w.heap.setIfInBounds l.dY o'}:=fun o'=>by simp [setObj,Sem.run,hb]
       have nR:gD.findIdx? (fun e=>(e.born:Int)==n)=some j:=by
        have:=OS gK (fun b=>b==n)
        rw[hj] at this
        cases gD;rw[List.findIdx?_toArray];exact this
       obtain ⟨jV,nV⟩:=ok.Ld (OQ:=gD.modify j fun e=>{e with val:=x'}) (clock2:=clock) hg hφ HW hb (by
        have:=Lc hx gK j
        simpa using this)
       refine ⟨_,?_,jV,nV⟩
       have e0:(Instr.entryStore t (.map (some l.dY)) (.int kd n) x').run E.P w=(setObj l.dY (.map (gD.modify j fun e=>{e with val:=x'}) clock)).run E.P w:=by
        have ha:(asInt (.int kd n)).run E.P w= .ok n w:=rfl
        simp only[Instr.entryStore,Sem.run_bind,Result.andThen_ok,zK,ha,Sem.run_pure,nR]
       rw[e0];exact pX _
     · simp at e
   · simp at e
 · simp at e
theorem F6 {s:ByteArray} {pos:Nat} {b:UInt8} (h:s.data.toList[pos]? =some b) (hb:b.toNat<128):Utf8.decode s pos=(b.toNat,1):=by
 have hl:pos<s.size:=(List.getElem?_eq_some_iff.1 h).1
 have V3:s[pos]'hl=b:=by
  have:=(List.getElem?_eq_some_iff.1 h).2
  rw[←this];rfl
 rw[decode_ascii s pos hl (by rw[V3];exact hb),V3]
set_option linter.unusedSimpArgs false in
theorem OT {φ:Ph} {h h':au} {w:World} (ok:OK E φ h w) {it v:AV} {b:Bool} (e:D8 h it b=some (v,h')) {it':Value} (hit:VR φ it it') (ty:TypeId):
 K6 E φ h w ((Instr.next it' b ty).run E.P w) v h':=by
 unfold D8 at e
 split at e
 · rename_i r
   cases hit with
   | @ptr _ l _ hφ=>
   split at e
   · rename_i s pos hg
     have Bf:=ok.live r _ l hg hφ
     obtain ⟨HW,s',hb,qI⟩:=Bf
     have zK:(getObj l.dY).run E.P w= .ok (.stringIter s' pos) w:=by simp [getObj,Sem.run,hb]
     have e1:s'.size=s.length:=by rw[←qI];cases s';rfl
     split at e
     · rename_i ke
       split at e
       · rename_i c hc
         split at e
         · rename_i agR
           simp at e;obtain ⟨rfl,rfl⟩:=e
           have pX:(setObj l.dY (.stringIter s' (pos+1))).run E.P w= .ok () {w with heap:=w.heap.setIfInBounds l.dY (.stringIter s' (pos+1))}:=by simp [setObj,Sem.run,hb]
           have agS:l.dY<w.heap.size:=by
            rcases Nat.lt_or_ge l.dY w.heap.size with a | a
            · exact a
            · rw[Array.getElem?_eq_none a] at hb;simp at hb
           obtain ⟨jV,nV⟩:=ok.change (w':={w with heap:=w.heap.setIfInBounds l.dY (.stringIter s' (pos+1))}) (o':= .uK s (pos+1)) hg rfl hφ (by simp [agS];exact ⟨HW,s',rfl,qI⟩) (fun c dR=>by simp [Array.getElem?_setIfInBounds,Ne.symm dR]) (by simp) rfl rfl rfl
           refine ⟨φ,_,.tuple #[.bool true,.int .i64 pos,.int .i32 c.toNat],?_,VR.tuple' (iw:=[.bool true,.int .i64 pos,.int .i32 c.toNat]) (.cons (.bool true) (.cons (.int _ _) (.cons (.int _ _) (.nil φ)))),jV,nV⟩
           have agT:=F6 (s:=s') (pos:=pos) (b:=c) (by rw[qI];exact hc) agR
           have h0:l.off+0=0:=by omega
           simp only[Instr.next,h0,Sem.run_bind,zK,Result.andThen_ok,e1,ke,if_true,agT,pX,Sem.run_pure,goInt]
         · simp at e
       · simp at e
     · rename_i ke
       simp at e;obtain ⟨rfl,rfl⟩:=e
       refine ⟨φ,w,.tuple #[.bool false],?_,VR.tuple' (iw:=[.bool false]) (.cons (.bool false) (.nil φ)),ok,Fr.refl φ h w⟩
       have h0:l.off+0=0:=by omega
       simp only[Instr.next,h0,Sem.run_bind,zK,Result.andThen_ok,e1,ke,if_false,Sem.run_pure]
   · rename_i s1 s2 s3 hg
     have Bf:=ok.live r _ l hg hφ
     obtain ⟨HW,hb⟩:=Bf
     have zK:(getObj l.dY).run E.P w= .ok (.mapIter none s1 s2.toArray s3) w:=by simp [getObj,Sem.run,hb]
     simp at e;obtain ⟨rfl,rfl⟩:=e
     refine ⟨φ,w,.tuple #[.bool false],?_,VR.tuple' (iw:=[.bool false]) (.cons (.bool false) (.nil φ)),ok,Fr.refl φ h w⟩
     have h0:l.off+0=0:=by omega
     simp only[Instr.next,h0,Sem.run_bind,zK,Result.andThen_ok,Sem.run_pure]
   · simp at e
 · simp at e
end Go.Ab
end
section
namespace Go.Ab
variable {E:Env}
def DR (φ:Ph):od→Deferred→Prop
 | .call f args,d'=>∃cap,d'.target= .fn (.func f) cap∧LR φ args (d'.args++cap).toList
 | .rQ r,d'=>∃l,φ r=some l∧d'.target= .collected l.dY
def Y5 (φ:Ph):List od→List Deferred→Prop
 | [],[]=>True
 | d::ds,d'::yD=>DR φ d d'∧Y5 φ ds yD
 | _,_=>False
theorem DR.mono {φ φ':Ph} (hle:φ.le φ') {d:od} {d':Deferred} (h:DR φ d d'):DR φ' d d':=by
 cases d with
 | call f args=>obtain ⟨c,a,b⟩:=h;exact ⟨c,a,b.mono hle⟩
 | rQ r=>obtain ⟨l,a,b⟩:=h;exact ⟨l,hle _ _ a,b⟩
theorem Y5.mono {φ φ':Ph} (hle:φ.le φ'):∀{ds:List od} {yD:List Deferred} (_:Y5 φ ds yD),Y5 φ' ds yD
 | [],[],_=>trivial
 | _::_,_::_,h=>⟨h.1.mono hle,Y5.mono hle h.2⟩
structure SR (φ:Ph) (ts:List AV) (ds:List od) (a:Act):Prop where
 ts:LR φ ts a.tmps.toList
 ds:Y5 φ ds a.defers
theorem SR.mono {φ φ':Ph} (hle:φ.le φ') {ts:List AV} {ds:List od} {a:Act} (h:SR φ ts ds a):SR φ' ts ds a:=⟨h.ts.mono hle,h.ds.mono hle⟩
def nh (φ:Ph) (b:Frame) (K:Bool→List Frame):RC→Prop
 | .no=>b.roundOf=none∧∀fr:Frame,fr.kind=b.kind→tryRecover fr (K false)=none
 | .hQ v=>b.roundOf=none∧(∃v',VR φ v v'∧∀fr:Frame,fr.kind=b.kind→tryRecover fr (K false)=some (v',K true))∧∀fr:Frame,fr.kind=b.kind→tryRecover fr (K true)=none
 | .done=>b.roundOf=none∧∀fr:Frame,fr.kind=b.kind→tryRecover fr (K true)=none
 | .pP l=>∃ll,φ l=some ll∧b.roundOf=some ll.dY
def cur (K:Bool→List Frame):RC→List Frame
 | .done=>K true
 | _=>K false
def RC.oq:RC→Bool
 | .pP _=>true
 | _=>false
theorem nh.mono {φ φ':Ph} (hle:φ.le φ') {b:Frame} {K:Bool→List Frame}:∀{rc:RC} (_:nh φ b K rc),nh φ' b K rc
 | .no,h=>h
 | .hQ _,h=>let ⟨n,⟨v',a,b⟩,c⟩:=h;⟨n,⟨v',a.mono hle,b⟩,c⟩
 | .done,h=>h
 | .pP _,h=>let ⟨l,a,b⟩:=h;⟨l,hle _ _ a,b⟩
theorem nh.plain {φ:Ph} {b:Frame} {K:Bool→List Frame} {rc:RC} (h:nh φ b K rc) (hn:rc.oq=false):b.roundOf=none:=by
 cases rc with
 | no=>exact h.1
 | hQ v=>exact h.1
 | done=>exact h.1
 | pP l=>simp [RC.oq] at hn
inductive ExR (φ:Ph):hZ→Exit→Prop
 | normal:ExR φ .normal .normal
 | exit (id:Nat):ExR φ (.exit id) (.exit id)
 | ret:ExR φ .ret .ret
 | panic (v:AV) (v':Value) (h:VR φ v v'):ExR φ (.panic v) (.panic [{v:=v',recovered:=false}])
def kL (E:Env) (f:FuncId) (args:List AV) (h:au) (v:AV) (h':au):Prop:=
 ∀(φ:Ph) (w:World) (vs:List Value),OK E φ h w→LR φ args vs→(callFunc f vs.toArray).run E.P w= .ok (.enter f vs.toArray) w∧
  ∀cs,∃φ' w' v' fr,VR φ' v v'∧OK E φ' h' w'∧Fr φ h w φ' h' w'∧
   Steps E.P (lone (Frame.enter E.P f vs.toArray .normal) cs w) (lone fr cs w')∧fr.fn=f∧fr.leaving E.P w' (.returned v')
def M' (E:Env) (f:FuncId) (args:List AV) (h:au) (v:AV) (h':au):Prop:=
 ∀(φ:Ph) (w:World) (vs:List Value),OK E φ h w→LR φ args vs→(callFunc f vs.toArray).run E.P w= .ok (.enter f vs.toArray) w∧
  ∀cs,∃φ' w' v' fr,VR φ' v v'∧OK E φ' h' w'∧Fr φ h w φ' h' w'∧
   Steps E.P (lone (Frame.enter E.P f vs.toArray .normal) cs w) (lone fr cs w')∧fr.fn=f∧fr.leaving E.P w' (.panicked [{v:=v',recovered:=false}])
inductive ot (E:Env) (φ:Ph) (w:World):Fn→List Value→Next→Frame→Prop
 | fn (f:FuncId) (vs:List Value) (hr:(callFunc f vs.toArray).run E.P w= .ok (.enter f vs.toArray) w):ot E φ w (.fn f) vs (.enter f vs.toArray) (Frame.enter E.P f vs.toArray .normal)
 | vk (l:Nat) (ll:Loc) (hl:φ l=some ll) (vs:List Value) (f:FuncId) (tmps:Array Value) (assign body:Code) (hr:(Instr.yield ll.dY vs.toArray).run E.P w= .ok (.round ll.dY f tmps assign body) w):
  ot E φ w (.vk l) vs (.round ll.dY f tmps assign body) (Frame.round ll.dY f tmps assign body .normal)
def Rj (φ:Ph):Fn→Prop
 | .fn _=>True
 | .vk l=>∃ll,φ l=some ll
def Le (E:Env) (F:Fn) (args:List AV) (h:au) (v:AV) (h':au):Prop:=
 ∀(φ:Ph) (w:World) (vs:List Value),OK E φ h w→Rj φ F→LR φ args vs→∃n start,ot E φ w F vs n start∧
  ∀c cs,∃φ' w' v',VR φ' v v'∧OK E φ' h' w'∧Fr φ h w φ' h' w'∧Steps E.P (lone start (c::cs) w) (lone (c.finish v') cs w')
def Lf (E:Env) (F:Fn) (args:List AV) (h:au) (v:AV) (h':au):Prop:=
 ∀(φ:Ph) (w:World) (vs:List Value),OK E φ h w→Rj φ F→LR φ args vs→∃n start,ot E φ w F vs n start∧
  ∀c cs,∃φ' w' v',VR φ' v v'∧OK E φ' h' w'∧Fr φ h w φ' h' w'∧Steps E.P (lone start (c::cs) w) (lone (c.raise [{v:=v',recovered:=false}]) cs w')
theorem kL.any {f:FuncId} {args:List AV} {h:au} {v:AV} {h':au} (r:kL E f args h v h'):Le E (.fn f) args h v h':=fun φ w vs ok _ hl=>by
 obtain ⟨h1,h2⟩:=r φ w vs ok hl
 refine ⟨_,_,.fn f vs h1,fun c cs=>?_⟩
 obtain ⟨φ',w',v',fr,x1,x2,x3,x4,_,x5⟩:=h2 (c::cs)
 exact ⟨φ',w',v',x1,x2,x3,x4.trans (.one (step_leave_returned x5))⟩
theorem M'.any {f:FuncId} {args:List AV} {h:au} {v:AV} {h':au} (r:M' E f args h v h'):Lf E (.fn f) args h v h':=fun φ w vs ok _ hl=>by
 obtain ⟨h1,h2⟩:=r φ w vs ok hl
 refine ⟨_,_,.fn f vs h1,fun c cs=>?_⟩
 obtain ⟨φ',w',v',fr,x1,x2,x3,x4,_,x5⟩:=h2 (c::cs)
 exact ⟨φ',w',v',x1,x2,x3,x4.trans (.one (step_leave_panicked x5))⟩
structure ic (E:Env) (call:bw):Prop where
 ret:∀f args h v h',call f args h= .ret v h'→Le E f args h v h'
 panic:∀f args h v h',call f args h= .panic v h'→Lf E f args h v h'
structure kh (E:Env):Prop where
 ext:Y2 E
 iC:∀f g,E.iC f=some g→∀args h v h',g args h=some (v,h')→kL E f args h v h'
 names:∀(f:FuncId) (fn:Func),E.P.funcs[f]? =some fn→fn.name≠ "runtime.NumGoroutine"
 mixed:E.P.follows .mixedOrders=true
theorem Rl {φ:Ph} {ts:List AV} {a:Act} (h:LR φ ts a.tmps.toList) (d:Option Tmp) {v:AV} {v':Value} (hv:VR φ v v'):LR φ (dH ts d v) (a.put d v').tmps.toList:=by
 cases d with
 | none=>exact h
 | some d=>simp only[dH,Act.put,Array.toList_setIfInBounds];exact h.set hv d
theorem put_defers (a:Act) (d:Option Tmp) (v:Value):(a.put d v).defers=a.defers:=by cases d<;>rfl
theorem SR.put {φ:Ph} {ts:List AV} {ds:List od} {a:Act} (h:SR φ ts ds a) (d:Option Tmp) {v:AV} {v':Value} (hv:VR φ v v'):SR φ (dH ts d v) ds (a.put d v'):=
 ⟨Rl h.ts d hv,by rw[put_defers];exact h.ds⟩
theorem vr {φ:Ph} {ops:Array Oper} {ts:List AV} {a:Act} (h:LR φ ts a.tmps.toList) (o:Oper):Region.wanted o (yielded ops a.tmps)=cE ops ts o:=by
 unfold Region.wanted cE
 cases o.guard with
 | none=>rfl
 | some g=>
   obtain ⟨j,want⟩:=g
   simp only[yielded]
   cases hd:(ops[j]?).bind (·.dst) with
   | none=>simp
   | some d=>
     simp only[Option.bind_some]
     cases hx:ts[d]? with
     | none=>
       have:a.tmps[d]? =none:=by
        have h1:=List.getElem?_eq_none_iff.1 hx
        rw[h.1] at h1
        have:=List.getElem?_eq_none_iff.2 h1
        simpa using this
       simp [this]
     | some x=>
       obtain ⟨y,hy,hv⟩:=h.get hx
       have Ri:a.tmps[d]? =some y:=by simpa using hy
       rw[Ri]
       cases hv with
       | any _ h=>cases y<;>first | (simp;done) | cases h
       | _=>simp
section
variable {b:Frame} {a:Act} {k:List Item} {cs:List Frame} {w:World} {ops:Array Oper} {i:Nat} {rest:List Nat} {o:Oper}
theorem tT (ho:ops[i]? =some o) (v:Value):(b.atR a (.inRegion ops (i::rest)::k)).finish v=b.atR (a.put o.dst v) (.inRegion ops rest::k):=by
 rw[Frame.finish_atR,ho];rfl
theorem mE {P:Program} (kC:o.semAt b.roundOf a.eval=execOp a.eval o) (ho:ops[i]? =some o) (hw:Region.wanted o (yielded ops a.tmps)=true) {v:Value} {w':World} (hr:(execOp a.eval o).run P w= .ok (.value v) w'):
 step P (lone (b.atR a (.inRegion ops (i::rest)::k)) cs w)= .next (lone (b.atR (a.put o.dst v) (.inRegion ops rest::k)) cs w'):=by
 rw[←tT ho]
 exact step_lone_go (by rw[stepGR_op (rest:=rest) ho hw,kC];simp [stepG.apply,hr])
theorem Is {P:Program} (kC:o.semAt b.roundOf a.eval=execOp a.eval o) (ho:ops[i]? =some o) (hw:Region.wanted o (yielded ops a.tmps)=true) {w':World} (hr:(execOp a.eval o).run P w= .ok .skip w'):
 step P (lone (b.atR a (.inRegion ops (i::rest)::k)) cs w)= .next (lone (b.atR (a.put o.dst undef) (.inRegion ops rest::k)) cs w'):=by
 rw[←tT ho]
 exact step_lone_go (by rw[stepGR_op (rest:=rest) ho hw,kC];simp [stepG.apply,hr])
theorem go_enter {φ:Ph} (kC:o.semAt b.roundOf a.eval=execOp a.eval o) (ho:ops[i]? =some o) (hw:Region.wanted o (yielded ops a.tmps)=true) {F:Fn} {vs:List Value} {n:Next} {start:Frame} (hp:ot E φ w F vs n start) (hr:(execOp a.eval o).run E.P w= .ok n w):
 step E.P (lone (b.atR a (.inRegion ops (i::rest)::k)) cs w)= .next (lone start (b.atR a (.inRegion ops (i::rest)::k)::cs) w):=by
 cases hp with
 | fn f vs _=>exact step_lone_go (by rw[stepGR_op (rest:=rest) ho hw,kC];simp [stepG.apply,hr,Frame.atR])
 | vk l ll hl vs f tmps assign body _=>exact step_lone_go (by rw[stepGR_op (rest:=rest) ho hw,kC];simp [stepG.apply,hr,Frame.atR])
theorem Rm {P:Program} (kC:o.semAt b.roundOf a.eval=execOp a.eval o) (ho:ops[i]? =some o) (hw:Region.wanted o (yielded ops a.tmps)=true) {v:Value} {w':World} (hr:(execOp a.eval o).run P w= .halt (.panic v) w'):
 step P (lone (b.atR a (.inRegion ops (i::rest)::k)) cs w)= .next (lone {b.atR a (.inRegion ops (i::rest)::k) with mode:= .panicking [{v,recovered:=false}]} cs w'):=by
 rw[←Frame.raise_atR]
 exact step_lone_go (by rw[stepGR_op (rest:=rest) ho hw,kC];simp [stepG.apply,hr])
theorem OU {P:Program} (kC:o.semAt b.roundOf a.eval=execOp a.eval o) (ho:ops[i]? =some o) (hw:Region.wanted o (yielded ops a.tmps)=true) {d:Deferred} {w':World} (hr:(execOp a.eval o).run P w= .ok (.defer d) w'):
 step P (lone (b.atR a (.inRegion ops (i::rest)::k)) cs w)= .next (lone (b.atR ({a with defers:=d::a.defers}.put o.dst undef) (.inRegion ops rest::k)) cs w'):=by
 have:({b.atR a (.inRegion ops (i::rest)::k) with defers:=d::a.defers}:Frame).finish undef=
  b.atR ({a with defers:=d::a.defers}.put o.dst undef) (.inRegion ops rest::k):=by
  have:=Frame.finish_atR b {a with defers:=d::a.defers} ops i rest k undef
  rw[ho] at this;exact this
 refine step_lone_go ?_
 rw[stepGR_op (rest:=rest) ho hw,kC]
 simp only[stepG.apply,Sem.runT_eq,hr,GStep.bare_after]
 exact congrArg (fun fr=>GStep.go {frame:=fr,callers:=cs,status:= .running,dying:=none} w') this
theorem Lg {P:Program} (yE:b.roundOf=none) (kC:o.semAt b.roundOf a.eval=execOp a.eval o) (ho:ops[i]? =some o) (hw:Region.wanted o (yielded ops a.tmps)=true) {w':World} (hr:(execOp a.eval o).run P w= .ok .recover w') {v:Value} {iw:List Frame}
 (ht:tryRecover (b.atR a (.inRegion ops (i::rest)::k)) cs=some (v,iw)):
 step P (lone (b.atR a (.inRegion ops (i::rest)::k)) cs w)= .next (lone (b.atR (a.put o.dst v) (.inRegion ops rest::k)) iw w'):=by
 rw[←tT ho]
 refine step_lone_go ?_
 rw[stepGR_op (rest:=rest) ho hw,kC]
 have Ro:(b.atR a (.inRegion ops (i::rest)::k)).roundOf=none:=yE
 simp only[stepG.apply,Sem.runT_eq,if_true,hr,GStep.bare_after,Ro,ht,GStep.bare_go]
theorem uO {P:Program} (yE:b.roundOf=none) (kC:o.semAt b.roundOf a.eval=execOp a.eval o) (ho:ops[i]? =some o) (hw:Region.wanted o (yielded ops a.tmps)=true) {w':World} (hr:(execOp a.eval o).run P w= .ok .recover w')
 (ht:tryRecover (b.atR a (.inRegion ops (i::rest)::k)) cs=none):
 step P (lone (b.atR a (.inRegion ops (i::rest)::k)) cs w)= .next (lone (b.atR (a.put o.dst .nilIface) (.inRegion ops rest::k)) cs w'):=by
 rw[←tT ho]
 refine step_lone_go ?_
 rw[stepGR_op (rest:=rest) ho hw,kC]
 have Ro:(b.atR a (.inRegion ops (i::rest)::k)).roundOf=none:=yE
 simp only[stepG.apply,Sem.runT_eq,if_true,hr,GStep.bare_after,Ro,ht,GStep.bare_go]
end
def adp (P:Program) (m:Machine) (b:Frame) (ops:Array Oper) (rest:List Nat) (k:List Item) (cs:List Frame):Exit→Act→World→Prop
 | .normal,a,w=>Steps P m (lone (b.atR a (.inRegion ops rest::k)) cs w)
 | .panic chain,a,w=>∃todo,Steps P m (lone {b.atR a todo with mode:= .panicking chain} cs w)
 | _,_,_=>False
def Na (φ:Ph):Fn→Target→List Value→List Value→Prop
 | .fn f,t,vs,all=>∃cap:List Value,t= .fn (.func f) cap.toArray∧all=vs++cap
 | .vk l,t,vs,all=>∃ll,φ l=some ll∧t= .fn (.yield ll.dY) #[]∧all=vs
theorem Na.adq {φ:Ph} {F:Fn} {t:Target} {vs all:List Value} (h:Na φ F t vs all):Rj φ F:=by
 cases F with
 | fn f=>trivial
 | vk l=>obtain ⟨ll,h,_⟩:=h;exact ⟨ll,h⟩
theorem BG {φ:Ph} (hg:GL E φ) {ts:List AV} {a:Act} (ht:LR φ ts a.tmps.toList) {c:Call} {f:Fn} {args:List AV} (h:callee E ts c=some (f,args)) (ty:TypeId):
 ∃(t:Target) (vs all:List Value),LR φ args all∧Na φ f t vs all∧∀w,(resolve a.eval c ty).run E.P w= .ok {target:=t,args:=vs.toArray} w:=by
 unfold callee at h
 split at h
 · rename_i x hcx
   split at h
   · rename_i g first captured as_ hx has
     simp at h;obtain ⟨rfl,rfl⟩:=h
     have h1:=nf hg ht hx
     have h2:=ia hg ht has
     generalize kK:a.eval x=cv at h1
     obtain ⟨WA,iw,rfl,hf,hc⟩:=h1.wj
     refine ⟨.fn (.func g) iw.toList.toArray,WA.toList++c.args.toList.map a.eval,_,?_,⟨iw.toList,rfl,rfl⟩,fun w=>?_⟩
     · rw[List.append_assoc]
       have:=(hf.append h2).append hc
       simpa [List.append_assoc] using this
     · simp [resolve,hcx,Deferred.ofValue,kK,map_toArray]
   · rename_i l as_ hx has
     simp at h;obtain ⟨rfl,rfl⟩:=h
     have h1:=nf hg ht hx
     have h2:=ia hg ht has
     generalize kK:a.eval x=cv at h1
     cases h1 with
     | yield hl=>
       refine ⟨_,c.args.toList.map a.eval,_,h2,⟨_,hl,rfl,rfl⟩,fun w=>?_⟩
       simp [resolve,hcx,Deferred.ofValue,kK,map_toArray]
   · simp at h
 · simp at h
theorem DF {φ:Ph} {w:World} {F:Fn} {t:Target} {vs all:List Value} (ht:Na φ F t vs all) {n:Next} {start:Frame} (hp:ot E φ w F all n start):(invoke t vs.toArray).run E.P w= .ok n w:=by
 cases hp with
 | fn f qJ hr=>
   obtain ⟨cap,rfl,rfl⟩:=ht
   simpa [invoke] using hr
 | vk l ll hl qJ f tmps assign body hr=>
   obtain ⟨ll',V6,rfl,rfl⟩:=ht
   rw[hl] at V6;simp at V6;subst V6
   simpa [invoke] using hr
theorem qM {φ:Ph} {b:Frame} {K:Bool→List Frame} {rc:RC} (gE:nh φ b K rc) {o:Oper} (h:rc.oq=false∨∀c,o.op≠ .defer c) (ρ:Operand→Value):o.semAt b.roundOf ρ=execOp ρ o:=by
 rcases h with h | h
 · rw[gE.plain h];rfl
 · exact Oper.semAt_eq _ _ _ h
end Go.Ab
end
section
namespace Go.Ab
variable {E:Env}
theorem BH {rc:RC} (h:∀l,rc= .pP l→False):rc.oq=false:=by
 cases rc<;>first | rfl | exact (h _ rfl).elim
theorem OK.gl {φ:Ph} {h:au} {w:World} (ok:OK E φ h w):GL E φ:=ok.vl
inductive sx (E:Env) (call:bw) (φ:Ph) (ts:List AV) (h:au) (rc:RC) (o:Oper) (a:Act) (w:World):yv→Prop
 | val (v:AV) (h':au) (φ':Ph) (w':World) (v':Value) (hv:VR φ' v v') (ok:OK E φ' h' w') (fr:Fr φ h w φ' h' w')
  (run:(execOp a.eval o).run E.P w= .ok (.value v') w'):sx E call φ ts h rc o a w (.val v h')
 | skip (h':au) (φ':Ph) (w':World) (ok:OK E φ' h' w') (fr:Fr φ h w φ' h' w')
  (run:(execOp a.eval o).run E.P w= .ok .skip w'):sx E call φ ts h rc o a w (.val AV.undef h')
 | enter (v:AV) (h':au) (F:Fn) (args:List AV) (all:List Value) (hr:Le E F args h v h') (hf:Rj φ F) (hl:LR φ args all)
  (run:∀n start,ot E φ w F all n start→(execOp a.eval o).run E.P w= .ok n w):sx E call φ ts h rc o a w (.val v h')
 | WB (v:AV) (h':au) (F:Fn) (args:List AV) (all:List Value) (hr:Lf E F args h v h') (hf:Rj φ F) (hl:LR φ args all)
  (run:∀n start,ot E φ w F all n start→(execOp a.eval o).run E.P w= .ok n w):sx E call φ ts h rc o a w (.panic v h')
 | defer (d:od) (d':Deferred) (Dy:rc.oq=false) (hd:DR φ d d') (run:(execOp a.eval o).run E.P w= .ok (.defer d') w):sx E call φ ts h rc o a w (.defer d)
 | panic (v:AV) (v':Value) (hv:VR φ v v') (run:(execOp a.eval o).run E.P w= .halt (.panic v') w):sx E call φ ts h rc o a w (.panic v h)
 | rG (v:AV) (gE:rc= .hQ v) (run:(execOp a.eval o).run E.P w= .ok .recover w):sx E call φ ts h rc o a w (.rG v)
 | Rp (gE:∀v,rc≠ .hQ v) (Dy:rc.oq=false) (run:(execOp a.eval o).run E.P w= .ok .recover w):sx E call φ ts h rc o a w (.val .nilIface h)
 | fail (why:String) (q:Option Oper):sx E call φ ts h rc o a w (.fail why q)
theorem It {t:TypeId} {name:String} {f:FuncId} (h:wg E t name=some f) (v:Value) (w:World):(method (E.P.types.size+Made.depth) t v name).run E.P w= .ok (f,v) w:=by
 unfold wg at h
 split at h
 · rename_i i hi
   split at h
   · rename_i m hm
     split at h
     · rename_i hp
       split at h
       · simp at h
       · rename_i g d dR hf hu
         simp at h;subst h
         have OM:m.path.toList=[]:=by simpa using hp
         have e:E.P.types.size+Made.depth=(E.P.types.size+99)+1:=rfl
         rw[e,method]
         have hti:(typeInfo t).run E.P w= .ok i w:=by simp [typeInfo,hi]
         simp only[Sem.run_bind,hti,Result.andThen_ok,hm,OM,follow,Sem.run_pure,hf,receiverAt,run_underlying hu]
         cases d with
         | pointer x=>exact absurd rfl (dR x)
         | _=>simp [Place.get]
       · simp at h
     · simp at h
   · simp at h
 · simp at h
theorem sy {call:bw} {φ:Ph} {ts:List AV} {h:au} {rc:RC} {o:Oper} {a:Act} {w:World} {s:Sem Value} {v:AV} {h':au} (hd:K6 E φ h w (s.run E.P w) v h')
 (he:execOp a.eval o=(do pure (.value (←s)):Sem Next)):sx E call φ ts h rc o a w (.val v h'):=by
 obtain ⟨φ',w',v',hr,hv,ok,fr⟩:=hd
 exact .val v h' φ' w' v' hv ok fr (by rw[he];exact fb hr)
set_option maxHeartbeats 1000000 in
theorem vt (hE:kh E) {call:bw} (dg:ic E call) {φ:Ph} {ts:List AV} {h:au} {rc:RC} {o:Oper} {a:Act} {w:World} (ht:LR φ ts a.tmps.toList) (ok:OK E φ h w):
 sx E call φ ts h rc o a w (dc E call ts h rc o):=by
 have ev:∀{x:Operand} {v:AV},eh E ts x=some v→VR φ v (a.eval x):=fun h=>nf ok.gl ht h
 obtain ⟨dst,op,ty,pos,after,guard⟩:=o
 unfold dc
 simp only
 split
 ·
  split
  · rename_i ha hx
    split
    · rename_i h' iP
      obtain ⟨w',hr,jV,nV⟩:=K7 ok (ev ha) (ev hx) iP
      exact .skip h' φ w' jV nV (by simp [execOp,hr])
    · exact .fail _ _
  · exact .fail _ _
 ·
  split
  · rename_i hm hk hx
    split
    · rename_i h' iP
      obtain ⟨w',hr,jV,nV⟩:=sw ok (ev hm) (ev hk) (ev hx) iP
      exact .skip h' φ w' jV nV (by simp [execOp,hr])
    · exact .fail _ _
  · exact .fail _ _
 ·
  split
  · rename_i hm hk hx
    split
    · rename_i h' iP
      obtain ⟨w',hr,jV,nV⟩:=sw ok (ev hm) (ev hk) (ev hx) iP
      exact .skip h' φ w' jV nV (by simp [execOp,hr])
    · exact .fail _ _
  · exact .fail _ _
 ·
  split
  · rename_i hm hk
    split
    · rename_i v h' hc
      exact sy (DE ok (ev hm) (ev hk) hc) rfl
    · exact .fail _ _
  · exact .fail _ _
 ·
  rename_i tt mm bb xx
  split
  · rename_i hm hk hx
    split
    · rename_i h' iP
      obtain ⟨w',hr,jV,nV⟩:=AS (t:=tt) ok (ev hm) (ev hk) (ev hx) iP
      exact .skip h' φ w' jV nV (by simp [execOp,hr])
    · exact .fail _ _
  · exact .fail _ _
 ·
  rename_i src dst x
  split
  · rename_i v h' hc
    cases hx:eh E ts x with
    | none=>rw[hx] at hc;simp [D9] at hc
    | some xv=>
      rw[hx] at hc
      exact sy (OP ok hc (ev hx)) rfl
  · exact .fail _ _
 ·
  split
  · rename_i hi
    split
    · rename_i hn
      exact sy (OT ok hn (ev hi) ty) rfl
    · exact .fail _ _
  · exact .fail _ _
 ·
  split
  · rename_i hx
    have h1:=ev hx
    generalize kK:a.eval _=cv at h1
    cases h1 with
    | iface t1 v1 v' hv=>
    exact .panic _ _ (.iface _ _ v' hv) (by simp [execOp,kK,Instr.panic])
  · exact .fail _ _
 ·
  split
  · exact .fail _ _
  · rename_i f args Dy hc
    obtain ⟨t,vs,all,hl,⟨cap,rfl,rfl⟩,hr⟩:=BG ok.gl ht hc ty
    exact .defer _ {target:= .fn (.func f) cap.toArray,args:=vs.toArray} (BH Dy) ⟨cap.toArray,rfl,by simpa using hl⟩ (by simp [execOp,hr])
  · exact .fail _ _
 ·
  rename_i c
  split
  ·
   rename_i DG
   split
   · rename_i s x has
     have hl:=ia ok.gl ht has
     obtain ⟨s',r1,hr1,hs,hl1⟩:=hl.cr
     obtain ⟨x',r2,hr2,hx,Nb⟩:=hl1.cr
     have h0:c.args.map a.eval= #[s',x']:=by rw[map_toArray,hr1,hr2,Nb.gC]
     split
     · rename_i hap
       exact sy (Im ok hap hs hx ty) (by simp [execOp,resolve,DG,invoke,builtin,h0])
     · exact .fail _ _
   · exact .fail _ _
  ·
   rename_i DG
   split
   · rename_i s x has
     have hl:=ia ok.gl ht has
     obtain ⟨s',r1,hr1,hs,hl1⟩:=hl.cr
     obtain ⟨x',r2,hr2,hx,Nb⟩:=hl1.cr
     have h0:c.args.map a.eval= #[s',x']:=by rw[map_toArray,hr1,hr2,Nb.gC]
     split
     · rename_i hap
       exact sy (OO ok hap hs hx ty) (by simp [execOp,resolve,DG,invoke,builtin,h0])
     · exact .fail _ _
   · exact .fail _ _
  ·
   rename_i DG
   have fU:(execOp a.eval ⟨dst,.call c,ty,pos,after,guard⟩).run E.P w= .ok .recover w:=by simp [execOp,resolve,DG,invoke,builtin]
   split
   · exact .rG _ rfl fU
   · exact .fail _ _
   · rename_i dR Dy
     exact .Rp (fun v e=>dR v e) (BH Dy) fU
  ·
   rename_i fo DG
   split
   · rename_i F args hc
     obtain ⟨t,vs,all,hl,htg,hr⟩:=BG ok.gl ht hc ty
     have fU:∀n start,ot E φ w F all n start→(execOp a.eval ⟨dst,.call c,ty,pos,after,guard⟩).run E.P w= .ok n w:=fun n start hp=>by
      have:=DF htg hp
      simp [execOp,hr,this]
     split
     · rename_i g hg
       split
       · rename_i v h' hgv
         cases F with
         | fn f=>exact .enter v h' (.fn f) args all (hE.iC f g hg args h v h' hgv).any trivial hl fU
         | vk l=>simp [jK] at hg
       · exact .fail _ _
     · split
       · rename_i v h' kK
         exact .enter v h' F args all (dg.ret F args h v h' kK) htg.adq hl fU
       · rename_i v h' kK
         exact .WB v h' F args all (dg.panic F args h v h' kK) htg.adq hl fU
       · exact .fail _ _
   · exact .fail _ _
  ·
   rename_i r name DG
   split
   · rename_i t x args hx has
     split
     · rename_i f hm
       have h1:=ev hx
       generalize kK:a.eval r=cv at h1
       cases h1 with
       | iface t1 v1 v' hv=>
       have hl:LR φ (x::args) (v'::c.args.toList.map a.eval):= .cons hv (ia ok.gl ht has)
       have fU:∀n start,ot E φ w (.fn f) (v'::c.args.toList.map a.eval) n start→(execOp a.eval ⟨dst,.call c,ty,pos,after,guard⟩).run E.P w= .ok n w:=fun n start hp=>by
        cases hp with
        | fn f qJ hr=>
        have e1:(#[v']++(c.args.map a.eval))=(v'::c.args.toList.map a.eval).toArray:=by rw[map_toArray];simp
        have e2:(#[Value.iface t v']++c.args.map a.eval).extract 1 (#[Value.iface t v']++c.args.map a.eval).size=c.args.map a.eval:=by
         apply Array.ext';simp
         exact List.take_of_length_le (by simp)
        have e3:(#[Value.iface t v']++c.args.map a.eval)[0]? =some (Value.iface t v'):=by rw[Array.getElem?_append];rfl
        simp only[execOp,resolve,DG,kK,Sem.run_bind,Sem.run_pure,Result.andThen_ok,invoke,e3,e2,callMethod,run_program,It hm,e1,hr]
       split
       · rename_i v h' aav
         exact .enter v h' (.fn f) _ _ (dg.ret (.fn f) _ h v h' aav) trivial hl fU
       · rename_i v h' aav
         exact .WB v h' (.fn f) _ _ (dg.panic (.fn f) _ h v h' aav) trivial hl fU
       · exact .fail _ _
     · exact .fail _ _
   · exact .fail _ _
  · exact .fail _ _
 · exact .fail _ _
structure adr (E:Env) (φ:Ph) (h:au) (w:World) (b:Frame) (K:Bool→List Frame) (ops:Array Oper) (rest:List Nat) (k:List Item) (m:Machine) (e:hZ) (s':St):Prop where
 is:∃φ' w' a' e',ExR φ' e e'∧SR φ' s'.ts s'.ds a'∧OK E φ' s'.h w'∧Fr φ h w φ' s'.h w'∧nh φ' b K s'.rc∧adp E.P m b ops rest k (cur K s'.rc) e' a' w'
set_option maxHeartbeats 1000000 in
theorem Ei (hE:kh E) {call:bw} (dg:ic E call) {ops:Array Oper} {i:Nat} {rest:List Nat} {o:Oper} (ho:ops[i]? =some o) {s s':St} {e:hZ} (pQ:FK E call s o= .ok e s')
 {φ:Ph} {a:Act} {w:World} {b:Frame} {k:List Item} {K:Bool→List Frame} (hs:SR φ s.ts s.ds a) (ok:OK E φ s.h w) (gE:nh φ b K s.rc) (hw:Region.wanted o (yielded ops a.tmps)=true):
 adr E φ s.h w b K ops rest k (lone (b.atR a (.inRegion ops (i::rest)::k)) (cur K s.rc) w) e s':=by
 have kC:(s.rc.oq=false∨∀c,o.op≠ .defer c)→o.semAt b.roundOf a.eval=execOp a.eval o:=fun h=>qM gE h _
 unfold FK at pQ
 split at pQ
 · rename_i v hp
   have o8:s.rc.oq=false∨∀c,o.op≠ .defer c:= .inr (fun c e=>by rw[e] at hp;simp [bH] at hp)
   simp at pQ;obtain ⟨rfl,rfl⟩:=pQ
   obtain ⟨v',hv,hr⟩:=zI hE.ext ok.gl hs.ts hp
   exact ⟨φ,w,_,_,.normal,hs.put o.dst hv,ok,Fr.refl _ _ _,gE,.one (mE (kC o8) ho hw (hr w))⟩
 · split at pQ
   · rename_i v hp
     have o8:s.rc.oq=false∨∀c,o.op≠ .defer c:= .inr (fun c e=>by rw[e] at hp;simp [dP] at hp)
     simp at pQ;obtain ⟨rfl,rfl⟩:=pQ
     obtain ⟨v',hv,hr⟩:=zM ok.gl ok hs.ts hp
     exact ⟨φ,w,_,_,.normal,hs.put o.dst hv,ok,Fr.refl _ _ _,gE,.one (mE (kC o8) ho hw (hr w rfl))⟩
   · split at pQ
     · rename_i obj mk hp
       have o8:s.rc.oq=false∨∀c,o.op≠ .defer c:= .inr (fun c e=>by rw[e] at hp;simp [ei] at hp)
       split at pQ
       · rename_i h' hn
         simp at pQ;obtain ⟨rfl,rfl⟩:=pQ
         obtain ⟨O,mk',Iu,hr⟩:=wx ok.gl hs.ts hp
         obtain ⟨jV,nV,hle⟩:=ok.fresh (w':=w.alloc O) hn ⟨w.heap.size,0,0⟩ (by
          have:=Iu.obj (φ.add s.h.nx ⟨w.heap.size,0,0⟩) w.heap.size (fun i m hm=>by
           unfold Ph.add;split
           · rename_i e;subst e;exact absurd (ok.AO _ _ hm) (Nat.lt_irrefl _)
           · exact hm)
          rw[show (w.alloc O).heap=w.heap.push O from rfl]
          simpa using this)
          (fun c dR hc=>by rw[show (w.alloc O).heap=w.heap.push O from rfl,Array.getElem?_push,if_neg (by simpa using dR)]) (by simp) (Nat.le_refl _) rfl rfl rfl
         have hv:=Iu.val (φ.add s.h.nx ⟨w.heap.size,0,0⟩) s.h.nx w.heap.size hle (by simp [Ph.add])
         exact ⟨_,_,_,_,.normal,(hs.mono hle).put o.dst hv,jV,nV,gE.mono hle,.one (mE (kC o8) ho hw (hr w))⟩
       · simp at pQ
     · have sA:=vt hE dg (rc:=s.rc) (o:=o) hs.ts ok
       have o8:(∃d,dc E call s.ts s.h s.rc o= .defer d)∨(∃why q,dc E call s.ts s.h s.rc o= .fail why q)∨(s.rc.oq=false∨∀c,o.op≠ .defer c):=by
        by_cases hd:∃c,o.op= .defer c
        · obtain ⟨c,hd⟩:=hd
          unfold dc
          simp only[hd]
          split
          · exact .inr (.inl ⟨_,_,rfl⟩)
          · exact .inl ⟨_,rfl⟩
          · exact .inr (.inl ⟨_,_,rfl⟩)
        · exact .inr (.inr (.inr (fun c e=>hd ⟨c,e⟩)))
       generalize dc E call s.ts s.h s.rc o=eo at pQ sA o8
       cases sA with
       | val v h' φ' w' v' hv rJ fr run=>
         have o8:=(o8.resolve_left (by simp)).resolve_left (by simp)
         simp at pQ;obtain ⟨rfl,rfl⟩:=pQ
         exact ⟨φ',w',_,_,.normal,(hs.mono fr.ext).put o.dst hv,rJ,fr,gE.mono fr.ext,.one (mE (kC o8) ho hw run)⟩
       | skip h' φ' w' rJ fr run=>
         have o8:=(o8.resolve_left (by simp)).resolve_left (by simp)
         simp at pQ;obtain ⟨rfl,rfl⟩:=pQ
         exact ⟨φ',w',_,_,.normal,(hs.mono fr.ext).put o.dst (VR.undef φ'),rJ,fr,gE.mono fr.ext,.one (Is (kC o8) ho hw run)⟩
       | enter v h' F args all hr hf hl run=>
         have o8:=(o8.resolve_left (by simp)).resolve_left (by simp)
         simp at pQ;obtain ⟨rfl,rfl⟩:=pQ
         obtain ⟨n,start,hp,iP⟩:=hr φ w all ok hf hl
         obtain ⟨φ',w',v',hv,rJ,fr,je⟩:=iP (b.atR a (.inRegion ops (i::rest)::k)) (cur K s.rc)
         rw[tT ho] at je
         exact ⟨φ',w',_,_,.normal,(hs.mono fr.ext).put o.dst hv,rJ,fr,gE.mono fr.ext,.head (go_enter (kC o8) ho hw hp (run n start hp)) je⟩
       | WB v h' F args all hr hf hl run=>
         have o8:=(o8.resolve_left (by simp)).resolve_left (by simp)
         simp at pQ;obtain ⟨rfl,rfl⟩:=pQ
         obtain ⟨n,start,hp,iP⟩:=hr φ w all ok hf hl
         obtain ⟨φ',w',v',hv,rJ,fr,je⟩:=iP (b.atR a (.inRegion ops (i::rest)::k)) (cur K s.rc)
         rw[Frame.raise_atR] at je
         exact ⟨φ',w',a,_,.panic v v' hv,hs.mono fr.ext,rJ,fr,gE.mono fr.ext,.inRegion ops (i::rest)::k,.head (go_enter (kC o8) ho hw hp (run n start hp)) je⟩
       | defer d d' Dy hd run=>
         simp at pQ;obtain ⟨rfl,rfl⟩:=pQ
         have h1:SR φ s.ts (d::s.ds) {a with defers:=d'::a.defers}:=⟨hs.ts,hd,hs.ds⟩
         exact ⟨φ,w,_,_,.normal,h1.put o.dst (VR.undef φ),ok,Fr.refl _ _ _,gE,.one (OU (qM gE (.inl Dy) _) ho hw run)⟩
       | panic v v' hv run=>
         have o8:=(o8.resolve_left (by simp)).resolve_left (by simp)
         simp at pQ;obtain ⟨rfl,rfl⟩:=pQ
         exact ⟨φ,w,a,_,.panic v v' hv,hs,ok,Fr.refl _ _ _,gE,_,.one (Rm (kC o8) ho hw run)⟩
       | rG v agU run=>
         simp at pQ;obtain ⟨rfl,rfl⟩:=pQ
         rw[agU] at gE ⊢
         have Rq:=gE.plain rfl
         have ads:=qM gE (o:=o) (.inl rfl) a.eval
         obtain ⟨_,⟨v',hv,htr⟩,adt⟩:=gE
         exact ⟨φ,w,_,_,.normal,hs.put o.dst hv,ok,Fr.refl _ _ _,⟨Rq,adt⟩,.one (Lg Rq ads ho hw run (htr _ rfl))⟩
       | Rp dR Dy run=>
         simp at pQ;obtain ⟨rfl,rfl⟩:=pQ
         have FP:∀fr:Frame,fr.kind=b.kind→tryRecover fr (cur K s.rc)=none:=by
          cases F7:s.rc with
          | no=>rw[F7] at gE;exact gE.2
          | hQ v=>exact absurd F7 (dR v)
          | done=>rw[F7] at gE;exact gE.2
          | pP l=>rw[F7] at Dy;simp [RC.oq] at Dy
         exact ⟨φ,w,_,_,.normal,hs.put o.dst .nilIface,ok,Fr.refl _ _ _,gE,.one (uO (gE.plain Dy) (qM gE (.inl Dy) _) ho hw run (FP _ rfl))⟩
       | fail why q=>simp at pQ
end Go.Ab
end
