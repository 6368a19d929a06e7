import Derived.Laws.BitsLemmas
import Derived.Laws.RangeString
import Derived.Defers
import Derived.AtR
import Derived.RangeFuncNested
import Derived.Test.YtfllahfbmaafcaaA1
set_option linter.unusedVariables false
set_option linter.unusedSimpArgs false
section
namespace Go.Ab
variable {E:Env}
def KQ (E:Env) (φ:Ph) (h:aA) (w:World) (r:Result Value) (v:AV) (h':aA):Prop:=
 ∃φ' w' v',r= .ok v' w'∧VR φ' v v'∧OK E φ' h' w'∧Fr φ h w φ' h' w'
theorem vx {φ:Ph} {vs:List AV} {qX:List Value} (h:LR φ vs qX) (hs:vs.all AV.scalar=true):∀v∈qX,v.oneCell'=true:=by
 intro v hv
 obtain ⟨i,hi⟩:=List.getElem?_of_mem hv
 have hil:i<vs.length:=by rw[h.1];exact (List.getElem?_eq_some_iff.1 hi).1
 have:=h.2 i vs[i] v (by simp [hil]) hi
 exact this.scalar (List.all_eq_true.1 hs _ (List.getElem_mem hil))
theorem uf {φ:Ph} {h:aA} {w:World} (ok:OK E φ h w) {i:Nat} {cs:List AV} {e:TypeId} (hg:h.get i=some (.cells cs e false)) {l:Loc} (hφ:φ i=some l)
 {vs:List AV} {qX:List Value} (hl:LR φ vs qX) (o:Nat) (hle:o+vs.length≤cs.length) (qN:vs.all AV.scalar=true):
 ∃w',(storeCells ⟨l.eg,l.off+o,none⟩ qX).run E.P w= .ok () w'∧OK E φ (h.put i (some (.cells (setFrom cs o vs) e false))) w'∧
  Fr φ h w φ (h.put i (some (.cells (setFrom cs o vs) e false))) w':=by
 obtain ⟨C,e',lo,hi,hb,hc⟩:=ok.cells hg hφ
 have OH:=hc.size
 have hlen:=hl.1
 have f':=pO (P:=E.P) hb (l.off+o) qX (by omega) (fun k h1 h2=>hc.free rfl k (by omega) (by omega)) (vx hl qN)
 refine ⟨_,f',?_⟩
 obtain ⟨h1,h2,h3⟩:=sD qX w l.eg (l.off+o)
 refine ok.change hg rfl hφ ?_ (fun c eF=>kB qX (Ne.symm eF) _) (size_setCells _ _ _ _) h1 h2 h3
 refine ⟨kA C (l.off+o) qX,e',lo,hi,pN qX hb _,⟨?_,fun k x hk=>?_,fun _ k a b=>hc.free rfl k a (by rw[lP] at b;exact b),fun h=>by cases h⟩,fun _=>by have q:=hc.shape rfl;rw[lP,pw];exact q⟩
 · rw[lP,pw];exact OH
 · rw[fX] at hk
   rw[vu]
   split at hk
   · rename_i hin
     rw[if_pos (by omega)]
     obtain ⟨y,hy,hr⟩:=hl.get hk
     exact ⟨y,by rw[show l.off+k -(l.off+o)=k - o by omega];exact hy,hr⟩
   · rename_i hin
     have hkl:k<cs.length:=(List.getElem?_eq_some_iff.1 hk).1
     rw[if_neg (by omega)]
     exact hc.val k x hk
theorem KR {φ:Ph} {h h':aA} {w:World} (ok:OK E φ h w) {t:TypeId} {av xv:AV} {a' x':Value} (ha:VR φ av a') (hx:VR φ xv x') (e:fE E h t av xv=some h'):
 ∃w',(Instr.storeAt t a' x').run E.P w= .ok () w'∧OK E φ h' w'∧Fr φ h w φ h' w':=by
 unfold fE at e
 split at e
 · rename_i i o
   cases ha with
   | @ptr _ l _ hφ=>
   split at e
   · rename_i cs el n hg hn
     split at e
     · rename_i hc
       simp at e;subst e
       obtain ⟨w',f',js,ou⟩:=uf ok hg hφ hx.cells o (by omega) hc.2.2
       refine ⟨w',?_,js,ou⟩
       have hs:x'.cells.size=n:=by have:=hx.cells.1;simp at this;omega
       simp only[Instr.storeAt,Instr.sureAddr,Sem.run_bind,Sem.run_pure,Result.andThen_ok,storeVar,eC hn,hs,ne_eq,not_true_eq_false,if_false,f']
     · simp at e
   · simp at e
 · simp at e
theorem Bl {φ:Ph} {h:aA} {w:World} (ok:OK E φ h w) {size n:Nat} {x:AV} {x':Value} (hx:VR φ x x') {new:List AV} (e:fj h size n x=some new) (hn:nE x=some n∨True):
 ∃r_:List Value,LR φ new r_∧∀w',w'.heap=w.heap→(Builtin.firstCells size n x').run E.P w'= .ok r_.toArray w':=by
 unfold fj at e
 split at e
 · split at e
   · rename_i h0
     simp at e;subst e
     cases hx
     exact ⟨[],LR.nil φ,fun w' _=>by simp [Builtin.firstCells]⟩
   · simp at e
 · split at e
   · rename_i h0
     simp at e;subst e
     cases hx
     exact ⟨[],LR.nil φ,fun w' _=>by subst h0;simp only[Builtin.firstCells,Nat.zero_mul];rfl⟩
   · simp at e
 · rename_i i o len _ _
   split at e
   · split at e
     · rename_i h0
       simp at e;subst e
       cases hx
       exact ⟨[],LR.nil φ,fun w' _=>by subst h0;simp only[Builtin.firstCells,Nat.zero_mul];rfl⟩
     · split at e
       · rename_i cs el ro hg
         split at e
         · rename_i hle
           simp at e;subst e
           cases hx with
           | @slice _ l _ _ _ _ hφ=>
           obtain ⟨C,e',lo,hi,hb,hc⟩:=ok.cells hg hφ
           obtain ⟨vs,hvl,DF,Bg⟩:=hc.range o (n*size) hle
           refine ⟨vs,Bg,fun w' hw=>?_⟩
           rw[←hw] at hb
           have Bj:=n9 (P:=E.P) hb (l.off+o) vs DF
           rw[hvl] at Bj
           simp only[Builtin.firstCells,Bj]
         · simp at e
       · simp at e
   · simp at e
 · rename_i s
   split at e
   · rename_i so
     simp at e;subst e
     generalize KO:AV.str s=s0 at hx
     cases hx<;>cases KO
     rename_i s'
     refine ⟨(s'.data.toList.take n).map (fun b=>Value.int .u8 b.toNat),⟨by simp,fun i p q hp hq=>?_⟩,fun w' _=>?_⟩
     · rw[←List.map_take,List.getElem?_map] at hp
       rw[List.getElem?_map] at hq
       cases hb:(s'.data.toList.take n)[i]? with
       | none=>rw[hb] at hp;simp at hp
       | some b=>
         rw[hb] at hp hq
         simp at hp hq
         subst hp;subst hq
         exact .int _ _
     · simp only[Builtin.firstCells,Sem.run_pure]
       congr 1
       apply Array.ext'
       simp
   · simp at e
 · simp at e
end Go.Ab
namespace Go.Ab
variable {E:Env}
theorem OK.reuse {φ:Ph} {h h':aA} {w w':World} (ok:OK E φ h w) {i:Nat} {o o':aX} {l l':Loc} (hg:h.get i=some o) (HZ:o.rw=true) (hl:φ i=some l) (hb:l'.eg=l.eg)
 (hn:(h.put i none).new o'=some h') (ho:OR E (φ.add h.nx l') o' l' w'.heap[l.eg]?) (sE:∀c,c≠l.eg→w'.heap[c]? =w.heap[c]?) (fO:w'.heap.size=w.heap.size)
 (hos:w'.os=w.os) (H':w'.tape=w.tape) (qc:w'.output=w.output):
 OK E (φ.add h.nx l') h' w'∧Fr φ h w (φ.add h.nx l') h' w':=by
 obtain ⟨lJ,hnx,Bc,hold⟩:=aA.lO hn
 have hpn:(h.put i none).nx=h.nx:=rfl
 rw[hpn] at hnx Bc hold
 have FK:φ h.nx=none:=by
  cases e:φ h.nx with
  | none=>rfl
  | some m=>exact absurd (ok.Aw _ _ e) (Nat.lt_irrefl _)
 have hle:φ.le (φ.add h.nx l'):=fun j m hm=>by
  unfold Ph.add;split
  · rename_i e;subst e;rw[FK] at hm;simp at hm
  · exact hm
 have gL:∀j p,h'.get j=some p→(j=h.nx∧p=o')∨(j≠h.nx∧j≠i∧h.get j=some p):=fun j p hj=>by
  by_cases e:j=h.nx
  · subst e;rw[Bc] at hj;simp at hj;exact .inl ⟨rfl,hj.symm⟩
  · rw[hold j e] at hj
    by_cases e':i=j
    · subst e';rw[aA.ck] at hj;simp at hj
    · rw[aA.bB e'] at hj;exact .inr ⟨e,Ne.symm e',hj⟩
 have kC:∀j,j≠h.nx→(φ.add h.nx l') j=φ j:=fun j hj=>by simp [Ph.add,hj]
 have iH:(φ.add h.nx l') h.nx=some l':=by simp [Ph.add]
 refine ⟨⟨fun j m hm=>?_,?_,fun g hg=>hle _ _ (ok.vr g hg),fun j p m hj hm=>?_,fun j k p q m n hj hk hm r7 hw hbb=>?_⟩,
  ⟨hle,fun j hj=>kC j (by omega),by omega,hos,H',qc,Nat.le_of_eq fO.symm,fun b _ Y2=>sE b (fun e=>Y2 i o l hg HZ hl e.symm),fun j p m hj hr hm=>?_⟩⟩
 · rw[hnx]
   by_cases e:j=h.nx
   · omega
   · rw[kC j e] at hm;have:=ok.Aw j m hm;omega
 · have:=ok.nx;omega
 · rcases gL j p hj with ⟨rfl,rfl⟩ | ⟨eF,FL,nD⟩
   · rw[iH] at hm;simp at hm;subst hm;exact hb▸ho
   · rw[kC j eF] at hm
     rw[sE _ (fun e=>FL (ok.inj j i p o m l nD hg hm hl (.inr HZ) e))]
     exact (ok.live j p m nD hm).mono hle
 · rcases gL j p hj with ⟨rfl,rfl⟩ | ⟨eF,hni,nD⟩<;>rcases gL k q hk with ⟨rfl,rfl⟩ | ⟨FL,ae4,Ia⟩
   · rfl
   · rw[iH] at hm;simp at hm;subst hm
     rw[kC k FL] at r7
     exact absurd (ok.inj k i q o n l Ia hg r7 hl (.inr HZ) (hbb.symm.trans hb)) ae4
   · rw[iH] at r7;simp at r7;subst r7
     rw[kC j eF] at hm
     exact absurd (ok.inj j i p o m l nD hg hm hl (.inr HZ) (hbb.trans hb)) hni
   · rw[kC j eF] at hm;rw[kC k FL] at r7;exact ok.inj _ _ _ _ _ _ nD Ia hm r7 hw hbb
 · rcases gL j p hj with ⟨rfl,rfl⟩ | ⟨eF,hni,nD⟩
   · rw[iH] at hm;simp at hm;subst hm;exact .inr ⟨i,o,l,hg,HZ,hl,hb.symm⟩
   · rw[kC j eF] at hm;exact .inr ⟨j,p,m,nD,hr,hm,rfl⟩
theorem Em:∀(rounds c KT:Nat),c<KT→Builtin.growBy KT rounds c≤2*KT+1000
 | 0,c,n,h=>by simp [Builtin.growBy];omega
 | r+1,c,n,h=>by
   simp only[Builtin.growBy]
   split
   · omega
   · by_cases hc:c+(c+768) /4<n
     · exact Em r _ n hc
     · cases r with
       | zero=>simp only[Builtin.growBy];omega
       | succ r=>simp only[Builtin.growBy];rw[if_pos (by omega)];omega
theorem nextslicecap_le {n c:Nat} (h:c<n):Builtin.nextslicecap n c≤4*n+4096:=by
 unfold Builtin.nextslicecap
 split
 · omega
 · split
   · omega
   · have:=Em 4 c n h;omega
theorem oG (z:Array Value) (n:Nat):(Builtin.zeroCells z n).size=n*z.size:=by simp [Builtin.zeroCells]
theorem rX {P:Program} {w:World} {sT xT ty elem:TypeId} {xd:TypeDesc} (hs:P.underlying sT=some (.slice elem)) (hx:P.underlying xT=some xd) (Vq:∀k,xd≠ .int k)
 {size bytes n:Nat} (fO:(P.info? elem).map (·.size)=some size) (ia:(P.info? elem).map (·.bytes)=some bytes) {z:Value} (hz:∀w,(zeroValue elem).run P w= .ok z w) (Vr:z.cells.size=size)
 {base:Option Addr} {len cap:Nat} {x':Value} (hn:∀w,(Builtin.lenOf x').run P w= .ok n w) {old new:List Value} (hold:∀w',w'.heap=w.heap→(Builtin.firstCells size len (.slice base len cap)).run P w'= .ok old.toArray w')
 (Bc:∀w',w'.heap=w.heap→(Builtin.firstCells size n x').run P w'= .ok new.toArray w') (lJ:cap<len+n) (Vs:(4*(len+n)+4096)*(bytes+1)≤1099511627776) (U2:old.length=len*size) (QP:new.length=n*size):
 ∃nc:Nat,∃C:Array Value,len+n≤nc∧(∃rest,C.toList=old++new++rest)∧C.size=nc*size∧
  (Builtin.append_ #[sT,xT] ty #[.slice base len cap,x']).run P w= .ok (.slice (some ⟨w.heap.size,0,none⟩) (len+n) nc) (w.drew.alloc (.cells C elem)):=by
 let nc:=(Question.appendCap (len+n) cap elem).cut (w.tape w.drawn (.appendCap (len+n) cap elem))
 have Qe:len+n≤nc:=by show len+n≤len+n+_;omega
 let C:Array Value:=old.toArray++new.toArray++Builtin.zeroCells z.cells (nc -(len+n))
 refine ⟨nc,C,Qe,⟨(Builtin.zeroCells z.cells (nc -(len+n))).toList,by simp [C]⟩,?_,?_⟩
 · simp only[C,Array.size_append,oG,Vr,List.size_toArray,U2,QP]
   rw[←Nat.add_mul,←Nat.add_mul];congr 1;omega
 · obtain ⟨inf,Ij,hb⟩:=qd ia w
   obtain ⟨ae5,QR,U1⟩:=qd ia w.drew
   have Y9:(match xd with | .int _=>true | _=>false)=false:=by cases xd<;>first | rfl | exact absurd rfl (Vq _)
   have Y_:¬len+n≤cap:=by omega
   have Y':=nextslicecap_le lJ
   have hmul:(4*(len+n)+4096)*(bytes+1)=(4*(len+n)+4096)*bytes+(4*(len+n)+4096):=by rw[Nat.mul_add,Nat.mul_one]
   have KV:¬Builtin.nextslicecap (len+n) cap*bytes>2^48:=by
    have:Builtin.nextslicecap (len+n) cap*bytes≤(4*(len+n)+4096)*bytes:=Nat.mul_le_mul_right _ Y'
    omega
   have Za:IntKind.i64.max=9223372036854775807:=by decide
   have FY:¬(((len+n:Nat):Int) >IntKind.i64.max):=by rw[Za];omega
   have o1:=hold w.drew rfl
   have n1:=Bc w.drew rfl
   have z1:=hz w.drew
   have hf:((!false)=true)=True:=by simp
   simp only[Builtin.append_,List.getElem?_toArray,List.getElem?_cons_zero,List.getElem?_cons_succ,Sem.run_bind,Sem.run_pure,Result.andThen_ok,run_underlying hs,run_underlying hx,eC fO,Bool.false_eq_true,if_false,hn,Y_,Ij]
   rw[if_neg (fun h=>FY h.1)]
   simp only[Sem.run_bind,Ij,hb,Result.andThen_ok]
   rw[if_neg KV]
   simp only[Sem.run_bind,run_choose,Question.forced,Bool.false_eq_true,if_false,World.drew_eq,Result.andThen_ok,QR,run_askRoom,o1,hf,if_true,n1,z1,newRow,run_newObj,World.alloc_eq,Sem.run_pure]
   rfl
theorem qg {P:Program} {w w':World} {sT xT ty elem:TypeId} {xd:TypeDesc} (hs:P.underlying sT=some (.slice elem)) (hx:P.underlying xT=some xd) (Vq:∀k,xd≠ .int k)
 {size n:Nat} (fO:(P.info? elem).map (·.size)=some size) {b O len cap:Nat} {x':Value} (hn:∀w,(Builtin.lenOf x').run P w= .ok n w) {new:List Value}
 (Bc:(Builtin.firstCells size n x').run P w= .ok new.toArray w) (hle:len+n≤cap) (iY:(storeCells ⟨b,O+len*size,none⟩ new).run P w= .ok () w'):
 (Builtin.append_ #[sT,xT] ty #[.slice (some ⟨b,O,none⟩) len cap,x']).run P w= .ok (.slice (some ⟨b,O,none⟩) (len+n) cap) w':=by
 have Y9:(match xd with | .int _=>true | _=>false)=false:=by cases xd<;>first | rfl | exact absurd rfl (Vq _)
 have hf:((!false)=true)=True:=by simp
 simp only[Builtin.append_,List.getElem?_toArray,List.getElem?_cons_zero,List.getElem?_cons_succ,Sem.run_bind,Sem.run_pure,Result.andThen_ok,run_underlying hs,run_underlying hx,eC fO,hf,Bool.false_eq_true,if_false,if_true,hn,hle,Bc,ud,iY]
theorem wK {φ:Ph} {h h':aA} {w:World} (ok:OK E φ h w) {new:List AV} {elem:TypeId} (hn:h.new (.cells new elem false)=some h') {l:List Value} (hl:LR φ new l)
 {size nc n bytes:Nat} (fO:ch E elem=some size) (ia:fQ E elem=some bytes) {C:Array Value} {rest:List Value} (hC:C.toList=l++rest) (P_:C.size=nc*size) (Qe:n≤nc) (Ik:l.length=n*size):
 KQ E φ h w (.ok (.slice (some ⟨w.heap.size,0,none⟩) n nc) (w.drew.alloc (.cells C elem))) (.slice h.nx 0 n n true) h':=by
 have QP:new.length=n*size:=by rw[hl.1,Ik]
 obtain ⟨js,ou,hle⟩:=ok.fresh (w':=w.drew.alloc (.cells C elem)) hn ⟨w.heap.size,0,nc - n⟩ (by
  refine ⟨C,elem,0,0,by rw[show (w.drew.alloc (.cells C elem)).heap=w.heap.push (.cells C elem) from rfl];simp,⟨?_,fun k x hk=>?_,fun _ k _ _=>by omega,fun _ _ _=>rfl⟩,fun _=>⟨rfl,rfl,fun _ _ z=>by rw[ia] at z;cases z⟩⟩
  · simp only[fL,fO,Option.getD_some,QP,P_,Nat.zero_add]
    rw[←Nat.add_mul];exact Nat.mul_le_mul_right _ (by omega)
  · obtain ⟨y,hy,hr⟩:=hl.get hk
    have hkl:k<l.length:=(List.getElem?_eq_some_iff.1 hy).1
    refine ⟨y,?_,hr.mono (fun i m hm=>?_)⟩
    · have:C.toList[k]? =some y:=by rw[hC,List.getElem?_append_left hkl];exact hy
      simpa using this
    · unfold Ph.add
      split
      · rename_i e;subst e;exact absurd (ok.Aw _ _ hm) (Nat.lt_irrefl _)
      · exact hm)
  (fun c eF hc=>by
   have:(w.drew.alloc (.cells C elem)).heap[c]? =w.heap[c]? :=by
    rw[show (w.drew.alloc (.cells C elem)).heap=w.heap.push (.cells C elem) from rfl,Array.getElem?_push,if_neg (by simpa using eF)]
   exact this) (by simp) (Nat.le_refl _) rfl rfl rfl
 refine ⟨_,_,_,rfl,?_,js,ou⟩
 have:=VR.slice (φ:=φ.add h.nx ⟨w.heap.size,0,nc - n⟩) (i:=h.nx) (l:=⟨w.heap.size,0,nc - n⟩) 0 n n true (by simp [Ph.add])
 simp only[gK,if_true] at this
 rw[show n+(nc - n)=nc by omega] at this
 exact this
theorem Fr.Vt {φ φ':Ph} {h h':aA} {w w':World} {i:Nat} (f:Fr φ (h.put i none) w φ' h' w'):Fr φ h w φ' h' w':=by
 have gL:∀j p,(h.put i none).get j=some p→h.get j=some p:=fun j p hj=>by
  by_cases e:i=j
  · subst e;rw[aA.ck] at hj;simp at hj
  · rw[aA.bB e] at hj;exact hj
 exact ⟨f.ext,f.old,f.nx,f.os,f.tape,f.output,f.size,fun b hb hn=>f.wF b hb (fun j p m hj=>hn j p m (gL j p hj)),
  fun j p m hj hr hm=>(f.own j p m hj hr hm).imp id (fun ⟨k,q,n,a,b⟩=>⟨k,q,n,gL k q a,b⟩)⟩
theorem oH {φ:Ph} {x:AV} {n:Nat} (h:nE x=some n) {x':Value} (hx:VR φ x x') (P:Program) (w:World):(Builtin.lenOf x').run P w= .ok n w:=by
 cases x<;>simp [nE] at h
 · subst h
   generalize KO:AV.str _=s0 at hx
   cases hx<;>cases KO
   rfl
 · cases hx;subst h;rfl
 · cases hx;subst h;rfl
 · cases hx;subst h;rfl
theorem Ay {P:Program} {w:World} {sT xT ty elem:TypeId} {kx:IntKind} (hs:P.underlying sT=some (.slice elem)) (hx:P.underlying xT=some (.int kx))
 {size bytes:Nat} (fO:(P.info? elem).map (·.size)=some size) (ia:(P.info? elem).map (·.bytes)=some bytes) {z:Value} (hz:∀w,(zeroValue elem).run P w= .ok z w) (Vr:z.cells.size=size)
 {k:IntKind} {n:Int} (hn:0<n) (U3:0<size) (Vs:(4*n.toNat+4096)*(bytes+1)≤1099511627776):
 ∃nc:Nat,∃C:Array Value,n.toNat≤nc∧(∃rest,C.toList=(Builtin.zeroCells z.cells n.toNat).toList++rest)∧C.size=nc*size∧
  (Builtin.append_ #[sT,xT] ty #[.slice none 0 0,.int k n]).run P w= .ok (.slice (some ⟨w.heap.size,0,none⟩) n.toNat nc) (w.drew.alloc (.cells C elem)):=by
 let nc:=(Question.appendCap (0+n.toNat) 0 elem).cut (w.tape w.drawn (.appendCap (0+n.toNat) 0 elem))
 have Qe:n.toNat≤nc:=by show n.toNat≤0+n.toNat+_;omega
 let C:Array Value:= #[]++Builtin.zeroCells z.cells n.toNat++Builtin.zeroCells z.cells (nc -(0+n.toNat))
 refine ⟨nc,C,Qe,⟨(Builtin.zeroCells z.cells (nc -(0+n.toNat))).toList,by simp [C]⟩,?_,?_⟩
 · simp only[C,Array.size_append,oG,Vr,Array.size_empty,Nat.zero_add]
   rw[←Nat.add_mul];congr 1;omega
 · obtain ⟨inf,Ij,hb⟩:=qd ia w
   obtain ⟨ae5,QR,U1⟩:=qd ia w.drew
   have hmul:(4*n.toNat+4096)*(bytes+1)=(4*n.toNat+4096)*bytes+(4*n.toNat+4096):=by rw[Nat.mul_add,Nat.mul_one]
   have QP:n.toNat≤1099511627776:=by omega
   have ab3:IntKind.i64.wrap n=n:=by
    rw[IntKind.wrap_i64];omega
   have ae6:¬n<0:=by omega
   have Dy:n*(bytes:Int)=((n.toNat*bytes:Nat):Int):=by rw[Int.natCast_mul,Int.toNat_of_nonneg (by omega)]
   have hle:n.toNat*bytes≤(4*n.toNat+4096)*bytes:=Nat.mul_le_mul_right _ (by omega)
   have ab4:¬n*(bytes:Int) >2^48:=by rw[Dy];omega
   have Y_:¬0+n.toNat≤0:=by omega
   have Y':=nextslicecap_le (show 0<0+n.toNat by omega)
   have KV:¬Builtin.nextslicecap (0+n.toNat) 0*bytes>2^48:=by
    have:Builtin.nextslicecap (0+n.toNat) 0*bytes≤(4*(0+n.toNat)+4096)*bytes:=Nat.mul_le_mul_right _ Y'
    rw[Nat.zero_add] at this
    rw[Nat.zero_add]
    omega
   have Za:IntKind.i64.max=9223372036854775807:=by decide
   have FY:¬(((0+n.toNat:Nat):Int) >IntKind.i64.max):=by rw[Za];omega
   have hns:¬n.toNat*size=0:=by
    have h1:0<n.toNat:=by omega
    have:=Nat.mul_pos h1 U3;omega
   have z1:=hz w.drew
   have hf:((!true)=true)=False:=by simp
   have hai:∀w,(asInt (.int k n)).run P w= .ok n w:=fun _=>rfl
   simp only[Builtin.append_,List.getElem?_toArray,List.getElem?_cons_zero,List.getElem?_cons_succ,Sem.run_bind,Sem.run_pure,Result.andThen_ok,run_underlying hs,run_underlying hx,eC fO,if_true,hai,ab3]
   rw[if_neg ae6]
   simp only[Sem.run_bind,Ij,hb,Result.andThen_ok]
   rw[if_neg ab4]
   simp only[Sem.run_bind,Sem.run_pure,Result.andThen_ok]
   rw[if_neg Y_]
   simp only[Sem.run_bind,Result.andThen_ok,Ij,hb]
   rw[if_neg (fun h=>FY h.1)]
   simp only[Sem.run_bind,Ij,hb,Result.andThen_ok]
   rw[if_neg KV]
   simp only[Sem.run_bind,run_choose,Question.forced,Bool.false_eq_true,if_false,World.drew_eq,Result.andThen_ok,QR,run_askRoom,Builtin.firstCells,hf,if_neg hns,z1,newRow,run_newObj,World.alloc_eq,Sem.run_pure]
   simp only[nc,C,Nat.zero_add]
   rfl
theorem Il {φ:Ph} {h h':aA} {w:World} (ok:OK E φ h w) {argTypes:Array TypeId} {s x v:AV} (e:bX E h argTypes s x=some (v,h')) {s' x':Value} (hs:VR φ s s') (hx:VR φ x x') (ty:TypeId):
 KQ E φ h w ((Builtin.append_ argTypes ty #[s',x']).run E.P w) v h':=by
 unfold bX at e
 split at e
 · rename_i sT xT hsT hxT
   split at e
   · rename_i elem xd hus hux
     split at e
     · rename_i hint
       cases xd<;>simp [mD] at hint
       have key:(Builtin.append_ argTypes ty #[s',x']).run E.P w=(Builtin.append_ #[sT,xT] ty #[s',x']).run E.P w:=by
        unfold Builtin.append_;simp only[hsT,hxT];rfl
       rw[key]
       unfold sw at e
       split at e
       · rename_i k0 k size bytes z fO ia hzero
         split at e
         · rename_i hc
           obtain ⟨hk,U3,Vs,Y8⟩:=hc
           split at e
           · rename_i h1 zH
             simp at e;obtain ⟨rfl,rfl⟩:=e
             cases hs;cases hx
             obtain ⟨z',yA,jO⟩:=iJ hzero
             have Vr:z'.cells.size=size:=by have:=(yA φ).cells.1;simp at this;omega
             obtain ⟨nc,C,Qe,⟨rest,hC⟩,P_,f'⟩:=Ay (P:=E.P) (w:=w) (ty:=ty) (k:=k0) hus hux fO (uc _ ia) jO Vr hk U3 Vs
             rw[f']
             exact wK (n:=k.toNat) ok zH (l:=(Builtin.zeroCells z'.cells k.toNat).toList) (KP (yA φ).cells k.toNat) fO ia hC P_ Qe (by rw[Array.length_toList,oG,Vr])
           · simp at e
         · simp at e
       · simp at e
     rename_i ab5
     have Vq:∀k,xd≠ .int k:=fun k he=>by subst he;simp [mD] at ab5
     split at e
     · rename_i size bytes n fO ia hlen
       split at e
       · rename_i new z Bm hzero
         split at e
         · rename_i hc
           obtain ⟨Y8,qN,XJ⟩:=hc
           obtain ⟨z',yA,jO⟩:=iJ hzero
           have Vr:z'.cells.size=size:=by have:=(yA φ).cells.1;simp at this;omega
           obtain ⟨r_,DG,wM⟩:=Bl ok hx Bm (.inr trivial)
           have QP:r_.length=n*size:=by rw[←DG.1];exact XJ
           have key:(Builtin.append_ argTypes ty #[s',x']).run E.P w=(Builtin.append_ #[sT,xT] ty #[s',x']).run E.P w:=by
            unfold Builtin.append_;simp only[hsT,hxT];rfl
           rw[key]
           split at e
           ·
            cases hs
            split at e
            · rename_i Qb
              simp at e;obtain ⟨rfl,rfl⟩:=e
              subst Qb
              refine ⟨φ,w,_,?_,.aP,ok,Fr.refl φ h w⟩
              have Y9:(match xd with | .int _=>true | _=>false)=false:=by cases xd<;>first | rfl | exact absurd rfl (Vq _)
              have hf:((!false)=true)=True:=by simp
              have hn1:=wM w rfl
              simp only[Builtin.append_,List.getElem?_toArray,List.getElem?_cons_zero,List.getElem?_cons_succ,Sem.run_bind,Sem.run_pure,Result.andThen_ok,run_underlying hus,run_underlying hux,eC fO,hf,Bool.false_eq_true,if_false,if_true,oH hlen hx,hn1,Nat.le_refl,Nat.add_zero]
            · rename_i Qb
              split at e
              · rename_i Vs
                split at e
                · rename_i h1 zH
                  simp at e;obtain ⟨rfl,rfl⟩:=e
                  obtain ⟨nc,C,Qe,⟨rest,hC⟩,P_,f'⟩:=rX (P:=E.P) (w:=w) (ty:=ty) hus hux Vq fO (uc _ ia) jO Vr (base:=none) (len:=0) (cap:=0) (fun w=>oH hlen hx E.P w) (old:=[]) (fun w' _=>by simp [Builtin.firstCells]) (fun w' hw=>wM w' hw) (by omega) (by simpa using Vs) (by simp) QP
                  have:=wK (n:=n) ok zH (l:=[]++r_) (by simpa using DG) (by simpa using fO) ia (by simpa using hC) P_ (by omega) (by simp [QP])
                  rw[f']
                  simp only[Nat.zero_add] at this ⊢
                  exact this
                · simp at e
              · simp at e
           · rename_i i o len cap op
             cases hs with
             | @slice _ l _ _ _ _ hφ=>
             split at e
             · rename_i cs el hg
               split at e
               ·
                rename_i ab6
                split at e
                · rename_i hle
                  simp at e;obtain ⟨rfl,rfl⟩:=e
                  have Y5:cap≤gK op cap l.iX:=by unfold gK;split<;>omega
                  obtain ⟨w',iY,js,ou⟩:=uf ok hg hφ DG (o+len*size) (by rw[XJ,Nat.add_assoc,←Nat.add_mul];exact hle) qN
                  refine ⟨φ,w',_,qg (P:=E.P) hus hux Vq fO (fun w=>oH hlen hx E.P w) (wM w rfl) (by omega) (by rw[Nat.add_assoc];exact iY),?_,js,ou⟩
                  have:=VR.slice (φ:=φ) o (len+n) cap op hφ
                  exact this
                · simp at e
               · rename_i ab6
                 split at e
                 · rename_i KM
                   obtain ⟨Vs,U2,qb⟩:=KM
                   split at e
                   · rename_i h1 zH
                     simp at e;obtain ⟨rfl,rfl⟩:=e
                     obtain ⟨C0,e0,lo,hi,Qd,Qf⟩:=ok.cells hg hφ
                     obtain ⟨Vu,Im,ab7,KW⟩:=Qf.range o (len*size) U2
                     have Vv:∀cp w',w'.heap=w.heap→(Builtin.firstCells size len (.slice (some ⟨l.eg,l.off+o,none⟩) len cp)).run E.P w'= .ok Vu.toArray w':=fun cp w' hw=>by
                      rw[←hw] at Qd
                      have Bj:=n9 (P:=E.P) Qd (l.off+o) Vu ab7
                      rw[Im] at Bj
                      simp only[Builtin.firstCells,Bj]
                     by_cases hin:len+n≤gK op cap l.iX
                     ·
                      have ae7:op=true:=by
                       cases op with
                       | true=>rfl
                       | false=>simp [gK] at hin;omega
                      subst ae7
                      obtain ⟨rfl,ab1,ho0⟩:=qb rfl
                      simp only[gK,if_true] at hin ⊢
                      simp only[if_true] at zH
                      have OH:=Qf.size
                      simp only[fL,fO,Option.getD_some] at OH
                      have hmul:(len+n)*size≤(cap+l.iX)*size:=Nat.mul_le_mul_right _ hin
                      have e1:(len+n)*size=len*size+n*size:=Nat.add_mul _ _ _
                      have e2:(cap+l.iX)*size=cap*size+l.iX*size:=Nat.add_mul _ _ _
                      have iY:=pO (P:=E.P) Qd (l.off+o+len*size) r_ (by omega) (fun k k1 k2=>Qf.free rfl k (by omega) (by simp only[fL,fO,Option.getD_some];omega)) (vx DG qN)
                      obtain ⟨p1,p2,p3⟩:=sD r_ w l.eg (l.off+o+len*size)
                      obtain ⟨js,ou⟩:=ok.reuse (w':=w.setCells l.eg (l.off+o+len*size) r_) (l':=⟨l.eg,l.off+o,cap+l.iX -(len+n)⟩) hg rfl hφ rfl zH (by
                       refine ⟨kA C0 (l.off+o+len*size) r_,e0,lo,hi,pN r_ Qd _,⟨?_,fun k x hk=>?_,fun _ k a b=>Qf.free rfl k (by simp at a;omega) ?_,fun h=>by cases h⟩,fun _=>⟨(Qf.shape rfl).1,by show l.off+o=0;have:=(Qf.shape rfl).2.1;omega,fun _ _ z=>by rw[ia] at z;cases z⟩⟩
                       · simp only[fL,fO,Option.getD_some,pw,List.length_append,KW.1,Im,DG.1,QP]
                         rw[Nat.sub_mul];omega
                       · show ∃y,(kA C0 (l.off+o+len*size) r_)[l.off+o+k]? =some y∧_
                         rw[vu]
                         by_cases hk1:k<len*size
                         · rw[List.getElem?_append_left (by rw[KW.1,Im];exact hk1)] at hk
                           obtain ⟨y,hy,hr⟩:=KW.get hk
                           rw[if_neg (by omega)]
                           exact ⟨y,ab7 k y hy,hr.mono (fun j m hm=>by
                            unfold Ph.add
                            split
                            · rename_i ej;subst ej;exact absurd (ok.Aw _ _ hm) (Nat.lt_irrefl _)
                            · exact hm)⟩
                         · rw[List.getElem?_append_right (by rw[KW.1,Im];omega)] at hk
                           obtain ⟨y,hy,hr⟩:=DG.get hk
                           have hyl:k -((List.take (len*size) (List.drop o cs)).length)<r_.length:=(List.getElem?_eq_some_iff.1 hy).1
                           rw[KW.1,Im] at hyl hy
                           rw[if_pos (by omega)]
                           exact ⟨y,by rw[show l.off+o+k -(l.off+o+len*size)=k - len*size by omega];exact hy,hr.mono (fun j m hm=>by
                            unfold Ph.add
                            split
                            · rename_i ej;subst ej;exact absurd (ok.Aw _ _ hm) (Nat.lt_irrefl _)
                            · exact hm)⟩
                       · simp only[fL,fO,Option.getD_some,List.length_append,KW.1,Im,DG.1,QP] at b ⊢
                         rw[Nat.sub_mul] at b;omega)
                       (fun c eF=>kB r_ (Ne.symm eF) _) (size_setCells _ _ _ _) p1 p2 p3
                      refine ⟨_,_,_,qg (P:=E.P) hus hux Vq fO (fun w=>oH hlen hx E.P w) (wM w rfl) hin iY,?_,js,ou⟩
                      have:=VR.slice (φ:=φ.add h.nx ⟨l.eg,l.off+o,cap+l.iX -(len+n)⟩) (i:=h.nx) (l:=⟨l.eg,l.off+o,cap+l.iX -(len+n)⟩) 0 (len+n) (len+n) true (by simp [Ph.add])
                      simp only[gK,if_true] at this
                      rw[show len+n+(cap+l.iX -(len+n))=cap+l.iX by omega] at this
                      exact this
                     ·
                      obtain ⟨nc,C,Qe,⟨rest,hC⟩,P_,f'⟩:=rX (P:=E.P) (w:=w) (ty:=ty) hus hux Vq fO (uc _ ia) jO Vr (base:=some ⟨l.eg,l.off+o,none⟩) (len:=len) (cap:=gK op cap l.iX) (fun w=>oH hlen hx E.P w) (old:=Vu) (fun w' hw=>Vv _ w' hw) (fun w' hw=>wM w' hw) (by omega) Vs Im QP
                      rw[f']
                      have Bg:=KW.append DG
                      have Ik:(Vu++r_).length=(len+n)*size:=by rw[List.length_append,Im,QP,Nat.add_mul]
                      cases op with
                      | false=>exact wK ok zH Bg fO ia hC P_ Qe Ik
                      | true=>
                        obtain ⟨φ',w',v',a1,a2,a3,a4⟩:=wK ok.kill zH Bg fO ia hC P_ Qe Ik
                        exact ⟨φ',w',v',a1,a2,a3,a4.Vt⟩
                   · simp at e
                 · simp at e
             · simp at e
           · simp at e
         · simp at e
       · simp at e
     · simp at e
   · simp at e
 · simp at e
end Go.Ab
end
section
namespace Go.Ab
variable {E:Env}
theorem OL {φ:Ph} {h h':aA} {w:World} (ok:OK E φ h w) {argTypes:Array TypeId} {s d v:AV} (e:u_ E h argTypes d s=some (v,h')) {s' d':Value} (hd:VR φ d d') (hs:VR φ s s') (ty:TypeId):
 KQ E φ h w ((Builtin.copy_ argTypes ty #[d',s']).run E.P w) v h':=by
 unfold u_ at e
 split at e
 · rename_i dT hdT
   split at e
   · rename_i elem m hu hm
     split at e
     · rename_i size fO
       simp at e;obtain ⟨rfl,rfl⟩:=e
       cases hd
       refine ⟨φ,w,_,?_,.int .i64 0,ok,Fr.refl φ h w⟩
       have h0:Nat.min m 0=0:=Nat.min_eq_right (Nat.zero_le _)
       obtain ⟨r_,_,wM⟩:∃r_:List Value,True∧(Builtin.firstCells size 0 s').run E.P w= .ok r_.toArray w:=by
        cases s<;>simp [nE] at hm
        · generalize KO:AV.str _=s0 at hs
          cases hs<;>cases KO
          refine ⟨[],trivial,?_⟩
          simp [Builtin.firstCells]
        · cases hs;exact ⟨[],trivial,by simp [Builtin.firstCells]⟩
        · cases hs;exact ⟨[],trivial,by simp [Builtin.firstCells,loadCells,loadCellsFrom]⟩
        · cases hs;exact ⟨[],trivial,by simp [Builtin.firstCells,loadCells,loadCellsFrom]⟩
       simp only[Builtin.copy_,hdT,List.getElem?_toArray,List.getElem?_cons_zero,List.getElem?_cons_succ,Sem.run_bind,Result.andThen_ok,run_underlying hu,oH hm hs,h0,eC fO,wM,Sem.run_pure]
       rfl
     · rename_i size i o len _ _ fO
       split at e
       · rename_i new cs el Bm hg
         split at e
         · rename_i hc
           simp at e;obtain ⟨rfl,rfl⟩:=e
           cases hd with
           | @slice _ l _ _ _ _ hφ=>
           obtain ⟨r_,DG,wM⟩:=Bl ok hs Bm (.inr trivial)
           obtain ⟨w',iY,js,ou⟩:=uf ok hg hφ DG o hc.1 hc.2
           refine ⟨φ,w',_,?_,.int .i64 _,js,ou⟩
           have h0:Nat.min m len=min m len:=rfl
           simp only[Builtin.copy_,hdT,List.getElem?_toArray,List.getElem?_cons_zero,List.getElem?_cons_succ,Sem.run_bind,Result.andThen_ok,run_underlying hu,oH hm hs,h0,eC fO,wM w rfl,iY,Sem.run_pure]
           rfl
         · simp at e
       · simp at e
     · simp at e
   · simp at e
 · simp at e
theorem Io {w:World} {b n:Nat} {C:Array Value} {e:TypeId} (h:w.heap[b]? =some (.cells C e)):(w.freeze ⟨b,n,none⟩ 1).heap[b]? =some (.cells C e (n,n+1)):=by
 simp [World.freeze,Array.getElem?_modify,h]
theorem FZ {w:World} {b c n:Nat} (h:b≠c):(w.freeze ⟨b,n,none⟩ 1).heap[c]? =w.heap[c]? :=by
 simp [World.freeze,Array.getElem?_modify,h]
theorem Ip (w:World) (b n:Nat):(w.freeze ⟨b,n,none⟩ 1).heap.size=w.heap.size:=by simp [World.freeze]
theorem OM {φ:Ph} {h h':aA} {w:World} (ok:OK E φ h w) {src dst:TypeId} {x:AV} {v:AV} (e:Ee E h src dst (some x)=some (v,h')) {x':Value} (hx:VR φ x x'):
 KQ E φ h w ((convert src dst x').run E.P w) v h':=by
 unfold Ee at e
 split at e
 · rename_i el s hs hd Dx
   simp at Dx;subst Dx
   generalize KO:AV.str s=s0 at hx
   cases hx<;>cases KO
   rename_i s'
   split at e
   · rename_i h1 he hn
     split at e
     · rename_i OH
       simp at e;obtain ⟨rfl,rfl⟩:=e
       have e1:s'.size=s'.data.toList.length:=by cases s';rfl
       let nc:=(Question.appendCap s'.size 0 el).cut (w.tape w.drawn (.appendCap s'.size 0 el))
       have Qe:s'.size≤nc:=by show s'.size≤s'.size+_;omega
       let C:Array Value:=(s'.data.map fun b=>Value.int .u8 b.toNat)++Array.replicate (nc - s'.size) (.int .u8 0)
       have P_:C.size=nc:=by
        have e0:s'.size=s'.data.size:=rfl
        have:C.size=s'.data.size+(nc - s'.size):=by simp only[C,Array.size_append,Array.size_map,Array.size_replicate]
        omega
       have Dz:(w.drew.alloc (.cells C el)).heap=w.heap.push (.cells C el):=rfl
       have ab8:(w.drew.alloc (.cells C el)).heap[w.heap.size]? =some (.cells C el):=by rw[Dz];simp
       obtain ⟨js,ou,hle⟩:=ok.fresh (w':=(w.drew.alloc (.cells C el)).freeze ⟨w.heap.size,nc,none⟩ 1) hn ⟨w.heap.size,0,nc - s'.size⟩ (by
        refine ⟨C,el,nc,nc+1,Io ab8,⟨?_,fun k x hk=>?_,fun _ k _ b=>?_,fun _ _ _=>rfl⟩,fun _=>⟨rfl,rfl,fun fs z=>by rw[he] at z;cases z⟩⟩
        · simp only[fL,OH,Option.getD_some,P_,List.length_map];rw[←e1];omega
        · rw[List.getElem?_map] at hk
          cases hb:s'.data.toList[k]? with
          | none=>rw[hb] at hk;simp at hk
          | some b=>
            rw[hb] at hk;simp at hk;subst hk
            have hkl:k<s'.data.toList.length:=(List.getElem?_eq_some_iff.1 hb).1
            refine ⟨.int .u8 b.toNat,?_,.int _ _⟩
            have:C[0+k]? =(s'.data.map fun b=>Value.int .u8 b.toNat)[k]? :=by
             simp only[C,Nat.zero_add];rw[Array.getElem?_append_left (by simpa using hkl)]
            show C[0+k]? =_
            rw[this]
            rw[Array.getElem?_map]
            have U1:s'.data[k]? =some b:=by simpa using hb
            rw[U1];rfl
        · simp only[fL,OH,Option.getD_some,List.length_map] at b;rw[←e1] at b;omega)
        (fun c eF hc=>by
         rw[FZ (Ne.symm eF),Dz,Array.getElem?_push,if_neg (by omega)]) (by rw[Ip,Dz];simp) (Nat.le_refl _) rfl rfl rfl
       refine ⟨_,_,.slice (some ⟨w.heap.size,0,none⟩) s'.size nc,?_,?_,js,ou⟩
       · have hsh:(w.drew.alloc (.cells C el)).shape? w.heap.size=some (el,nc):=by
          simp only[World.shape?,ab8,P_]
         simp only[convert,Sem.run_bind,run_underlying hs,run_underlying hd,Result.andThen_ok,run_underlying he,Conv.stringToBytes,run_choose,Question.forced,Bool.false_eq_true,if_false,World.drew_eq,newRow,run_newObj,World.alloc_eq,Sem.run_pure,markStringish]
         rw[show (Question.appendCap s'.size 0 el).cut (w.tape w.drawn (Question.appendCap s'.size 0 el))=nc from rfl,show (Array.map (fun b=>Value.int .u8 b.toNat) s'.data++Array.replicate (nc - s'.size) (Value.int .u8 0))=C from rfl]
         simp only[World.size_drew,run_shape,hsh,Result.andThen_ok,run_freeze]
       · have:=VR.slice (φ:=φ.add h.nx ⟨w.heap.size,0,nc - s'.size⟩) (i:=h.nx) (l:=⟨w.heap.size,0,nc - s'.size⟩) 0 s'.size s'.size true (by simp [Ph.add])
         simp only[gK,if_true] at this
         rw[show s'.size+(nc - s'.size)=nc by omega] at this
         exact this
     · simp at e
   · simp at e
 · simp at e
theorem qZ {φ:Ph} {v:AV} {v':Value} (hv:VR φ v v') {k':Value}:∀{es:List h_} {gF:List MapEntry} (_:H_ φ es gF) (i:Nat) (_:∀e,es[i]? =some e→VR φ e.key k'),
 H_ φ (dX es i v) (gF.modify i fun e=>{e with key:=k',val:=v'})
 | [],gF,h,i,_=>by
   cases gF with
   | nil=>simpa [dX] using h
   | cons _ _=>simp [H_] at h
 | e::es,gF,h,i,hk=>by
   obtain ⟨hl,DF⟩:=h
   cases gF with
   | nil=>simp at hl
   | cons y ys=>
     have h0:=DF 0 e y (by simp) (by simp)
     have oF:H_ φ es ys:=⟨by simpa using hl,fun i a b p q=>DF (i+1) a b (by simpa using p) (by simpa using q)⟩
     cases i with
     | zero=>
       simp only[dX,List.modify_zero_cons]
       refine ⟨by simpa using hl,fun j a b p q=>?_⟩
       cases j with
       | zero=>simp at p q;subst p;subst q;exact ⟨hk e (by simp),hv,h0.born⟩
       | succ j=>simp at p q;exact oF.2 j a b p q
     | succ i=>
       simp only[dX,List.modify_succ_cons]
       obtain ⟨g1,g2⟩:=qZ hv oF i (fun e he=>hk e (by simpa using he))
       refine ⟨by simp [g1],fun j a b p q=>?_⟩
       cases j with
       | zero=>simp at p q;subst p;subst q;exact h0
       | succ j=>simp at p;exact g2 j a b p (by simpa using q)
theorem Vw (s:ByteArray):(s==s)=true:=by cases s;rename_i d;show (d==d)=true;simp
theorem F0 {φ:Ph} {k j:AV} (e:Ec k j=some true) {k' j':Value} (h:VR φ k k') (h':VR φ j j'):Instr.sameBits 10000 j' k'=true∧j'=k':=by
 unfold Ec at e
 split at e
 · generalize hs:AV.str _=s at h
   generalize qW:AV.str _=s' at h'
   cases h<;>cases hs
   cases h'<;>cases qW
   rename_i s s'
   simp at e
   have:s'=s:=by cases s;cases s';simp_all
   subst this
   exact ⟨by simp only[Instr.sameBits];exact Vw _,rfl⟩
 · cases h;cases h'
   split at e
   · rename_i yB
     simp at e;subst e;subst yB
     exact ⟨by simp [Instr.sameBits],rfl⟩
   · simp at e
 · cases h;cases h'
   simp at e;subst e
   exact ⟨by simp [Instr.sameBits],rfl⟩
 · simp at e
theorem sG {φ:Ph} {h h':aA} {w:World} (ok:OK E φ h w) {t:TypeId} {m k v:AV} {m' k' v':Value} (hm:VR φ m m') (hk:VR φ k k') (hv:VR φ v v') (e:eK E h t m k v=some h'):
 ∃w',(Instr.mapUpdate t m' k' v').run E.P w= .ok () w'∧OK E φ h' w'∧Fr φ h w φ h' w':=by
 unfold eK at e
 split at e
 · rename_i key elem i hu
   cases hm with
   | @map _ l hφ=>
   split at e
   · rename_i es clock hg
     split at e
     · rename_i yB
       have FX:∃d,E.P.underlying key=some d∧jf (some d) k=true:=by
        cases hd:E.P.underlying key with
        | none=>rw[hd] at yB;simp [jf] at yB
        | some d=>rw[hd] at yB;exact ⟨d,rfl,yB⟩
       obtain ⟨d,hd,yL⟩:=FX
       have AY:=ok.live i _ l hg hφ
       obtain ⟨H0,gF,hb,gM⟩:=AY
       have zE:(getObj l.eg).run E.P w= .ok (.map gF clock) w:=by simp [getObj,Sem.run,hb]
       have FV:=qY (P:=E.P) hd yL hk false 9999 w
       have qh:∀o':Obj,(setObj l.eg o').run E.P w= .ok () {w with heap:=w.heap.setIfInBounds l.eg o'}:=fun o'=>by simp [setObj,Sem.run,hb]
       have Zb:∀(o:aX) (o':Obj),OR E φ o l (some o')→o.rw=true→OK E φ (h.put i (some o)) {w with heap:=w.heap.setIfInBounds l.eg o'}∧Fr φ h w φ (h.put i (some o)) {w with heap:=w.heap.setIfInBounds l.eg o'}:=fun o o' ho HZ=>by
        have lJ:l.eg<w.heap.size:=by
         rcases Nat.lt_or_ge l.eg w.heap.size with a | a
         · exact a
         · rw[Array.getElem?_eq_none a] at hb;simp at hb
        exact ok.change hg rfl hφ (by simp [lJ];exact ho) (fun c eF=>by simp [Ne.symm eF]) (by simp) rfl rfl rfl
       split at e
       · rename_i j v0 hf
         obtain ⟨r',h1,h2⟩:=qf yL hk gM hf
         cases r' with
         | none=>exact h2.elim
         | some q=>
         obtain ⟨j',v1⟩:=q
         obtain ⟨rfl,DF,_,QS,vw,Iq⟩:=h2
         simp at e;subst e
         obtain ⟨y,hy⟩:∃y,gF.toList[j]? =some y:=by
          have lJ:j<es.length:=by simpa using (List.getElem?_eq_some_iff.1 vw).1
          exact ⟨gF.toList[j]'(by rw[←gM.1];exact lJ),by simp⟩
         have Vx:=gM.2 j QS y (by simpa using vw) hy
         obtain ⟨hsb,QT⟩:=F0 Iq hk Vx.key
         have QU:gF[j]? =some y:=by simpa using hy
         obtain ⟨js,ou⟩:=Zb (.map (dX es j v) clock) (.map (gF.modify j fun e=>{e with key:=k',val:=v'}) clock) ⟨H0,_,rfl,by
          have:=qZ hv gM j (k':=k') (fun e he=>by
           have:e=QS:=by
            have h3:es[j]? =some QS:=by simpa using vw
            rw[h3] at he;simp at he;exact he.symm
           subst this;rw[←QT];exact Vx.key)
          simpa using this⟩ rfl
         refine ⟨_,?_,js,ou⟩
         simp only[Instr.mapUpdate,Sem.run_bind,run_underlying hu,Result.andThen_ok,zE,FV,Instr.findKey,run_underlying hd,h1,Sem.run_pure,QU,Option.map_some,Option.getD_some,Instr.keyThatStays,hsb,if_true,qh _]
       · rename_i hf
         obtain ⟨r',h1,h2⟩:=qf yL hk gM hf
         cases r' with
         | some q=>exact h2.elim
         | none=>
         simp at e;subst e
         obtain ⟨js,ou⟩:=Zb (.map (es++[{key:=k,val:=v,born:=clock}]) (clock+1)) (.map (gF.push {key:=k',val:=v',born:=clock}) (clock+1)) ⟨H0,_,rfl,by
          refine ⟨by simp [gM.1],fun j a b p q=>?_⟩
          rw[Array.toList_push] at q
          by_cases hj:j<es.length
          · rw[List.getElem?_append_left hj] at p
            rw[List.getElem?_append_left (by rw[←gM.1];exact hj)] at q
            exact gM.2 j a b p q
          · rw[List.getElem?_append_right (by omega)] at p
            rw[List.getElem?_append_right (by rw[←gM.1];omega),←gM.1] at q
            cases XK:j - es.length with
            | zero=>rw[XK] at p q;simp at p q;subst p;subst q;exact ⟨hk,hv,rfl⟩
            | succ n=>rw[XK] at p;simp at p⟩ rfl
         refine ⟨_,?_,js,ou⟩
         simp only[Instr.mapUpdate,Sem.run_bind,run_underlying hu,Result.andThen_ok,zE,FV,Instr.findKey,run_underlying hd,h1,Sem.run_pure,qh _]
       · simp at e
     · split at e
       · rename_i yB
         have FX:∃d,E.P.underlying key=some d∧j9 E (some d) k=true:=by
          cases hd:E.P.underlying key with
          | none=>rw[hd] at yB;simp [j9] at yB
          | some d=>rw[hd] at yB;exact ⟨d,rfl,yB⟩
         obtain ⟨d,hd,yL⟩:=FX
         have AY:=ok.live i _ l hg hφ
         obtain ⟨H0,gF,hb,gM⟩:=AY
         have zE:(getObj l.eg).run E.P w= .ok (.map gF clock) w:=by simp [getObj,Sem.run,hb]
         have FV:=py hd yL hk false 9998 w
         have qh:∀o':Obj,(setObj l.eg o').run E.P w= .ok () {w with heap:=w.heap.setIfInBounds l.eg o'}:=fun o'=>by simp [setObj,Sem.run,hb]
         have Zb:∀(o:aX) (o':Obj),OR E φ o l (some o')→o.rw=true→OK E φ (h.put i (some o)) {w with heap:=w.heap.setIfInBounds l.eg o'}∧Fr φ h w φ (h.put i (some o)) {w with heap:=w.heap.setIfInBounds l.eg o'}:=fun o o' ho HZ=>by
          have lJ:l.eg<w.heap.size:=by
           rcases Nat.lt_or_ge l.eg w.heap.size with a | a
           · exact a
           · rw[Array.getElem?_eq_none a] at hb;simp at hb
          exact ok.change hg rfl hφ (by simp [lJ];exact ho) (fun c eF=>by simp [Ne.symm eF]) (by simp) rfl rfl rfl
         split at e
         · rename_i j v0 hf
           obtain ⟨r',h1,h2⟩:=mF hk gM hf
           cases r' with
           | none=>exact h2.elim
           | some q=>
           obtain ⟨j',v1⟩:=q
           obtain ⟨rfl,DF,_,QS,vw,Iq⟩:=h2
           simp at e;subst e
           obtain ⟨y,hy⟩:∃y,gF.toList[j]? =some y:=by
            have lJ:j<es.length:=by simpa using (List.getElem?_eq_some_iff.1 vw).1
            exact ⟨gF.toList[j]'(by rw[←gM.1];exact lJ),by simp⟩
           have Vx:=gM.2 j QS y (by simpa using vw) hy
           obtain ⟨hsb,QT⟩:=Iq hk Vx.key
           have QU:gF[j]? =some y:=by simpa using hy
           obtain ⟨js,ou⟩:=Zb (.map (dX es j v) clock) (.map (gF.modify j fun e=>{e with key:=k',val:=v'}) clock) ⟨H0,_,rfl,by
            have:=qZ hv gM j (k':=k') (fun e he=>by
             have:e=QS:=by
              have h3:es[j]? =some QS:=by simpa using vw
              rw[h3] at he;simp at he;exact he.symm
             subst this;rw[←QT];exact Vx.key)
            simpa using this⟩ rfl
           refine ⟨_,?_,js,ou⟩
           simp only[Instr.mapUpdate,Sem.run_bind,run_underlying hu,Result.andThen_ok,zE,FV,kf hd yL hk (h1 w),Sem.run_pure,QU,Option.map_some,Option.getD_some,Instr.keyThatStays,hsb,if_true,qh _]
         · rename_i hf
           obtain ⟨r',h1,h2⟩:=mF hk gM hf
           cases r' with
           | some q=>exact h2.elim
           | none=>
           simp at e;subst e
           obtain ⟨js,ou⟩:=Zb (.map (es++[{key:=k,val:=v,born:=clock}]) (clock+1)) (.map (gF.push {key:=k',val:=v',born:=clock}) (clock+1)) ⟨H0,_,rfl,by
            refine ⟨by simp [gM.1],fun j a b p q=>?_⟩
            rw[Array.toList_push] at q
            by_cases hj:j<es.length
            · rw[List.getElem?_append_left hj] at p
              rw[List.getElem?_append_left (by rw[←gM.1];exact hj)] at q
              exact gM.2 j a b p q
            · rw[List.getElem?_append_right (by omega)] at p
              rw[List.getElem?_append_right (by rw[←gM.1];omega),←gM.1] at q
              cases XK:j - es.length with
              | zero=>rw[XK] at p q;simp at p q;subst p;subst q;exact ⟨hk,hv,rfl⟩
              | succ n=>rw[XK] at p;simp at p⟩ rfl
           refine ⟨_,?_,js,ou⟩
           simp only[Instr.mapUpdate,Sem.run_bind,run_underlying hu,Result.andThen_ok,zE,FV,kf hd yL hk (h1 w),Sem.run_pure,qh _]
         · simp at e
       · simp at e
   · simp at e
 · simp at e
theorem F1 {φ:Ph} {k':Value} {es:List h_} {gF:List MapEntry} (h:H_ φ es gF) (i:Nat) (hk:∀e,es[i]? =some e→VR φ e.key k'):
 H_ φ es (gF.modify i fun e=>{e with key:=k'}):=by
 obtain ⟨hl,hv⟩:=h
 refine ⟨by rw[List.length_modify];exact hl,fun j a b p q=>?_⟩
 rw[List.getElem?_modify] at q
 by_cases e:i=j
 · subst e
   cases hb:gF[i]? with
   | none=>rw[hb] at q;simp at q
   | some y=>
     rw[hb] at q;simp at q;subst q
     have r:=hv i a y p hb
     exact ⟨hk a p,r.val,r.born⟩
 · have q':gF[j]? =some b:=by simpa [e] using q
   exact hv j a b p q'
theorem wN:∀(es:List h_) (i j:Nat) (v:AV),(dX es i v)[j]? =if i=j then (es[j]?).map (fun e=>{e with val:=v}) else es[j]?
 | [],i,j,v=>by cases i<;>simp [dX]
 | e::es,0,0,v=>by simp [dX]
 | e::es,0,j+1,v=>by simp [dX]
 | e::es,i+1,0,v=>by simp [dX]
 | e::es,i+1,j+1,v=>by simp [dX,wN es i j v]
theorem rY:∀(es:List h_) (i:Nat) (v:AV),(dX es i v).length=es.length
 | [],i,v=>by cases i<;>simp [dX]
 | e::es,0,v=>by simp [dX]
 | e::es,i+1,v=>by simp [dX,rY es i v]
theorem KY {φ:Ph} {v:AV} {v':Value} (hv:VR φ v v') {es:List h_} {gF:List MapEntry} (h:H_ φ es gF) (i:Nat):
 H_ φ (dX es i v) (gF.modify i fun e=>{e with val:=v'}):=by
 obtain ⟨hl,DF⟩:=h
 refine ⟨by rw[List.length_modify,rY];exact hl,fun j a b p q=>?_⟩
 rw[List.getElem?_modify] at q
 rw[wN] at p
 by_cases e:i=j
 · subst e
   cases hb:gF[i]? with
   | none=>rw[hb] at q;simp at q
   | some y=>
     rw[hb] at q;simp at q;subst q
     cases ha:es[i]? with
     | none=>rw[ha] at p;simp at p
     | some x=>
       rw[ha] at p;simp at p;subst p
       have r:=DF i x y ha hb
       exact ⟨r.key,hv,r.born⟩
 · have q':gF[j]? =some b:=by simpa [e] using q
   have p':es[j]? =some a:=by simpa [e] using p
   exact DF j a b p' q'
theorem OK.KZ {φ:Ph} {h:aA} {w:World} (ok:OK E φ h w) {i:Nat} {es es2:List h_} {clock clock2:Nat} {ON:Array MapEntry} {l:Loc} {O:Obj} (hg:h.get i=some (.map es clock)) (hφ:φ i=some l) (H0:l.off=0) (hb:w.heap[l.eg]? =some O) (he:H_ φ es2 ON.toList):
 OK E φ (h.put i (some (.map es2 clock2))) {w with heap:=w.heap.setIfInBounds l.eg (.map ON clock2)}∧Fr φ h w φ (h.put i (some (.map es2 clock2))) {w with heap:=w.heap.setIfInBounds l.eg (.map ON clock2)}:=by
 have lJ:l.eg<w.heap.size:=by
  rcases Nat.lt_or_ge l.eg w.heap.size with a | a
  · exact a
  · rw[Array.getElem?_eq_none a] at hb;simp at hb
 exact ok.change hg rfl hφ (by simp [lJ];exact ⟨H0,_,rfl,he⟩) (fun c eF=>by simp [Ne.symm eF]) (by simp) rfl rfl rfl
theorem DH {φ:Ph} {h h':aA} {w:World} (ok:OK E φ h w) {t:TypeId} {m k v:AV} {m' k':Value} (hm:VR φ m m') (hk:VR φ k k') (e:yD E h t m k=some (v,h')):
 KQ E φ h w ((Instr.mapEntry t m' k').run E.P w) v h':=by
 unfold yD at e
 split at e
 · rename_i key elem i hu
   cases hm with
   | @map _ l hφ=>
   split at e
   · rename_i es clock hg
     split at e
     · rename_i yB
       have FX:∃d,E.P.underlying key=some d∧j9 E (some d) k=true:=by
        cases hd:E.P.underlying key with
        | none=>rw[hd] at yB;simp [j9] at yB
        | some d=>rw[hd] at yB;exact ⟨d,rfl,yB⟩
       obtain ⟨d,hd,yL⟩:=FX
       have AY:=ok.live i _ l hg hφ
       obtain ⟨H0,gF,hb,gM⟩:=AY
       have zE:(getObj l.eg).run E.P w= .ok (.map gF clock) w:=by simp [getObj,Sem.run,hb]
       have FV:=py hd yL hk false 9998 w
       have qh:∀o':Obj,(setObj l.eg o').run E.P w= .ok () {w with heap:=w.heap.setIfInBounds l.eg o'}:=fun o'=>by simp [setObj,Sem.run,hb]
       split at e
       · rename_i j v0 hf
         obtain ⟨r',h1,h2⟩:=mF hk gM hf
         cases r' with
         | none=>exact h2.elim
         | some q=>
         obtain ⟨j',v1⟩:=q
         obtain ⟨rfl,DF,_,QS,vw,Iq⟩:=h2
         have MQ:es[j]? =some QS:=by simpa using vw
         rw[MQ] at e
         simp at e;obtain ⟨rfl,rfl⟩:=e
         obtain ⟨y,hy⟩:∃y,gF.toList[j]? =some y:=by
          have lJ:j<es.length:=by simpa using (List.getElem?_eq_some_iff.1 MQ).1
          exact ⟨gF.toList[j]'(by rw[←gM.1];exact lJ),by simp⟩
         have Vx:=gM.2 j QS y MQ hy
         obtain ⟨hsb,QT⟩:=Iq hk Vx.key
         have QU:gF[j]? =some y:=by simpa using hy
         obtain ⟨js,ou⟩:=ok.KZ (ON:=gF.modify j fun e=>{e with key:=k'}) (clock2:=clock) hg hφ H0 hb (by
          have:=F1 gM j (k':=k') (fun e he=>by
           have:e=QS:=by rw[MQ] at he;simp at he;exact he.symm
           subst this;rw[←QT];exact Vx.key)
          simpa using this)
         refine ⟨φ,_,.tuple #[v1,goInt y.born],?_,VR.tuple' (LR.cons DF (LR.cons (by rw[←Vx.born];exact .int _ _) (LR.nil φ))),js,ou⟩
         simp only[Instr.mapEntry,Sem.run_bind,run_underlying hu,Result.andThen_ok,zE,FV,kf hd yL hk (h1 w),Sem.run_pure,QU,Option.map_some,Option.getD_some,Instr.keyThatStays,hsb,if_true,qh _]
       · rename_i hf
         obtain ⟨r',h1,h2⟩:=mF hk gM hf
         cases r' with
         | some q=>exact h2.elim
         | none=>
         split at e
         · rename_i z hz
           simp at e;obtain ⟨rfl,rfl⟩:=e
           obtain ⟨z',yA,jO⟩:=iJ hz
           obtain ⟨js,ou⟩:=ok.KZ (ON:=gF.push {key:=k',val:=z',born:=clock}) (clock2:=clock+1) (es2:=es++[{key:=k,val:=z,born:=clock}]) hg hφ H0 hb (by
            refine ⟨by simp [gM.1],fun j a b p q=>?_⟩
            rw[Array.toList_push] at q
            by_cases hj:j<es.length
            · rw[List.getElem?_append_left hj] at p
              rw[List.getElem?_append_left (by rw[←gM.1];exact hj)] at q
              exact gM.2 j a b p q
            · rw[List.getElem?_append_right (by omega)] at p
              rw[List.getElem?_append_right (by rw[←gM.1];omega),←gM.1] at q
              cases XK:j - es.length with
              | zero=>rw[XK] at p q;simp at p q;subst p;subst q;exact ⟨hk,yA φ,rfl⟩
              | succ n=>rw[XK] at p;simp at p)
           refine ⟨φ,_,.tuple #[z',goInt clock],?_,VR.tuple' (LR.cons (yA φ) (LR.cons (.int _ _) (LR.nil φ))),js,ou⟩
           simp only[Instr.mapEntry,Sem.run_bind,run_underlying hu,Result.andThen_ok,zE,FV,kf hd yL hk (h1 w),Sem.run_pure,jO,qh _]
         · simp at e
       · simp at e
     · simp at e
   · simp at e
 · simp at e
theorem OO {φ:Ph} {es:List h_} {gF:List MapEntry} (h:H_ φ es gF) (p:Int→Bool):gF.findIdx? (fun e=>p (e.born:Int))=es.findIdx? (fun e=>p (e.born:Int)):=by
 have hm:gF.map (fun e=>(e.born:Int))=es.map (fun e=>(e.born:Int)):=by
  apply List.ext_getElem?
  intro j
  rw[List.getElem?_map,List.getElem?_map]
  by_cases hj:j<es.length
  · have h1:es[j]? =some es[j]:=by simp [hj]
    have nD:j<gF.length:=by rw[←h.1];exact hj
    have h2:gF[j]? =some gF[j]:=by simp [nD]
    rw[h1,h2,Option.map_some,Option.map_some,(h.2 j _ _ h1 h2).born]
  · rw[List.getElem?_eq_none (by rw[←h.1];omega),List.getElem?_eq_none (by omega)];rfl
 have a:=congrArg (List.findIdx? p) hm
 rw[List.findIdx?_map,List.findIdx?_map] at a
 exact a
theorem Az {φ:Ph} {h h':aA} {w:World} (ok:OK E φ h w) {t:TypeId} {m s x:AV} {m' s' x':Value} (hm:VR φ m m') (hs:VR φ s s') (hx:VR φ x x') (e:sx h m s x=some h'):
 ∃w',(Instr.entryStore t m' s' x').run E.P w= .ok () w'∧OK E φ h' w'∧Fr φ h w φ h' w':=by
 unfold sx at e
 split at e
 · rename_i i kd n
   cases hm with
   | @map _ l hφ=>
   cases hs with
   | int=>
   split at e
   · rename_i es clock hg
     split at e
     · rename_i j hj
       simp at e;subst e
       obtain ⟨H0,gF,hb,gM⟩:=ok.live i _ l hg hφ
       have zE:(getObj l.eg).run E.P w= .ok (.map gF clock) w:=by simp [getObj,Sem.run,hb]
       have qh:∀o':Obj,(setObj l.eg o').run E.P w= .ok () {w with heap:=w.heap.setIfInBounds l.eg o'}:=fun o'=>by simp [setObj,Sem.run,hb]
       have nD:gF.findIdx? (fun e=>(e.born:Int)==n)=some j:=by
        have:=OO gM (fun b=>b==n)
        rw[hj] at this
        cases gF;rw[List.findIdx?_toArray];exact this
       obtain ⟨js,ou⟩:=ok.KZ (ON:=gF.modify j fun e=>{e with val:=x'}) (clock2:=clock) hg hφ H0 hb (by
        have:=KY hx gM j
        simpa using this)
       refine ⟨_,?_,js,ou⟩
       have e0:(Instr.entryStore t (.map (some l.eg)) (.int kd n) x').run E.P w=(setObj l.eg (.map (gF.modify j fun e=>{e with val:=x'}) clock)).run E.P w:=by
        have ha:(asInt (.int kd n)).run E.P w= .ok n w:=rfl
        simp only[Instr.entryStore,Sem.run_bind,Result.andThen_ok,zE,ha,Sem.run_pure,nD]
       rw[e0];exact qh _
     · simp at e
   · simp at e
 · simp at e
theorem F2 {s:ByteArray} {pos:Nat} {b:UInt8} (h:s.data.toList[pos]? =some b) (hb:b.toNat<128):Utf8.decode s pos=(b.toNat,1):=by
 have hl:pos<s.size:=(List.getElem?_eq_some_iff.1 h).1
 have U1:s[pos]'hl=b:=by
  have:=(List.getElem?_eq_some_iff.1 h).2
  rw[←this];rfl
 rw[decode_ascii s pos hl (by rw[U1];exact hb),U1]
theorem OP {φ:Ph} {h h':aA} {w:World} (ok:OK E φ h w) {it v:AV} {b:Bool} (e:Ed h it b=some (v,h')) {it':Value} (hit:VR φ it it') (ty:TypeId):
 KQ E φ h w ((Instr.next it' b ty).run E.P w) v h':=by
 unfold Ed at e
 split at e
 · rename_i r
   cases hit with
   | @ptr _ l _ hφ=>
   split at e
   · rename_i s pos hg
     have AY:=ok.live r _ l hg hφ
     obtain ⟨H0,s',hb,qW⟩:=AY
     have zE:(getObj l.eg).run E.P w= .ok (.stringIter s' pos) w:=by simp [getObj,Sem.run,hb]
     have e1:s'.size=s.length:=by rw[←qW];cases s';rfl
     split at e
     · rename_i lJ
       split at e
       · rename_i c hc
         split at e
         · rename_i ae8
           simp at e;obtain ⟨rfl,rfl⟩:=e
           have qh:(setObj l.eg (.stringIter s' (pos+1))).run E.P w= .ok () {w with heap:=w.heap.setIfInBounds l.eg (.stringIter s' (pos+1))}:=by simp [setObj,Sem.run,hb]
           have ae9:l.eg<w.heap.size:=by
            rcases Nat.lt_or_ge l.eg w.heap.size with a | a
            · exact a
            · rw[Array.getElem?_eq_none a] at hb;simp at hb
           obtain ⟨js,ou⟩:=ok.change (w':={w with heap:=w.heap.setIfInBounds l.eg (.stringIter s' (pos+1))}) (o':= .uY s (pos+1)) hg rfl hφ (by simp [ae9];exact ⟨H0,s',rfl,qW⟩) (fun c eF=>by simp [Array.getElem?_setIfInBounds,Ne.symm eF]) (by simp) rfl rfl rfl
           refine ⟨φ,_,.tuple #[.bool true,.int .i64 pos,.int .i32 c.toNat],?_,VR.tuple' (iW:=[.bool true,.int .i64 pos,.int .i32 c.toNat]) (.cons (.bool true) (.cons (.int _ _) (.cons (.int _ _) (.nil φ)))),js,ou⟩
           have afa:=F2 (s:=s') (pos:=pos) (b:=c) (by rw[qW];exact hc) ae8
           have h0:l.off+0=0:=by omega
           simp only[Instr.next,h0,Sem.run_bind,zE,Result.andThen_ok,e1,lJ,if_true,afa,qh,Sem.run_pure,goInt]
         · simp at e
       · simp at e
     · rename_i lJ
       simp at e;obtain ⟨rfl,rfl⟩:=e
       refine ⟨φ,w,.tuple #[.bool false],?_,VR.tuple' (iW:=[.bool false]) (.cons (.bool false) (.nil φ)),ok,Fr.refl φ h w⟩
       have h0:l.off+0=0:=by omega
       simp only[Instr.next,h0,Sem.run_bind,zE,Result.andThen_ok,e1,lJ,if_false,Sem.run_pure]
   · rename_i s1 s2 s3 hg
     have AY:=ok.live r _ l hg hφ
     obtain ⟨H0,hb⟩:=AY
     have zE:(getObj l.eg).run E.P w= .ok (.mapIter none s1 s2.toArray s3) w:=by simp [getObj,Sem.run,hb]
     simp at e;obtain ⟨rfl,rfl⟩:=e
     refine ⟨φ,w,.tuple #[.bool false],?_,VR.tuple' (iW:=[.bool false]) (.cons (.bool false) (.nil φ)),ok,Fr.refl φ h w⟩
     have h0:l.off+0=0:=by omega
     simp only[Instr.next,h0,Sem.run_bind,zE,Result.andThen_ok,Sem.run_pure]
   · simp at e
 · simp at e
end Go.Ab
end
section
namespace Go.Ab
variable {E:Env}
def DR (φ:Ph):oB→Deferred→Prop
 | .call f args,d'=>∃cap,d'.target= .fn (.func f) cap∧LR φ args (d'.args++cap).toList
 | .pj r,d'=>∃l,φ r=some l∧d'.target= .collected l.eg
def XL (φ:Ph):List oB→List Deferred→Prop
 | [],[]=>True
 | d::ds,d'::yM=>DR φ d d'∧XL φ ds yM
 | _,_=>False
theorem DR.mono {φ φ':Ph} (hle:φ.le φ') {d:oB} {d':Deferred} (h:DR φ d d'):DR φ' d d':=by
 cases d with
 | call f args=>obtain ⟨c,a,b⟩:=h;exact ⟨c,a,b.mono hle⟩
 | pj r=>obtain ⟨l,a,b⟩:=h;exact ⟨l,hle _ _ a,b⟩
theorem XL.mono {φ φ':Ph} (hle:φ.le φ'):∀{ds:List oB} {yM:List Deferred} (_:XL φ ds yM),XL φ' ds yM
 | [],[],_=>trivial
 | _::_,_::_,h=>⟨h.1.mono hle,XL.mono hle h.2⟩
structure SR (φ:Ph) (ts:List AV) (ds:List oB) (a:Act):Prop where
 ts:LR φ ts a.tmps.toList
 ds:XL φ ds a.defers
theorem SR.mono {φ φ':Ph} (hle:φ.le φ') {ts:List AV} {ds:List oB} {a:Act} (h:SR φ ts ds a):SR φ' ts ds a:=⟨h.ts.mono hle,h.ds.mono hle⟩
def nJ (φ:Ph) (b:Frame) (K:Bool→List Frame):RC→Prop
 | .no=>b.roundOf=none∧∀fr:Frame,fr.kind=b.kind→tryRecover fr (K false)=none
 | .ir v=>b.roundOf=none∧(∃v',VR φ v v'∧∀fr:Frame,fr.kind=b.kind→tryRecover fr (K false)=some (v',K true))∧∀fr:Frame,fr.kind=b.kind→tryRecover fr (K true)=none
 | .done=>b.roundOf=none∧∀fr:Frame,fr.kind=b.kind→tryRecover fr (K true)=none
 | .sm l=>∃ll,φ l=some ll∧b.roundOf=some ll.eg
def cur (K:Bool→List Frame):RC→List Frame
 | .done=>K true
 | _=>K false
def RC.oI:RC→Bool
 | .sm _=>true
 | _=>false
theorem nJ.mono {φ φ':Ph} (hle:φ.le φ') {b:Frame} {K:Bool→List Frame}:∀{rc:RC} (_:nJ φ b K rc),nJ φ' b K rc
 | .no,h=>h
 | .ir _,h=>let ⟨n,⟨v',a,b⟩,c⟩:=h;⟨n,⟨v',a.mono hle,b⟩,c⟩
 | .done,h=>h
 | .sm _,h=>let ⟨l,a,b⟩:=h;⟨l,hle _ _ a,b⟩
theorem nJ.plain {φ:Ph} {b:Frame} {K:Bool→List Frame} {rc:RC} (h:nJ φ b K rc) (hn:rc.oI=false):b.roundOf=none:=by
 cases rc with
 | no=>exact h.1
 | ir v=>exact h.1
 | done=>exact h.1
 | sm l=>simp [RC.oI] at hn
inductive Zc (φ:Ph):iB→Exit→Prop
 | normal:Zc φ .normal .normal
 | exit (id:Nat):Zc φ (.exit id) (.exit id)
 | ret:Zc φ .ret .ret
 | panic (v:AV) (v':Value) (h:VR φ v v'):Zc φ (.panic v) (.panic [{v:=v',recovered:=false}])
def lB (E:Env) (f:FuncId) (args:List AV) (h:aA) (v:AV) (h':aA):Prop:=
 ∀(φ:Ph) (w:World) (vs:List Value),OK E φ h w→LR φ args vs→(callFunc f vs.toArray).run E.P w= .ok (.enter f vs.toArray) w∧
  ∀cs,∃φ' w' v' fr,VR φ' v v'∧OK E φ' h' w'∧Fr φ h w φ' h' w'∧
   Steps E.P (lone (Frame.enter E.P f vs.toArray .normal) cs w) (lone fr cs w')∧fr.fn=f∧fr.leaving E.P w' (.returned v')
def MR (E:Env) (f:FuncId) (args:List AV) (h:aA) (v:AV) (h':aA):Prop:=
 ∀(φ:Ph) (w:World) (vs:List Value),OK E φ h w→LR φ args vs→(callFunc f vs.toArray).run E.P w= .ok (.enter f vs.toArray) w∧
  ∀cs,∃φ' w' v' fr,VR φ' v v'∧OK E φ' h' w'∧Fr φ h w φ' h' w'∧
   Steps E.P (lone (Frame.enter E.P f vs.toArray .normal) cs w) (lone fr cs w')∧fr.fn=f∧fr.leaving E.P w' (.panicked [{v:=v',recovered:=false}])
inductive oJ (E:Env) (φ:Ph) (w:World):Fn→List Value→Next→Frame→Prop
 | fn (f:FuncId) (vs:List Value) (hr:(callFunc f vs.toArray).run E.P w= .ok (.enter f vs.toArray) w):oJ E φ w (.fn f) vs (.enter f vs.toArray) (Frame.enter E.P f vs.toArray .normal)
 | ua (l:Nat) (ll:Loc) (hl:φ l=some ll) (vs:List Value) (f:FuncId) (tmps:Array Value) (assign body:Code) (hr:(Instr.yield ll.eg vs.toArray).run E.P w= .ok (.round ll.eg f tmps assign body) w):
  oJ E φ w (.ua l) vs (.round ll.eg f tmps assign body) (Frame.round ll.eg f tmps assign body .normal)
def QV (φ:Ph):Fn→Prop
 | .fn _=>True
 | .ua l=>∃ll,φ l=some ll
def K0 (E:Env) (F:Fn) (args:List AV) (h:aA) (v:AV) (h':aA):Prop:=
 ∀(φ:Ph) (w:World) (vs:List Value),OK E φ h w→QV φ F→LR φ args vs→∃n start,oJ E φ w F vs n start∧
  ∀c cs,∃φ' w' v',VR φ' v v'∧OK E φ' h' w'∧Fr φ h w φ' h' w'∧Steps E.P (lone start (c::cs) w) (lone (c.finish v') cs w')
def K2 (E:Env) (F:Fn) (args:List AV) (h:aA) (v:AV) (h':aA):Prop:=
 ∀(φ:Ph) (w:World) (vs:List Value),OK E φ h w→QV φ F→LR φ args vs→∃n start,oJ E φ w F vs n start∧
  ∀c cs,∃φ' w' v',VR φ' v v'∧OK E φ' h' w'∧Fr φ h w φ' h' w'∧Steps E.P (lone start (c::cs) w) (lone (c.raise [{v:=v',recovered:=false}]) cs w')
theorem lB.any {f:FuncId} {args:List AV} {h:aA} {v:AV} {h':aA} (r:lB E f args h v h'):K0 E (.fn f) args h v h':=fun φ w vs ok _ hl=>by
 obtain ⟨h1,h2⟩:=r φ w vs ok hl
 refine ⟨_,_,.fn f vs h1,fun c cs=>?_⟩
 obtain ⟨φ',w',v',fr,x1,x2,x3,x4,_,x5⟩:=h2 (c::cs)
 exact ⟨φ',w',v',x1,x2,x3,x4.trans (.one (step_leave_returned x5))⟩
theorem MR.any {f:FuncId} {args:List AV} {h:aA} {v:AV} {h':aA} (r:MR E f args h v h'):K2 E (.fn f) args h v h':=fun φ w vs ok _ hl=>by
 obtain ⟨h1,h2⟩:=r φ w vs ok hl
 refine ⟨_,_,.fn f vs h1,fun c cs=>?_⟩
 obtain ⟨φ',w',v',fr,x1,x2,x3,x4,_,x5⟩:=h2 (c::cs)
 exact ⟨φ',w',v',x1,x2,x3,x4.trans (.one (step_leave_panicked x5))⟩
structure iK (E:Env) (call:bh):Prop where
 ret:∀f args h v h',call f args h= .ret v h'→K0 E f args h v h'
 panic:∀f args h v h',call f args h= .panic v h'→K2 E f args h v h'
structure kM (E:Env):Prop where
 ext:XI E
 jd:∀f g,E.jd f=some g→∀args h v h',g args h=some (v,h')→lB E f args h v h'
 names:∀(f:FuncId) (fn:Func),E.P.funcs[f]? =some fn→fn.name≠ "runtime.NumGoroutine"
 mixed:E.P.follows .mixedOrders=true
theorem QW {φ:Ph} {ts:List AV} {a:Act} (h:LR φ ts a.tmps.toList) (d:Option Tmp) {v:AV} {v':Value} (hv:VR φ v v'):LR φ (dN ts d v) (a.put d v').tmps.toList:=by
 cases d with
 | none=>exact h
 | some d=>simp only[dN,Act.put,Array.toList_setIfInBounds];exact h.set hv d
theorem put_defers (a:Act) (d:Option Tmp) (v:Value):(a.put d v).defers=a.defers:=by cases d<;>rfl
theorem SR.put {φ:Ph} {ts:List AV} {ds:List oB} {a:Act} (h:SR φ ts ds a) (d:Option Tmp) {v:AV} {v':Value} (hv:VR φ v v'):SR φ (dN ts d v) ds (a.put d v'):=
 ⟨QW h.ts d hv,by rw[put_defers];exact h.ds⟩
theorem vy {φ:Ph} {ops:Array Oper} {ts:List AV} {a:Act} (h:LR φ ts a.tmps.toList) (o:Oper):Region.wanted o (yielded ops a.tmps)=cD ops ts o:=by
 unfold Region.wanted cD
 cases o.guard with
 | none=>rfl
 | some g=>
   obtain ⟨j,want⟩:=g
   simp only[yielded]
   cases hd:(ops[j]?).bind (·.dst) with
   | none=>simp
   | some d=>
     simp only[Option.bind_some]
     cases hx:ts[d]? with
     | none=>
       have:a.tmps[d]? =none:=by
        have h1:=List.getElem?_eq_none_iff.1 hx
        rw[h.1] at h1
        have:=List.getElem?_eq_none_iff.2 h1
        simpa using this
       simp [this]
     | some x=>
       obtain ⟨y,hy,hv⟩:=h.get hx
       have QU:a.tmps[d]? =some y:=by simpa using hy
       rw[QU]
       cases hv with
       | any _ h=>cases y<;>first | (simp;done) | cases h
       | _=>simp
section
variable {b:Frame} {a:Act} {k:List Item} {cs:List Frame} {w:World} {ops:Array Oper} {i:Nat} {rest:List Nat} {o:Oper}
theorem ug (ho:ops[i]? =some o) (v:Value):(b.atR a (.inRegion ops (i::rest)::k)).finish v=b.atR (a.put o.dst v) (.inRegion ops rest::k):=by
 rw[Frame.finish_atR,ho];rfl
theorem m_ {P:Program} (lk:o.semAt b.roundOf a.eval=execOp a.eval o) (ho:ops[i]? =some o) (hw:Region.wanted o (yielded ops a.tmps)=true) {v:Value} {w':World} (hr:(execOp a.eval o).run P w= .ok (.value v) w'):
 step P (lone (b.atR a (.inRegion ops (i::rest)::k)) cs w)= .next (lone (b.atR (a.put o.dst v) (.inRegion ops rest::k)) cs w'):=by
 rw[←ug ho]
 exact step_lone_go (by rw[stepGR_op (rest:=rest) ho hw,lk];simp [stepG.apply,hr])
theorem Ir {P:Program} (lk:o.semAt b.roundOf a.eval=execOp a.eval o) (ho:ops[i]? =some o) (hw:Region.wanted o (yielded ops a.tmps)=true) {w':World} (hr:(execOp a.eval o).run P w= .ok .skip w'):
 step P (lone (b.atR a (.inRegion ops (i::rest)::k)) cs w)= .next (lone (b.atR (a.put o.dst undef) (.inRegion ops rest::k)) cs w'):=by
 rw[←ug ho]
 exact step_lone_go (by rw[stepGR_op (rest:=rest) ho hw,lk];simp [stepG.apply,hr])
theorem go_enter {φ:Ph} (lk:o.semAt b.roundOf a.eval=execOp a.eval o) (ho:ops[i]? =some o) (hw:Region.wanted o (yielded ops a.tmps)=true) {F:Fn} {vs:List Value} {n:Next} {start:Frame} (hp:oJ E φ w F vs n start) (hr:(execOp a.eval o).run E.P w= .ok n w):
 step E.P (lone (b.atR a (.inRegion ops (i::rest)::k)) cs w)= .next (lone start (b.atR a (.inRegion ops (i::rest)::k)::cs) w):=by
 cases hp with
 | fn f vs _=>exact step_lone_go (by rw[stepGR_op (rest:=rest) ho hw,lk];simp [stepG.apply,hr,Frame.atR])
 | ua l ll hl vs f tmps assign body _=>exact step_lone_go (by rw[stepGR_op (rest:=rest) ho hw,lk];simp [stepG.apply,hr,Frame.atR])
theorem QX {P:Program} (lk:o.semAt b.roundOf a.eval=execOp a.eval o) (ho:ops[i]? =some o) (hw:Region.wanted o (yielded ops a.tmps)=true) {v:Value} {w':World} (hr:(execOp a.eval o).run P w= .halt (.panic v) w'):
 step P (lone (b.atR a (.inRegion ops (i::rest)::k)) cs w)= .next (lone {b.atR a (.inRegion ops (i::rest)::k) with mode:= .panicking [{v,recovered:=false}]} cs w'):=by
 rw[←Frame.raise_atR]
 exact step_lone_go (by rw[stepGR_op (rest:=rest) ho hw,lk];simp [stepG.apply,hr])
theorem OQ {P:Program} (lk:o.semAt b.roundOf a.eval=execOp a.eval o) (ho:ops[i]? =some o) (hw:Region.wanted o (yielded ops a.tmps)=true) {d:Deferred} {w':World} (hr:(execOp a.eval o).run P w= .ok (.defer d) w'):
 step P (lone (b.atR a (.inRegion ops (i::rest)::k)) cs w)= .next (lone (b.atR ({a with defers:=d::a.defers}.put o.dst undef) (.inRegion ops rest::k)) cs w'):=by
 have:({b.atR a (.inRegion ops (i::rest)::k) with defers:=d::a.defers}:Frame).finish undef=
  b.atR ({a with defers:=d::a.defers}.put o.dst undef) (.inRegion ops rest::k):=by
  have:=Frame.finish_atR b {a with defers:=d::a.defers} ops i rest k undef
  rw[ho] at this;exact this
 refine step_lone_go ?_
 rw[stepGR_op (rest:=rest) ho hw,lk]
 simp only[stepG.apply,Sem.runT_eq,hr,GStep.bare_after]
 exact congrArg (fun fr=>GStep.go {frame:=fr,callers:=cs,status:= .running,dying:=none} w') this
theorem K3 {P:Program} (yN:b.roundOf=none) (lk:o.semAt b.roundOf a.eval=execOp a.eval o) (ho:ops[i]? =some o) (hw:Region.wanted o (yielded ops a.tmps)=true) {w':World} (hr:(execOp a.eval o).run P w= .ok .recover w') {v:Value} {iW:List Frame}
 (ht:tryRecover (b.atR a (.inRegion ops (i::rest)::k)) cs=some (v,iW)):
 step P (lone (b.atR a (.inRegion ops (i::rest)::k)) cs w)= .next (lone (b.atR (a.put o.dst v) (.inRegion ops rest::k)) iW w'):=by
 rw[←ug ho]
 refine step_lone_go ?_
 rw[stepGR_op (rest:=rest) ho hw,lk]
 have QY:(b.atR a (.inRegion ops (i::rest)::k)).roundOf=none:=yN
 simp only[stepG.apply,Sem.runT_eq,if_true,hr,GStep.bare_after,QY,ht,GStep.bare_go]
theorem vb {P:Program} (yN:b.roundOf=none) (lk:o.semAt b.roundOf a.eval=execOp a.eval o) (ho:ops[i]? =some o) (hw:Region.wanted o (yielded ops a.tmps)=true) {w':World} (hr:(execOp a.eval o).run P w= .ok .recover w')
 (ht:tryRecover (b.atR a (.inRegion ops (i::rest)::k)) cs=none):
 step P (lone (b.atR a (.inRegion ops (i::rest)::k)) cs w)= .next (lone (b.atR (a.put o.dst .nilIface) (.inRegion ops rest::k)) cs w'):=by
 rw[←ug ho]
 refine step_lone_go ?_
 rw[stepGR_op (rest:=rest) ho hw,lk]
 have QY:(b.atR a (.inRegion ops (i::rest)::k)).roundOf=none:=yN
 simp only[stepG.apply,Sem.runT_eq,if_true,hr,GStep.bare_after,QY,ht,GStep.bare_go]
end
def ab9 (P:Program) (m:Machine) (b:Frame) (ops:Array Oper) (rest:List Nat) (k:List Item) (cs:List Frame):Exit→Act→World→Prop
 | .normal,a,w=>Steps P m (lone (b.atR a (.inRegion ops rest::k)) cs w)
 | .panic chain,a,w=>∃todo,Steps P m (lone {b.atR a todo with mode:= .panicking chain} cs w)
 | _,_,_=>False
def MS (φ:Ph):Fn→Target→List Value→List Value→Prop
 | .fn f,t,vs,all=>∃cap:List Value,t= .fn (.func f) cap.toArray∧all=vs++cap
 | .ua l,t,vs,all=>∃ll,φ l=some ll∧t= .fn (.yield ll.eg) #[]∧all=vs
theorem MS.aca {φ:Ph} {F:Fn} {t:Target} {vs all:List Value} (h:MS φ F t vs all):QV φ F:=by
 cases F with
 | fn f=>trivial
 | ua l=>obtain ⟨ll,h,_⟩:=h;exact ⟨ll,h⟩
theorem Bn {φ:Ph} (hg:GL E φ) {ts:List AV} {a:Act} (ht:LR φ ts a.tmps.toList) {c:Call} {f:Fn} {args:List AV} (h:callee E ts c=some (f,args)) (ty:TypeId):
 ∃(t:Target) (vs all:List Value),LR φ args all∧MS φ f t vs all∧∀w,(resolve a.eval c ty).run E.P w= .ok {target:=t,args:=vs.toArray} w:=by
 unfold callee at h
 split at h
 · rename_i x hcx
   split at h
   · rename_i g first captured as_ hx has
     simp at h;obtain ⟨rfl,rfl⟩:=h
     have h1:=nH hg ht hx
     have h2:=iI hg ht has
     generalize lA:a.eval x=cv at h1
     obtain ⟨Vy,iW,rfl,hf,hc⟩:=h1.wD
     refine ⟨.fn (.func g) iW.toList.toArray,Vy.toList++c.args.toList.map a.eval,_,?_,⟨iW.toList,rfl,rfl⟩,fun w=>?_⟩
     · rw[List.append_assoc]
       have:=(hf.append h2).append hc
       simpa [List.append_assoc] using this
     · simp [resolve,hcx,Deferred.ofValue,lA,map_toArray]
   · rename_i l as_ hx has
     simp at h;obtain ⟨rfl,rfl⟩:=h
     have h1:=nH hg ht hx
     have h2:=iI hg ht has
     generalize lA:a.eval x=cv at h1
     cases h1 with
     | yield hl=>
       refine ⟨_,c.args.toList.map a.eval,_,h2,⟨_,hl,rfl,rfl⟩,fun w=>?_⟩
       simp [resolve,hcx,Deferred.ofValue,lA,map_toArray]
   · simp at h
 · simp at h
theorem DI {φ:Ph} {w:World} {F:Fn} {t:Target} {vs all:List Value} (ht:MS φ F t vs all) {n:Next} {start:Frame} (hp:oJ E φ w F all n start):(invoke t vs.toArray).run E.P w= .ok n w:=by
 cases hp with
 | fn f qX hr=>
   obtain ⟨cap,rfl,rfl⟩:=ht
   simpa [invoke] using hr
 | ua l ll hl qX f tmps assign body hr=>
   obtain ⟨ll',U4,rfl,rfl⟩:=ht
   rw[hl] at U4;simp at U4;subst U4
   simpa [invoke] using hr
theorem q_ {φ:Ph} {b:Frame} {K:Bool→List Frame} {rc:RC} (gG:nJ φ b K rc) {o:Oper} (h:rc.oI=false∨∀c,o.op≠ .defer c) (ρ:Operand→Value):o.semAt b.roundOf ρ=execOp ρ o:=by
 rcases h with h | h
 · rw[gG.plain h];rfl
 · exact Oper.semAt_eq _ _ _ h
end Go.Ab
end
section
namespace Go.Ab
variable {E:Env}
theorem Bo {rc:RC} (h:∀l,rc= .sm l→False):rc.oI=false:=by
 cases rc<;>first | rfl | exact (h _ rfl).elim
theorem OK.gl {φ:Ph} {h:aA} {w:World} (ok:OK E φ h w):GL E φ:=ok.vr
inductive sH (E:Env) (call:bh) (φ:Ph) (ts:List AV) (h:aA) (rc:RC) (o:Oper) (a:Act) (w:World):yE→Prop
 | val (v:AV) (h':aA) (φ':Ph) (w':World) (v':Value) (hv:VR φ' v v') (ok:OK E φ' h' w') (fr:Fr φ h w φ' h' w')
  (run:(execOp a.eval o).run E.P w= .ok (.value v') w'):sH E call φ ts h rc o a w (.val v h')
 | skip (h':aA) (φ':Ph) (w':World) (ok:OK E φ' h' w') (fr:Fr φ h w φ' h' w')
  (run:(execOp a.eval o).run E.P w= .ok .skip w'):sH E call φ ts h rc o a w (.val AV.undef h')
 | enter (v:AV) (h':aA) (F:Fn) (args:List AV) (all:List Value) (hr:K0 E F args h v h') (hf:QV φ F) (hl:LR φ args all)
  (run:∀n start,oJ E φ w F all n start→(execOp a.eval o).run E.P w= .ok n w):sH E call φ ts h rc o a w (.val v h')
 | Vz (v:AV) (h':aA) (F:Fn) (args:List AV) (all:List Value) (hr:K2 E F args h v h') (hf:QV φ F) (hl:LR φ args all)
  (run:∀n start,oJ E φ w F all n start→(execOp a.eval o).run E.P w= .ok n w):sH E call φ ts h rc o a w (.panic v h')
 | defer (d:oB) (d':Deferred) (Dy:rc.oI=false) (hd:DR φ d d') (run:(execOp a.eval o).run E.P w= .ok (.defer d') w):sH E call φ ts h rc o a w (.defer d)
 | panic (v:AV) (v':Value) (hv:VR φ v v') (run:(execOp a.eval o).run E.P w= .halt (.panic v') w):sH E call φ ts h rc o a w (.panic v h)
 | rW (v:AV) (gG:rc= .ir v) (run:(execOp a.eval o).run E.P w= .ok .recover w):sH E call φ ts h rc o a w (.rW v)
 | QZ (gG:∀v,rc≠ .ir v) (Dy:rc.oI=false) (run:(execOp a.eval o).run E.P w= .ok .recover w):sH E call φ ts h rc o a w (.val .nilIface h)
 | fail (why:String) (q:Option Oper):sH E call φ ts h rc o a w (.fail why q)
theorem Is {t:TypeId} {name:String} {f:FuncId} (h:wB E t name=some f) (v:Value) (w:World):(method (E.P.types.size+Made.depth) t v name).run E.P w= .ok (f,v) w:=by
 unfold wB at h
 split at h
 · rename_i i hi
   split at h
   · rename_i m hm
     split at h
     · rename_i hp
       split at h
       · simp at h
       · rename_i g d eF hf hu
         simp at h;subst h
         have OI:m.path.toList=[]:=by simpa using hp
         have e:E.P.types.size+Made.depth=(E.P.types.size+99)+1:=rfl
         rw[e,method]
         have hti:(typeInfo t).run E.P w= .ok i w:=by simp [typeInfo,hi]
         simp only[Sem.run_bind,hti,Result.andThen_ok,hm,OI,follow,Sem.run_pure,hf,receiverAt,run_underlying hu]
         cases d with
         | pointer x=>exact absurd rfl (eF x)
         | _=>simp [Place.get]
       · simp at h
     · simp at h
   · simp at h
 · simp at h
theorem sI {call:bh} {φ:Ph} {ts:List AV} {h:aA} {rc:RC} {o:Oper} {a:Act} {w:World} {s:Sem Value} {v:AV} {h':aA} (hd:KQ E φ h w (s.run E.P w) v h')
 (he:execOp a.eval o=(do pure (.value (←s)):Sem Next)):sH E call φ ts h rc o a w (.val v h'):=by
 obtain ⟨φ',w',v',hr,hv,ok,fr⟩:=hd
 exact .val v h' φ' w' v' hv ok fr (by rw[he];exact fp hr)
set_option maxHeartbeats 1000000 in
theorem vz (hE:kM E) {call:bh} (dp:iK E call) {φ:Ph} {ts:List AV} {h:aA} {rc:RC} {o:Oper} {a:Act} {w:World} (ht:LR φ ts a.tmps.toList) (ok:OK E φ h w):
 sH E call φ ts h rc o a w (dm E call ts h rc o):=by
 have ev:∀{x:Operand} {v:AV},eA E ts x=some v→VR φ v (a.eval x):=fun h=>nH ok.gl ht h
 obtain ⟨dst,op,ty,pos,after,guard⟩:=o
 unfold dm
 simp only
 split
 ·
  split
  · rename_i ha hx
    split
    · rename_i h' iY
      obtain ⟨w',hr,js,ou⟩:=KR ok (ev ha) (ev hx) iY
      exact .skip h' φ w' js ou (by simp [execOp,hr])
    · exact .fail _ _
  · exact .fail _ _
 ·
  split
  · rename_i hm hk hx
    split
    · rename_i h' iY
      obtain ⟨w',hr,js,ou⟩:=sG ok (ev hm) (ev hk) (ev hx) iY
      exact .skip h' φ w' js ou (by simp [execOp,hr])
    · exact .fail _ _
  · exact .fail _ _
 ·
  split
  · rename_i hm hk hx
    split
    · rename_i h' iY
      obtain ⟨w',hr,js,ou⟩:=sG ok (ev hm) (ev hk) (ev hx) iY
      exact .skip h' φ w' js ou (by simp [execOp,hr])
    · exact .fail _ _
  · exact .fail _ _
 ·
  split
  · rename_i hm hk
    split
    · rename_i v h' hc
      exact sI (DH ok (ev hm) (ev hk) hc) rfl
    · exact .fail _ _
  · exact .fail _ _
 ·
  rename_i tt mm bb xx
  split
  · rename_i hm hk hx
    split
    · rename_i h' iY
      obtain ⟨w',hr,js,ou⟩:=Az (t:=tt) ok (ev hm) (ev hk) (ev hx) iY
      exact .skip h' φ w' js ou (by simp [execOp,hr])
    · exact .fail _ _
  · exact .fail _ _
 ·
  rename_i src dst x
  split
  · rename_i v h' hc
    cases hx:eA E ts x with
    | none=>rw[hx] at hc;simp [Ee] at hc
    | some xv=>
      rw[hx] at hc
      exact sI (OM ok hc (ev hx)) rfl
  · exact .fail _ _
 ·
  split
  · rename_i hi
    split
    · rename_i hn
      exact sI (OP ok hn (ev hi) ty) rfl
    · exact .fail _ _
  · exact .fail _ _
 ·
  split
  · rename_i hx
    have h1:=ev hx
    generalize lA:a.eval _=cv at h1
    cases h1 with
    | iface t1 v1 v' hv=>
    exact .panic _ _ (.iface _ _ v' hv) (by simp [execOp,lA,Instr.panic])
  · exact .fail _ _
 ·
  split
  · exact .fail _ _
  · rename_i f args Dy hc
    obtain ⟨t,vs,all,hl,⟨cap,rfl,rfl⟩,hr⟩:=Bn ok.gl ht hc ty
    exact .defer _ {target:= .fn (.func f) cap.toArray,args:=vs.toArray} (Bo Dy) ⟨cap.toArray,rfl,by simpa using hl⟩ (by simp [execOp,hr])
  · exact .fail _ _
 ·
  rename_i c
  split
  ·
   rename_i DJ
   split
   · rename_i s x has
     have hl:=iI ok.gl ht has
     obtain ⟨s',r1,VA,hs,hl1⟩:=hl.cu
     obtain ⟨x',r2,hr2,hx,Qh⟩:=hl1.cu
     have h0:c.args.map a.eval= #[s',x']:=by rw[map_toArray,VA,hr2,Qh.gE]
     split
     · rename_i hap
       exact sI (Il ok hap hs hx ty) (by simp [execOp,resolve,DJ,invoke,builtin,h0])
     · exact .fail _ _
   · exact .fail _ _
  ·
   rename_i DJ
   split
   · rename_i s x has
     have hl:=iI ok.gl ht has
     obtain ⟨s',r1,VA,hs,hl1⟩:=hl.cu
     obtain ⟨x',r2,hr2,hx,Qh⟩:=hl1.cu
     have h0:c.args.map a.eval= #[s',x']:=by rw[map_toArray,VA,hr2,Qh.gE]
     split
     · rename_i hap
       exact sI (OL ok hap hs hx ty) (by simp [execOp,resolve,DJ,invoke,builtin,h0])
     · exact .fail _ _
   · exact .fail _ _
  ·
   rename_i DJ
   have f':(execOp a.eval ⟨dst,.call c,ty,pos,after,guard⟩).run E.P w= .ok .recover w:=by simp [execOp,resolve,DJ,invoke,builtin]
   split
   · exact .rW _ rfl f'
   · exact .fail _ _
   · rename_i eF Dy
     exact .QZ (fun v e=>eF v e) (Bo Dy) f'
  ·
   rename_i fo DJ
   split
   · rename_i F args hc
     obtain ⟨t,vs,all,hl,htg,hr⟩:=Bn ok.gl ht hc ty
     have f':∀n start,oJ E φ w F all n start→(execOp a.eval ⟨dst,.call c,ty,pos,after,guard⟩).run E.P w= .ok n w:=fun n start hp=>by
      have:=DI htg hp
      simp [execOp,hr,this]
     split
     · rename_i g hg
       split
       · rename_i v h' hgv
         cases F with
         | fn f=>exact .enter v h' (.fn f) args all (hE.jd f g hg args h v h' hgv).any trivial hl f'
         | ua l=>simp [j_] at hg
       · exact .fail _ _
     · split
       · rename_i v h' lA
         exact .enter v h' F args all (dp.ret F args h v h' lA) htg.aca hl f'
       · rename_i v h' lA
         exact .Vz v h' F args all (dp.panic F args h v h' lA) htg.aca hl f'
       · exact .fail _ _
   · exact .fail _ _
  ·
   rename_i r name DJ
   split
   · rename_i t x args hx has
     split
     · rename_i f hm
       have h1:=ev hx
       generalize lA:a.eval r=cv at h1
       cases h1 with
       | iface t1 v1 v' hv=>
       have hl:LR φ (x::args) (v'::c.args.toList.map a.eval):= .cons hv (iI ok.gl ht has)
       have f':∀n start,oJ E φ w (.fn f) (v'::c.args.toList.map a.eval) n start→(execOp a.eval ⟨dst,.call c,ty,pos,after,guard⟩).run E.P w= .ok n w:=fun n start hp=>by
        cases hp with
        | fn f qX hr=>
        have e1:(#[v']++(c.args.map a.eval))=(v'::c.args.toList.map a.eval).toArray:=by rw[map_toArray];simp
        have e2:(#[Value.iface t v']++c.args.map a.eval).extract 1 (#[Value.iface t v']++c.args.map a.eval).size=c.args.map a.eval:=by
         apply Array.ext';simp
         exact List.take_of_length_le (by simp)
        have e3:(#[Value.iface t v']++c.args.map a.eval)[0]? =some (Value.iface t v'):=by rw[Array.getElem?_append];rfl
        simp only[execOp,resolve,DJ,lA,Sem.run_bind,Sem.run_pure,Result.andThen_ok,invoke,e3,e2,callMethod,run_program,Is hm,e1,hr]
       split
       · rename_i v h' Zd
         exact .enter v h' (.fn f) _ _ (dp.ret (.fn f) _ h v h' Zd) trivial hl f'
       · rename_i v h' Zd
         exact .Vz v h' (.fn f) _ _ (dp.panic (.fn f) _ h v h' Zd) trivial hl f'
       · exact .fail _ _
     · exact .fail _ _
   · exact .fail _ _
  · exact .fail _ _
 · exact .fail _ _
structure acb (E:Env) (φ:Ph) (h:aA) (w:World) (b:Frame) (K:Bool→List Frame) (ops:Array Oper) (rest:List Nat) (k:List Item) (m:Machine) (e:iB) (s':St):Prop where
 is:∃φ' w' a' e',Zc φ' e e'∧SR φ' s'.ts s'.ds a'∧OK E φ' s'.h w'∧Fr φ h w φ' s'.h w'∧nJ φ' b K s'.rc∧ab9 E.P m b ops rest k (cur K s'.rc) e' a' w'
set_option maxHeartbeats 1000000 in
theorem En (hE:kM E) {call:bh} (dp:iK E call) {ops:Array Oper} {i:Nat} {rest:List Nat} {o:Oper} (ho:ops[i]? =some o) {s s':St} {e:iB} (qb:FH E call s o= .ok e s')
 {φ:Ph} {a:Act} {w:World} {b:Frame} {k:List Item} {K:Bool→List Frame} (hs:SR φ s.ts s.ds a) (ok:OK E φ s.h w) (gG:nJ φ b K s.rc) (hw:Region.wanted o (yielded ops a.tmps)=true):
 acb E φ s.h w b K ops rest k (lone (b.atR a (.inRegion ops (i::rest)::k)) (cur K s.rc) w) e s':=by
 have lk:(s.rc.oI=false∨∀c,o.op≠ .defer c)→o.semAt b.roundOf a.eval=execOp a.eval o:=fun h=>q_ gG h _
 unfold FH at qb
 split at qb
 · rename_i v hp
   have po:s.rc.oI=false∨∀c,o.op≠ .defer c:= .inr (fun c e=>by rw[e] at hp;simp [bE] at hp)
   simp at qb;obtain ⟨rfl,rfl⟩:=qb
   obtain ⟨v',hv,hr⟩:=zC hE.ext ok.gl hs.ts hp
   exact ⟨φ,w,_,_,.normal,hs.put o.dst hv,ok,Fr.refl _ _ _,gG,.one (m_ (lk po) ho hw (hr w))⟩
 · split at qb
   · rename_i v hp
     have po:s.rc.oI=false∨∀c,o.op≠ .defer c:= .inr (fun c e=>by rw[e] at hp;simp [dW] at hp)
     simp at qb;obtain ⟨rfl,rfl⟩:=qb
     obtain ⟨v',hv,hr⟩:=zG ok.gl ok hs.ts hp
     exact ⟨φ,w,_,_,.normal,hs.put o.dst hv,ok,Fr.refl _ _ _,gG,.one (m_ (lk po) ho hw (hr w rfl))⟩
   · split at qb
     · rename_i obj mk hp
       have po:s.rc.oI=false∨∀c,o.op≠ .defer c:= .inr (fun c e=>by rw[e] at hp;simp [eB] at hp)
       split at qb
       · rename_i h' hn
         simp at qb;obtain ⟨rfl,rfl⟩:=qb
         obtain ⟨O,mk',It,hr⟩:=wJ ok.gl hs.ts hp
         obtain ⟨js,ou,hle⟩:=ok.fresh (w':=w.alloc O) hn ⟨w.heap.size,0,0⟩ (by
          have:=It.obj (φ.add s.h.nx ⟨w.heap.size,0,0⟩) w.heap.size (fun i m hm=>by
           unfold Ph.add;split
           · rename_i e;subst e;exact absurd (ok.Aw _ _ hm) (Nat.lt_irrefl _)
           · exact hm)
          rw[show (w.alloc O).heap=w.heap.push O from rfl]
          simpa using this)
          (fun c eF hc=>by rw[show (w.alloc O).heap=w.heap.push O from rfl,Array.getElem?_push,if_neg (by simpa using eF)]) (by simp) (Nat.le_refl _) rfl rfl rfl
         have hv:=It.val (φ.add s.h.nx ⟨w.heap.size,0,0⟩) s.h.nx w.heap.size hle (by simp [Ph.add])
         exact ⟨_,_,_,_,.normal,(hs.mono hle).put o.dst hv,js,ou,gG.mono hle,.one (m_ (lk po) ho hw (hr w))⟩
       · simp at qb
     · have sJ:=vz hE dp (rc:=s.rc) (o:=o) hs.ts ok
       have po:(∃d,dm E call s.ts s.h s.rc o= .defer d)∨(∃why q,dm E call s.ts s.h s.rc o= .fail why q)∨(s.rc.oI=false∨∀c,o.op≠ .defer c):=by
        by_cases hd:∃c,o.op= .defer c
        · obtain ⟨c,hd⟩:=hd
          unfold dm
          simp only[hd]
          split
          · exact .inr (.inl ⟨_,_,rfl⟩)
          · exact .inl ⟨_,rfl⟩
          · exact .inr (.inl ⟨_,_,rfl⟩)
        · exact .inr (.inr (.inr (fun c e=>hd ⟨c,e⟩)))
       generalize dm E call s.ts s.h s.rc o=eo at qb sJ po
       cases sJ with
       | val v h' φ' w' v' hv sr fr run=>
         have po:=(po.resolve_left (by simp)).resolve_left (by simp)
         simp at qb;obtain ⟨rfl,rfl⟩:=qb
         exact ⟨φ',w',_,_,.normal,(hs.mono fr.ext).put o.dst hv,sr,fr,gG.mono fr.ext,.one (m_ (lk po) ho hw run)⟩
       | skip h' φ' w' sr fr run=>
         have po:=(po.resolve_left (by simp)).resolve_left (by simp)
         simp at qb;obtain ⟨rfl,rfl⟩:=qb
         exact ⟨φ',w',_,_,.normal,(hs.mono fr.ext).put o.dst (VR.undef φ'),sr,fr,gG.mono fr.ext,.one (Ir (lk po) ho hw run)⟩
       | enter v h' F args all hr hf hl run=>
         have po:=(po.resolve_left (by simp)).resolve_left (by simp)
         simp at qb;obtain ⟨rfl,rfl⟩:=qb
         obtain ⟨n,start,hp,iY⟩:=hr φ w all ok hf hl
         obtain ⟨φ',w',v',hv,sr,fr,jC⟩:=iY (b.atR a (.inRegion ops (i::rest)::k)) (cur K s.rc)
         rw[ug ho] at jC
         exact ⟨φ',w',_,_,.normal,(hs.mono fr.ext).put o.dst hv,sr,fr,gG.mono fr.ext,.head (go_enter (lk po) ho hw hp (run n start hp)) jC⟩
       | Vz v h' F args all hr hf hl run=>
         have po:=(po.resolve_left (by simp)).resolve_left (by simp)
         simp at qb;obtain ⟨rfl,rfl⟩:=qb
         obtain ⟨n,start,hp,iY⟩:=hr φ w all ok hf hl
         obtain ⟨φ',w',v',hv,sr,fr,jC⟩:=iY (b.atR a (.inRegion ops (i::rest)::k)) (cur K s.rc)
         rw[Frame.raise_atR] at jC
         exact ⟨φ',w',a,_,.panic v v' hv,hs.mono fr.ext,sr,fr,gG.mono fr.ext,.inRegion ops (i::rest)::k,.head (go_enter (lk po) ho hw hp (run n start hp)) jC⟩
       | defer d d' Dy hd run=>
         simp at qb;obtain ⟨rfl,rfl⟩:=qb
         have h1:SR φ s.ts (d::s.ds) {a with defers:=d'::a.defers}:=⟨hs.ts,hd,hs.ds⟩
         exact ⟨φ,w,_,_,.normal,h1.put o.dst (VR.undef φ),ok,Fr.refl _ _ _,gG,.one (OQ (q_ gG (.inl Dy) _) ho hw run)⟩
       | panic v v' hv run=>
         have po:=(po.resolve_left (by simp)).resolve_left (by simp)
         simp at qb;obtain ⟨rfl,rfl⟩:=qb
         exact ⟨φ,w,a,_,.panic v v' hv,hs,ok,Fr.refl _ _ _,gG,_,.one (QX (lk po) ho hw run)⟩
       | rW v afb run=>
         simp at qb;obtain ⟨rfl,rfl⟩:=qb
         rw[afb] at gG ⊢
         have Q0:=gG.plain rfl
         have acd:=q_ gG (o:=o) (.inl rfl) a.eval
         obtain ⟨_,⟨v',hv,htr⟩,ace⟩:=gG
         exact ⟨φ,w,_,_,.normal,hs.put o.dst hv,ok,Fr.refl _ _ _,⟨Q0,ace⟩,.one (K3 Q0 acd ho hw run (htr _ rfl))⟩
       | QZ eF Dy run=>
         simp at qb;obtain ⟨rfl,rfl⟩:=qb
         have FK:∀fr:Frame,fr.kind=b.kind→tryRecover fr (cur K s.rc)=none:=by
          cases F3:s.rc with
          | no=>rw[F3] at gG;exact gG.2
          | ir v=>exact absurd F3 (eF v)
          | done=>rw[F3] at gG;exact gG.2
          | sm l=>rw[F3] at Dy;simp [RC.oI] at Dy
         exact ⟨φ,w,_,_,.normal,hs.put o.dst .nilIface,ok,Fr.refl _ _ _,gG,.one (vb (gG.plain Dy) (q_ gG (.inl Dy) _) ho hw run (FK _ rfl))⟩
       | fail why q=>simp at qb
end Go.Ab
end
