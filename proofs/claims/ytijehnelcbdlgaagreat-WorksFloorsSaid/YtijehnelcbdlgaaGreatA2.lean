import Derived.Laws.BitsLemmas
import Derived.Laws.RangeString
import Derived.Defers
import Derived.AtR
import Derived.RangeFuncNested
import Derived.Test.YtijehnelcbdlgaaGreatA1
set_option linter.unusedVariables false
set_option linter.unusedSimpArgs false
section
namespace Go.Ab
variable {E:Env}
def J9 (E:Env) (φ:Ph) (h:ak) (w:World) (r:Result Value) (v:AV) (h':ak):Prop:=
 ∃φ' w' v',r= .ok v' w'∧VR φ' v v'∧OK E φ' h' w'∧Fr φ h w φ' h' w'
theorem Bh {φ:Ph} {vs:List AV} {qR:List Value} (h:LR φ vs qR) (hs:vs.all AV.scalar=true):∀v∈qR,v.oneCell'=true:=by
 intro v hv
 obtain ⟨i,hi⟩:=List.getElem?_of_mem hv
 have hil:i<vs.length:=by rw[h.1];exact (List.getElem?_eq_some_iff.1 hi).1
 have:=h.2 i vs[i] v (by simp [hil]) hi
 exact this.scalar (List.all_eq_true.1 hs _ (List.getElem_mem hil))
theorem yx {φ:Ph} {h:ak} {w:World} (ok:OK E φ h w) {i:Nat} {cs:List AV} {e:TypeId} (hg:h.get i=some (.cells cs e false)) {l:Loc} (hφ:φ i=some l)
 {vs:List AV} {qR:List Value} (hl:LR φ vs qR) (o:Nat) (hle:o+vs.length≤cs.length) (zB:vs.all AV.scalar=true):
 ∃w',(storeCells ⟨l.fI,l.off+o,none⟩ qR).run E.P w= .ok () w'∧OK E φ (h.put i (some (.cells (setFrom cs o vs) e false))) w'∧
  Fr φ h w φ (h.put i (some (.cells (setFrom cs o vs) e false))) w':=by
 obtain ⟨C,e',lo,hi,hb,hc⟩:=ok.cells hg hφ
 have He:=hc.size
 have hlen:=hl.1
 have gP:=uX (P:=E.P) hb (l.off+o) qR (by omega) (fun k h1 h2=>hc.free rfl k (by omega) (by omega)) (Bh hl zB)
 refine ⟨_,gP,?_⟩
 obtain ⟨h1,h2,h3⟩:=sL qR w l.fI (l.off+o)
 refine ok.change hg rfl hφ ?_ (fun c ep=>kE qR (Ne.symm ep) _) (pK _ _ _ _) h1 h2 h3
 refine ⟨kD C (l.off+o) qR,e',lo,hi,pJ qR hb _,⟨?_,fun k x hk=>?_,fun _ k a b=>hc.free rfl k a (by rw[lL] at b;exact b),fun h=>by cases h⟩,fun _=>by have q:=hc.shape rfl;rw[lL,pt];exact q⟩
 · rw[lL,pt];exact He
 · rw[jO] at hk
   rw[vq]
   split at hk
   · rename_i hin
     rw[if_pos (by omega)]
     obtain ⟨y,hy,hr⟩:=hl.get hk
     exact ⟨y,by rw[show l.off+k -(l.off+o)=k - o by omega];exact hy,hr⟩
   · rename_i hin
     have hkl:k<cs.length:=(List.getElem?_eq_some_iff.1 hk).1
     rw[if_neg (by omega)]
     exact hc.val k x hk
theorem J_ {φ:Ph} {h h':ak} {w:World} (ok:OK E φ h w) {t:TypeId} {av xv:AV} {a' x':Value} (ha:VR φ av a') (hx:VR φ xv x') (e:eX E h t av xv=some h'):
 ∃w',(Instr.storeAt t a' x').run E.P w= .ok () w'∧OK E φ h' w'∧Fr φ h w φ h' w':=by
 unfold eX at e
 split at e
 · rename_i i o
   cases ha with
   | @ptr _ l _ hφ=>
   split at e
   · rename_i cs el n hg hn
     split at e
     · rename_i hc
       simp at e;subst e
       obtain ⟨w',gP,nE,pe⟩:=yx ok hg hφ hx.cells o (by omega) hc.2.2
       refine ⟨w',?_,nE,pe⟩
       have hs:x'.cells.size=n:=by have:=hx.cells.1;simp at this;omega
       simp only[Instr.storeAt,Instr.sureAddr,Sem.run_bind,Sem.run_pure,Result.andThen_ok,storeVar,eu hn,hs,ne_eq,not_true_eq_false,if_false,gP]
     · simp at e
   · simp at e
 · simp at e
theorem Bi {φ:Ph} {h:ak} {w:World} (ok:OK E φ h w) {size n:Nat} {x:AV} {x':Value} (hx:VR φ x x') {new:List AV} (e:eO h size n x=some new) (hn:pa x=some n∨True):
 ∃si:List Value,LR φ new si∧∀w',w'.heap=w.heap→(Builtin.firstCells size n x').run E.P w'= .ok si.toArray w':=by
 unfold eO at e
 split at e
 · split at e
   · rename_i h0
     simp at e;subst e
     cases hx
     exact ⟨[],LR.nil φ,fun w' _=>by simp [Builtin.firstCells]⟩
   · simp at e
 · split at e
   · rename_i h0
     simp at e;subst e
     cases hx
     exact ⟨[],LR.nil φ,fun w' _=>by subst h0;simp only[Builtin.firstCells,Nat.zero_mul];rfl⟩
   · simp at e
 · rename_i i o len _ _
   split at e
   · split at e
     · rename_i h0
       simp at e;subst e
       cases hx
       exact ⟨[],LR.nil φ,fun w' _=>by subst h0;simp only[Builtin.firstCells,Nat.zero_mul];rfl⟩
     · split at e
       · rename_i cs el ro hg
         split at e
         · rename_i hle
           simp at e;subst e
           cases hx with
           | @slice _ l _ _ _ _ hφ=>
           obtain ⟨C,e',lo,hi,hb,hc⟩:=ok.cells hg hφ
           obtain ⟨vs,hvl,C8,zu⟩:=hc.range o (n*size) hle
           refine ⟨vs,zu,fun w' hw=>?_⟩
           rw[←hw] at hb
           have Bf:=nW (P:=E.P) hb (l.off+o) vs C8
           rw[hvl] at Bf
           simp only[Builtin.firstCells,Bf]
         · simp at e
       · simp at e
   · simp at e
 · rename_i s
   split at e
   · rename_i sA
     simp at e;subst e
     generalize J6:AV.str s=s0 at hx
     cases hx<;>cases J6
     rename_i s'
     refine ⟨(s'.data.toList.take n).map (fun b=>Value.int .u8 b.toNat),⟨by simp,fun i p q hp hq=>?_⟩,fun w' _=>?_⟩
     · rw[←List.map_take,List.getElem?_map] at hp
       rw[List.getElem?_map] at hq
       cases hb:(s'.data.toList.take n)[i]? with
       | none=>rw[hb] at hp;simp at hp
       | some b=>
         rw[hb] at hp hq
         simp at hp hq
         subst hp;subst hq
         exact .int _ _
     · simp only[Builtin.firstCells,Sem.run_pure]
       congr 1
       apply Array.ext'
       simp
   · simp at e
 · simp at e
end Go.Ab
namespace Go.Ab
variable {E:Env}
theorem OK.reuse {φ:Ph} {h h':ak} {w w':World} (ok:OK E φ h w) {i:Nat} {o o':aK} {l l':Loc} (hg:h.get i=some o) (G5:o.rw=true) (hl:φ i=some l) (hb:l'.fI=l.fI)
 (hn:(h.put i none).new o'=some h') (ho:OR E (φ.add h.nx l') o' l' w'.heap[l.fI]?) (sM:∀c,c≠l.fI→w'.heap[c]? =w.heap[c]?) (fS:w'.heap.size=w.heap.size)
 (hos:w'.os=w.os) (Hf:w'.tape=w.tape) (qi:w'.output=w.output):
 OK E (φ.add h.nx l') h' w'∧Fr φ h w (φ.add h.nx l') h' w':=by
 obtain ⟨lM,hnx,Ba,hold⟩:=ak.lK hn
 have hpn:(h.put i none).nx=h.nx:=rfl
 rw[hpn] at hnx Ba hold
 have EO:φ h.nx=none:=by
  cases e:φ h.nx with
  | none=>rfl
  | some m=>exact absurd (ok.An _ _ e) (Nat.lt_irrefl _)
 have hle:φ.le (φ.add h.nx l'):=fun j m hm=>by
  unfold Ph.add;split
  · rename_i e;subst e;rw[EO] at hm;simp at hm
  · exact hm
 have gE:∀j p,h'.get j=some p→(j=h.nx∧p=o')∨(j≠h.nx∧j≠i∧h.get j=some p):=fun j p hj=>by
  by_cases e:j=h.nx
  · subst e;rw[Ba] at hj;simp at hj;exact .inl ⟨rfl,hj.symm⟩
  · rw[hold j e] at hj
    by_cases e':i=j
    · subst e';rw[ak.di] at hj;simp at hj
    · rw[ak.bR e'] at hj;exact .inr ⟨e,Ne.symm e',hj⟩
 have kF:∀j,j≠h.nx→(φ.add h.nx l') j=φ j:=fun j hj=>by simp [Ph.add,hj]
 have gZ:(φ.add h.nx l') h.nx=some l':=by simp [Ph.add]
 refine ⟨⟨fun j m hm=>?_,?_,fun g hg=>hle _ _ (ok.vo g hg),fun j p m hj hm=>?_,fun j k p q m n hj hk hm sh hw hbb=>?_⟩,
  ⟨hle,fun j hj=>kF j (by omega),by omega,hos,Hf,qi,Nat.le_of_eq fS.symm,fun b _ hn'=>sM b (fun e=>hn' i o l hg G5 hl e.symm),fun j p m hj hr hm=>?_⟩⟩
 · rw[hnx]
   by_cases e:j=h.nx
   · omega
   · rw[kF j e] at hm;have:=ok.An j m hm;omega
 · have:=ok.nx;omega
 · rcases gE j p hj with ⟨rfl,rfl⟩ | ⟨ep,EP,pc⟩
   · rw[gZ] at hm;simp at hm;subst hm;exact hb▸ho
   · rw[kF j ep] at hm
     rw[sM _ (fun e=>EP (ok.inj j i p o m l pc hg hm hl (.inr G5) e))]
     exact (ok.live j p m pc hm).mono hle
 · rcases gE j p hj with ⟨rfl,rfl⟩ | ⟨ep,hni,pc⟩<;>rcases gE k q hk with ⟨rfl,rfl⟩ | ⟨EP,adu,DL⟩
   · rfl
   · rw[gZ] at hm;simp at hm;subst hm
     rw[kF k EP] at sh
     exact absurd (ok.inj k i q o n l DL hg sh hl (.inr G5) (hbb.symm.trans hb)) adu
   · rw[gZ] at sh;simp at sh;subst sh
     rw[kF j ep] at hm
     exact absurd (ok.inj j i p o m l pc hg hm hl (.inr G5) (hbb.trans hb)) hni
   · rw[kF j ep] at hm;rw[kF k EP] at sh;exact ok.inj _ _ _ _ _ _ pc DL hm sh hw hbb
 · rcases gE j p hj with ⟨rfl,rfl⟩ | ⟨ep,hni,pc⟩
   · rw[gZ] at hm;simp at hm;subst hm;exact .inr ⟨i,o,l,hg,G5,hl,hb.symm⟩
   · rw[kF j ep] at hm;exact .inr ⟨j,p,m,pc,hr,hm,rfl⟩
theorem DS:∀(rounds c J':Nat),c<J'→Builtin.growBy J' rounds c≤2*J'+1000
 | 0,c,n,h=>by simp [Builtin.growBy];omega
 | r+1,c,n,h=>by
   simp only[Builtin.growBy]
   split
   · omega
   · by_cases hc:c+(c+768) /4<n
     · exact DS r _ n hc
     · cases r with
       | zero=>simp only[Builtin.growBy];omega
       | succ r=>simp only[Builtin.growBy];rw[if_pos (by omega)];omega
theorem nextslicecap_le {n c:Nat} (h:c<n):Builtin.nextslicecap n c≤4*n+4096:=by
 unfold Builtin.nextslicecap
 split
 · omega
 · split
   · omega
   · have:=DS 4 c n h;omega
theorem oD (z:Array Value) (n:Nat):(Builtin.zeroCells z n).size=n*z.size:=by simp [Builtin.zeroCells]
theorem rU {P:Program} {w:World} {sT xT ty elem:TypeId} {xd:TypeDesc} (hs:P.underlying sT=some (.slice elem)) (hx:P.underlying xT=some xd) (Us:∀k,xd≠ .int k)
 {size bytes n:Nat} (fS:(P.info? elem).map (·.size)=some size) (ia:(P.info? elem).map (·.bytes)=some bytes) {z:Value} (hz:∀w,(zeroValue elem).run P w= .ok z w) (Ut:z.cells.size=size)
 {base:Option Addr} {len cap:Nat} {x':Value} (hn:∀w,(Builtin.lenOf x').run P w= .ok n w) {old new:List Value} (hold:∀w',w'.heap=w.heap→(Builtin.firstCells size len (.slice base len cap)).run P w'= .ok old.toArray w')
 (Ba:∀w',w'.heap=w.heap→(Builtin.firstCells size n x').run P w'= .ok new.toArray w') (lM:cap<len+n) (Uu:(4*(len+n)+4096)*(bytes+1)≤1099511627776) (T2:old.length=len*size) (P3:new.length=n*size):
 ∃nc:Nat,∃C:Array Value,len+n≤nc∧(∃rest,C.toList=old++new++rest)∧C.size=nc*size∧
  (Builtin.append_ #[sT,xT] ty #[.slice base len cap,x']).run P w= .ok (.slice (some ⟨w.heap.size,0,none⟩) (len+n) nc) (w.drew.alloc (.cells C elem)):=by
 let nc:=(Question.appendCap (len+n) cap elem).cut (w.tape w.drawn (.appendCap (len+n) cap elem))
 have P4:len+n≤nc:=by show len+n≤len+n+_;omega
 let C:Array Value:=old.toArray++new.toArray++Builtin.zeroCells z.cells (nc -(len+n))
 refine ⟨nc,C,P4,⟨(Builtin.zeroCells z.cells (nc -(len+n))).toList,by simp [C]⟩,?_,?_⟩
 · simp only[C,Array.size_append,oD,Ut,List.size_toArray,T2,P3]
   rw[←Nat.add_mul,←Nat.add_mul];congr 1;omega
 · obtain ⟨inf,Hl,hb⟩:=qj ia w
   obtain ⟨adv,P5,W0⟩:=qj ia w.drew
   have Yo:(match xd with | .int _=>true | _=>false)=false:=by cases xd<;>first | rfl | exact absurd rfl (Us _)
   have Yp:¬len+n≤cap:=by omega
   have Yq:=nextslicecap_le lM
   have hmul:(4*(len+n)+4096)*(bytes+1)=(4*(len+n)+4096)*bytes+(4*(len+n)+4096):=by rw[Nat.mul_add,Nat.mul_one]
   have Ka:¬Builtin.nextslicecap (len+n) cap*bytes>2^48:=by
    have:Builtin.nextslicecap (len+n) cap*bytes≤(4*(len+n)+4096)*bytes:=Nat.mul_le_mul_right _ Yq
    omega
   have Yr:IntKind.i64.max=9223372036854775807:=by decide
   have E1:¬(((len+n:Nat):Int) >IntKind.i64.max):=by rw[Yr];omega
   have o1:=hold w.drew rfl
   have n1:=Ba w.drew rfl
   have z1:=hz w.drew
   have hf:((!false)=true)=True:=by simp
   simp only[Builtin.append_,List.getElem?_toArray,List.getElem?_cons_zero,List.getElem?_cons_succ,Sem.run_bind,Sem.run_pure,Result.andThen_ok,run_underlying hs,run_underlying hx,eu fS,Bool.false_eq_true,if_false,hn,Yp,Hl]
   rw[if_neg (fun h=>E1 h.1)]
   simp only[Sem.run_bind,Hl,hb,Result.andThen_ok]
   rw[if_neg Ka]
   simp only[Sem.run_bind,run_choose,Question.forced,Bool.false_eq_true,if_false,World.drew_eq,Result.andThen_ok,P5,run_askRoom,o1,hf,if_true,n1,z1,newRow,run_newObj,World.alloc_eq,Sem.run_pure]
   rfl
theorem qm {P:Program} {w w':World} {sT xT ty elem:TypeId} {xd:TypeDesc} (hs:P.underlying sT=some (.slice elem)) (hx:P.underlying xT=some xd) (Us:∀k,xd≠ .int k)
 {size n:Nat} (fS:(P.info? elem).map (·.size)=some size) {b O len cap:Nat} {x':Value} (hn:∀w,(Builtin.lenOf x').run P w= .ok n w) {new:List Value}
 (Ba:(Builtin.firstCells size n x').run P w= .ok new.toArray w) (hle:len+n≤cap) (jo:(storeCells ⟨b,O+len*size,none⟩ new).run P w= .ok () w'):
 (Builtin.append_ #[sT,xT] ty #[.slice (some ⟨b,O,none⟩) len cap,x']).run P w= .ok (.slice (some ⟨b,O,none⟩) (len+n) cap) w':=by
 have Yo:(match xd with | .int _=>true | _=>false)=false:=by cases xd<;>first | rfl | exact absurd rfl (Us _)
 have hf:((!false)=true)=True:=by simp
 simp only[Builtin.append_,List.getElem?_toArray,List.getElem?_cons_zero,List.getElem?_cons_succ,Sem.run_bind,Sem.run_pure,Result.andThen_ok,run_underlying hs,run_underlying hx,eu fS,hf,Bool.false_eq_true,if_false,if_true,hn,hle,Ba,tS,jo]
theorem wC {φ:Ph} {h h':ak} {w:World} (ok:OK E φ h w) {new:List AV} {elem:TypeId} (hn:h.new (.cells new elem false)=some h') {l:List Value} (hl:LR φ new l)
 {size nc n bytes:Nat} (fS:bQ E elem=some size) (ia:gD E elem=some bytes) {C:Array Value} {rest:List Value} (hC:C.toList=l++rest) (Pz:C.size=nc*size) (P4:n≤nc) (hll:l.length=n*size):
 J9 E φ h w (.ok (.slice (some ⟨w.heap.size,0,none⟩) n nc) (w.drew.alloc (.cells C elem))) (.slice h.nx 0 n n true) h':=by
 have P3:new.length=n*size:=by rw[hl.1,hll]
 obtain ⟨nE,pe,hle⟩:=ok.fresh (w':=w.drew.alloc (.cells C elem)) hn ⟨w.heap.size,0,nc - n⟩ (by
  refine ⟨C,elem,0,0,by rw[show (w.drew.alloc (.cells C elem)).heap=w.heap.push (.cells C elem) from rfl];simp,⟨?_,fun k x hk=>?_,fun _ k _ _=>by omega,fun _ _ _=>rfl⟩,fun _=>⟨rfl,rfl,fun _ _ z=>by rw[ia] at z;cases z⟩⟩
  · simp only[fL,fS,Option.getD_some,P3,Pz,Nat.zero_add]
    rw[←Nat.add_mul];exact Nat.mul_le_mul_right _ (by omega)
  · obtain ⟨y,hy,hr⟩:=hl.get hk
    have hkl:k<l.length:=(List.getElem?_eq_some_iff.1 hy).1
    refine ⟨y,?_,hr.mono (fun i m hm=>?_)⟩
    · have:C.toList[k]? =some y:=by rw[hC,List.getElem?_append_left hkl];exact hy
      simpa using this
    · unfold Ph.add
      split
      · rename_i e;subst e;exact absurd (ok.An _ _ hm) (Nat.lt_irrefl _)
      · exact hm)
  (fun c ep hc=>by
   have:(w.drew.alloc (.cells C elem)).heap[c]? =w.heap[c]? :=by
    rw[show (w.drew.alloc (.cells C elem)).heap=w.heap.push (.cells C elem) from rfl,Array.getElem?_push,if_neg (by simpa using ep)]
   exact this) (by simp) (Nat.le_refl _) rfl rfl rfl
 refine ⟨_,_,_,rfl,?_,nE,pe⟩
 have:=VR.slice (φ:=φ.add h.nx ⟨w.heap.size,0,nc - n⟩) (i:=h.nx) (l:=⟨w.heap.size,0,nc - n⟩) 0 n n true (by simp [Ph.add])
 simp only[gY,if_true] at this
 rw[show n+(nc - n)=nc by omega] at this
 exact this
theorem Fr.Uv {φ φ':Ph} {h h':ak} {w w':World} {i:Nat} (f:Fr φ (h.put i none) w φ' h' w'):Fr φ h w φ' h' w':=by
 have gE:∀j p,(h.put i none).get j=some p→h.get j=some p:=fun j p hj=>by
  by_cases e:i=j
  · subst e;rw[ak.di] at hj;simp at hj
  · rw[ak.bR e] at hj;exact hj
 exact ⟨f.ext,f.old,f.nx,f.os,f.tape,f.output,f.size,fun b hb hn=>f.C5 b hb (fun j p m hj=>hn j p m (gE j p hj)),
  fun j p m hj hr hm=>(f.own j p m hj hr hm).imp id (fun ⟨k,q,n,a,b⟩=>⟨k,q,n,gE k q a,b⟩)⟩
theorem oE {φ:Ph} {x:AV} {n:Nat} (h:pa x=some n) {x':Value} (hx:VR φ x x') (P:Program) (w:World):(Builtin.lenOf x').run P w= .ok n w:=by
 cases x<;>simp [pa] at h
 · subst h
   generalize J6:AV.str _=s0 at hx
   cases hx<;>cases J6
   rfl
 · cases hx;subst h;rfl
 · cases hx;subst h;rfl
 · cases hx;subst h;rfl
theorem Ap {P:Program} {w:World} {sT xT ty elem:TypeId} {kx:IntKind} (hs:P.underlying sT=some (.slice elem)) (hx:P.underlying xT=some (.int kx))
 {size bytes:Nat} (fS:(P.info? elem).map (·.size)=some size) (ia:(P.info? elem).map (·.bytes)=some bytes) {z:Value} (hz:∀w,(zeroValue elem).run P w= .ok z w) (Ut:z.cells.size=size)
 {k:IntKind} {n:Int} (hn:0<n) (Kb:0<size) (Uu:(4*n.toNat+4096)*(bytes+1)≤1099511627776):
 ∃nc:Nat,∃C:Array Value,n.toNat≤nc∧(∃rest,C.toList=(Builtin.zeroCells z.cells n.toNat).toList++rest)∧C.size=nc*size∧
  (Builtin.append_ #[sT,xT] ty #[.slice none 0 0,.int k n]).run P w= .ok (.slice (some ⟨w.heap.size,0,none⟩) n.toNat nc) (w.drew.alloc (.cells C elem)):=by
 let nc:=(Question.appendCap (0+n.toNat) 0 elem).cut (w.tape w.drawn (.appendCap (0+n.toNat) 0 elem))
 have P4:n.toNat≤nc:=by show n.toNat≤0+n.toNat+_;omega
 let C:Array Value:= #[]++Builtin.zeroCells z.cells n.toNat++Builtin.zeroCells z.cells (nc -(0+n.toNat))
 refine ⟨nc,C,P4,⟨(Builtin.zeroCells z.cells (nc -(0+n.toNat))).toList,by simp [C]⟩,?_,?_⟩
 · simp only[C,Array.size_append,oD,Ut,Array.size_empty,Nat.zero_add]
   rw[←Nat.add_mul];congr 1;omega
 · obtain ⟨inf,Hl,hb⟩:=qj ia w
   obtain ⟨adv,P5,W0⟩:=qj ia w.drew
   have hmul:(4*n.toNat+4096)*(bytes+1)=(4*n.toNat+4096)*bytes+(4*n.toNat+4096):=by rw[Nat.mul_add,Nat.mul_one]
   have P3:n.toNat≤1099511627776:=by omega
   have aaV:IntKind.i64.wrap n=n:=by
    rw[IntKind.wrap_i64];omega
   have adw:¬n<0:=by omega
   have CZ:n*(bytes:Int)=((n.toNat*bytes:Nat):Int):=by rw[Int.natCast_mul,Int.toNat_of_nonneg (by omega)]
   have hle:n.toNat*bytes≤(4*n.toNat+4096)*bytes:=Nat.mul_le_mul_right _ (by omega)
   have aaW:¬n*(bytes:Int) >2^48:=by rw[CZ];omega
   have Yp:¬0+n.toNat≤0:=by omega
   have Yq:=nextslicecap_le (show 0<0+n.toNat by omega)
   have Ka:¬Builtin.nextslicecap (0+n.toNat) 0*bytes>2^48:=by
    have:Builtin.nextslicecap (0+n.toNat) 0*bytes≤(4*(0+n.toNat)+4096)*bytes:=Nat.mul_le_mul_right _ Yq
    rw[Nat.zero_add] at this
    rw[Nat.zero_add]
    omega
   have Yr:IntKind.i64.max=9223372036854775807:=by decide
   have E1:¬(((0+n.toNat:Nat):Int) >IntKind.i64.max):=by rw[Yr];omega
   have hns:¬n.toNat*size=0:=by
    have h1:0<n.toNat:=by omega
    have:=Nat.mul_pos h1 Kb;omega
   have z1:=hz w.drew
   have hf:((!true)=true)=False:=by simp
   have hai:∀w,(asInt (.int k n)).run P w= .ok n w:=fun _=>rfl
   simp only[Builtin.append_,List.getElem?_toArray,List.getElem?_cons_zero,List.getElem?_cons_succ,Sem.run_bind,Sem.run_pure,Result.andThen_ok,run_underlying hs,run_underlying hx,eu fS,if_true,hai,aaV]
   rw[if_neg adw]
   simp only[Sem.run_bind,Hl,hb,Result.andThen_ok]
   rw[if_neg aaW]
   simp only[Sem.run_bind,Sem.run_pure,Result.andThen_ok]
   rw[if_neg Yp]
   simp only[Sem.run_bind,Result.andThen_ok,Hl,hb]
   rw[if_neg (fun h=>E1 h.1)]
   simp only[Sem.run_bind,Hl,hb,Result.andThen_ok]
   rw[if_neg Ka]
   simp only[Sem.run_bind,run_choose,Question.forced,Bool.false_eq_true,if_false,World.drew_eq,Result.andThen_ok,P5,run_askRoom,Builtin.firstCells,hf,if_neg hns,z1,newRow,run_newObj,World.alloc_eq,Sem.run_pure]
   simp only[nc,C,Nat.zero_add]
   rfl
theorem Hm {φ:Ph} {h h':ak} {w:World} (ok:OK E φ h w) {argTypes:Array TypeId} {s x v:AV} (e:cP E h argTypes s x=some (v,h')) {s' x':Value} (hs:VR φ s s') (hx:VR φ x x') (ty:TypeId):
 J9 E φ h w ((Builtin.append_ argTypes ty #[s',x']).run E.P w) v h':=by
 unfold cP at e
 split at e
 · rename_i sT xT hsT hxT
   split at e
   · rename_i elem xd hus hux
     split at e
     · rename_i hint
       cases xd<;>simp [nA] at hint
       have key:(Builtin.append_ argTypes ty #[s',x']).run E.P w=(Builtin.append_ #[sT,xT] ty #[s',x']).run E.P w:=by
        unfold Builtin.append_;simp only[hsT,hxT];rfl
       rw[key]
       unfold sD at e
       split at e
       · rename_i k0 k size bytes z fS ia hzero
         split at e
         · rename_i hc
           obtain ⟨hk,Kb,Uu,Yl⟩:=hc
           split at e
           · rename_i h1 zC
             simp at e;obtain ⟨rfl,rfl⟩:=e
             cases hs;cases hx
             obtain ⟨z',ye,jP⟩:=iA hzero
             have Ut:z'.cells.size=size:=by have:=(ye φ).cells.1;simp at this;omega
             obtain ⟨nc,C,P4,⟨rest,hC⟩,Pz,gP⟩:=Ap (P:=E.P) (w:=w) (ty:=ty) (k:=k0) hus hux fS (tR _ ia) jP Ut hk Kb Uu
             rw[gP]
             exact wC (n:=k.toNat) ok zC (l:=(Builtin.zeroCells z'.cells k.toNat).toList) (J8 (ye φ).cells k.toNat) fS ia hC Pz P4 (by rw[Array.length_toList,oD,Ut])
           · simp at e
         · simp at e
       · simp at e
     rename_i aaX
     have Us:∀k,xd≠ .int k:=fun k he=>by subst he;simp [nA] at aaX
     split at e
     · rename_i size bytes n fS ia hlen
       split at e
       · rename_i new z Bj hzero
         split at e
         · rename_i hc
           obtain ⟨Yl,zB,W1⟩:=hc
           obtain ⟨z',ye,jP⟩:=iA hzero
           have Ut:z'.cells.size=size:=by have:=(ye φ).cells.1;simp at this;omega
           obtain ⟨si,C9,wD⟩:=Bi ok hx Bj (.inr trivial)
           have P3:si.length=n*size:=by rw[←C9.1];exact W1
           have key:(Builtin.append_ argTypes ty #[s',x']).run E.P w=(Builtin.append_ #[sT,xT] ty #[s',x']).run E.P w:=by
            unfold Builtin.append_;simp only[hsT,hxT];rfl
           rw[key]
           split at e
           ·
            cases hs
            split at e
            · rename_i T0
              simp at e;obtain ⟨rfl,rfl⟩:=e
              subst T0
              refine ⟨φ,w,_,?_,.aD,ok,Fr.refl φ h w⟩
              have Yo:(match xd with | .int _=>true | _=>false)=false:=by cases xd<;>first | rfl | exact absurd rfl (Us _)
              have hf:((!false)=true)=True:=by simp
              have hn1:=wD w rfl
              simp only[Builtin.append_,List.getElem?_toArray,List.getElem?_cons_zero,List.getElem?_cons_succ,Sem.run_bind,Sem.run_pure,Result.andThen_ok,run_underlying hus,run_underlying hux,eu fS,hf,Bool.false_eq_true,if_false,if_true,oE hlen hx,hn1,Nat.le_refl,Nat.add_zero]
            · rename_i T0
              split at e
              · rename_i Uu
                split at e
                · rename_i h1 zC
                  simp at e;obtain ⟨rfl,rfl⟩:=e
                  obtain ⟨nc,C,P4,⟨rest,hC⟩,Pz,gP⟩:=rU (P:=E.P) (w:=w) (ty:=ty) hus hux Us fS (tR _ ia) jP Ut (base:=none) (len:=0) (cap:=0) (fun w=>oE hlen hx E.P w) (old:=[]) (fun w' _=>by simp [Builtin.firstCells]) (fun w' hw=>wD w' hw) (by omega) (by simpa using Uu) (by simp) P3
                  have:=wC (n:=n) ok zC (l:=[]++si) (by simpa using C9) (by simpa using fS) ia (by simpa using hC) Pz (by omega) (by simp [P3])
                  rw[gP]
                  simp only[Nat.zero_add] at this ⊢
                  exact this
                · simp at e
              · simp at e
           · rename_i i o len cap op
             cases hs with
             | @slice _ l _ _ _ _ hφ=>
             split at e
             · rename_i cs el hg
               split at e
               ·
                rename_i aaY
                split at e
                · rename_i hle
                  simp at e;obtain ⟨rfl,rfl⟩:=e
                  have Yh:cap≤gY op cap l.jb:=by unfold gY;split<;>omega
                  obtain ⟨w',jo,nE,pe⟩:=yx ok hg hφ C9 (o+len*size) (by rw[W1,Nat.add_assoc,←Nat.add_mul];exact hle) zB
                  refine ⟨φ,w',_,qm (P:=E.P) hus hux Us fS (fun w=>oE hlen hx E.P w) (wD w rfl) (by omega) (by rw[Nat.add_assoc];exact jo),?_,nE,pe⟩
                  have:=VR.slice (φ:=φ) o (len+n) cap op hφ
                  exact this
                · simp at e
               · rename_i aaY
                 split at e
                 · rename_i PZ
                   obtain ⟨Uu,T2,qg⟩:=PZ
                   split at e
                   · rename_i h1 zC
                     simp at e;obtain ⟨rfl,rfl⟩:=e
                     obtain ⟨C0,e0,lo,hi,Yn,hc0⟩:=ok.cells hg hφ
                     obtain ⟨Uw,Hn,aaZ,Kc⟩:=hc0.range o (len*size) T2
                     have Ux:∀cp w',w'.heap=w.heap→(Builtin.firstCells size len (.slice (some ⟨l.fI,l.off+o,none⟩) len cp)).run E.P w'= .ok Uw.toArray w':=fun cp w' hw=>by
                      rw[←hw] at Yn
                      have Bf:=nW (P:=E.P) Yn (l.off+o) Uw aaZ
                      rw[Hn] at Bf
                      simp only[Builtin.firstCells,Bf]
                     by_cases hin:len+n≤gY op cap l.jb
                     ·
                      have adx:op=true:=by
                       cases op with
                       | true=>rfl
                       | false=>simp [gY] at hin;omega
                      subst adx
                      obtain ⟨rfl,aaT,ho0⟩:=qg rfl
                      simp only[gY,if_true] at hin ⊢
                      simp only[if_true] at zC
                      have He:=hc0.size
                      simp only[fL,fS,Option.getD_some] at He
                      have hmul:(len+n)*size≤(cap+l.jb)*size:=Nat.mul_le_mul_right _ hin
                      have e1:(len+n)*size=len*size+n*size:=Nat.add_mul _ _ _
                      have e2:(cap+l.jb)*size=cap*size+l.jb*size:=Nat.add_mul _ _ _
                      have jo:=uX (P:=E.P) Yn (l.off+o+len*size) si (by omega) (fun k k1 k2=>hc0.free rfl k (by omega) (by simp only[fL,fS,Option.getD_some];omega)) (Bh C9 zB)
                      obtain ⟨p1,p2,p3⟩:=sL si w l.fI (l.off+o+len*size)
                      obtain ⟨nE,pe⟩:=ok.reuse (w':=w.setCells l.fI (l.off+o+len*size) si) (l':=⟨l.fI,l.off+o,cap+l.jb -(len+n)⟩) hg rfl hφ rfl zC (by
                       refine ⟨kD C0 (l.off+o+len*size) si,e0,lo,hi,pJ si Yn _,⟨?_,fun k x hk=>?_,fun _ k a b=>hc0.free rfl k (by simp at a;omega) ?_,fun h=>by cases h⟩,fun _=>⟨(hc0.shape rfl).1,by show l.off+o=0;have:=(hc0.shape rfl).2.1;omega,fun _ _ z=>by rw[ia] at z;cases z⟩⟩
                       · simp only[fL,fS,Option.getD_some,pt,List.length_append,Kc.1,Hn,C9.1,P3]
                         rw[Nat.sub_mul];omega
                       · show ∃y,(kD C0 (l.off+o+len*size) si)[l.off+o+k]? =some y∧_
                         rw[vq]
                         by_cases hk1:k<len*size
                         · rw[List.getElem?_append_left (by rw[Kc.1,Hn];exact hk1)] at hk
                           obtain ⟨y,hy,hr⟩:=Kc.get hk
                           rw[if_neg (by omega)]
                           exact ⟨y,aaZ k y hy,hr.mono (fun j m hm=>by
                            unfold Ph.add
                            split
                            · rename_i ej;subst ej;exact absurd (ok.An _ _ hm) (Nat.lt_irrefl _)
                            · exact hm)⟩
                         · rw[List.getElem?_append_right (by rw[Kc.1,Hn];omega)] at hk
                           obtain ⟨y,hy,hr⟩:=C9.get hk
                           have hyl:k -((List.take (len*size) (List.drop o cs)).length)<si.length:=(List.getElem?_eq_some_iff.1 hy).1
                           rw[Kc.1,Hn] at hyl hy
                           rw[if_pos (by omega)]
                           exact ⟨y,by rw[show l.off+o+k -(l.off+o+len*size)=k - len*size by omega];exact hy,hr.mono (fun j m hm=>by
                            unfold Ph.add
                            split
                            · rename_i ej;subst ej;exact absurd (ok.An _ _ hm) (Nat.lt_irrefl _)
                            · exact hm)⟩
                       · simp only[fL,fS,Option.getD_some,List.length_append,Kc.1,Hn,C9.1,P3] at b ⊢
                         rw[Nat.sub_mul] at b;omega)
                       (fun c ep=>kE si (Ne.symm ep) _) (pK _ _ _ _) p1 p2 p3
                      refine ⟨_,_,_,qm (P:=E.P) hus hux Us fS (fun w=>oE hlen hx E.P w) (wD w rfl) hin jo,?_,nE,pe⟩
                      have:=VR.slice (φ:=φ.add h.nx ⟨l.fI,l.off+o,cap+l.jb -(len+n)⟩) (i:=h.nx) (l:=⟨l.fI,l.off+o,cap+l.jb -(len+n)⟩) 0 (len+n) (len+n) true (by simp [Ph.add])
                      simp only[gY,if_true] at this
                      rw[show len+n+(cap+l.jb -(len+n))=cap+l.jb by omega] at this
                      exact this
                     ·
                      obtain ⟨nc,C,P4,⟨rest,hC⟩,Pz,gP⟩:=rU (P:=E.P) (w:=w) (ty:=ty) hus hux Us fS (tR _ ia) jP Ut (base:=some ⟨l.fI,l.off+o,none⟩) (len:=len) (cap:=gY op cap l.jb) (fun w=>oE hlen hx E.P w) (old:=Uw) (fun w' hw=>Ux _ w' hw) (fun w' hw=>wD w' hw) (by omega) Uu Hn P3
                      rw[gP]
                      have zu:=Kc.append C9
                      have hll:(Uw++si).length=(len+n)*size:=by rw[List.length_append,Hn,P3,Nat.add_mul]
                      cases op with
                      | false=>exact wC ok zC zu fS ia hC Pz P4 hll
                      | true=>
                        obtain ⟨φ',w',v',a1,a2,a3,a4⟩:=wC ok.kill zC zu fS ia hC Pz P4 hll
                        exact ⟨φ',w',v',a1,a2,a3,a4.Uv⟩
                   · simp at e
                 · simp at e
             · simp at e
           · simp at e
         · simp at e
       · simp at e
     · simp at e
   · simp at e
 · simp at e
end Go.Ab
end
section
namespace Go.Ab
variable {E:Env}
theorem N2 {φ:Ph} {h h':ak} {w:World} (ok:OK E φ h w) {argTypes:Array TypeId} {s d v:AV} (e:uW E h argTypes d s=some (v,h')) {s' d':Value} (hd:VR φ d d') (hs:VR φ s s') (ty:TypeId):
 J9 E φ h w ((Builtin.copy_ argTypes ty #[d',s']).run E.P w) v h':=by
 unfold uW at e
 split at e
 · rename_i dT hdT
   split at e
   · rename_i elem m hu hm
     split at e
     · rename_i size fS
       simp at e;obtain ⟨rfl,rfl⟩:=e
       cases hd
       refine ⟨φ,w,_,?_,.int .i64 0,ok,Fr.refl φ h w⟩
       have h0:Nat.min m 0=0:=Nat.min_eq_right (Nat.zero_le _)
       obtain ⟨si,_,wD⟩:∃si:List Value,True∧(Builtin.firstCells size 0 s').run E.P w= .ok si.toArray w:=by
        cases s<;>simp [pa] at hm
        · generalize J6:AV.str _=s0 at hs
          cases hs<;>cases J6
          refine ⟨[],trivial,?_⟩
          simp [Builtin.firstCells]
        · cases hs;exact ⟨[],trivial,by simp [Builtin.firstCells]⟩
        · cases hs;exact ⟨[],trivial,by simp [Builtin.firstCells,loadCells,loadCellsFrom]⟩
        · cases hs;exact ⟨[],trivial,by simp [Builtin.firstCells,loadCells,loadCellsFrom]⟩
       simp only[Builtin.copy_,hdT,List.getElem?_toArray,List.getElem?_cons_zero,List.getElem?_cons_succ,Sem.run_bind,Result.andThen_ok,run_underlying hu,oE hm hs,h0,eu fS,wD,Sem.run_pure]
       rfl
     · rename_i size i o len _ _ fS
       split at e
       · rename_i new cs el Bj hg
         split at e
         · rename_i hc
           simp at e;obtain ⟨rfl,rfl⟩:=e
           cases hd with
           | @slice _ l _ _ _ _ hφ=>
           obtain ⟨si,C9,wD⟩:=Bi ok hs Bj (.inr trivial)
           obtain ⟨w',jo,nE,pe⟩:=yx ok hg hφ C9 o hc.1 hc.2
           refine ⟨φ,w',_,?_,.int .i64 _,nE,pe⟩
           have h0:Nat.min m len=min m len:=rfl
           simp only[Builtin.copy_,hdT,List.getElem?_toArray,List.getElem?_cons_zero,List.getElem?_cons_succ,Sem.run_bind,Result.andThen_ok,run_underlying hu,oE hm hs,h0,eu fS,wD w rfl,jo,Sem.run_pure]
           rfl
         · simp at e
       · simp at e
     · simp at e
   · simp at e
 · simp at e
theorem Ho {w:World} {b n:Nat} {C:Array Value} {e:TypeId} (h:w.heap[b]? =some (.cells C e)):(w.freeze ⟨b,n,none⟩ 1).heap[b]? =some (.cells C e (n,n+1)):=by
 simp [World.freeze,Array.getElem?_modify,h]
theorem E2 {w:World} {b c n:Nat} (h:b≠c):(w.freeze ⟨b,n,none⟩ 1).heap[c]? =w.heap[c]? :=by
 simp [World.freeze,Array.getElem?_modify,h]
theorem Hp (w:World) (b n:Nat):(w.freeze ⟨b,n,none⟩ 1).heap.size=w.heap.size:=by simp [World.freeze]
theorem N3 {φ:Ph} {h h':ak} {w:World} (ok:OK E φ h w) {src dst:TypeId} {x:AV} {v:AV} (e:DI E h src dst (some x)=some (v,h')) {x':Value} (hx:VR φ x x'):
 J9 E φ h w ((convert src dst x').run E.P w) v h':=by
 unfold DI at e
 split at e
 · rename_i el s hs hd zq
   simp at zq;subst zq
   generalize J6:AV.str s=s0 at hx
   cases hx<;>cases J6
   rename_i s'
   split at e
   · rename_i h1 he hn
     split at e
     · rename_i He
       simp at e;obtain ⟨rfl,rfl⟩:=e
       have e1:s'.size=s'.data.toList.length:=by cases s';rfl
       let nc:=(Question.appendCap s'.size 0 el).cut (w.tape w.drawn (.appendCap s'.size 0 el))
       have P4:s'.size≤nc:=by show s'.size≤s'.size+_;omega
       let C:Array Value:=(s'.data.map fun b=>Value.int .u8 b.toNat)++Array.replicate (nc - s'.size) (.int .u8 0)
       have Pz:C.size=nc:=by
        have e0:s'.size=s'.data.size:=rfl
        have:C.size=s'.data.size+(nc - s'.size):=by simp only[C,Array.size_append,Array.size_map,Array.size_replicate]
        omega
       have yg:(w.drew.alloc (.cells C el)).heap=w.heap.push (.cells C el):=rfl
       have aa0:(w.drew.alloc (.cells C el)).heap[w.heap.size]? =some (.cells C el):=by rw[yg];simp
       obtain ⟨nE,pe,hle⟩:=ok.fresh (w':=(w.drew.alloc (.cells C el)).freeze ⟨w.heap.size,nc,none⟩ 1) hn ⟨w.heap.size,0,nc - s'.size⟩ (by
        refine ⟨C,el,nc,nc+1,Ho aa0,⟨?_,fun k x hk=>?_,fun _ k _ b=>?_,fun _ _ _=>rfl⟩,fun _=>⟨rfl,rfl,fun fs z=>by rw[he] at z;cases z⟩⟩
        · simp only[fL,He,Option.getD_some,Pz,List.length_map];rw[←e1];omega
        · rw[List.getElem?_map] at hk
          cases hb:s'.data.toList[k]? with
          | none=>rw[hb] at hk;simp at hk
          | some b=>
            rw[hb] at hk;simp at hk;subst hk
            have hkl:k<s'.data.toList.length:=(List.getElem?_eq_some_iff.1 hb).1
            refine ⟨.int .u8 b.toNat,?_,.int _ _⟩
            have:C[0+k]? =(s'.data.map fun b=>Value.int .u8 b.toNat)[k]? :=by
             simp only[C,Nat.zero_add];rw[Array.getElem?_append_left (by simpa using hkl)]
            show C[0+k]? =_
            rw[this]
            rw[Array.getElem?_map]
            have W0:s'.data[k]? =some b:=by simpa using hb
            rw[W0];rfl
        · simp only[fL,He,Option.getD_some,List.length_map] at b;rw[←e1] at b;omega)
        (fun c ep hc=>by
         rw[E2 (Ne.symm ep),yg,Array.getElem?_push,if_neg (by omega)]) (by rw[Hp,yg];simp) (Nat.le_refl _) rfl rfl rfl
       refine ⟨_,_,.slice (some ⟨w.heap.size,0,none⟩) s'.size nc,?_,?_,nE,pe⟩
       · have hsh:(w.drew.alloc (.cells C el)).shape? w.heap.size=some (el,nc):=by
          simp only[World.shape?,aa0,Pz]
         simp only[convert,Sem.run_bind,run_underlying hs,run_underlying hd,Result.andThen_ok,run_underlying he,Conv.stringToBytes,run_choose,Question.forced,Bool.false_eq_true,if_false,World.drew_eq,newRow,run_newObj,World.alloc_eq,Sem.run_pure,markStringish]
         rw[show (Question.appendCap s'.size 0 el).cut (w.tape w.drawn (Question.appendCap s'.size 0 el))=nc from rfl,show (Array.map (fun b=>Value.int .u8 b.toNat) s'.data++Array.replicate (nc - s'.size) (Value.int .u8 0))=C from rfl]
         simp only[World.size_drew,run_shape,hsh,Result.andThen_ok,run_freeze]
       · have:=VR.slice (φ:=φ.add h.nx ⟨w.heap.size,0,nc - s'.size⟩) (i:=h.nx) (l:=⟨w.heap.size,0,nc - s'.size⟩) 0 s'.size s'.size true (by simp [Ph.add])
         simp only[gY,if_true] at this
         rw[show s'.size+(nc - s'.size)=nc by omega] at this
         exact this
     · simp at e
   · simp at e
 · simp at e
theorem qT {φ:Ph} {v:AV} {v':Value} (hv:VR φ v v') {k':Value}:∀{es:List gO} {gK:List MapEntry} (_:Hd φ es gK) (i:Nat) (_:∀e,es[i]? =some e→VR φ e.key k'),
 Hd φ (dB es i v) (gK.modify i fun e=>{e with key:=k',val:=v'})
 | [],gK,h,i,_=>by
   cases gK with
   | nil=>simpa [dB] using h
   | cons _ _=>simp [Hd] at h
 | e::es,gK,h,i,hk=>by
   obtain ⟨hl,C8⟩:=h
   cases gK with
   | nil=>simp at hl
   | cons y ys=>
     have h0:=C8 0 e y (by simp) (by simp)
     have oC:Hd φ es ys:=⟨by simpa using hl,fun i a b p q=>C8 (i+1) a b (by simpa using p) (by simpa using q)⟩
     cases i with
     | zero=>
       simp only[dB,List.modify_zero_cons]
       refine ⟨by simpa using hl,fun j a b p q=>?_⟩
       cases j with
       | zero=>simp at p q;subst p;subst q;exact ⟨hk e (by simp),hv,h0.born⟩
       | succ j=>simp at p q;exact oC.2 j a b p q
     | succ i=>
       simp only[dB,List.modify_succ_cons]
       obtain ⟨g1,g2⟩:=qT hv oC i (fun e he=>hk e (by simpa using he))
       refine ⟨by simp [g1],fun j a b p q=>?_⟩
       cases j with
       | zero=>simp at p q;subst p;subst q;exact h0
       | succ j=>simp at p;exact g2 j a b p (by simpa using q)
theorem Uy (s:ByteArray):(s==s)=true:=by cases s;rename_i d;show (d==d)=true;simp
theorem E3 {φ:Ph} {k j:AV} (e:DG k j=some true) {k' j':Value} (h:VR φ k k') (h':VR φ j j'):Instr.sameBits 10000 j' k'=true∧j'=k':=by
 unfold DG at e
 split at e
 · generalize hs:AV.str _=s at h
   generalize qQ:AV.str _=s' at h'
   cases h<;>cases hs
   cases h'<;>cases qQ
   rename_i s s'
   simp at e
   have:s'=s:=by cases s;cases s';simp_all
   subst this
   exact ⟨by simp only[Instr.sameBits];exact Uy _,rfl⟩
 · cases h;cases h'
   split at e
   · rename_i yf
     simp at e;subst e;subst yf
     exact ⟨by simp [Instr.sameBits],rfl⟩
   · simp at e
 · cases h;cases h'
   simp at e;subst e
   exact ⟨by simp [Instr.sameBits],rfl⟩
 · simp at e
theorem sP {φ:Ph} {h h':ak} {w:World} (ok:OK E φ h w) {t:TypeId} {m k v:AV} {m' k' v':Value} (hm:VR φ m m') (hk:VR φ k k') (hv:VR φ v v') (e:dA E h t m k v=some h'):
 ∃w',(Instr.mapUpdate t m' k' v').run E.P w= .ok () w'∧OK E φ h' w'∧Fr φ h w φ h' w':=by
 unfold dA at e
 split at e
 · rename_i key elem i hu
   cases hm with
   | @map _ l hφ=>
   split at e
   · rename_i es clock hg
     split at e
     · rename_i yf
       have E0:∃d,E.P.underlying key=some d∧ij (some d) k=true:=by
        cases hd:E.P.underlying key with
        | none=>rw[hd] at yf;simp [ij] at yf
        | some d=>rw[hd] at yf;exact ⟨d,rfl,yf⟩
       obtain ⟨d,hd,yw⟩:=E0
       have AS:=ok.live i _ l hg hφ
       obtain ⟨G6,gK,hb,gQ⟩:=AS
       have zx:(getObj l.fI).run E.P w= .ok (.map gK clock) w:=by simp [getObj,Sem.run,hb]
       have EZ:=qS (P:=E.P) hd yw hk false 9999 w
       have sj:∀o':Obj,(setObj l.fI o').run E.P w= .ok () {w with heap:=w.heap.setIfInBounds l.fI o'}:=fun o'=>by simp [setObj,Sem.run,hb]
       have Ys:∀(o:aK) (o':Obj),OR E φ o l (some o')→o.rw=true→OK E φ (h.put i (some o)) {w with heap:=w.heap.setIfInBounds l.fI o'}∧Fr φ h w φ (h.put i (some o)) {w with heap:=w.heap.setIfInBounds l.fI o'}:=fun o o' ho G5=>by
        have lM:l.fI<w.heap.size:=by
         rcases Nat.lt_or_ge l.fI w.heap.size with a | a
         · exact a
         · rw[Array.getElem?_eq_none a] at hb;simp at hb
        exact ok.change hg rfl hφ (by simp [lM];exact ho) (fun c ep=>by simp [Ne.symm ep]) (by simp) rfl rfl rfl
       split at e
       · rename_i j v0 hf
         obtain ⟨r',h1,h2⟩:=ql yw hk gQ hf
         cases r' with
         | none=>exact h2.elim
         | some q=>
         obtain ⟨j',v1⟩:=q
         obtain ⟨rfl,C8,_,P6,vu,Hq⟩:=h2
         simp at e;subst e
         obtain ⟨y,hy⟩:∃y,gK.toList[j]? =some y:=by
          have lM:j<es.length:=by simpa using (List.getElem?_eq_some_iff.1 vu).1
          exact ⟨gK.toList[j]'(by rw[←gQ.1];exact lM),by simp⟩
         have Uz:=gQ.2 j P6 y (by simpa using vu) hy
         obtain ⟨hsb,P7⟩:=E3 Hq hk Uz.key
         have P9:gK[j]? =some y:=by simpa using hy
         obtain ⟨nE,pe⟩:=Ys (.map (dB es j v) clock) (.map (gK.modify j fun e=>{e with key:=k',val:=v'}) clock) ⟨G6,_,rfl,by
          have:=qT hv gQ j (k':=k') (fun e he=>by
           have:e=P6:=by
            have h3:es[j]? =some P6:=by simpa using vu
            rw[h3] at he;simp at he;exact he.symm
           subst this;rw[←P7];exact Uz.key)
          simpa using this⟩ rfl
         refine ⟨_,?_,nE,pe⟩
         simp only[Instr.mapUpdate,Sem.run_bind,run_underlying hu,Result.andThen_ok,zx,EZ,Instr.findKey,run_underlying hd,h1,Sem.run_pure,P9,Option.map_some,Option.getD_some,Instr.keyThatStays,hsb,if_true,sj _]
       · rename_i hf
         obtain ⟨r',h1,h2⟩:=ql yw hk gQ hf
         cases r' with
         | some q=>exact h2.elim
         | none=>
         simp at e;subst e
         obtain ⟨nE,pe⟩:=Ys (.map (es++[{key:=k,val:=v,born:=clock}]) (clock+1)) (.map (gK.push {key:=k',val:=v',born:=clock}) (clock+1)) ⟨G6,_,rfl,by
          refine ⟨by simp [gQ.1],fun j a b p q=>?_⟩
          rw[Array.toList_push] at q
          by_cases hj:j<es.length
          · rw[List.getElem?_append_left hj] at p
            rw[List.getElem?_append_left (by rw[←gQ.1];exact hj)] at q
            exact gQ.2 j a b p q
          · rw[List.getElem?_append_right (by omega)] at p
            rw[List.getElem?_append_right (by rw[←gQ.1];omega),←gQ.1] at q
            cases W2:j - es.length with
            | zero=>rw[W2] at p q;simp at p q;subst p;subst q;exact ⟨hk,hv,rfl⟩
            | succ n=>rw[W2] at p;simp at p⟩ rfl
         refine ⟨_,?_,nE,pe⟩
         simp only[Instr.mapUpdate,Sem.run_bind,run_underlying hu,Result.andThen_ok,zx,EZ,Instr.findKey,run_underlying hd,h1,Sem.run_pure,sj _]
       · simp at e
     · split at e
       · rename_i yf
         have E0:∃d,E.P.underlying key=some d∧j8 E (some d) k=true:=by
          cases hd:E.P.underlying key with
          | none=>rw[hd] at yf;simp [j8] at yf
          | some d=>rw[hd] at yf;exact ⟨d,rfl,yf⟩
         obtain ⟨d,hd,yw⟩:=E0
         have AS:=ok.live i _ l hg hφ
         obtain ⟨G6,gK,hb,gQ⟩:=AS
         have zx:(getObj l.fI).run E.P w= .ok (.map gK clock) w:=by simp [getObj,Sem.run,hb]
         have EZ:=pw hd yw hk false 9998 w
         have sj:∀o':Obj,(setObj l.fI o').run E.P w= .ok () {w with heap:=w.heap.setIfInBounds l.fI o'}:=fun o'=>by simp [setObj,Sem.run,hb]
         have Ys:∀(o:aK) (o':Obj),OR E φ o l (some o')→o.rw=true→OK E φ (h.put i (some o)) {w with heap:=w.heap.setIfInBounds l.fI o'}∧Fr φ h w φ (h.put i (some o)) {w with heap:=w.heap.setIfInBounds l.fI o'}:=fun o o' ho G5=>by
          have lM:l.fI<w.heap.size:=by
           rcases Nat.lt_or_ge l.fI w.heap.size with a | a
           · exact a
           · rw[Array.getElem?_eq_none a] at hb;simp at hb
          exact ok.change hg rfl hφ (by simp [lM];exact ho) (fun c ep=>by simp [Ne.symm ep]) (by simp) rfl rfl rfl
         split at e
         · rename_i j v0 hf
           obtain ⟨r',h1,h2⟩:=mn hk gQ hf
           cases r' with
           | none=>exact h2.elim
           | some q=>
           obtain ⟨j',v1⟩:=q
           obtain ⟨rfl,C8,_,P6,vu,Hq⟩:=h2
           simp at e;subst e
           obtain ⟨y,hy⟩:∃y,gK.toList[j]? =some y:=by
            have lM:j<es.length:=by simpa using (List.getElem?_eq_some_iff.1 vu).1
            exact ⟨gK.toList[j]'(by rw[←gQ.1];exact lM),by simp⟩
           have Uz:=gQ.2 j P6 y (by simpa using vu) hy
           obtain ⟨hsb,P7⟩:=Hq hk Uz.key
           have P9:gK[j]? =some y:=by simpa using hy
           obtain ⟨nE,pe⟩:=Ys (.map (dB es j v) clock) (.map (gK.modify j fun e=>{e with key:=k',val:=v'}) clock) ⟨G6,_,rfl,by
            have:=qT hv gQ j (k':=k') (fun e he=>by
             have:e=P6:=by
              have h3:es[j]? =some P6:=by simpa using vu
              rw[h3] at he;simp at he;exact he.symm
             subst this;rw[←P7];exact Uz.key)
            simpa using this⟩ rfl
           refine ⟨_,?_,nE,pe⟩
           simp only[Instr.mapUpdate,Sem.run_bind,run_underlying hu,Result.andThen_ok,zx,EZ,kb hd yw hk (h1 w),Sem.run_pure,P9,Option.map_some,Option.getD_some,Instr.keyThatStays,hsb,if_true,sj _]
         · rename_i hf
           obtain ⟨r',h1,h2⟩:=mn hk gQ hf
           cases r' with
           | some q=>exact h2.elim
           | none=>
           simp at e;subst e
           obtain ⟨nE,pe⟩:=Ys (.map (es++[{key:=k,val:=v,born:=clock}]) (clock+1)) (.map (gK.push {key:=k',val:=v',born:=clock}) (clock+1)) ⟨G6,_,rfl,by
            refine ⟨by simp [gQ.1],fun j a b p q=>?_⟩
            rw[Array.toList_push] at q
            by_cases hj:j<es.length
            · rw[List.getElem?_append_left hj] at p
              rw[List.getElem?_append_left (by rw[←gQ.1];exact hj)] at q
              exact gQ.2 j a b p q
            · rw[List.getElem?_append_right (by omega)] at p
              rw[List.getElem?_append_right (by rw[←gQ.1];omega),←gQ.1] at q
              cases W2:j - es.length with
              | zero=>rw[W2] at p q;simp at p q;subst p;subst q;exact ⟨hk,hv,rfl⟩
              | succ n=>rw[W2] at p;simp at p⟩ rfl
           refine ⟨_,?_,nE,pe⟩
           simp only[Instr.mapUpdate,Sem.run_bind,run_underlying hu,Result.andThen_ok,zx,EZ,kb hd yw hk (h1 w),Sem.run_pure,sj _]
         · simp at e
       · simp at e
   · simp at e
 · simp at e
theorem E4 {φ:Ph} {k':Value} {es:List gO} {gK:List MapEntry} (h:Hd φ es gK) (i:Nat) (hk:∀e,es[i]? =some e→VR φ e.key k'):
 Hd φ es (gK.modify i fun e=>{e with key:=k'}):=by
 obtain ⟨hl,hv⟩:=h
 refine ⟨by rw[List.length_modify];exact hl,fun j a b p q=>?_⟩
 rw[List.getElem?_modify] at q
 by_cases e:i=j
 · subst e
   cases hb:gK[i]? with
   | none=>rw[hb] at q;simp at q
   | some y=>
     rw[hb] at q;simp at q;subst q
     have r:=hv i a y p hb
     exact ⟨hk a p,r.val,r.born⟩
 · have q':gK[j]? =some b:=by simpa [e] using q
   exact hv j a b p q'
theorem wE:∀(es:List gO) (i j:Nat) (v:AV),(dB es i v)[j]? =if i=j then (es[j]?).map (fun e=>{e with val:=v}) else es[j]?
 | [],i,j,v=>by cases i<;>simp [dB]
 | e::es,0,0,v=>by simp [dB]
 | e::es,0,j+1,v=>by simp [dB]
 | e::es,i+1,0,v=>by simp [dB]
 | e::es,i+1,j+1,v=>by simp [dB,wE es i j v]
theorem rV:∀(es:List gO) (i:Nat) (v:AV),(dB es i v).length=es.length
 | [],i,v=>by cases i<;>simp [dB]
 | e::es,0,v=>by simp [dB]
 | e::es,i+1,v=>by simp [dB,rV es i v]
theorem Ke {φ:Ph} {v:AV} {v':Value} (hv:VR φ v v') {es:List gO} {gK:List MapEntry} (h:Hd φ es gK) (i:Nat):
 Hd φ (dB es i v) (gK.modify i fun e=>{e with val:=v'}):=by
 obtain ⟨hl,C8⟩:=h
 refine ⟨by rw[List.length_modify,rV];exact hl,fun j a b p q=>?_⟩
 rw[List.getElem?_modify] at q
 rw[wE] at p
 by_cases e:i=j
 · subst e
   cases hb:gK[i]? with
   | none=>rw[hb] at q;simp at q
   | some y=>
     rw[hb] at q;simp at q;subst q
     cases ha:es[i]? with
     | none=>rw[ha] at p;simp at p
     | some x=>
       rw[ha] at p;simp at p;subst p
       have r:=C8 i x y ha hb
       exact ⟨r.key,hv,r.born⟩
 · have q':gK[j]? =some b:=by simpa [e] using q
   have p':es[j]? =some a:=by simpa [e] using p
   exact C8 j a b p' q'
theorem OK.Kf {φ:Ph} {h:ak} {w:World} (ok:OK E φ h w) {i:Nat} {es es2:List gO} {clock clock2:Nat} {N4:Array MapEntry} {l:Loc} {O:Obj} (hg:h.get i=some (.map es clock)) (hφ:φ i=some l) (G6:l.off=0) (hb:w.heap[l.fI]? =some O) (he:Hd φ es2 N4.toList):
 OK E φ (h.put i (some (.map es2 clock2))) {w with heap:=w.heap.setIfInBounds l.fI (.map N4 clock2)}∧Fr φ h w φ (h.put i (some (.map es2 clock2))) {w with heap:=w.heap.setIfInBounds l.fI (.map N4 clock2)}:=by
 have lM:l.fI<w.heap.size:=by
  rcases Nat.lt_or_ge l.fI w.heap.size with a | a
  · exact a
  · rw[Array.getElem?_eq_none a] at hb;simp at hb
 exact ok.change hg rfl hφ (by simp [lM];exact ⟨G6,_,rfl,he⟩) (fun c ep=>by simp [Ne.symm ep]) (by simp) rfl rfl rfl
theorem C_ {φ:Ph} {h h':ak} {w:World} (ok:OK E φ h w) {t:TypeId} {m k v:AV} {m' k':Value} (hm:VR φ m m') (hk:VR φ k k') (e:yk E h t m k=some (v,h')):
 J9 E φ h w ((Instr.mapEntry t m' k').run E.P w) v h':=by
 unfold yk at e
 split at e
 · rename_i key elem i hu
   cases hm with
   | @map _ l hφ=>
   split at e
   · rename_i es clock hg
     split at e
     · rename_i yf
       have E0:∃d,E.P.underlying key=some d∧j8 E (some d) k=true:=by
        cases hd:E.P.underlying key with
        | none=>rw[hd] at yf;simp [j8] at yf
        | some d=>rw[hd] at yf;exact ⟨d,rfl,yf⟩
       obtain ⟨d,hd,yw⟩:=E0
       have AS:=ok.live i _ l hg hφ
       obtain ⟨G6,gK,hb,gQ⟩:=AS
       have zx:(getObj l.fI).run E.P w= .ok (.map gK clock) w:=by simp [getObj,Sem.run,hb]
       have EZ:=pw hd yw hk false 9998 w
       have sj:∀o':Obj,(setObj l.fI o').run E.P w= .ok () {w with heap:=w.heap.setIfInBounds l.fI o'}:=fun o'=>by simp [setObj,Sem.run,hb]
       split at e
       · rename_i j v0 hf
         obtain ⟨r',h1,h2⟩:=mn hk gQ hf
         cases r' with
         | none=>exact h2.elim
         | some q=>
         obtain ⟨j',v1⟩:=q
         obtain ⟨rfl,C8,_,P6,vu,Hq⟩:=h2
         have Mc:es[j]? =some P6:=by simpa using vu
         rw[Mc] at e
         simp at e;obtain ⟨rfl,rfl⟩:=e
         obtain ⟨y,hy⟩:∃y,gK.toList[j]? =some y:=by
          have lM:j<es.length:=by simpa using (List.getElem?_eq_some_iff.1 Mc).1
          exact ⟨gK.toList[j]'(by rw[←gQ.1];exact lM),by simp⟩
         have Uz:=gQ.2 j P6 y Mc hy
         obtain ⟨hsb,P7⟩:=Hq hk Uz.key
         have P9:gK[j]? =some y:=by simpa using hy
         obtain ⟨nE,pe⟩:=ok.Kf (N4:=gK.modify j fun e=>{e with key:=k'}) (clock2:=clock) hg hφ G6 hb (by
          have:=E4 gQ j (k':=k') (fun e he=>by
           have:e=P6:=by rw[Mc] at he;simp at he;exact he.symm
           subst this;rw[←P7];exact Uz.key)
          simpa using this)
         refine ⟨φ,_,.tuple #[v1,goInt y.born],?_,VR.tuple' (LR.cons C8 (LR.cons (by rw[←Uz.born];exact .int _ _) (LR.nil φ))),nE,pe⟩
         simp only[Instr.mapEntry,Sem.run_bind,run_underlying hu,Result.andThen_ok,zx,EZ,kb hd yw hk (h1 w),Sem.run_pure,P9,Option.map_some,Option.getD_some,Instr.keyThatStays,hsb,if_true,sj _]
       · rename_i hf
         obtain ⟨r',h1,h2⟩:=mn hk gQ hf
         cases r' with
         | some q=>exact h2.elim
         | none=>
         split at e
         · rename_i z hz
           simp at e;obtain ⟨rfl,rfl⟩:=e
           obtain ⟨z',ye,jP⟩:=iA hz
           obtain ⟨nE,pe⟩:=ok.Kf (N4:=gK.push {key:=k',val:=z',born:=clock}) (clock2:=clock+1) (es2:=es++[{key:=k,val:=z,born:=clock}]) hg hφ G6 hb (by
            refine ⟨by simp [gQ.1],fun j a b p q=>?_⟩
            rw[Array.toList_push] at q
            by_cases hj:j<es.length
            · rw[List.getElem?_append_left hj] at p
              rw[List.getElem?_append_left (by rw[←gQ.1];exact hj)] at q
              exact gQ.2 j a b p q
            · rw[List.getElem?_append_right (by omega)] at p
              rw[List.getElem?_append_right (by rw[←gQ.1];omega),←gQ.1] at q
              cases W2:j - es.length with
              | zero=>rw[W2] at p q;simp at p q;subst p;subst q;exact ⟨hk,ye φ,rfl⟩
              | succ n=>rw[W2] at p;simp at p)
           refine ⟨φ,_,.tuple #[z',goInt clock],?_,VR.tuple' (LR.cons (ye φ) (LR.cons (.int _ _) (LR.nil φ))),nE,pe⟩
           simp only[Instr.mapEntry,Sem.run_bind,run_underlying hu,Result.andThen_ok,zx,EZ,kb hd yw hk (h1 w),Sem.run_pure,jP,sj _]
         · simp at e
       · simp at e
     · simp at e
   · simp at e
 · simp at e
theorem N5 {φ:Ph} {es:List gO} {gK:List MapEntry} (h:Hd φ es gK) (p:Int→Bool):gK.findIdx? (fun e=>p (e.born:Int))=es.findIdx? (fun e=>p (e.born:Int)):=by
 have hm:gK.map (fun e=>(e.born:Int))=es.map (fun e=>(e.born:Int)):=by
  apply List.ext_getElem?
  intro j
  rw[List.getElem?_map,List.getElem?_map]
  by_cases hj:j<es.length
  · have h1:es[j]? =some es[j]:=by simp [hj]
    have pc:j<gK.length:=by rw[←h.1];exact hj
    have h2:gK[j]? =some gK[j]:=by simp [pc]
    rw[h1,h2,Option.map_some,Option.map_some,(h.2 j _ _ h1 h2).born]
  · rw[List.getElem?_eq_none (by rw[←h.1];omega),List.getElem?_eq_none (by omega)];rfl
 have a:=congrArg (List.findIdx? p) hm
 rw[List.findIdx?_map,List.findIdx?_map] at a
 exact a
theorem Aq {φ:Ph} {h h':ak} {w:World} (ok:OK E φ h w) {t:TypeId} {m s x:AV} {m' s' x':Value} (hm:VR φ m m') (hs:VR φ s s') (hx:VR φ x x') (e:sE h m s x=some h'):
 ∃w',(Instr.entryStore t m' s' x').run E.P w= .ok () w'∧OK E φ h' w'∧Fr φ h w φ h' w':=by
 unfold sE at e
 split at e
 · rename_i i kd n
   cases hm with
   | @map _ l hφ=>
   cases hs with
   | int=>
   split at e
   · rename_i es clock hg
     split at e
     · rename_i j hj
       simp at e;subst e
       obtain ⟨G6,gK,hb,gQ⟩:=ok.live i _ l hg hφ
       have zx:(getObj l.fI).run E.P w= .ok (.map gK clock) w:=by simp [getObj,Sem.run,hb]
       have sj:∀o':Obj,(setObj l.fI o').run E.P w= .ok () {w with heap:=w.heap.setIfInBounds l.fI o'}:=fun o'=>by simp [setObj,Sem.run,hb]
       have pc:gK.findIdx? (fun e=>(e.born:Int)==n)=some j:=by
        have:=N5 gQ (fun b=>b==n)
        rw[hj] at this
        cases gK;rw[List.findIdx?_toArray];exact this
       obtain ⟨nE,pe⟩:=ok.Kf (N4:=gK.modify j fun e=>{e with val:=x'}) (clock2:=clock) hg hφ G6 hb (by
        have:=Ke hx gQ j
        simpa using this)
       refine ⟨_,?_,nE,pe⟩
       have e0:(Instr.entryStore t (.map (some l.fI)) (.int kd n) x').run E.P w=(setObj l.fI (.map (gK.modify j fun e=>{e with val:=x'}) clock)).run E.P w:=by
        have ha:(asInt (.int kd n)).run E.P w= .ok n w:=rfl
        simp only[Instr.entryStore,Sem.run_bind,Result.andThen_ok,zx,ha,Sem.run_pure,pc]
       rw[e0];exact sj _
     · simp at e
   · simp at e
 · simp at e
theorem E5 {s:ByteArray} {pos:Nat} {b:UInt8} (h:s.data.toList[pos]? =some b) (hb:b.toNat<128):Utf8.decode s pos=(b.toNat,1):=by
 have hl:pos<s.size:=(List.getElem?_eq_some_iff.1 h).1
 have W0:s[pos]'hl=b:=by
  have:=(List.getElem?_eq_some_iff.1 h).2
  rw[←this];rfl
 rw[decode_ascii s pos hl (by rw[W0];exact hb),W0]
set_option linter.unusedSimpArgs false in
theorem N6 {φ:Ph} {h h':ak} {w:World} (ok:OK E φ h w) {it v:AV} {b:Bool} (e:DH h it b=some (v,h')) {it':Value} (hit:VR φ it it') (ty:TypeId):
 J9 E φ h w ((Instr.next it' b ty).run E.P w) v h':=by
 unfold DH at e
 split at e
 · rename_i r
   cases hit with
   | @ptr _ l _ hφ=>
   split at e
   · rename_i s pos hg
     have AS:=ok.live r _ l hg hφ
     obtain ⟨G6,s',hb,qQ⟩:=AS
     have zx:(getObj l.fI).run E.P w= .ok (.stringIter s' pos) w:=by simp [getObj,Sem.run,hb]
     have e1:s'.size=s.length:=by rw[←qQ];cases s';rfl
     split at e
     · rename_i lM
       split at e
       · rename_i c hc
         split at e
         · rename_i ady
           simp at e;obtain ⟨rfl,rfl⟩:=e
           have sj:(setObj l.fI (.stringIter s' (pos+1))).run E.P w= .ok () {w with heap:=w.heap.setIfInBounds l.fI (.stringIter s' (pos+1))}:=by simp [setObj,Sem.run,hb]
           have adz:l.fI<w.heap.size:=by
            rcases Nat.lt_or_ge l.fI w.heap.size with a | a
            · exact a
            · rw[Array.getElem?_eq_none a] at hb;simp at hb
           obtain ⟨nE,pe⟩:=ok.change (w':={w with heap:=w.heap.setIfInBounds l.fI (.stringIter s' (pos+1))}) (o':= .uU s (pos+1)) hg rfl hφ (by simp [adz];exact ⟨G6,s',rfl,qQ⟩) (fun c ep=>by simp [Array.getElem?_setIfInBounds,Ne.symm ep]) (by simp) rfl rfl rfl
           refine ⟨φ,_,.tuple #[.bool true,.int .i64 pos,.int .i32 c.toNat],?_,VR.tuple' (iZ:=[.bool true,.int .i64 pos,.int .i32 c.toNat]) (.cons (.bool true) (.cons (.int _ _) (.cons (.int _ _) (.nil φ)))),nE,pe⟩
           have adA:=E5 (s:=s') (pos:=pos) (b:=c) (by rw[qQ];exact hc) ady
           have h0:l.off+0=0:=by omega
           simp only[Instr.next,h0,Sem.run_bind,zx,Result.andThen_ok,e1,lM,if_true,adA,sj,Sem.run_pure,goInt]
         · simp at e
       · simp at e
     · rename_i lM
       simp at e;obtain ⟨rfl,rfl⟩:=e
       refine ⟨φ,w,.tuple #[.bool false],?_,VR.tuple' (iZ:=[.bool false]) (.cons (.bool false) (.nil φ)),ok,Fr.refl φ h w⟩
       have h0:l.off+0=0:=by omega
       simp only[Instr.next,h0,Sem.run_bind,zx,Result.andThen_ok,e1,lM,if_false,Sem.run_pure]
   · rename_i s1 s2 s3 hg
     have AS:=ok.live r _ l hg hφ
     obtain ⟨G6,hb⟩:=AS
     have zx:(getObj l.fI).run E.P w= .ok (.mapIter none s1 s2.toArray s3) w:=by simp [getObj,Sem.run,hb]
     simp at e;obtain ⟨rfl,rfl⟩:=e
     refine ⟨φ,w,.tuple #[.bool false],?_,VR.tuple' (iZ:=[.bool false]) (.cons (.bool false) (.nil φ)),ok,Fr.refl φ h w⟩
     have h0:l.off+0=0:=by omega
     simp only[Instr.next,h0,Sem.run_bind,zx,Result.andThen_ok,Sem.run_pure]
   · simp at e
 · simp at e
end Go.Ab
end
section
namespace Go.Ab
variable {E:Env}
def DR (φ:Ph):qK→Deferred→Prop
 | .call f args,d'=>∃cap,d'.target= .fn (.func f) cap∧LR φ args (d'.args++cap).toList
 | .col r,d'=>∃l,φ r=some l∧d'.target= .collected l.fI
def W3 (φ:Ph):List qK→List Deferred→Prop
 | [],[]=>True
 | d::ds,d'::yz=>DR φ d d'∧W3 φ ds yz
 | _,_=>False
theorem DR.mono {φ φ':Ph} (hle:φ.le φ') {d:qK} {d':Deferred} (h:DR φ d d'):DR φ' d d':=by
 cases d with
 | call f args=>obtain ⟨c,a,b⟩:=h;exact ⟨c,a,b.mono hle⟩
 | col r=>obtain ⟨l,a,b⟩:=h;exact ⟨l,hle _ _ a,b⟩
theorem W3.mono {φ φ':Ph} (hle:φ.le φ'):∀{ds:List qK} {yz:List Deferred} (_:W3 φ ds yz),W3 φ' ds yz
 | [],[],_=>trivial
 | _::_,_::_,h=>⟨h.1.mono hle,W3.mono hle h.2⟩
structure SR (φ:Ph) (ts:List AV) (ds:List qK) (a:Act):Prop where
 ts:LR φ ts a.tmps.toList
 ds:W3 φ ds a.defers
theorem SR.mono {φ φ':Ph} (hle:φ.le φ') {ts:List AV} {ds:List qK} {a:Act} (h:SR φ ts ds a):SR φ' ts ds a:=⟨h.ts.mono hle,h.ds.mono hle⟩
def nH (φ:Ph) (b:Frame) (K:Bool→List Frame):RC→Prop
 | .no=>b.roundOf=none∧∀fr:Frame,fr.kind=b.kind→tryRecover fr (K false)=none
 | .ja v=>b.roundOf=none∧(∃v',VR φ v v'∧∀fr:Frame,fr.kind=b.kind→tryRecover fr (K false)=some (v',K true))∧∀fr:Frame,fr.kind=b.kind→tryRecover fr (K true)=none
 | .done=>b.roundOf=none∧∀fr:Frame,fr.kind=b.kind→tryRecover fr (K true)=none
 | .G4 l=>∃ll,φ l=some ll∧b.roundOf=some ll.fI
def cur (K:Bool→List Frame):RC→List Frame
 | .done=>K true
 | _=>K false
def RC.oF:RC→Bool
 | .G4 _=>true
 | _=>false
theorem nH.mono {φ φ':Ph} (hle:φ.le φ') {b:Frame} {K:Bool→List Frame}:∀{rc:RC} (_:nH φ b K rc),nH φ' b K rc
 | .no,h=>h
 | .ja _,h=>let ⟨n,⟨v',a,b⟩,c⟩:=h;⟨n,⟨v',a.mono hle,b⟩,c⟩
 | .done,h=>h
 | .G4 _,h=>let ⟨l,a,b⟩:=h;⟨l,hle _ _ a,b⟩
theorem nH.plain {φ:Ph} {b:Frame} {K:Bool→List Frame} {rc:RC} (h:nH φ b K rc) (hn:rc.oF=false):b.roundOf=none:=by
 cases rc with
 | no=>exact h.1
 | ja v=>exact h.1
 | done=>exact h.1
 | G4 l=>simp [RC.oF] at hn
inductive Yt (φ:Ph):kR→Exit→Prop
 | normal:Yt φ .normal .normal
 | exit (id:Nat):Yt φ (.exit id) (.exit id)
 | ret:Yt φ .ret .ret
 | panic (v:AV) (v':Value) (h:VR φ v v'):Yt φ (.panic v) (.panic [{v:=v',recovered:=false}])
def lN (E:Env) (f:FuncId) (args:List AV) (h:ak) (v:AV) (h':ak):Prop:=
 ∀(φ:Ph) (w:World) (vs:List Value),OK E φ h w→LR φ args vs→(callFunc f vs.toArray).run E.P w= .ok (.enter f vs.toArray) w∧
  ∀cs,∃φ' w' v' fr,VR φ' v v'∧OK E φ' h' w'∧Fr φ h w φ' h' w'∧
   Steps E.P (lone (Frame.enter E.P f vs.toArray .normal) cs w) (lone fr cs w')∧fr.fn=f∧fr.leaving E.P w' (.returned v')
def Md (E:Env) (f:FuncId) (args:List AV) (h:ak) (v:AV) (h':ak):Prop:=
 ∀(φ:Ph) (w:World) (vs:List Value),OK E φ h w→LR φ args vs→(callFunc f vs.toArray).run E.P w= .ok (.enter f vs.toArray) w∧
  ∀cs,∃φ' w' v' fr,VR φ' v v'∧OK E φ' h' w'∧Fr φ h w φ' h' w'∧
   Steps E.P (lone (Frame.enter E.P f vs.toArray .normal) cs w) (lone fr cs w')∧fr.fn=f∧fr.leaving E.P w' (.panicked [{v:=v',recovered:=false}])
inductive oG (E:Env) (φ:Ph) (w:World):Fn→List Value→Next→Frame→Prop
 | fn (f:FuncId) (vs:List Value) (hr:(callFunc f vs.toArray).run E.P w= .ok (.enter f vs.toArray) w):oG E φ w (.fn f) vs (.enter f vs.toArray) (Frame.enter E.P f vs.toArray .normal)
 | yl (l:Nat) (ll:Loc) (hl:φ l=some ll) (vs:List Value) (f:FuncId) (tmps:Array Value) (assign body:Code) (hr:(Instr.yield ll.fI vs.toArray).run E.P w= .ok (.round ll.fI f tmps assign body) w):
  oG E φ w (.yl l) vs (.round ll.fI f tmps assign body) (Frame.round ll.fI f tmps assign body .normal)
def P_ (φ:Ph):Fn→Prop
 | .fn _=>True
 | .yl l=>∃ll,φ l=some ll
def Kg (E:Env) (F:Fn) (args:List AV) (h:ak) (v:AV) (h':ak):Prop:=
 ∀(φ:Ph) (w:World) (vs:List Value),OK E φ h w→P_ φ F→LR φ args vs→∃n start,oG E φ w F vs n start∧
  ∀c cs,∃φ' w' v',VR φ' v v'∧OK E φ' h' w'∧Fr φ h w φ' h' w'∧Steps E.P (lone start (c::cs) w) (lone (c.finish v') cs w')
def Kh (E:Env) (F:Fn) (args:List AV) (h:ak) (v:AV) (h':ak):Prop:=
 ∀(φ:Ph) (w:World) (vs:List Value),OK E φ h w→P_ φ F→LR φ args vs→∃n start,oG E φ w F vs n start∧
  ∀c cs,∃φ' w' v',VR φ' v v'∧OK E φ' h' w'∧Fr φ h w φ' h' w'∧Steps E.P (lone start (c::cs) w) (lone (c.raise [{v:=v',recovered:=false}]) cs w')
theorem lN.any {f:FuncId} {args:List AV} {h:ak} {v:AV} {h':ak} (r:lN E f args h v h'):Kg E (.fn f) args h v h':=fun φ w vs ok _ hl=>by
 obtain ⟨h1,h2⟩:=r φ w vs ok hl
 refine ⟨_,_,.fn f vs h1,fun c cs=>?_⟩
 obtain ⟨φ',w',v',fr,x1,x2,x3,x4,_,x5⟩:=h2 (c::cs)
 exact ⟨φ',w',v',x1,x2,x3,x4.trans (.one (step_leave_returned x5))⟩
theorem Md.any {f:FuncId} {args:List AV} {h:ak} {v:AV} {h':ak} (r:Md E f args h v h'):Kh E (.fn f) args h v h':=fun φ w vs ok _ hl=>by
 obtain ⟨h1,h2⟩:=r φ w vs ok hl
 refine ⟨_,_,.fn f vs h1,fun c cs=>?_⟩
 obtain ⟨φ',w',v',fr,x1,x2,x3,x4,_,x5⟩:=h2 (c::cs)
 exact ⟨φ',w',v',x1,x2,x3,x4.trans (.one (step_leave_panicked x5))⟩
structure iB (E:Env) (call:a_):Prop where
 ret:∀f args h v h',call f args h= .ret v h'→Kg E f args h v h'
 panic:∀f args h v h',call f args h= .panic v h'→Kh E f args h v h'
structure kU (E:Env):Prop where
 ext:WZ E
 iN:∀f g,E.iN f=some g→∀args h v h',g args h=some (v,h')→lN E f args h v h'
 names:∀(f:FuncId) (fn:Func),E.P.funcs[f]? =some fn→fn.name≠ "runtime.NumGoroutine"
 mixed:E.P.follows .mixedOrders=true
theorem P' {φ:Ph} {ts:List AV} {a:Act} (h:LR φ ts a.tmps.toList) (d:Option Tmp) {v:AV} {v':Value} (hv:VR φ v v'):LR φ (dR ts d v) (a.put d v').tmps.toList:=by
 cases d with
 | none=>exact h
 | some d=>simp only[dR,Act.put,Array.toList_setIfInBounds];exact h.set hv d
theorem put_defers (a:Act) (d:Option Tmp) (v:Value):(a.put d v).defers=a.defers:=by cases d<;>rfl
theorem SR.put {φ:Ph} {ts:List AV} {ds:List qK} {a:Act} (h:SR φ ts ds a) (d:Option Tmp) {v:AV} {v':Value} (hv:VR φ v v'):SR φ (dR ts d v) ds (a.put d v'):=
 ⟨P' h.ts d hv,by rw[put_defers];exact h.ds⟩
theorem vv {φ:Ph} {ops:Array Oper} {ts:List AV} {a:Act} (h:LR φ ts a.tmps.toList) (o:Oper):Region.wanted o (yielded ops a.tmps)=cu ops ts o:=by
 unfold Region.wanted cu
 cases o.guard with
 | none=>rfl
 | some g=>
   obtain ⟨j,want⟩:=g
   simp only[yielded]
   cases hd:(ops[j]?).bind (·.dst) with
   | none=>simp
   | some d=>
     simp only[Option.bind_some]
     cases hx:ts[d]? with
     | none=>
       have:a.tmps[d]? =none:=by
        have h1:=List.getElem?_eq_none_iff.1 hx
        rw[h.1] at h1
        have:=List.getElem?_eq_none_iff.2 h1
        simpa using this
       simp [this]
     | some x=>
       obtain ⟨y,hy,hv⟩:=h.get hx
       have P9:a.tmps[d]? =some y:=by simpa using hy
       rw[P9]
       cases hv with
       | any _ h=>cases y<;>first | (simp;done) | cases h
       | _=>simp
section
variable {b:Frame} {a:Act} {k:List Item} {cs:List Frame} {w:World} {ops:Array Oper} {i:Nat} {rest:List Nat} {o:Oper}
theorem tU (ho:ops[i]? =some o) (v:Value):(b.atR a (.inRegion ops (i::rest)::k)).finish v=b.atR (a.put o.dst v) (.inRegion ops rest::k):=by
 rw[Frame.finish_atR,ho];rfl
theorem m3 {P:Program} (lr:o.semAt b.roundOf a.eval=execOp a.eval o) (ho:ops[i]? =some o) (hw:Region.wanted o (yielded ops a.tmps)=true) {v:Value} {w':World} (hr:(execOp a.eval o).run P w= .ok (.value v) w'):
 step P (lone (b.atR a (.inRegion ops (i::rest)::k)) cs w)= .next (lone (b.atR (a.put o.dst v) (.inRegion ops rest::k)) cs w'):=by
 rw[←tU ho]
 exact step_lone_go (by rw[stepGR_op (rest:=rest) ho hw,lr];simp [stepG.apply,hr])
theorem Hr {P:Program} (lr:o.semAt b.roundOf a.eval=execOp a.eval o) (ho:ops[i]? =some o) (hw:Region.wanted o (yielded ops a.tmps)=true) {w':World} (hr:(execOp a.eval o).run P w= .ok .skip w'):
 step P (lone (b.atR a (.inRegion ops (i::rest)::k)) cs w)= .next (lone (b.atR (a.put o.dst undef) (.inRegion ops rest::k)) cs w'):=by
 rw[←tU ho]
 exact step_lone_go (by rw[stepGR_op (rest:=rest) ho hw,lr];simp [stepG.apply,hr])
theorem go_enter {φ:Ph} (lr:o.semAt b.roundOf a.eval=execOp a.eval o) (ho:ops[i]? =some o) (hw:Region.wanted o (yielded ops a.tmps)=true) {F:Fn} {vs:List Value} {n:Next} {start:Frame} (hp:oG E φ w F vs n start) (hr:(execOp a.eval o).run E.P w= .ok n w):
 step E.P (lone (b.atR a (.inRegion ops (i::rest)::k)) cs w)= .next (lone start (b.atR a (.inRegion ops (i::rest)::k)::cs) w):=by
 cases hp with
 | fn f vs _=>exact step_lone_go (by rw[stepGR_op (rest:=rest) ho hw,lr];simp [stepG.apply,hr,Frame.atR])
 | yl l ll hl vs f tmps assign body _=>exact step_lone_go (by rw[stepGR_op (rest:=rest) ho hw,lr];simp [stepG.apply,hr,Frame.atR])
theorem Qa {P:Program} (lr:o.semAt b.roundOf a.eval=execOp a.eval o) (ho:ops[i]? =some o) (hw:Region.wanted o (yielded ops a.tmps)=true) {v:Value} {w':World} (hr:(execOp a.eval o).run P w= .halt (.panic v) w'):
 step P (lone (b.atR a (.inRegion ops (i::rest)::k)) cs w)= .next (lone {b.atR a (.inRegion ops (i::rest)::k) with mode:= .panicking [{v,recovered:=false}]} cs w'):=by
 rw[←Frame.raise_atR]
 exact step_lone_go (by rw[stepGR_op (rest:=rest) ho hw,lr];simp [stepG.apply,hr])
theorem N7 {P:Program} (lr:o.semAt b.roundOf a.eval=execOp a.eval o) (ho:ops[i]? =some o) (hw:Region.wanted o (yielded ops a.tmps)=true) {d:Deferred} {w':World} (hr:(execOp a.eval o).run P w= .ok (.defer d) w'):
 step P (lone (b.atR a (.inRegion ops (i::rest)::k)) cs w)= .next (lone (b.atR ({a with defers:=d::a.defers}.put o.dst undef) (.inRegion ops rest::k)) cs w'):=by
 have:({b.atR a (.inRegion ops (i::rest)::k) with defers:=d::a.defers}:Frame).finish undef=
  b.atR ({a with defers:=d::a.defers}.put o.dst undef) (.inRegion ops rest::k):=by
  have:=Frame.finish_atR b {a with defers:=d::a.defers} ops i rest k undef
  rw[ho] at this;exact this
 refine step_lone_go ?_
 rw[stepGR_op (rest:=rest) ho hw,lr]
 simp only[stepG.apply,Sem.runT_eq,hr,GStep.bare_after]
 exact congrArg (fun fr=>GStep.go {frame:=fr,callers:=cs,status:= .running,dying:=none} w') this
theorem Ki {P:Program} (yA:b.roundOf=none) (lr:o.semAt b.roundOf a.eval=execOp a.eval o) (ho:ops[i]? =some o) (hw:Region.wanted o (yielded ops a.tmps)=true) {w':World} (hr:(execOp a.eval o).run P w= .ok .recover w') {v:Value} {iZ:List Frame}
 (ht:tryRecover (b.atR a (.inRegion ops (i::rest)::k)) cs=some (v,iZ)):
 step P (lone (b.atR a (.inRegion ops (i::rest)::k)) cs w)= .next (lone (b.atR (a.put o.dst v) (.inRegion ops rest::k)) iZ w'):=by
 rw[←tU ho]
 refine step_lone_go ?_
 rw[stepGR_op (rest:=rest) ho hw,lr]
 have Qb:(b.atR a (.inRegion ops (i::rest)::k)).roundOf=none:=yA
 simp only[stepG.apply,Sem.runT_eq,if_true,hr,GStep.bare_after,Qb,ht,GStep.bare_go]
theorem uZ {P:Program} (yA:b.roundOf=none) (lr:o.semAt b.roundOf a.eval=execOp a.eval o) (ho:ops[i]? =some o) (hw:Region.wanted o (yielded ops a.tmps)=true) {w':World} (hr:(execOp a.eval o).run P w= .ok .recover w')
 (ht:tryRecover (b.atR a (.inRegion ops (i::rest)::k)) cs=none):
 step P (lone (b.atR a (.inRegion ops (i::rest)::k)) cs w)= .next (lone (b.atR (a.put o.dst .nilIface) (.inRegion ops rest::k)) cs w'):=by
 rw[←tU ho]
 refine step_lone_go ?_
 rw[stepGR_op (rest:=rest) ho hw,lr]
 have Qb:(b.atR a (.inRegion ops (i::rest)::k)).roundOf=none:=yA
 simp only[stepG.apply,Sem.runT_eq,if_true,hr,GStep.bare_after,Qb,ht,GStep.bare_go]
end
def aa1 (P:Program) (m:Machine) (b:Frame) (ops:Array Oper) (rest:List Nat) (k:List Item) (cs:List Frame):Exit→Act→World→Prop
 | .normal,a,w=>Steps P m (lone (b.atR a (.inRegion ops rest::k)) cs w)
 | .panic chain,a,w=>∃todo,Steps P m (lone {b.atR a todo with mode:= .panicking chain} cs w)
 | _,_,_=>False
def Me (φ:Ph):Fn→Target→List Value→List Value→Prop
 | .fn f,t,vs,all=>∃cap:List Value,t= .fn (.func f) cap.toArray∧all=vs++cap
 | .yl l,t,vs,all=>∃ll,φ l=some ll∧t= .fn (.yield ll.fI) #[]∧all=vs
theorem Me.aa2 {φ:Ph} {F:Fn} {t:Target} {vs all:List Value} (h:Me φ F t vs all):P_ φ F:=by
 cases F with
 | fn f=>trivial
 | yl l=>obtain ⟨ll,h,_⟩:=h;exact ⟨ll,h⟩
theorem Bk {φ:Ph} (hg:GL E φ) {ts:List AV} {a:Act} (ht:LR φ ts a.tmps.toList) {c:Call} {f:Fn} {args:List AV} (h:callee E ts c=some (f,args)) (ty:TypeId):
 ∃(t:Target) (vs all:List Value),LR φ args all∧Me φ f t vs all∧∀w,(resolve a.eval c ty).run E.P w= .ok {target:=t,args:=vs.toArray} w:=by
 unfold callee at h
 split at h
 · rename_i x hcx
   split at h
   · rename_i g first captured as_ hx has
     simp at h;obtain ⟨rfl,rfl⟩:=h
     have h1:=nD hg ht hx
     have h2:=iz hg ht has
     generalize lA:a.eval x=cv at h1
     obtain ⟨UA,iZ,rfl,hf,hc⟩:=h1.A7
     refine ⟨.fn (.func g) iZ.toList.toArray,UA.toList++c.args.toList.map a.eval,_,?_,⟨iZ.toList,rfl,rfl⟩,fun w=>?_⟩
     · rw[List.append_assoc]
       have:=(hf.append h2).append hc
       simpa [List.append_assoc] using this
     · simp [resolve,hcx,Deferred.ofValue,lA,map_toArray]
   · rename_i l as_ hx has
     simp at h;obtain ⟨rfl,rfl⟩:=h
     have h1:=nD hg ht hx
     have h2:=iz hg ht has
     generalize lA:a.eval x=cv at h1
     cases h1 with
     | yield hl=>
       refine ⟨_,c.args.toList.map a.eval,_,h2,⟨_,hl,rfl,rfl⟩,fun w=>?_⟩
       simp [resolve,hcx,Deferred.ofValue,lA,map_toArray]
   · simp at h
 · simp at h
theorem Da {φ:Ph} {w:World} {F:Fn} {t:Target} {vs all:List Value} (ht:Me φ F t vs all) {n:Next} {start:Frame} (hp:oG E φ w F all n start):(invoke t vs.toArray).run E.P w= .ok n w:=by
 cases hp with
 | fn f qR hr=>
   obtain ⟨cap,rfl,rfl⟩:=ht
   simpa [invoke] using hr
 | yl l ll hl qR f tmps assign body hr=>
   obtain ⟨ll',W5,rfl,rfl⟩:=ht
   rw[hl] at W5;simp at W5;subst W5
   simpa [invoke] using hr
theorem qU {φ:Ph} {b:Frame} {K:Bool→List Frame} {rc:RC} (gL:nH φ b K rc) {o:Oper} (h:rc.oF=false∨∀c,o.op≠ .defer c) (ρ:Operand→Value):o.semAt b.roundOf ρ=execOp ρ o:=by
 rcases h with h | h
 · rw[gL.plain h];rfl
 · exact Oper.semAt_eq _ _ _ h
end Go.Ab
end
section
namespace Go.Ab
variable {E:Env}
theorem Bl {rc:RC} (h:∀l,rc= .G4 l→False):rc.oF=false:=by
 cases rc<;>first | rfl | exact (h _ rfl).elim
theorem OK.gl {φ:Ph} {h:ak} {w:World} (ok:OK E φ h w):GL E φ:=ok.vo
inductive sQ (E:Env) (call:a_) (φ:Ph) (ts:List AV) (h:ak) (rc:RC) (o:Oper) (a:Act) (w:World):ym→Prop
 | val (v:AV) (h':ak) (φ':Ph) (w':World) (v':Value) (hv:VR φ' v v') (ok:OK E φ' h' w') (fr:Fr φ h w φ' h' w')
  (run:(execOp a.eval o).run E.P w= .ok (.value v') w'):sQ E call φ ts h rc o a w (.val v h')
 | skip (h':ak) (φ':Ph) (w':World) (ok:OK E φ' h' w') (fr:Fr φ h w φ' h' w')
  (run:(execOp a.eval o).run E.P w= .ok .skip w'):sQ E call φ ts h rc o a w (.val AV.undef h')
 | enter (v:AV) (h':ak) (F:Fn) (args:List AV) (all:List Value) (hr:Kg E F args h v h') (hf:P_ φ F) (hl:LR φ args all)
  (run:∀n start,oG E φ w F all n start→(execOp a.eval o).run E.P w= .ok n w):sQ E call φ ts h rc o a w (.val v h')
 | UB (v:AV) (h':ak) (F:Fn) (args:List AV) (all:List Value) (hr:Kh E F args h v h') (hf:P_ φ F) (hl:LR φ args all)
  (run:∀n start,oG E φ w F all n start→(execOp a.eval o).run E.P w= .ok n w):sQ E call φ ts h rc o a w (.panic v h')
 | defer (d:qK) (d':Deferred) (CZ:rc.oF=false) (hd:DR φ d d') (run:(execOp a.eval o).run E.P w= .ok (.defer d') w):sQ E call φ ts h rc o a w (.defer d)
 | panic (v:AV) (v':Value) (hv:VR φ v v') (run:(execOp a.eval o).run E.P w= .halt (.panic v') w):sQ E call φ ts h rc o a w (.panic v h)
 | rT (v:AV) (gL:rc= .ja v) (run:(execOp a.eval o).run E.P w= .ok .recover w):sQ E call φ ts h rc o a w (.rT v)
 | Qc (gL:∀v,rc≠ .ja v) (CZ:rc.oF=false) (run:(execOp a.eval o).run E.P w= .ok .recover w):sQ E call φ ts h rc o a w (.val .nilIface h)
 | fail (why:String) (q:Option Oper):sQ E call φ ts h rc o a w (.fail why q)
theorem Hs {t:TypeId} {name:String} {f:FuncId} (h:wq E t name=some f) (v:Value) (w:World):(method (E.P.types.size+Made.depth) t v name).run E.P w= .ok (f,v) w:=by
 unfold wq at h
 split at h
 · rename_i i hi
   split at h
   · rename_i m hm
     split at h
     · rename_i hp
       split at h
       · simp at h
       · rename_i g d ep hf hu
         simp at h;subst h
         have N0:m.path.toList=[]:=by simpa using hp
         have e:E.P.types.size+Made.depth=(E.P.types.size+99)+1:=rfl
         rw[e,method]
         have hti:(typeInfo t).run E.P w= .ok i w:=by simp [typeInfo,hi]
         simp only[Sem.run_bind,hti,Result.andThen_ok,hm,N0,follow,Sem.run_pure,hf,receiverAt,run_underlying hu]
         cases d with
         | pointer x=>exact absurd rfl (ep x)
         | _=>simp [Place.get]
       · simp at h
     · simp at h
   · simp at h
 · simp at h
theorem sR {call:a_} {φ:Ph} {ts:List AV} {h:ak} {rc:RC} {o:Oper} {a:Act} {w:World} {s:Sem Value} {v:AV} {h':ak} (hd:J9 E φ h w (s.run E.P w) v h')
 (he:execOp a.eval o=(do pure (.value (←s)):Sem Next)):sQ E call φ ts h rc o a w (.val v h'):=by
 obtain ⟨φ',w',v',hr,hv,ok,fr⟩:=hd
 exact .val v h' φ' w' v' hv ok fr (by rw[he];exact fe hr)
set_option maxHeartbeats 1000000 in
theorem vw (hE:kU E) {call:a_} (dC:iB E call) {φ:Ph} {ts:List AV} {h:ak} {rc:RC} {o:Oper} {a:Act} {w:World} (ht:LR φ ts a.tmps.toList) (ok:OK E φ h w):
 sQ E call φ ts h rc o a w (dr E call ts h rc o):=by
 have ev:∀{x:Operand} {v:AV},dZ E ts x=some v→VR φ v (a.eval x):=fun h=>nD ok.gl ht h
 obtain ⟨dst,op,ty,pos,after,guard⟩:=o
 unfold dr
 simp only
 split
 ·
  split
  · rename_i ha hx
    split
    · rename_i h' jo
      obtain ⟨w',hr,nE,pe⟩:=J_ ok (ev ha) (ev hx) jo
      exact .skip h' φ w' nE pe (by simp [execOp,hr])
    · exact .fail _ _
  · exact .fail _ _
 ·
  split
  · rename_i hm hk hx
    split
    · rename_i h' jo
      obtain ⟨w',hr,nE,pe⟩:=sP ok (ev hm) (ev hk) (ev hx) jo
      exact .skip h' φ w' nE pe (by simp [execOp,hr])
    · exact .fail _ _
  · exact .fail _ _
 ·
  split
  · rename_i hm hk hx
    split
    · rename_i h' jo
      obtain ⟨w',hr,nE,pe⟩:=sP ok (ev hm) (ev hk) (ev hx) jo
      exact .skip h' φ w' nE pe (by simp [execOp,hr])
    · exact .fail _ _
  · exact .fail _ _
 ·
  split
  · rename_i hm hk
    split
    · rename_i v h' hc
      exact sR (C_ ok (ev hm) (ev hk) hc) rfl
    · exact .fail _ _
  · exact .fail _ _
 ·
  rename_i tt mm bb xx
  split
  · rename_i hm hk hx
    split
    · rename_i h' jo
      obtain ⟨w',hr,nE,pe⟩:=Aq (t:=tt) ok (ev hm) (ev hk) (ev hx) jo
      exact .skip h' φ w' nE pe (by simp [execOp,hr])
    · exact .fail _ _
  · exact .fail _ _
 ·
  rename_i src dst x
  split
  · rename_i v h' hc
    cases hx:dZ E ts x with
    | none=>rw[hx] at hc;simp [DI] at hc
    | some xv=>
      rw[hx] at hc
      exact sR (N3 ok hc (ev hx)) rfl
  · exact .fail _ _
 ·
  split
  · rename_i hi
    split
    · rename_i hn
      exact sR (N6 ok hn (ev hi) ty) rfl
    · exact .fail _ _
  · exact .fail _ _
 ·
  split
  · rename_i hx
    have h1:=ev hx
    generalize lA:a.eval _=cv at h1
    cases h1 with
    | iface t1 v1 v' hv=>
    exact .panic _ _ (.iface _ _ v' hv) (by simp [execOp,lA,Instr.panic])
  · exact .fail _ _
 ·
  split
  · exact .fail _ _
  · rename_i f args CZ hc
    obtain ⟨t,vs,all,hl,⟨cap,rfl,rfl⟩,hr⟩:=Bk ok.gl ht hc ty
    exact .defer _ {target:= .fn (.func f) cap.toArray,args:=vs.toArray} (Bl CZ) ⟨cap.toArray,rfl,by simpa using hl⟩ (by simp [execOp,hr])
  · exact .fail _ _
 ·
  rename_i c
  split
  ·
   rename_i Db
   split
   · rename_i s x has
     have hl:=iz ok.gl ht has
     obtain ⟨s',r1,hr1,hs,hl1⟩:=hl.cN
     obtain ⟨x',r2,hr2,hx,PC⟩:=hl1.cN
     have h0:c.args.map a.eval= #[s',x']:=by rw[map_toArray,hr1,hr2,PC.jz]
     split
     · rename_i hap
       exact sR (Hm ok hap hs hx ty) (by simp [execOp,resolve,Db,invoke,builtin,h0])
     · exact .fail _ _
   · exact .fail _ _
  ·
   rename_i Db
   split
   · rename_i s x has
     have hl:=iz ok.gl ht has
     obtain ⟨s',r1,hr1,hs,hl1⟩:=hl.cN
     obtain ⟨x',r2,hr2,hx,PC⟩:=hl1.cN
     have h0:c.args.map a.eval= #[s',x']:=by rw[map_toArray,hr1,hr2,PC.jz]
     split
     · rename_i hap
       exact sR (N2 ok hap hs hx ty) (by simp [execOp,resolve,Db,invoke,builtin,h0])
     · exact .fail _ _
   · exact .fail _ _
  ·
   rename_i Db
   have gP:(execOp a.eval ⟨dst,.call c,ty,pos,after,guard⟩).run E.P w= .ok .recover w:=by simp [execOp,resolve,Db,invoke,builtin]
   split
   · exact .rT _ rfl gP
   · exact .fail _ _
   · rename_i ep CZ
     exact .Qc (fun v e=>ep v e) (Bl CZ) gP
  ·
   rename_i fo Db
   split
   · rename_i F args hc
     obtain ⟨t,vs,all,hl,htg,hr⟩:=Bk ok.gl ht hc ty
     have gP:∀n start,oG E φ w F all n start→(execOp a.eval ⟨dst,.call c,ty,pos,after,guard⟩).run E.P w= .ok n w:=fun n start hp=>by
      have:=Da htg hp
      simp [execOp,hr,this]
     split
     · rename_i g hg
       split
       · rename_i v h' hgv
         cases F with
         | fn f=>exact .enter v h' (.fn f) args all (hE.iN f g hg args h v h' hgv).any trivial hl gP
         | yl l=>simp [j9] at hg
       · exact .fail _ _
     · split
       · rename_i v h' lA
         exact .enter v h' F args all (dC.ret F args h v h' lA) htg.aa2 hl gP
       · rename_i v h' lA
         exact .UB v h' F args all (dC.panic F args h v h' lA) htg.aa2 hl gP
       · exact .fail _ _
   · exact .fail _ _
  ·
   rename_i r name Db
   split
   · rename_i t x args hx has
     split
     · rename_i f hm
       have h1:=ev hx
       generalize lA:a.eval r=cv at h1
       cases h1 with
       | iface t1 v1 v' hv=>
       have hl:LR φ (x::args) (v'::c.args.toList.map a.eval):= .cons hv (iz ok.gl ht has)
       have gP:∀n start,oG E φ w (.fn f) (v'::c.args.toList.map a.eval) n start→(execOp a.eval ⟨dst,.call c,ty,pos,after,guard⟩).run E.P w= .ok n w:=fun n start hp=>by
        cases hp with
        | fn f qR hr=>
        have e1:(#[v']++(c.args.map a.eval))=(v'::c.args.toList.map a.eval).toArray:=by rw[map_toArray];simp
        have e2:(#[Value.iface t v']++c.args.map a.eval).extract 1 (#[Value.iface t v']++c.args.map a.eval).size=c.args.map a.eval:=by
         apply Array.ext';simp
         exact List.take_of_length_le (by simp)
        have e3:(#[Value.iface t v']++c.args.map a.eval)[0]? =some (Value.iface t v'):=by rw[Array.getElem?_append];rfl
        simp only[execOp,resolve,Db,lA,Sem.run_bind,Sem.run_pure,Result.andThen_ok,invoke,e3,e2,callMethod,run_program,Hs hm,e1,hr]
       split
       · rename_i v h' Yu
         exact .enter v h' (.fn f) _ _ (dC.ret (.fn f) _ h v h' Yu) trivial hl gP
       · rename_i v h' Yu
         exact .UB v h' (.fn f) _ _ (dC.panic (.fn f) _ h v h' Yu) trivial hl gP
       · exact .fail _ _
     · exact .fail _ _
   · exact .fail _ _
  · exact .fail _ _
 · exact .fail _ _
structure aa3 (E:Env) (φ:Ph) (h:ak) (w:World) (b:Frame) (K:Bool→List Frame) (ops:Array Oper) (rest:List Nat) (k:List Item) (m:Machine) (e:kR) (s':St):Prop where
 is:∃φ' w' a' e',Yt φ' e e'∧SR φ' s'.ts s'.ds a'∧OK E φ' s'.h w'∧Fr φ h w φ' s'.h w'∧nH φ' b K s'.rc∧aa1 E.P m b ops rest k (cur K s'.rc) e' a' w'
set_option maxHeartbeats 1000000 in
theorem DT (hE:kU E) {call:a_} (dC:iB E call) {ops:Array Oper} {i:Nat} {rest:List Nat} {o:Oper} (ho:ops[i]? =some o) {s s':St} {e:kR} (qg:EL E call s o= .ok e s')
 {φ:Ph} {a:Act} {w:World} {b:Frame} {k:List Item} {K:Bool→List Frame} (hs:SR φ s.ts s.ds a) (ok:OK E φ s.h w) (gL:nH φ b K s.rc) (hw:Region.wanted o (yielded ops a.tmps)=true):
 aa3 E φ s.h w b K ops rest k (lone (b.atR a (.inRegion ops (i::rest)::k)) (cur K s.rc) w) e s':=by
 have lr:(s.rc.oF=false∨∀c,o.op≠ .defer c)→o.semAt b.roundOf a.eval=execOp a.eval o:=fun h=>qU gL h _
 unfold EL at qg
 split at qg
 · rename_i v hp
   have pf:s.rc.oF=false∨∀c,o.op≠ .defer c:= .inr (fun c e=>by rw[e] at hp;simp [bp] at hp)
   simp at qg;obtain ⟨rfl,rfl⟩:=qg
   obtain ⟨v',hv,hr⟩:=zv hE.ext ok.gl hs.ts hp
   exact ⟨φ,w,_,_,.normal,hs.put o.dst hv,ok,Fr.refl _ _ _,gL,.one (m3 (lr pf) ho hw (hr w))⟩
 · split at qg
   · rename_i v hp
     have pf:s.rc.oF=false∨∀c,o.op≠ .defer c:= .inr (fun c e=>by rw[e] at hp;simp [dM] at hp)
     simp at qg;obtain ⟨rfl,rfl⟩:=qg
     obtain ⟨v',hv,hr⟩:=zA ok.gl ok hs.ts hp
     exact ⟨φ,w,_,_,.normal,hs.put o.dst hv,ok,Fr.refl _ _ _,gL,.one (m3 (lr pf) ho hw (hr w rfl))⟩
   · split at qg
     · rename_i obj mk hp
       have pf:s.rc.oF=false∨∀c,o.op≠ .defer c:= .inr (fun c e=>by rw[e] at hp;simp [ek] at hp)
       split at qg
       · rename_i h' hn
         simp at qg;obtain ⟨rfl,rfl⟩:=qg
         obtain ⟨O,mk',Ht,hr⟩:=wB ok.gl hs.ts hp
         obtain ⟨nE,pe,hle⟩:=ok.fresh (w':=w.alloc O) hn ⟨w.heap.size,0,0⟩ (by
          have:=Ht.obj (φ.add s.h.nx ⟨w.heap.size,0,0⟩) w.heap.size (fun i m hm=>by
           unfold Ph.add;split
           · rename_i e;subst e;exact absurd (ok.An _ _ hm) (Nat.lt_irrefl _)
           · exact hm)
          rw[show (w.alloc O).heap=w.heap.push O from rfl]
          simpa using this)
          (fun c ep hc=>by rw[show (w.alloc O).heap=w.heap.push O from rfl,Array.getElem?_push,if_neg (by simpa using ep)]) (by simp) (Nat.le_refl _) rfl rfl rfl
         have hv:=Ht.val (φ.add s.h.nx ⟨w.heap.size,0,0⟩) s.h.nx w.heap.size hle (by simp [Ph.add])
         exact ⟨_,_,_,_,.normal,(hs.mono hle).put o.dst hv,nE,pe,gL.mono hle,.one (m3 (lr pf) ho hw (hr w))⟩
       · simp at qg
     · have sS:=vw hE dC (rc:=s.rc) (o:=o) hs.ts ok
       have pf:(∃d,dr E call s.ts s.h s.rc o= .defer d)∨(∃why q,dr E call s.ts s.h s.rc o= .fail why q)∨(s.rc.oF=false∨∀c,o.op≠ .defer c):=by
        by_cases hd:∃c,o.op= .defer c
        · obtain ⟨c,hd⟩:=hd
          unfold dr
          simp only[hd]
          split
          · exact .inr (.inl ⟨_,_,rfl⟩)
          · exact .inl ⟨_,rfl⟩
          · exact .inr (.inl ⟨_,_,rfl⟩)
        · exact .inr (.inr (.inr (fun c e=>hd ⟨c,e⟩)))
       generalize dr E call s.ts s.h s.rc o=eo at qg sS pf
       cases sS with
       | val v h' φ' w' v' hv rW fr run=>
         have pf:=(pf.resolve_left (by simp)).resolve_left (by simp)
         simp at qg;obtain ⟨rfl,rfl⟩:=qg
         exact ⟨φ',w',_,_,.normal,(hs.mono fr.ext).put o.dst hv,rW,fr,gL.mono fr.ext,.one (m3 (lr pf) ho hw run)⟩
       | skip h' φ' w' rW fr run=>
         have pf:=(pf.resolve_left (by simp)).resolve_left (by simp)
         simp at qg;obtain ⟨rfl,rfl⟩:=qg
         exact ⟨φ',w',_,_,.normal,(hs.mono fr.ext).put o.dst (VR.undef φ'),rW,fr,gL.mono fr.ext,.one (Hr (lr pf) ho hw run)⟩
       | enter v h' F args all hr hf hl run=>
         have pf:=(pf.resolve_left (by simp)).resolve_left (by simp)
         simp at qg;obtain ⟨rfl,rfl⟩:=qg
         obtain ⟨n,start,hp,jo⟩:=hr φ w all ok hf hl
         obtain ⟨φ',w',v',hv,rW,fr,jq⟩:=jo (b.atR a (.inRegion ops (i::rest)::k)) (cur K s.rc)
         rw[tU ho] at jq
         exact ⟨φ',w',_,_,.normal,(hs.mono fr.ext).put o.dst hv,rW,fr,gL.mono fr.ext,.head (go_enter (lr pf) ho hw hp (run n start hp)) jq⟩
       | UB v h' F args all hr hf hl run=>
         have pf:=(pf.resolve_left (by simp)).resolve_left (by simp)
         simp at qg;obtain ⟨rfl,rfl⟩:=qg
         obtain ⟨n,start,hp,jo⟩:=hr φ w all ok hf hl
         obtain ⟨φ',w',v',hv,rW,fr,jq⟩:=jo (b.atR a (.inRegion ops (i::rest)::k)) (cur K s.rc)
         rw[Frame.raise_atR] at jq
         exact ⟨φ',w',a,_,.panic v v' hv,hs.mono fr.ext,rW,fr,gL.mono fr.ext,.inRegion ops (i::rest)::k,.head (go_enter (lr pf) ho hw hp (run n start hp)) jq⟩
       | defer d d' CZ hd run=>
         simp at qg;obtain ⟨rfl,rfl⟩:=qg
         have h1:SR φ s.ts (d::s.ds) {a with defers:=d'::a.defers}:=⟨hs.ts,hd,hs.ds⟩
         exact ⟨φ,w,_,_,.normal,h1.put o.dst (VR.undef φ),ok,Fr.refl _ _ _,gL,.one (N7 (qU gL (.inl CZ) _) ho hw run)⟩
       | panic v v' hv run=>
         have pf:=(pf.resolve_left (by simp)).resolve_left (by simp)
         simp at qg;obtain ⟨rfl,rfl⟩:=qg
         exact ⟨φ,w,a,_,.panic v v' hv,hs,ok,Fr.refl _ _ _,gL,_,.one (Qa (lr pf) ho hw run)⟩
       | rT v adB run=>
         simp at qg;obtain ⟨rfl,rfl⟩:=qg
         rw[adB] at gL ⊢
         have Qd:=gL.plain rfl
         have aa4:=qU gL (o:=o) (.inl rfl) a.eval
         obtain ⟨_,⟨v',hv,htr⟩,aa5⟩:=gL
         exact ⟨φ,w,_,_,.normal,hs.put o.dst hv,ok,Fr.refl _ _ _,⟨Qd,aa5⟩,.one (Ki Qd aa4 ho hw run (htr _ rfl))⟩
       | Qc ep CZ run=>
         simp at qg;obtain ⟨rfl,rfl⟩:=qg
         have EO:∀fr:Frame,fr.kind=b.kind→tryRecover fr (cur K s.rc)=none:=by
          cases E6:s.rc with
          | no=>rw[E6] at gL;exact gL.2
          | ja v=>exact absurd E6 (ep v)
          | done=>rw[E6] at gL;exact gL.2
          | G4 l=>rw[E6] at CZ;simp [RC.oF] at CZ
         exact ⟨φ,w,_,_,.normal,hs.put o.dst .nilIface,ok,Fr.refl _ _ _,gL,.one (uZ (gL.plain CZ) (qU gL (.inl CZ) _) ho hw run (EO _ rfl))⟩
       | fail why q=>simp at qg
end Go.Ab
end
