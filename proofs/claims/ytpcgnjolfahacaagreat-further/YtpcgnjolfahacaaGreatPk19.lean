/- a part of the proof in YtpcgnjolfahacaaGreatFurtherProof -/
import Derived.Deep.MidRow
import Derived.Laws.MakeOwn
import Derived.Laws.Rows
import Derived.Test.YtpcgnjolfahacaaGreatPk18
set_option maxRecDepth 100000
set_option maxHeartbeats 40000000
set_option linter.unusedVariables false
set_option linter.unusedSimpArgs false
namespace Go.Proofs.YtpcgnjolfahacaaGreat
open Go.RowKit
theorem I9 {α:Type}{f:Rd.St→α × Rd.St}{P:α→Prop} (h:∀ t,P (f t).1):∀ (n:Nat) (t:Rd.St),∀ x∈(Rd.rep f n t).1,P x
 | 0,_,x,hx=>by simp[Rd.rep]at hx
 | n+1,t,x,hx=>by
  unfold Rd.rep at hx;simp only at hx;rcases List.mem_append.1 hx with hx | hx
  ·exact I9 h n t x hx
  ·rw[List.mem_singleton.1 hx];exact h _
theorem Abs (s:List UInt8) (t:Rd.St):TyB (Rd.ty s t).1:=⟨Rd.nx_bd s _,Rd.nx_bd s _⟩
theorem Oi (s:List UInt8) (n:Nat) (t:Rd.St):∀ x∈(Rd.tys s n t).1,TyB x:=I9 (Abs s) n t
theorem Acg (s:List UInt8) (t:Rd.St):ClsB (Rd.cls s t).1:=by
 refine⟨Rd.nx_bd s _,?_,Oi s _ _⟩;simp only[Rd.cls,Rd.tys,Rd.rep_len];have:=Rd.cn_bd s 0 4 (Rd.nx s t).2 (by omega);omega
theorem Acj (s:List UInt8) (t:Rd.St):HndB (Rd.hnd s t).1:=⟨Rd.nx_bd s _,Rd.nx_bd s _,Rd.nx_bd s _,Rd.nx_bd s _⟩
theorem Aco (s:List UInt8) (L H:Int) (hL:0≤L) (hH:0≤H) (t:Rd.St):MpB L H (Rd.mp s L H t).1:=by
 refine⟨Rd.nx_bd s _,?_,?_,Oi s _ _,Oi s _ _⟩
 ·simp only[Rd.mp,Rd.tys,Rd.rep_len];omega
 ·simp only[Rd.mp,Rd.tys,Rd.rep_len];have:=Rd.cn_bd s 0 H (Rd.rep (Rd.ty s) L.toNat (Rd.nx s t).2).2 hH;omega
theorem Acn (s:List UInt8) (t:Rd.St) (h:(Rd.mth s t).2.bad=false):MthB (Rd.mth s t).1:=by
 have hc:=Qg s t h;unfold Rd.mth at hc ⊢;simp only at hc ⊢;refine⟨Rd.nx_bd s _,Rd.nx_bd s _,?_,Oi s _ _,Abs s _,Rd.cn_bd s _ _ _ (by omega),Rd.cn_bd s _ _ _ (by omega),hc,?_,I9 (Rd.nx_bd s) _ _,?_,I9 (Acj s) _ _,?_,I9 (Aco s _ _ (Rd.cn_bd s _ _ _ (by omega)).1 (Rd.cn_bd s _ _ _ (by omega)).1) _ _⟩
 ·simp only[Rd.tys,Rd.rep_len];have:=Rd.cn_bd s 0 4 (Rd.nx s (Rd.nx s t).2).2 (by omega);omega
 ·simp only[Rd.codes,Rd.rep_len];have h1:=Rd.cn_bd s 1 120;generalize (Rd.cn s 0 8 _).2=u;have:=h1 u (by omega);omega
 ·simp only[Rd.hnds,Rd.rep_len];have h1:=Rd.cn_bd s 0 4;generalize (Rd.codes s _).2=u;have:=h1 u (by omega);omega
 ·simp only[Rd.mps,Rd.rep_len];have h1:=Rd.cn_bd s 0 64;generalize (Rd.hnds s _).2=u;have:=h1 u (by omega);omega
theorem Aac (s:List UInt8):∀ (n:Nat) (t:Rd.St),(Rd.rep (Rd.mth s) n t).2.bad=false→∀ m∈(Rd.rep (Rd.mth s) n t).1,MthB m
 | 0,_,_,m,hm=>by simp[Rd.rep]at hm
 | n+1,t,h,m,hm=>by
  unfold Rd.rep at h hm;simp only at h hm;rcases List.mem_append.1 hm with hm | hm
  ·refine Aac s n t ?_ m hm;cases hc:(Rd.rep (Rd.mth s) n t).2.bad with
   | false=>rfl
   | true=>rw[Mm s _ hc]at h;cases h
  ·rw[List.mem_singleton.1 hm];exact Acn s _ h
theorem Ab7 (s:List UInt8) (a b:Int) (t:Rd.St) (h:(Rd.cn s a b t).2.bad=false):a≤(Rd.cn s a b t).1:=by
 unfold Rd.cn at h ⊢
 split at h
 ·cases h
 ·split at h
  ·cases h
  ·next h1 h2=>rw[if_neg h1,if_neg h2];omega
theorem Abp (s:List UInt8) (h:(Rd.read s).2=0):FilB (Rd.read s).1:=by
 unfold Rd.read at h ⊢;by_cases h1:15000<s.length
 ·rw[if_pos h1]at h;simp at h
 rw[if_neg h1]at h ⊢;by_cases h2:(Rd.fil s ⟨0,false⟩).2.bad=true∨(Rd.fil s ⟨0,false⟩).2.pos≠s.length
 ·rw[if_pos h2]at h;simp at h
 rw[if_neg h2];have hb:(Rd.fil s ⟨0,false⟩).2.bad=false:=by
  cases hb:(Rd.fil s ⟨0,false⟩).2.bad with
  | false=>rfl
  | true=>exact absurd (.inl hb) h2
 unfold Rd.fil at hb ⊢;simp only at hb ⊢;generalize Rd.ex s 77 (Rd.ex s 83 ⟨0,false⟩)=u at *;have c1:=Rd.cn_bd s 0 6 u (by omega);generalize Rd.cn s 0 6 u=n at *;have hC:∀ c∈(Rd.rep (Rd.cls s) n.1.toNat n.2).1,ClsB c:=I9 (Acg s) _ _;have hl:(Rd.rep (Rd.cls s) n.1.toNat n.2).1.length=n.1.toNat:=Rd.rep_len _ _ _;generalize Rd.rep (Rd.cls s) n.1.toNat n.2=cs at *;have m1:=Rd.cn_bd s 1 6 cs.2 (by omega);have m2:=Ab7 s 1 6 cs.2;generalize Rd.cn s 1 6 cs.2=m at *;have m3:m.2.bad=false:=by
  cases hc:m.2.bad with
  | false=>rfl
  | true=>rw[Et (Mm s) _ _ hc]at hb;cases hb
 have m4:=m2 m3;refine⟨by simp only;omega,hC,?_,?_,Aac s _ _ hb⟩
 ·simp only[Rd.rep_len];omega
 ·simp only[Rd.rep_len];omega
def Ahf:ByteArray:=⟨#[83,77,0,1,255,0,0,0,0,1,2,19,24,3,0,2,0,25,2,0,0,1,8,5,3,0,12,18,11,3,22,0,0]⟩
def Ae6:ByteArray:=⟨#[83,77,0,1,255,0,0,0,0,1,2,19,24,3,0,2,0,25,2,0,0,1,8,5,3,0,12,18,11,3,22,0,2,3,1,0,0,18,1,0,0]⟩
theorem Qb:(Rf.formed Ae6.data.toList).1=0:=by decide +kernel
theorem Ng:(Aec Ae6.data.toList).1=0:=by decide +kernel
theorem Zh:Ag9 Ahf.data.toList=(Ae6.data.toList,0,0):=by decide +kernel
theorem Wq:Rf.stripD Ae6=Ahf:=by
 rw[Oj _ Qb];apply Wi
 decide +kernel
theorem Acl (b:ByteArray):(⟨b.data.toList.toArray⟩:ByteArray)=b:=by cases b;simp
structure Mc.Call where
 meth:Int
 pos:Nat
 next:Nat
 lo:List Int
 st:List Int
 h:Nat
def Mc.zeros:List Int:=[0,0,0,0,0,0,0,0]
def Mc.push (v:Int) (c:Mc.Call):Mc.Call:=if 8≤c.h then c else ⟨c.meth,c.pos,c.next,c.lo,c.st.set c.h v,c.h+1⟩
def Mc.pop (c:Mc.Call):Int × Mc.Call:=if c.h=0 then (0,c) else (c.st.getD (c.h-1) 0,⟨c.meth,c.pos,c.next,c.lo,c.st,c.h-1⟩)
def Mc.popN:Nat→Mc.Call→List Int × Mc.Call
 | 0,c=>([],c)
 | k+1,c=>((Mc.popN k (Mc.pop c).2).1++[(Mc.pop c).1],(Mc.popN k (Mc.pop c).2).2)
def Mc.loc (n:Int) (c:Mc.Call):Int:=if n<0 then 0 else if 8≤n then 0 else c.lo.getD n.toNat 0
def Mc.setLoc (n v:Int) (c:Mc.Call):Mc.Call:=if n<0 then c else if 8≤n then c else ⟨c.meth,c.pos,c.next,c.lo.set n.toNat v,c.st,c.h⟩
def Mc.take (o:Int) (t:Nat) (c:Mc.Call):Mc.Call:=⟨c.meth,c.pos,t,c.lo,c.st.set 0 o,1⟩
def Mc.fill:Nat→List Int→Mc.Call→Mc.Call
 | _,[],c=>c
 | i,v::r,c=>Mc.fill (i+1) r (Mc.setLoc (i:Int) v c)
def Mc.newCall (m:Int) (vs:List Int):Mc.Call:=Mc.fill 0 vs ⟨m,0,0,Mc.zeros,Mc.zeros,0⟩
def Mc.signed (b:Int):Int:=if 127<b then b-256 else b
def Mc.w32 (v:Int):Int:=(v+2147483648) % 4294967296-2147483648
def Mc.reckoned (op x y:Int):Option Int :=
 if op=7 then some (Mc.w32 (Mc.w32 x+Mc.w32 y)) else if op=8 then some (Mc.w32 (Mc.w32 x-Mc.w32 y)) else if op=9 then some (Mc.w32 (Mc.w32 x*Mc.w32 y))
 else if Mc.w32 y=0 then none else some (Mc.w32 ((Mc.w32 x).tdiv (Mc.w32 y)))
def Mc.move (op n:Int) (c:Mc.Call):Mc.Call :=
 if op=0 then Mc.push (Mc.signed n) c
 else if op=1 then Mc.push 0 c
 else if op=2 then Mc.push (Mc.loc n c) c
 else if op=3 then Mc.setLoc n (Mc.pop c).1 (Mc.pop c).2
 else if op=4 then (Mc.pop c).2
 else if op=5 then Mc.push (Mc.pop c).1 (Mc.push (Mc.pop c).1 (Mc.pop c).2)
 else if op=6 then Mc.push (Mc.pop (Mc.pop c).2).1 (Mc.push (Mc.pop c).1 (Mc.pop (Mc.pop c).2).2)
 else c
def Mc.goTo (t:Nat) (c:Mc.Call):Mc.Call:=⟨c.meth,c.pos,t,c.lo,c.st,c.h⟩
def Mc.branch (op n:Int) (c:Mc.Call):Mc.Call :=
 if op=12 then (if (Mc.pop c).1=0 then Mc.goTo n.toNat (Mc.pop c).2 else (Mc.pop c).2)
 else if op=13 then (if (Mc.pop (Mc.pop c).2).1<(Mc.pop c).1 then Mc.goTo n.toNat (Mc.pop (Mc.pop c).2).2 else (Mc.pop (Mc.pop c).2).2)
 else if op=14 then (if (Mc.pop c).1=0 then Mc.goTo n.toNat (Mc.pop c).2 else (Mc.pop c).2)
 else Mc.goTo n.toNat c
structure Mc.E where
 T:List Int
 FL:List (List (Int × Int))
 ms:List Rd.Mth
 ins:List Int
 room:Int
 depth:Int
structure Mc.S where
 read:Nat
 objs:List (Int × List Int)
 now:Mc.Call
 wait:List Mc.Call
 ended:Bool
 out:List Int
 status:Int
 value:Int
 steps:Nat
def Mc.S.withNow (S:Mc.S) (c:Mc.Call):Mc.S:=⟨S.read,S.objs,c,S.wait,S.ended,S.out,S.status,S.value,S.steps⟩
def Mc.S.withObjs (S:Mc.S) (l:List (Int × List Int)):Mc.S:=⟨S.read,l,S.now,S.wait,S.ended,S.out,S.status,S.value,S.steps⟩
def Mc.S.opened (S:Mc.S) (c:Mc.Call):Mc.S:=⟨S.read,S.objs,c,S.wait++[S.now],S.ended,S.out,S.status,S.value,S.steps⟩
def Mc.S.fin (S:Mc.S) (st v:Int):Mc.S:=⟨S.read,S.objs,S.now,S.wait,true,S.out,st,v,S.steps⟩
def Mc.S.push (S:Mc.S) (v:Int):Mc.S:=S.withNow (Mc.push v S.now)
def Mc.S.popped (S:Mc.S):Mc.S:=S.withNow (Mc.pop S.now).2
def Mc.S.top (S:Mc.S):Int:=(Mc.pop S.now).1
def Mc.noMeth:Rd.Mth:=⟨0,0,[],(0,0),0,0,[],[],[]⟩
def Mc.E.meth (E:Mc.E) (n:Int):Rd.Mth:=if n<0 then Mc.noMeth else if (E.ms.length:Int)≤n then Mc.noMeth else E.ms.getD n.toNat Mc.noMeth
def Mc.has (r:Int) (l:List (Int × List Int)):Bool:=decide (1≤r)&&decide (r≤(l.length:Int))
def Mc.obj (r:Int) (l:List (Int × List Int)):Int × List Int:=l.getD (r-1).toNat (0,[])
def Mc.classOf (r:Int) (l:List (Int × List Int)):Int:=if Mc.has r l=true then (Mc.obj r l).1 else 0
def Mc.hasField (r s:Int) (l:List (Int × List Int)):Bool:=Mc.has r l&&(decide (0≤s)&&decide (s<((Mc.obj r l).2.length:Int)))
def Mc.getF (r s:Int) (l:List (Int × List Int)):Int:=if Mc.hasField r s l=true then (Mc.obj r l).2.getD s.toNat 0 else 0
def Mc.putF (r s v:Int) (l:List (Int × List Int)):List (Int × List Int):=if Mc.hasField r s l=true then l.set (r-1).toNat ((Mc.obj r l).1,(Mc.obj r l).2.set s.toNat v) else l
def Mc.setF (r:Int) (fs:List Int) (l:List (Int × List Int)):List (Int × List Int):=if Mc.has r l=true then l.set (r-1).toNat ((Mc.obj r l).1,fs) else l
def Mc.slot (T:List Int) (FL:List (List (Int × Int))) (n:Int):Int :=
 if (Ac5 n FL 0 0).1 = -1 then -1 else ((Ac0 T FL (Ac5 n FL 0 0).1).length:Int)-((Afl FL (Ac5 n FL 0 0).1).length:Int)+(Ac5 n FL 0 0).2
def Mc.targetOf (T:List Int) (cl:Int) (pos:Nat):List Rd.Hnd→Option Nat
 | []=>none
 | h::r=>if (Adl h (pos:Int)&&Tr.within T cl h.cl)=true then some h.target.toNat else Mc.targetOf T cl pos r
def Mc.E.target (E:Mc.E) (cl:Int) (c:Mc.Call):Option Nat:=Mc.targetOf E.T cl c.pos (E.meth c.meth).handlers
def Mc.throwN (E:Mc.E) (o cl:Int):Nat→Mc.S→Mc.S
 | 0,S=>S
 | k+1,S=>match E.target cl S.now with
  | some t=>S.withNow (Mc.take o t S.now)
  | none=>match S.wait.getLast? with
   | none=>S.fin 2 cl
   | some c=>Mc.throwN E o cl k ⟨S.read,S.objs,c,S.wait.dropLast,S.ended,S.out,S.status,S.value,S.steps⟩
def Mc.throw (E:Mc.E) (o:Int) (S:Mc.S):Mc.S:=Mc.throwN E o (Mc.classOf o S.objs) (S.wait.length+1) S
def Mc.throwGiven (E:Mc.E) (cl:Int) (S:Mc.S):Mc.S:=Mc.throw E (cl-2+1) S
def Mc.openCall (E:Mc.E) (m:Int) (vs:List Int) (S:Mc.S):Mc.S :=
 if E.depth≤(S.wait.length:Int)+1 then Mc.throwGiven E 6 S else S.opened (Mc.newCall m vs)
def Mc.popsS (k:Nat) (S:Mc.S):Mc.S:=S.withNow (Mc.popN k S.now).2
def Mc.popsV (k:Nat) (S:Mc.S):List Int:=(Mc.popN k S.now).1
def Mc.call (E:Mc.E) (n:Int) (S:Mc.S):Mc.S:=Mc.openCall E n (Mc.popsV (E.meth n).params.length S) (Mc.popsS (E.meth n).params.length S)
def Mc.nearTo (T:List Int) (cl name:Int):List Rd.Mth→Int→Int→Int→Int
 | [],_,found,_=>found
 | m::r,i,found,high=>if (m.name==name&&(decide (high≤m.cl)&&Tr.within T cl m.cl))=true then Mc.nearTo T cl name r (i+1) i m.cl else Mc.nearTo T cl name r (i+1) found high
def Mc.E.nearest (E:Mc.E) (cl name:Int):Int:=Mc.nearTo E.T cl name E.ms 0 0 0
def Mc.sendTo (E:Mc.E) (name o:Int) (vs:List Int) (S:Mc.S):Mc.S :=
 if o=0 then Mc.throwGiven E 3 S else Mc.openCall E (E.nearest (Mc.classOf o S.objs) name) (o::vs) S
def Mc.send (E:Mc.E) (n:Int) (S:Mc.S):Mc.S :=
 Mc.sendTo E (E.meth n).name (Mc.popsS (E.meth n).params.length S).top (Mc.popsV (E.meth n).params.length S) (Mc.popsS (E.meth n).params.length S).popped
def Mc.backTo (res:Int × Int) (v:Int) (S:Mc.S):Mc.S:=match S.wait.getLast? with
 | none=>S.fin 0 (if res.1=1 then v else 0)
 | some c=>⟨S.read,S.objs,(if res.1=0 then c else Mc.push v c),S.wait.dropLast,S.ended,S.out,S.status,S.value,S.steps⟩
def Mc.giveBack (E:Mc.E) (S:Mc.S):Mc.S :=
 if (E.meth S.now.meth).result.1=0 then Mc.backTo (E.meth S.now.meth).result 0 S else Mc.backTo (E.meth S.now.meth).result S.top S.popped
def Mc.throwTaken (E:Mc.E) (S:Mc.S):Mc.S:=if S.top=0 then Mc.throwGiven E 3 S.popped else Mc.throw E S.top S.popped
def Mc.inp (E:Mc.E) (S:Mc.S):Mc.S :=
 if S.read<E.ins.length then (⟨S.read+1,S.objs,S.now,S.wait,S.ended,S.out,S.status,S.value,S.steps⟩:Mc.S).push (E.ins.getD S.read 0) else S.push 0
def Mc.outp (S:Mc.S):Mc.S:=⟨S.read,S.objs,(Mc.pop S.now).2,S.wait,S.ended,S.out++[S.top],S.status,S.value,S.steps⟩
def Mc.reckon (E:Mc.E) (op:Int) (S:Mc.S):Mc.S:=match Mc.reckoned op S.popped.top S.top with
 | none=>Mc.throwGiven E 2 S.popped.popped
 | some z=>S.popped.popped.push z
def Mc.create (E:Mc.E) (cl:Int) (S:Mc.S):Mc.S :=
 if E.room≤(S.objs.length:Int)-5 then Mc.throwGiven E 5 S else (S.withObjs (S.objs++[(cl,[])])).push ((S.objs.length:Int)+1)
def Mc.setFields (E:Mc.E) (cl:Int) (S:Mc.S):Mc.S :=
 (Mc.popsS (Ac0 E.T E.FL cl).length S).popped.withObjs (Mc.setF (Mc.popsS (Ac0 E.T E.FL cl).length S).top (Mc.popsV (Ac0 E.T E.FL cl).length S) S.objs)
def Mc.getField (E:Mc.E) (n:Int) (S:Mc.S):Mc.S:=if S.top=0 then Mc.throwGiven E 3 S.popped else S.popped.push (Mc.getF S.top (Mc.slot E.T E.FL n) S.objs)
def Mc.putField (E:Mc.E) (n:Int) (S:Mc.S):Mc.S :=
 if S.popped.top=0 then Mc.throwGiven E 3 S.popped.popped else S.popped.popped.withObjs (Mc.putF S.popped.top (Mc.slot E.T E.FL n) S.top S.objs)
def Mc.cast (E:Mc.E) (cl:Int) (S:Mc.S):Mc.S :=
 if S.top=0 then S.popped.push S.top else if Tr.within E.T (Mc.classOf S.top S.objs) cl=true then S.popped.push S.top else Mc.throwGiven E 4 S.popped
def Mc.act (E:Mc.E) (op n:Int) (S:Mc.S):Mc.S :=
 if op≤6 then S.withNow (Mc.move op n S.now)
 else if op≤10 then Mc.reckon E op S
 else if op≤14 then S.withNow (Mc.branch op n S.now)
 else if op=15 then Mc.create E n S
 else if op=16 then Mc.setFields E n S
 else if op=17 then Mc.getField E n S
 else if op=18 then Mc.putField E n S
 else if op=19 then Mc.cast E n S
 else if op=20 then Mc.call E n S
 else if op=21 then Mc.send E n S
 else if op=22 then Mc.giveBack E S
 else if op=23 then Mc.throwTaken E S
 else if op=24 then Mc.inp E S
 else if op=25 then Mc.outp S
 else S
def Mc.one (E:Mc.E) (c:Mc.Call):Cd.Ins:=Cd.orZero (Cd.one (E.meth c.meth).code c.next)
def Mc.begun (E:Mc.E) (S:Mc.S):Mc.S :=
 ⟨S.read,S.objs,⟨S.now.meth,S.now.next,(Mc.one E S.now).place.toNat+Cd.wd (Mc.one E S.now).op,S.now.lo,S.now.st,S.now.h⟩,S.wait,S.ended,S.out,S.status,S.value,S.steps+1⟩
def Mc.step (E:Mc.E) (S:Mc.S):Mc.S:=Mc.act E (Mc.one E S.now).op (Mc.one E S.now).n (Mc.begun E S)
def Mc.loop (E:Mc.E) (fuel:Nat):Nat→Mc.S→Mc.S
 | 0,S=>S
 | k+1,S=>if S.ended=true then S else if fuel≤S.steps then S.fin 1 0 else Mc.loop E fuel k (Mc.step E S)
def Mc.start (entry:Int):Mc.S:=⟨0,[(2,[]),(3,[]),(4,[]),(5,[]),(6,[])],Mc.newCall entry [],[],false,[],0,0,0⟩
def Mc.run (E:Mc.E) (fuel:Nat) (entry:Int):Mc.S:=Mc.loop E fuel (fuel+2) (Mc.start entry)
structure Mc.Mild (S R:Mc.S):Prop where
 steps:R.steps=S.steps
 out:R.out=S.out∨∃ v,R.out=S.out++[v]
 fin:S.ended=false→R.ended=true→R.status=0∨R.status=2
structure Mc.Calm (S R:Mc.S):Prop where
 steps:R.steps=S.steps
 out:R.out=S.out
 fin:S.ended=false→R.ended=true→R.status=0∨R.status=2
theorem Mc.Calm.mild {S R:Mc.S} (h:Mc.Calm S R):Mc.Mild S R:=⟨h.steps,.inl h.out,h.fin⟩
theorem Mc.Calm.refl (S:Mc.S):Mc.Calm S S:=⟨rfl,rfl,fun h1 h2=>by rw[h1]at h2;cases h2⟩
theorem Mc.Calm.same {S R:Mc.S} (h1:R.steps=S.steps) (h2:R.out=S.out) (h3:R.ended=S.ended):Mc.Calm S R:=⟨h1,h2,fun a b=>by rw[h3,a]at b;cases b⟩
theorem Mc.Calm.then {S R Q:Mc.S} (h1:R.steps=S.steps) (h2:R.out=S.out) (h3:R.ended=S.ended) (h:Mc.Calm R Q):Mc.Calm S Q :=
 ⟨h.steps.trans h1,h.out.trans h2,fun a b=>h.fin (h3.trans a) b⟩
theorem Jr (E:Mc.E) (o cl:Int):∀ (k:Nat) (S:Mc.S),Mc.Calm S (Mc.throwN E o cl k S)
 | 0,S=>Mc.Calm.refl S
 | k+1,S=>by
  unfold Mc.throwN;cases E.target cl S.now with
  | some t=>exact Mc.Calm.same rfl rfl rfl
  | none =>
   cases S.wait.getLast? with
   | none=>exact⟨rfl,rfl,fun _ _=>.inr rfl⟩
   | some c=>exact Mc.Calm.then (R:=⟨S.read,S.objs,c,S.wait.dropLast,S.ended,S.out,S.status,S.value,S.steps⟩) rfl rfl rfl (Jr E o cl k _)
theorem Kw (E:Mc.E) (o:Int) (S:Mc.S):Mc.Calm S (Mc.throw E o S):=Jr _ _ _ _ _
theorem Cp (E:Mc.E) (cl:Int) (S:Mc.S):Mc.Calm S (Mc.throwGiven E cl S):=Kw _ _ _
theorem Hw (E:Mc.E) (m:Int) (vs:List Int) (S:Mc.S):Mc.Calm S (Mc.openCall E m vs S):=by
 unfold Mc.openCall
 split
 ·exact Cp _ _ _
 ·exact Mc.Calm.same rfl rfl rfl
theorem Ju (r:Int × Int) (v:Int) (S:Mc.S):Mc.Calm S (Mc.backTo r v S):=by
 unfold Mc.backTo;cases S.wait.getLast? with
 | none=>exact⟨rfl,rfl,fun _ _=>.inl rfl⟩
 | some c=>exact Mc.Calm.same rfl rfl rfl
theorem X9 (E:Mc.E) (op n:Int) (S:Mc.S):Mc.Mild S (Mc.act E op n S):=by
 unfold Mc.act;by_cases c0:op≤6
 ·rw[if_pos c0];exact Mc.Calm.mild (Mc.Calm.same rfl rfl rfl)
 rw[if_neg c0];by_cases c1:op≤10
 ·rw[if_pos c1];unfold Mc.reckon;cases Mc.reckoned op S.popped.top S.top with
  | none=>exact Mc.Calm.mild (Mc.Calm.then (R:=S.popped.popped) rfl rfl rfl (Cp _ _ _))
  | some z=>exact Mc.Calm.mild (Mc.Calm.same rfl rfl rfl)
 rw[if_neg c1];by_cases c2:op≤14
 ·rw[if_pos c2];exact Mc.Calm.mild (Mc.Calm.same rfl rfl rfl)
 rw[if_neg c2];by_cases c3:op=15
 ·rw[if_pos c3];unfold Mc.create
  split
  ·exact Mc.Calm.mild (Cp _ _ _)
  ·exact Mc.Calm.mild (Mc.Calm.same rfl rfl rfl)
 rw[if_neg c3];by_cases c4:op=16
 ·rw[if_pos c4];exact Mc.Calm.mild (Mc.Calm.same rfl rfl rfl)
 rw[if_neg c4];by_cases c5:op=17
 ·rw[if_pos c5];unfold Mc.getField
  split
  ·exact Mc.Calm.mild (Mc.Calm.then (R:=S.popped) rfl rfl rfl (Cp _ _ _))
  ·exact Mc.Calm.mild (Mc.Calm.same rfl rfl rfl)
 rw[if_neg c5];by_cases c6:op=18
 ·rw[if_pos c6];unfold Mc.putField
  split
  ·exact Mc.Calm.mild (Mc.Calm.then (R:=S.popped.popped) rfl rfl rfl (Cp _ _ _))
  ·exact Mc.Calm.mild (Mc.Calm.same rfl rfl rfl)
 rw[if_neg c6];by_cases c7:op=19
 ·rw[if_pos c7];unfold Mc.cast
  split
  ·exact Mc.Calm.mild (Mc.Calm.same rfl rfl rfl)
  ·split
   ·exact Mc.Calm.mild (Mc.Calm.same rfl rfl rfl)
   ·exact Mc.Calm.mild (Mc.Calm.then (R:=S.popped) rfl rfl rfl (Cp _ _ _))
 rw[if_neg c7];by_cases c8:op=20
 ·rw[if_pos c8];exact Mc.Calm.mild (Mc.Calm.then (R:=Mc.popsS (E.meth n).params.length S) rfl rfl rfl (Hw _ _ _ _))
 rw[if_neg c8];by_cases c9:op=21
 ·rw[if_pos c9];refine Mc.Calm.mild (Mc.Calm.then (R:=(Mc.popsS (E.meth n).params.length S).popped) rfl rfl rfl ?_);unfold Mc.send Mc.sendTo
  split
  ·exact Cp _ _ _
  ·exact Hw _ _ _ _
 rw[if_neg c9];by_cases c10:op=22
 ·rw[if_pos c10];unfold Mc.giveBack
  split
  ·exact Mc.Calm.mild (Ju _ _ _)
  ·exact Mc.Calm.mild (Mc.Calm.then (R:=S.popped) rfl rfl rfl (Ju _ _ _))
 rw[if_neg c10];by_cases c11:op=23
 ·rw[if_pos c11];unfold Mc.throwTaken
  split
  ·exact Mc.Calm.mild (Mc.Calm.then (R:=S.popped) rfl rfl rfl (Cp _ _ _))
  ·exact Mc.Calm.mild (Mc.Calm.then (R:=S.popped) rfl rfl rfl (Kw _ _ _))
 rw[if_neg c11];by_cases c12:op=24
 ·rw[if_pos c12];unfold Mc.inp
  split
  ·exact Mc.Calm.mild (Mc.Calm.same rfl rfl rfl)
  ·exact Mc.Calm.mild (Mc.Calm.same rfl rfl rfl)
 rw[if_neg c12];by_cases c13:op=25
 ·rw[if_pos c13];exact⟨rfl,.inr ⟨_,rfl⟩,fun a b=>by rw[show (Mc.outp S).ended=S.ended from rfl,a]at b;cases b⟩
 rw[if_neg c13];exact Mc.Calm.mild (Mc.Calm.refl S)
theorem Gh (E:Mc.E) (S:Mc.S):(Mc.step E S).steps=S.steps+1∧((Mc.step E S).out=S.out∨∃ v,(Mc.step E S).out=S.out++[v])∧(S.ended=false→(Mc.step E S).ended=true→(Mc.step E S).status=0∨(Mc.step E S).status=2):=by
 have h:=X9 E (Mc.one E S.now).op (Mc.one E S.now).n (Mc.begun E S);exact⟨h.steps,h.out,h.fin⟩
def Mc.it (E:Mc.E):Nat→Mc.S→Mc.S
 | 0,S=>S
 | k+1,S=>if S.ended=true then S else Mc.it E k (Mc.step E S)
def Mc.close (R:Mc.S):Mc.S:=if R.ended=true then R else R.fin 1 0
theorem H9 (E:Mc.E) (k:Nat) {S:Mc.S} (h:S.ended=true):Mc.it E k S=S:=by cases k<;>simp[Mc.it,h]
theorem Xt (E:Mc.E):∀ (a b:Nat) (S:Mc.S),Mc.it E (a+b) S=Mc.it E b (Mc.it E a S)
 | 0,b,S=>by rw[Nat.zero_add];rfl
 | a+1,b,S=>by
  rw[show a+1+b=a+b+1 by omega,Mc.it,Mc.it];by_cases h:S.ended=true
  ·rw[if_pos h,if_pos h,H9 E b h]
  ·rw[if_neg h,if_neg h,Xt E a b]
theorem Sa (E:Mc.E) (f:Nat):∀ (d k:Nat) (S:Mc.S),S.steps+d=f→d+2≤k→Mc.loop E f k S=Mc.close (Mc.it E d S)
 | d,0,S,_,hk=>by omega
 | d,k+1,S,hd,hk=>by
  unfold Mc.loop;by_cases h:S.ended=true
  ·rw[if_pos h,H9 E d h];unfold Mc.close;rw[if_pos h]
  ·rw[if_neg h];cases d with
   | zero=>rw[if_pos (by omega)];unfold Mc.close;rw[Mc.it,if_neg h]
   | succ e =>
    rw[if_neg (by omega),Mc.it,if_neg h];exact Sa E f e k _ (by rw[(Gh E S).1];omega) (by omega)
theorem Wl (E:Mc.E) (f:Nat) (entry:Int):Mc.run E f entry=Mc.close (Mc.it E f (Mc.start entry)):=by
 have:(Mc.start entry).steps=0:=rfl;exact Sa E f f (f+2) _ (by rw[this];omega) (by omega)
structure Mc.Gone (k:Nat) (S R:Mc.S):Prop where
 le:R.steps≤S.steps+k
 ge:S.steps≤R.steps
 on:R.ended=false→R.steps=S.steps+k
 out:∃ l,R.out=S.out++l∧S.steps+l.length≤R.steps
 fin:S.ended=false→R.ended=true→(R.status=0∨R.status=2)∧S.steps<R.steps
theorem Ma (E:Mc.E):∀ (k:Nat) (S:Mc.S),Mc.Gone k S (Mc.it E k S)
 | 0,S=>⟨Nat.le_refl _,Nat.le_refl _,fun _=>rfl,⟨[],by simp[Mc.it],by simp[Mc.it]⟩,fun a b=>by rw[show Mc.it E 0 S=S from rfl,a]at b;cases b⟩
 | k+1,S=>by
  unfold Mc.it;by_cases h:S.ended=true
  ·rw[if_pos h];exact⟨by omega,Nat.le_refl _,fun a=>(by rw[a]at h;cases h),⟨[],by simp,by simp⟩,fun a=>(by rw[a]at h;cases h)⟩
  ·rw[if_neg h];have h':S.ended=false:=by simpa using h
   obtain⟨s1,s2,s3⟩:=Gh E S;have g:=Ma E k (Mc.step E S);have gle:=g.le;have gge:=g.ge;refine⟨by omega,by omega,fun a=>by have:=g.on a;omega,?_,fun _ b=>⟨?_,by omega⟩⟩
   ·obtain⟨l,e1,e2⟩:=g.out;rcases s2 with e|⟨v,e⟩
    ·exact⟨l,by rw[e1,e],by omega⟩
    ·exact⟨v::l,by rw[e1,e];simp,by simp only[List.length_cons];omega⟩
   ·by_cases hs:(Mc.step E S).ended=true
    ·rw[H9 E k hs];exact s3 h' hs
    ·exact(g.fin (by simpa using hs) b).1
theorem Sv (E:Mc.E) (f d:Nat) (entry:Int) (A B:Mc.S) (hA:Mc.run E f entry=A) (hB:Mc.run E (f+d) entry=B) :
  A.steps≤f∧B.steps≤f+d∧A.steps≤B.steps∧A.out.length≤A.steps ∧
  ((A.status=1∧(∃ l,B.out=A.out++l)∧A.steps=f∧A.value=0)∨(A=B∧0<A.steps∧(A.status=0∨A.status=2))):=by
 rw[Wl]at hA hB;rw[Xt]at hB;have g:=Ma E f (Mc.start entry);have g2:=Ma E d (Mc.it E f (Mc.start entry));have z:(Mc.start entry).steps=0:=rfl;have zo:(Mc.start entry).out=[]:=rfl;have ze:(Mc.start entry).ended=false:=rfl;generalize Mc.it E f (Mc.start entry)=R at *;have gle:=g.le;have gle2:=g2.le;have gge:=g.ge;have gge2:=g2.ge;obtain⟨l,e1,e2⟩:=g.out;rw[zo,List.nil_append]at e1;unfold Mc.close at hA hB;by_cases h:R.ended=true
 ·rw[if_pos h]at hA;subst hA;rw[H9 E d h,if_pos h]at hB;subst hB;obtain⟨a,b⟩:=g.fin ze h;exact⟨by omega,by omega,by omega,by rw[e1];omega,.inr ⟨rfl,by omega,a⟩⟩
 ·rw[if_neg h]at hA;subst hA;have hs:R.steps=0+f:=by have:=g.on (by simpa using h);omega
  obtain⟨l2,e3,e4⟩:=g2.out;have hB1:B.steps=(Mc.it E d R).steps∧B.out=(Mc.it E d R).out:=by
   rw[← hB];split<;>exact⟨rfl,rfl⟩
  refine⟨by show R.steps≤f;omega,by omega,by show R.steps≤B.steps;omega,by show R.out.length≤R.steps;rw[e1];omega,.inl ⟨rfl,⟨l2,?_⟩,by show R.steps=f;omega,rfl⟩⟩;rw[hB1.2,e3];rfl
def Mid (w:World) (B:Nat) (t:TypeId) (pre mid post:List Value):Prop:=w.heap[B]?=some (.cells (pre++(mid++post)).toArray t (0,0))
theorem Mid.cell {w:World}{B o j:Nat}{t:TypeId}{pre mid post:List Value} (h:Mid w B t pre mid post) (ho:pre.length=o) (hj:j<mid.length):w.cell? ⟨B,o+j,none⟩=mid[j]?:=by
 rw[Ab h,List.getElem?_toArray,List.getElem?_append_right (by omega),show o+j-pre.length=j by omega,List.getElem?_append_left hj]
theorem Mid.free {w:World}{B:Nat}{t:TypeId}{pre mid post:List Value} (h:Mid w B t pre mid post) (j:Nat):w.frozen? ⟨B,j,none⟩=false:=Ag h j
theorem Mid.set {w:World}{B o j:Nat}{t:TypeId}{pre mid post:List Value} (h:Mid w B t pre mid post) (ho:pre.length=o) (hj:j<mid.length) (u:Value):Mid (w.setCell ⟨B,o+j,none⟩ u) B t pre (mid.set j u) post:=by
 unfold Mid at h ⊢;rw[Al h]
 congr 2
 rw[List.setIfInBounds_toArray,List.set_append_right _ _ (by omega),show o+j-pre.length=j by omega,List.set_append_left _ _ hj]
theorem Mid.range {w:World}{B o:Nat}{t:TypeId}{pre mid post:List Value} (h:Mid w B t pre mid post) (ho:pre.length=o):w.rangeAt B o mid:=fun j v hv=>by
 rw[h.cell ho (List.getElem?_eq_some_iff.1 hv).1];exact hv
theorem Mid.there {w:World}{B o n:Nat}{t:TypeId}{pre mid post:List Value} (h:Mid w B t pre mid post) (ho:pre.length=o) (hn:mid.length=n):w.there B o n:=fun j hj=>by
 refine⟨?_,h.free _⟩;rw[h.cell ho (by omega),List.getElem?_eq_getElem (by omega)];rfl
theorem Mid.lt {w:World}{B:Nat}{t:TypeId}{pre mid post:List Value} (h:Mid w B t pre mid post):B<w.heap.size:=lt_of_block h
theorem Mid.below {w w':World}{B:Nat}{t:TypeId}{pre mid post:List Value} (h:Mid w B t pre mid post) (hb:Below w.heap.size w w'):Mid w' B t pre mid post:=by
 unfold Mid;rw[hb.block B h.lt];exact h
theorem Mid.alloc {w:World}{B:Nat}{t:TypeId}{pre mid post:List Value} (h:Mid w B t pre mid post) (x:Obj):Mid (w.alloc x) B t pre mid post:=by
 unfold Mid;rw[Below.heap_alloc w x B h.lt];exact h
theorem Mid.drewN {w:World}{B:Nat}{t:TypeId}{pre mid post:List Value} (h:Mid w B t pre mid post) (n:Nat):Mid (w.drewN n) B t pre mid post:=h
theorem Em {B:Nat}{t:TypeId}:∀ (vs pre old post:List Value) (w:World),old.length=vs.length→Mid w B t pre old post→Mid (w.setCells B pre.length vs) B t pre vs post
 | [],pre,old,post,w,hl,h=>by
  obtain rfl:old=[]:=List.eq_nil_of_length_eq_zero (by simpa using hl);exact h
 | v::r,pre,[],post,w,hl,h=>by simp at hl
 | v::r,pre,x::q,post,w,hl,h=>by
  rw[World.setCells];have h1:Mid (w.setCell ⟨B,pre.length,none⟩ v) B t pre (v::q) post:=h.set (o:=pre.length) (j:=0) rfl (by simp) v;have h2:Mid (w.setCell ⟨B,pre.length,none⟩ v) B t (pre++[v]) q post:=by
   unfold Mid at h1 ⊢;rw[h1];simp
  have h3:=Em r (pre++[v]) q post _ (by simpa using hl) h2;rw[List.length_append,List.length_singleton]at h3;unfold Mid at h3 ⊢;rw[h3];simp
theorem Gr.setB {B i:Nat}{a b:World} (h:Gr B a b) (u:Value):Gr B a (b.setCell ⟨B,i,none⟩ u):=h.set (.inr rfl) u
theorem Ey (B:Nat):∀ (vs:List Value) (o:Nat) (w:World),Gr B w (w.setCells B o vs)
 | [],_,w=>Gr.refl B w
 | v::r,o,w=>by
  rw[World.setCells];exact((Gr.refl B w).set (.inr rfl) v).trans (Ey B r (o+1) _)
def Mc.Call.cells (c:Mc.Call):List Value:=.int .i64 c.meth :: .int .i64 (c.pos:Int) :: .int .i64 (c.next:Int)::(c.lo.map (Value.int .i64)++(c.st.map (Value.int .i64)++[.int .i64 (c.h:Int)]))
structure Mc.Wf (c:Mc.Call):Prop where
 lo:c.lo.length=8
 st:c.st.length=8
 h:c.h≤8
theorem Mc.Wf.len {c:Mc.Call} (h:Mc.Wf c):c.cells.length=20:=by simp[Mc.Call.cells,h.lo,h.st]
theorem Dr (c:Mc.Call):∀ v∈c.cells,v.oneCell'=true:=by
 intro v hv;simp only[Mc.Call.cells,List.mem_cons,List.mem_append,List.mem_map,List.not_mem_nil,or_false]at hv;rcases hv with rfl | rfl | rfl | ⟨x,_,rfl⟩ | ⟨x,_,rfl⟩ | rfl<;>rfl
theorem Yv {c:Mc.Call} (hf:Mc.Wf c) {k:Nat} (hk:k<8):c.cells[3+k]?=some (.int .i64 (c.lo.getD k 0)):=by
 have h:=hf.lo;rw[Mc.Call.cells,show 3+k=k+1+1+1 by omega,List.getElem?_cons_succ,List.getElem?_cons_succ,List.getElem?_cons_succ,List.getElem?_append_left (by simp;omega),List.getElem?_map,List.getD_eq_getElem?_getD,List.getElem?_eq_getElem (by omega)];rfl
theorem Zt {c:Mc.Call} (hf:Mc.Wf c) {k:Nat} (hk:k<8):c.cells[11+k]?=some (.int .i64 (c.st.getD k 0)):=by
 have h:=hf.lo;have h':=hf.st;rw[Mc.Call.cells,show 11+k=8+k+1+1+1 by omega,List.getElem?_cons_succ,List.getElem?_cons_succ,List.getElem?_cons_succ,List.getElem?_append_right (by simp;omega),List.length_map,h,show 8+k-8=k by omega,
  List.getElem?_append_left (by simp;omega),List.getElem?_map,List.getD_eq_getElem?_getD,List.getElem?_eq_getElem (by omega)]
 rfl
theorem Aa2 {c:Mc.Call} (hf:Mc.Wf c):c.cells[19]?=some (.int .i64 (c.h:Int)):=by
 have h:=hf.lo;have h':=hf.st;rw[Mc.Call.cells,List.getElem?_cons_succ,List.getElem?_cons_succ,List.getElem?_cons_succ,List.getElem?_append_right (by simp;omega),List.length_map,h,List.getElem?_append_right (by simp;omega),List.length_map,h'];rfl
theorem Rh {c:Mc.Call} (hf:Mc.Wf c) {k:Nat} (hk:k<8) (v:Int):c.cells.set (3+k) (.int .i64 v)=(⟨c.meth,c.pos,c.next,c.lo.set k v,c.st,c.h⟩:Mc.Call).cells:=by
 have h:=hf.lo;rw[Mc.Call.cells,show 3+k=k+1+1+1 by omega,List.set_cons_succ,List.set_cons_succ,List.set_cons_succ,List.set_append_left _ _ (by simp;omega),← List.map_set];rfl
theorem Rc {c:Mc.Call} (hf:Mc.Wf c) {k:Nat} (hk:k<8) (v:Int):c.cells.set (11+k) (.int .i64 v)=(⟨c.meth,c.pos,c.next,c.lo,c.st.set k v,c.h⟩:Mc.Call).cells:=by
 have h:=hf.lo;have h':=hf.st;rw[Mc.Call.cells,show 11+k=8+k+1+1+1 by omega,List.set_cons_succ,List.set_cons_succ,List.set_cons_succ,List.set_append_right _ _ (by simp;omega),List.length_map,h,show 8+k-8=k by omega,
  List.set_append_left _ _ (by simp;omega),← List.map_set]
 rfl
theorem To {c:Mc.Call} (hf:Mc.Wf c) (n:Nat):c.cells.set 19 (.int .i64 (n:Int))=(⟨c.meth,c.pos,c.next,c.lo,c.st,n⟩:Mc.Call).cells:=by
 have h:=hf.lo;have h':=hf.st;rw[Mc.Call.cells,List.set_cons_succ,List.set_cons_succ,List.set_cons_succ,List.set_append_right _ _ (by simp;omega),List.length_map,h,List.set_append_right _ _ (by simp;omega),List.length_map,h'];rfl
structure CallSees (w:World) (B o:Nat) (c:Mc.Call):Prop where
 m:w.cell? ⟨B,o,none⟩=some (.int .i64 c.meth)
 p:w.cell? ⟨B,o+1,none⟩=some (.int .i64 (c.pos:Int))
 n:w.cell? ⟨B,o+2,none⟩=some (.int .i64 (c.next:Int))
 h:w.cell? ⟨B,o+19,none⟩=some (.int .i64 (c.h:Int))
 lo:∀ k,k<8→w.cell? ⟨B,o+3+k,none⟩=some (.int .i64 (c.lo.getD k 0))
 st:∀ k,k<8→w.cell? ⟨B,o+11+k,none⟩=some (.int .i64 (c.st.getD k 0))
 fr:∀ j,w.frozen? ⟨B,j,none⟩=false
theorem Mid.sees {w:World}{B o:Nat}{t:TypeId}{pre post:List Value}{c:Mc.Call} (h:Mid w B t pre c.cells post) (ho:pre.length=o) (hf:Mc.Wf c):CallSees w B o c:=by
 have hl:=hf.len;refine⟨?_,?_,?_,?_,fun k hk=>?_,fun k hk=>?_,fun j=>h.free j⟩
 ·have:=h.cell ho (j:=0) (by omega);rw[Nat.add_zero]at this;rw[this];rfl
 ·rw[h.cell ho (j:=1) (by omega)];rfl
 ·rw[h.cell ho (j:=2) (by omega)];rfl
 ·rw[h.cell ho (j:=19) (by omega)];exact Aa2 hf
 ·rw[Nat.add_assoc,h.cell ho (j:=3+k) (by omega)];exact Yv hf hk
 ·rw[Nat.add_assoc,h.cell ho (j:=11+k) (by omega)];exact Zt hf hk
theorem Mid.setLo {w:World}{B o k:Nat}{t:TypeId}{pre post:List Value}{c:Mc.Call} (h:Mid w B t pre c.cells post) (ho:pre.length=o) (hf:Mc.Wf c) (hk:k<8) (v:Int) :
  Mid (w.setCell ⟨B,o+3+k,none⟩ (.int .i64 v)) B t pre (⟨c.meth,c.pos,c.next,c.lo.set k v,c.st,c.h⟩:Mc.Call).cells post:=by
 have hl:=hf.len;rw[← Rh hf hk,Nat.add_assoc];exact h.set ho (by omega) _
theorem Mid.setSt {w:World}{B o k:Nat}{t:TypeId}{pre post:List Value}{c:Mc.Call} (h:Mid w B t pre c.cells post) (ho:pre.length=o) (hf:Mc.Wf c) (hk:k<8) (v:Int) :
  Mid (w.setCell ⟨B,o+11+k,none⟩ (.int .i64 v)) B t pre (⟨c.meth,c.pos,c.next,c.lo,c.st.set k v,c.h⟩:Mc.Call).cells post:=by
 have hl:=hf.len;rw[← Rc hf hk,Nat.add_assoc];exact h.set ho (by omega) _
theorem Mid.setH {w:World}{B o:Nat}{t:TypeId}{pre post:List Value}{c:Mc.Call} (h:Mid w B t pre c.cells post) (ho:pre.length=o) (hf:Mc.Wf c) (z:Int) (n:Nat) (hz:z=n) :
  Mid (w.setCell ⟨B,o+19,none⟩ (.int .i64 z)) B t pre (⟨c.meth,c.pos,c.next,c.lo,c.st,n⟩:Mc.Call).cells post:=by
 have hl:=hf.len;rw[← To hf,hz];exact h.set ho (by omega) _
theorem Mid.setP {w:World}{B o:Nat}{t:TypeId}{pre post:List Value}{c:Mc.Call} (h:Mid w B t pre c.cells post) (ho:pre.length=o) (n:Nat) :
  Mid (w.setCell ⟨B,o+1,none⟩ (.int .i64 (n:Int))) B t pre (⟨c.meth,n,c.next,c.lo,c.st,c.h⟩:Mc.Call).cells post:=h.set ho (j:=1) (by simp[Mc.Call.cells]) _
theorem Mid.setN {w:World}{B o:Nat}{t:TypeId}{pre post:List Value}{c:Mc.Call} (h:Mid w B t pre c.cells post) (ho:pre.length=o) (n:Nat) :
  Mid (w.setCell ⟨B,o+2,none⟩ (.int .i64 (n:Int))) B t pre (⟨c.meth,c.pos,n,c.lo,c.st,c.h⟩:Mc.Call).cells post:=h.set ho (j:=2) (by simp[Mc.Call.cells]) _
theorem Cu {c:Mc.Call} (h:Mc.Wf c) (v:Int):Mc.Wf (Mc.push v c):=by
 unfold Mc.push
 split
 ·exact h
 ·exact⟨h.lo,by simp[h.st],by have:=h.h;simp;omega⟩
theorem Ay {c:Mc.Call} (h:Mc.Wf c):Mc.Wf (Mc.pop c).2:=by
 unfold Mc.pop
 split
 ·exact h
 ·exact⟨h.lo,h.st,by have:=h.h;simp;omega⟩
theorem Io {c:Mc.Call} (h:Mc.Wf c) (n v:Int):Mc.Wf (Mc.setLoc n v c):=by
 unfold Mc.setLoc
 split
 ·exact h
 ·split
  ·exact h
  ·exact⟨by simp[h.lo],h.st,h.h⟩
theorem Iw {c:Mc.Call} (h:Mc.Wf c) (n:Nat):Mc.Wf (Mc.goTo n c):=⟨h.lo,h.st,h.h⟩
theorem Aa7 {c:Mc.Call} (h:Mc.Wf c) (v:Int) (n:Nat):Mc.Wf (Mc.take v n c):=⟨h.lo,by simp[Mc.take,h.st],by simp[Mc.take]⟩
theorem Mb:∀ (k:Nat) {c:Mc.Call},Mc.Wf c→Mc.Wf (Mc.popN k c).2
 | 0,_,h=>h
 | k+1,_,h=>Mb k (Ay h)
theorem Fx:∀ (k:Nat) (c:Mc.Call),(Mc.popN k c).1.length=k
 | 0,_=>rfl
 | k+1,c=>by simp[Mc.popN,Fx k]
theorem Sg:∀ (l:List Int) (i:Nat) {c:Mc.Call},Mc.Wf c→Mc.Wf (Mc.fill i l c)
 | [],_,_,h=>h
 | v::r,i,_,h=>Sg r (i+1) (Io h i v)
theorem Sy (m:Int):Mc.Wf ⟨m,0,0,Mc.zeros,Mc.zeros,0⟩:=⟨rfl,rfl,by simp⟩
theorem Fj (m:Int) (vs:List Int):Mc.Wf (Mc.newCall m vs):=Sg vs 0 (Sy m)
theorem Abk {c:Mc.Call} (h:Mc.Wf c) (op n:Int):Mc.Wf (Mc.move op n c):=by
 unfold Mc.move;by_cases c0:op=0
 ·rw[if_pos c0];exact Cu h _
 rw[if_neg c0];by_cases c1:op=1
 ·rw[if_pos c1];exact Cu h _
 rw[if_neg c1];by_cases c2:op=2
 ·rw[if_pos c2];exact Cu h _
 rw[if_neg c2];by_cases c3:op=3
 ·rw[if_pos c3];exact Io (Ay h) _ _
 rw[if_neg c3];by_cases c4:op=4
 ·rw[if_pos c4];exact Ay h
 rw[if_neg c4];by_cases c5:op=5
 ·rw[if_pos c5];exact Cu (Cu (Ay h) _) _
 rw[if_neg c5];by_cases c6:op=6
 ·rw[if_pos c6];exact Cu (Cu (Ay (Ay h)) _) _
 rw[if_neg c6];exact h
theorem V6 {c:Mc.Call} (h:Mc.Wf c) (op n:Int):Mc.Wf (Mc.branch op n c):=by
 unfold Mc.branch;by_cases c0:op=12
 ·rw[if_pos c0]
  split
  ·exact Iw (Ay h) _
  ·exact Ay h
 rw[if_neg c0];by_cases c1:op=13
 ·rw[if_pos c1]
  split
  ·exact Iw (Ay (Ay h)) _
  ·exact Ay (Ay h)
 rw[if_neg c1];by_cases c2:op=14
 ·rw[if_pos c2]
  split
  ·exact Iw (Ay h) _
  ·exact Ay h
 rw[if_neg c2];exact Iw h _
theorem Cq (c:Mc.Call) (v:Int) (B o:Nat) (t:TypeId) (pre post:List Value) (w:World) (ho:pre.length=o) (hf:Mc.Wf c) (h:Mid w B t pre c.cells post) :
  Calls Tryz.prog 238 #[.pointer (some ⟨B,o,none⟩),.int .i64 v] w fun e w'=>e=.returned (.tuple #[])∧Mid w' B t pre (Mc.push v c).cells post∧Gr B w w':=by
 obtain⟨s0,s1,s2,s3,s4,s5,s6⟩:=h.sees ho hf;have hh:=hf.h;have g0:¬ (c.h:Int)<0:=by omega
 have f3:=s6 (o+19);unfold Mc.push;by_cases h8:8≤c.h
 ·rw[if_pos h8];have g1:(8:Int)≤(c.h:Int):=by omega
  clear s0 s1 s2 s4 s5 s6;go_enter Tryz.func238,Tryz.ntmps238;go_wp2;refine bodyPost_ret (v:=.tuple #[]) (by simp[results,Tryz.results238,go_sem]) rfl ?_;exact⟨rfl,h,Gr.refl _ _⟩
 ·rw[if_neg h8];have g1:¬ (8:Int)≤(c.h:Int):=by omega
  have g2:c.h<8:=by omega
  have s5':=s5 c.h g2;have f5':=s6 (o+11+c.h);have h1:=h.setSt ho hf g2 v;have h2:=h1.setH ho ⟨hf.lo,by simp[hf.st],hf.h⟩ ((c.h:Int)+1) (c.h+1) (by simp);clear s0 s1 s2 s4 s5 s6 h1;go_enter Tryz.func238,Tryz.ntmps238;go_wp2
  go_region
  all_goals
   go_wp2
   go_end0
   exact⟨rfl,h2.drewN _,(((Gr.refl _ _).setB _).setB _).drew⟩
theorem Bm (c:Mc.Call) (B o:Nat) (t:TypeId) (pre post:List Value) (w:World) (ho:pre.length=o) (hf:Mc.Wf c) (h:Mid w B t pre c.cells post) :
  Calls Tryz.prog 240 #[.pointer (some ⟨B,o,none⟩)] w fun e w'=>e=.returned (.int .i64 (Mc.pop c).1)∧Mid w' B t pre (Mc.pop c).2.cells post∧Gr B w w':=by
 obtain⟨s0,s1,s2,s3,s4,s5,s6⟩:=h.sees ho hf;have hh:=hf.h;have f3:=s6 (o+19);obtain⟨cm,cp,cn,clo,cst,ch⟩:=c;unfold Mc.pop;simp only at s3 hh s5 ⊢;cases ch with
 | zero =>
  rw[if_pos rfl];clear s0 s1 s2 s4 s5 s6;simp at s3;go_enter Tryz.func240,Tryz.ntmps240;go_wp2;go_ret;exact⟨rfl,h,Gr.refl _ _⟩
 | succ k =>
  rw[if_neg (by simp)];have g2:k<8:=by omega
  have s5':=s5 k g2;have h1:=h.setH ho hf (k:Int) k rfl;have e:k+1-1=k:=rfl;rw[e];clear e s0 s1 s2 s4 s5 s6;simp at s3;go_enter Tryz.func240,Tryz.ntmps240;go_wp2
  go_quiet (fail)
  go_wp2;go_ret;exact⟨rfl,h1.drewN _,((Gr.refl _ _).setB _).drewN _⟩
theorem T6 (c:Mc.Call) (n:Int) (B o:Nat) (t:TypeId) (pre post:List Value) (w:World) (ho:pre.length=o) (hf:Mc.Wf c) (h:Mid w B t pre c.cells post) :
  Calls Tryz.prog 239 #[.pointer (some ⟨B,o,none⟩),.int .i64 n] w fun e w'=>e=.returned (.int .i64 (Mc.loc n c))∧w'=w:=by
 obtain⟨s0,s1,s2,s3,s4,s5,s6⟩:=h.sees ho hf;unfold Mc.loc;by_cases h0:n<0
 ·rw[if_pos h0];clear s0 s1 s2 s3 s4 s5 s6;go_enter Tryz.func239,Tryz.ntmps239;go_wp2;go_ret;exact⟨rfl,rfl⟩
 ·rw[if_neg h0];by_cases h8:8≤n
  ·rw[if_pos h8];clear s0 s1 s2 s3 s4 s5 s6;go_enter Tryz.func239,Tryz.ntmps239;go_wp2;go_ret;exact⟨rfl,rfl⟩
  ·rw[if_neg h8];obtain⟨k,rfl⟩:=Int.eq_ofNat_of_zero_le (show 0≤n by omega);have s4':=s4 k (by omega);rw[Int.toNat_natCast];clear s0 s1 s2 s3 s4 s5 s6;go_enter Tryz.func239,Tryz.ntmps239;go_wp2;go_ret;exact⟨rfl,rfl⟩
theorem H5 (c:Mc.Call) (n v:Int) (B o:Nat) (t:TypeId) (pre post:List Value) (w:World) (ho:pre.length=o) (hf:Mc.Wf c) (h:Mid w B t pre c.cells post) :
  Calls Tryz.prog 130 #[.pointer (some ⟨B,o,none⟩),.int .i64 n,.int .i64 v] w fun e w'=>e=.returned (.tuple #[])∧Mid w' B t pre (Mc.setLoc n v c).cells post∧Gr B w w':=by
 obtain⟨s0,s1,s2,s3,s4,s5,s6⟩:=h.sees ho hf;unfold Mc.setLoc;by_cases h0:n<0
 ·rw[if_pos h0];clear s0 s1 s2 s3 s4 s5 s6;go_enter Tryz.func130,Tryz.ntmps130;go_wp2
  go_end0
  exact⟨rfl,h,Gr.refl _ _⟩
 ·rw[if_neg h0];by_cases h8:8≤n
  ·rw[if_pos h8];clear s0 s1 s2 s3 s4 s5 s6;go_enter Tryz.func130,Tryz.ntmps130;go_wp2
   go_end0
   exact⟨rfl,h,Gr.refl _ _⟩
  ·rw[if_neg h8];obtain⟨k,rfl⟩:=Int.eq_ofNat_of_zero_le (show 0≤n by omega);have s4':=s4 k (by omega);have f4':=s6 (o+3+k);have h1:=h.setLo ho hf (k:=k) (by omega) v;rw[Int.toNat_natCast];clear s0 s1 s2 s3 s4 s5 s6;go_enter Tryz.func130,Tryz.ntmps130;go_wp2
   go_end0
   exact⟨rfl,h1,(Gr.refl _ _).setB _⟩
theorem Vq (c:Mc.Call) (v:Int) (n:Nat) (B o:Nat) (t:TypeId) (pre post:List Value) (w:World) (ho:pre.length=o) (hf:Mc.Wf c) (h:Mid w B t pre c.cells post) :
  Calls Tryz.prog 286 #[.pointer (some ⟨B,o,none⟩),.int .i64 v,.int .i64 (n:Int)] w fun e w'=>e=.returned (.tuple #[])∧Mid w' B t pre (Mc.take v n c).cells post∧Gr B w w':=by
 obtain⟨s0,s1,s2,s3,s4,s5,s6⟩:=h.sees ho hf;have f3:=s6 (o+19);have h1:=h.setH ho hf 0 0 rfl;have hf1:Mc.Wf ⟨c.meth,c.pos,c.next,c.lo,c.st,0⟩:=⟨hf.lo,hf.st,by simp⟩
 have hp:=Cq _ v B o t pre post _ ho hf1 h1;have HP:=Ac hp;clear hp s0 s1 s2 s4 s5 s6;go_enter Tryz.func286,Tryz.ntmps286;go_wp2_with fail
 refine(Aa HP).mono ?_;rintro e w1 ⟨rfl,h2,hg⟩;obtain⟨s0,s1,s2,s3',s4,s5,s6⟩:=h2.sees ho (Cu hf1 v);have f2:=s6 (o+2);have h3:=h2.setN ho n;clear s0 s1 s3' s4 s5 s6;go_wp2
 go_end0
 exact⟨rfl,h3,(((Gr.refl _ _).setB _).trans hg).setB _⟩
theorem Us (n:Int) (w:World) (h0:0≤n) (h1:n≤255):Calls Tryz.prog 237 #[.int .i64 n] w fun e w'=>e=.returned (.int .i64 (Mc.signed n))∧w'=w:=by
 unfold Mc.signed;by_cases h:127<n
 ·rw[if_pos h];go_enter Tryz.func237,Tryz.ntmps237;go_wp2;go_ret;exact⟨rfl,rfl⟩
 ·rw[if_neg h];go_enter Tryz.func237,Tryz.ntmps237;go_wp2;go_ret;exact⟨rfl,rfl⟩
theorem Eo (v:Int):wrap32 v=Mc.w32 v:=by unfold Mc.w32 wrap32;omega
theorem Ha (v:Int):wrap64 (Mc.w32 v)=Mc.w32 v:=by unfold Mc.w32 wrap64;omega
theorem N8 (op x y:Int) (w:World):Calls Tryz.prog 241 #[.int .i64 op,.int .i64 x,.int .i64 y] w fun e w'=>e=.returned (.tuple #[.int .i64 ((Mc.reckoned op x y).getD 0),.bool (Mc.reckoned op x y).isSome])∧w'=w:=by
 unfold Mc.reckoned;by_cases h7:op=7
 ·rw[if_pos h7];subst h7;go_enter Tryz.func241,Tryz.ntmps241;go_wp2;go_ret2;exact⟨by simp[Ha,Eo],rfl⟩
 rw[if_neg h7];by_cases h8:op=8
 ·rw[if_pos h8];subst h8;clear h7;go_enter Tryz.func241,Tryz.ntmps241;go_wp2;go_ret2;exact⟨by simp[Ha,Eo],rfl⟩
 rw[if_neg h8];by_cases h9:op=9
 ·rw[if_pos h9];subst h9;clear h7 h8;go_enter Tryz.func241,Tryz.ntmps241;go_wp2;go_ret2;exact⟨by simp[Ha,Eo],rfl⟩
 rw[if_neg h9];have e7:(op==7)=false:=by simp[h7]
 have e8:(op==8)=false:=by simp[h8]
 have e9:(op==9)=false:=by simp[h9]
 clear h7 h8 h9;by_cases h0:Mc.w32 y=0
 ·rw[if_pos h0];rw[← Eo]at h0;go_enter Tryz.func241,Tryz.ntmps241;go_wp2;go_ret2;exact⟨rfl,rfl⟩
 ·rw[if_neg h0];rw[← Eo]at h0;have e0:(wrap32 y==0)=false:=by simp[h0]
  go_enter Tryz.func241,Tryz.ntmps241;go_wp2;go_ret2;exact⟨by simp[Ha,Eo],rfl⟩
theorem W4 (c:Mc.Call) (p op n:Int) (B o:Nat) (t:TypeId) (pre post:List Value) (w:World) (ho:pre.length=o) (hf:Mc.Wf c) (h:Mid w B t pre c.cells post) (hop:0≤op∧op≤6) (hn:0≤n∧n≤255) :
  Calls Tryz.prog 188 #[.pointer (some ⟨B,o,none⟩),.agg #[.int .i64 p,.int .i64 op,.int .i64 n]] w fun e w'=>e=.returned (.tuple #[])∧Mid w' B t pre (Mc.move op n c).cells post∧Gr B w w':=by
 obtain⟨n0,n1⟩:=hn;have hlt:=h.lt;rcases(show op=0∨op=1∨op=2∨op=3∨op=4∨op=5∨op=6 by omega) with rfl|rfl|rfl|rfl|rfl|rfl|rfl
 ·have hS:=fun w=>Us n w n0 n1;have hP:=Cq c (Mc.signed n) B o t pre post _ ho hf (h.alloc (O9 p 0 n));have e:Mc.move 0 n c=Mc.push (Mc.signed n) c:=rfl;rw[e];clear hop e;go_enter Tryz.func188,Tryz.ntmps188;go_wp2_with (first | (go_at_call 237;refine(hS _).mono ?_;rintro e w1 ⟨rfl,rfl⟩) | (go_at_call 238;refine hP.mono ?_;rintro e w1 ⟨rfl,h1,hg1⟩))
  go_end0
  exact⟨rfl,h1,((Gr.refl _ _).alloc _).trans hg1⟩
 ·have hP:=Cq c 0 B o t pre post _ ho hf (h.alloc (O9 p 1 n));have e:Mc.move 1 n c=Mc.push 0 c:=rfl;rw[e];clear hop e;go_enter Tryz.func188,Tryz.ntmps188;go_wp2_with (go_at_call 238;refine hP.mono ?_;rintro e w1 ⟨rfl,h1,hg1⟩)
  go_end0
  exact⟨rfl,h1,((Gr.refl _ _).alloc _).trans hg1⟩
 ·have hS:=T6 c n B o t pre post _ ho hf (h.alloc (O9 p 2 n));have hP:=Cq c (Mc.loc n c) B o t pre post _ ho hf (h.alloc (O9 p 2 n));have e:Mc.move 2 n c=Mc.push (Mc.loc n c) c:=rfl;rw[e];clear hop e;go_enter Tryz.func188,Tryz.ntmps188;go_wp2_with (first | (go_at_call 239;refine hS.mono ?_;rintro e w1 ⟨rfl,rfl⟩) | (go_at_call 238;refine hP.mono ?_;rintro e w1 ⟨rfl,h1,hg1⟩))
  go_end0
  exact⟨rfl,h1,((Gr.refl _ _).alloc _).trans hg1⟩
 ·have hP:=Bm c B o t pre post _ ho hf (h.alloc (O9 p 3 n));have hL:=fun w h=>H5 (Mc.pop c).2 n (Mc.pop c).1 B o t pre post w ho (Ay hf) h;have e:Mc.move 3 n c=Mc.setLoc n (Mc.pop c).1 (Mc.pop c).2:=rfl;rw[e];have hI:=Ad w (O9 p 3 n);clear hop e;go_enter Tryz.func188,Tryz.ntmps188;go_wp2_with fail
  refine hP.mono ?_;rintro e w1 ⟨rfl,h1,hg1⟩;have hI1:=hg1.own hI (by omega);have i2:=Ab hI1 2;simp at i2;go_wp2_with fail
  refine(hL _ h1).mono ?_;rintro e w2 ⟨rfl,h2,hg2⟩;go_wp2
  go_end0
  exact⟨rfl,h2,(((Gr.refl _ _).alloc _).trans hg1).trans hg2⟩
 ·have hP:=Bm c B o t pre post _ ho hf (h.alloc (O9 p 4 n));have e:Mc.move 4 n c=(Mc.pop c).2:=rfl;rw[e];clear hop e;go_enter Tryz.func188,Tryz.ntmps188;go_wp2_with fail
  refine hP.mono ?_;rintro e w1 ⟨rfl,h1,hg1⟩;go_wp2
  go_end0
  exact⟨rfl,h1,((Gr.refl _ _).alloc _).trans hg1⟩
 ·have hP:=Bm c B o t pre post _ ho hf (h.alloc (O9 p 5 n));have hL:=fun w h=>Cq (Mc.pop c).2 (Mc.pop c).1 B o t pre post w ho (Ay hf) h;have hM:=fun w h=>Cq (Mc.push (Mc.pop c).1 (Mc.pop c).2) (Mc.pop c).1 B o t pre post w ho (Cu (Ay hf) _) h;have e:Mc.move 5 n c=Mc.push (Mc.pop c).1 (Mc.push (Mc.pop c).1 (Mc.pop c).2):=rfl;rw[e];clear hop e;go_enter Tryz.func188,Tryz.ntmps188;go_wp2_with fail
  refine hP.mono ?_;rintro e w1 ⟨rfl,h1,hg1⟩;go_wp2_with fail
  refine(hL _ h1).mono ?_;rintro e w2 ⟨rfl,h2,hg2⟩;go_wp2_with fail
  refine(hM _ h2).mono ?_;rintro e w3 ⟨rfl,h3,hg3⟩;go_wp2
  go_end0
  exact⟨rfl,h3,((((Gr.refl _ _).alloc _).trans hg1).trans hg2).trans hg3⟩
 ·have hP:=Bm c B o t pre post _ ho hf (h.alloc (O9 p 6 n));have hQ:=fun w h=>Bm (Mc.pop c).2 B o t pre post w ho (Ay hf) h;have hL:=fun w h=>Cq (Mc.pop (Mc.pop c).2).2 (Mc.pop c).1 B o t pre post w ho (Ay (Ay hf)) h;have hM:=fun w h=>Cq (Mc.push (Mc.pop c).1 (Mc.pop (Mc.pop c).2).2) (Mc.pop (Mc.pop c).2).1 B o t pre post w ho (Cu (Ay (Ay hf)) _) h;have e:Mc.move 6 n c=Mc.push (Mc.pop (Mc.pop c).2).1 (Mc.push (Mc.pop c).1 (Mc.pop (Mc.pop c).2).2):=rfl;rw[e];clear hop e;go_enter Tryz.func188,Tryz.ntmps188;go_wp2_with fail
  refine hP.mono ?_;rintro e w1 ⟨rfl,h1,hg1⟩;go_wp2_with fail
  refine(hQ _ h1).mono ?_;rintro e w2 ⟨rfl,h2,hg2⟩;go_wp2_with fail
  refine(hL _ h2).mono ?_;rintro e w3 ⟨rfl,h3,hg3⟩;go_wp2_with fail
  refine(hM _ h3).mono ?_;rintro e w4 ⟨rfl,h4,hg4⟩;go_wp2
  go_end0
  exact⟨rfl,h4,(((((Gr.refl _ _).alloc _).trans hg1).trans hg2).trans hg3).trans hg4⟩
theorem Qs (c:Mc.Call) (p op n:Int) (B o:Nat) (t:TypeId) (pre post:List Value) (w:World) (ho:pre.length=o) (hf:Mc.Wf c) (h:Mid w B t pre c.cells post) (hop:11≤op∧op≤14) (hn:0≤n) :
  Calls Tryz.prog 190 #[.pointer (some ⟨B,o,none⟩),.agg #[.int .i64 p,.int .i64 op,.int .i64 n]] w fun e w'=>e=.returned (.tuple #[])∧Mid w' B t pre (Mc.branch op n c).cells post∧Gr B w w':=by
 have hlt:=h.lt;obtain⟨k,rfl⟩:=Int.eq_ofNat_of_zero_le hn;have hI:∀ op:Int,(w.alloc (O9 p op (k:Int))).heap[w.heap.size]?=_:=fun op=>Ad w (O9 p op (k:Int));rcases(show op=11∨op=12∨op=13∨op=14 by omega) with rfl | rfl | rfl | rfl
 ·have e:Mc.branch 11 k c=Mc.goTo k c:=rfl;rw[e];have h1:=h.alloc (O9 p 11 (k:Int));obtain⟨s0,s1,s2,s3,s4,s5,s6⟩:=h.sees ho hf;have f2:=s6 (o+2);have hN:=(h.setN ho k).alloc (O9 p 11 (k:Int));clear hop e s0 s1 s3 s4 s5 s6 hI;go_enter Tryz.func190,Tryz.ntmps190;go_wp2
  go_end0
  exact⟨rfl,hN,((Gr.refl _ _).setB _).alloc _⟩
 ·have hP:=Bm c B o t pre post _ ho hf (h.alloc (O9 p 12 (k:Int)));have hI0:=hI 12;have hf1:=Ay hf;have e:Mc.branch 12 k c=if (Mc.pop c).1=0 then Mc.goTo k (Mc.pop c).2 else (Mc.pop c).2:=rfl
  rw[e];clear e;generalize Mc.pop c=r at *;obtain⟨x,c1⟩:=r;simp only at hP hf1 ⊢;clear hop hI;by_cases hx:x=0
  ·rw[if_pos hx];subst hx;go_enter Tryz.func190,Tryz.ntmps190;go_wp2_with fail
   refine hP.mono ?_;rintro e w1 ⟨rfl,h1,hg1⟩;have hI1:=hg1.own hI0 (by omega);have i2:=Ab hI1 2;simp at i2;obtain⟨s0,s1,s2,s3,s4,s5,s6⟩:=h1.sees ho hf1;have f2:=s6 (o+2);have hN:=h1.setN ho k;clear s0 s1 s3 s4 s5 s6;go_wp2
   go_end0
   exact⟨rfl,hN,(((Gr.refl _ _).alloc _).trans hg1).setB _⟩
  ·rw[if_neg hx];have hx':(x==0)=false:=by simp[hx]
   clear hx;go_enter Tryz.func190,Tryz.ntmps190;go_wp2_with fail
   refine hP.mono ?_;rintro e w1 ⟨rfl,h1,hg1⟩;go_wp2
   go_end0
   exact⟨rfl,h1,((Gr.refl _ _).alloc _).trans hg1⟩
 ·have hP:=Bm c B o t pre post _ ho hf (h.alloc (O9 p 13 (k:Int)));have hI0:=hI 13;have hf1:=Ay hf;have hQ:=fun w h=>Bm (Mc.pop c).2 B o t pre post w ho hf1 h;have hf2:=Ay hf1;have e:Mc.branch 13 k c=if (Mc.pop (Mc.pop c).2).1<(Mc.pop c).1 then Mc.goTo k (Mc.pop (Mc.pop c).2).2 else (Mc.pop (Mc.pop c).2).2:=rfl
  rw[e];generalize Mc.pop c=r at *;obtain⟨y,c1⟩:=r;simp only at hP hf1 hQ hf2 ⊢;generalize Mc.pop c1=r at *;obtain⟨x,c2⟩:=r;simp only at hQ hf2 ⊢;clear hop hI e;by_cases hx:x<y
  ·rw[if_pos hx];go_enter Tryz.func190,Tryz.ntmps190;go_wp2_with fail
   refine hP.mono ?_;rintro e w1 ⟨rfl,h1,hg1⟩;go_wp2_with fail
   refine(hQ _ h1).mono ?_;rintro e w2 ⟨rfl,h2,hg2⟩;have hI1:=hg2.own (hg1.own hI0 (by omega)) (by omega);have i2:=Ab hI1 2;simp at i2;obtain⟨s0,s1,s2,s3,s4,s5,s6⟩:=h2.sees ho hf2;have f2:=s6 (o+2);have hN:=h2.setN ho k;clear s0 s1 s3 s4 s5 s6;go_wp2
   go_end0
   exact⟨rfl,hN,((((Gr.refl _ _).alloc _).trans hg1).trans hg2).setB _⟩
  ·rw[if_neg hx];go_enter Tryz.func190,Tryz.ntmps190;go_wp2_with fail
   refine hP.mono ?_;rintro e w1 ⟨rfl,h1,hg1⟩;go_wp2_with fail
   refine(hQ _ h1).mono ?_;rintro e w2 ⟨rfl,h2,hg2⟩;go_wp2
   go_end0
   exact⟨rfl,h2,(((Gr.refl _ _).alloc _).trans hg1).trans hg2⟩
 ·have hP:=Bm c B o t pre post _ ho hf (h.alloc (O9 p 14 (k:Int)));have hI0:=hI 14;have hf1:=Ay hf;have e:Mc.branch 14 k c=if (Mc.pop c).1=0 then Mc.goTo k (Mc.pop c).2 else (Mc.pop c).2:=rfl
  rw[e];clear e;generalize Mc.pop c=r at *;obtain⟨x,c1⟩:=r;simp only at hP hf1 ⊢;clear hop hI;by_cases hx:x=0
  ·rw[if_pos hx];subst hx;go_enter Tryz.func190,Tryz.ntmps190;go_wp2_with fail
   refine hP.mono ?_;rintro e w1 ⟨rfl,h1,hg1⟩;have hI1:=hg1.own hI0 (by omega);have i2:=Ab hI1 2;simp at i2;obtain⟨s0,s1,s2,s3,s4,s5,s6⟩:=h1.sees ho hf1;have f2:=s6 (o+2);have hN:=h1.setN ho k;clear s0 s1 s3 s4 s5 s6;go_wp2
   go_end0
   exact⟨rfl,hN,(((Gr.refl _ _).alloc _).trans hg1).setB _⟩
  ·rw[if_neg hx];have hx':(x==0)=false:=by simp[hx]
   clear hx;go_enter Tryz.func190,Tryz.ntmps190;go_wp2_with fail
   refine hP.mono ?_;rintro e w1 ⟨rfl,h1,hg1⟩;go_wp2
   go_end0
   exact⟨rfl,h1,((Gr.refl _ _).alloc _).trans hg1⟩
theorem Abi (n:Nat) (hn:n≤1000) (w:World):(Instr.makeSlice 26 (.int .i64 (n:Int)) (.int .i64 (n:Int))).run Tryz.prog w=.ok (.slice (some ⟨w.heap.size,0,none⟩) n n) (w.alloc (.cells (List.replicate n (Value.int .i64 0)).toArray 3)):=by
 obtain⟨i0,hi,hz0,hz1,hz2⟩:=info_parts Tryz.infoInt;have:=run_make w 26 3 i0 _ Tryz.underlying26 hi hz0 .i64 .i64 (n:Int) (n:Int) (by omega) (Int.le_refl _) (by rw[hz2];omega) (by omega);rw[hz1]at this;have e:madeCells (Value.int .i64 0).cells (n*1)=(List.replicate n (Value.int .i64 0)).toArray:=by
  apply Array.ext
  ·simp[madeCells]
  ·intro i h1 h2;simp[madeCells,Value.cells,Nat.mod_one]
 rw[Int.toNat_natCast,e]at this;exact this
theorem Nz:∀ (k:Nat) (c:Mc.Call),Mc.popN (k+1) c=((Mc.pop (Mc.popN k c).2).1::(Mc.popN k c).1,(Mc.pop (Mc.popN k c).2).2)
 | 0,c=>by simp[Mc.popN]
 | k+1,c=>by
  have h:=Nz k (Mc.pop c).2;rw[Mc.popN,h,Mc.popN]
  simp
theorem Zy {w:World}{b n:Nat}{l:List Int} (hl:l.length=n) (hn:n≤1000) {g:Nat} (hb:b≤g) (h:w.heap[g]?=some (.cells (l.map (Value.int .i64)).toArray 3 (0,0))):IntsAt w b (.slice (some ⟨g,0,none⟩) n n) l:=by
 refine⟨by simp,.inr ⟨g,n,_,by rw[hl],hb,h,by omega,by unfold maxLen;omega,by simp[hl],?_⟩⟩;simp only[Nat.mul_one];rw[List.take_of_length_le (by simp)]
theorem Aas {k:Nat}{z v:Value}{l:List Value}:((List.replicate (k+1) z++l).toArray).setIfInBounds k v=(List.replicate k z++(v::l)).toArray:=by
 rw[List.setIfInBounds_toArray]
 congr 1
 rw[List.replicate_succ',List.append_assoc,List.set_append_right _ _ (by simp)]
 simp
theorem Acb {k:Nat}{z:Value}{l:List Value}:((List.replicate (k+1) z++l).toArray)[k]?=some z:=by
 rw[List.getElem?_toArray,List.getElem?_append_left (by simp)]
 simp
theorem Rr (c:Mc.Call) (la:Option Addr) (n lc:Nat) (B o:Nat) (t:TypeId) (pre post:List Value) (w:World) (ho:pre.length=o) (hf:Mc.Wf c) (hn:n≤1000) (h:Mid w B t pre c.cells post) :
  Calls Tryz.prog 248 #[.pointer (some ⟨B,o,none⟩),.slice la n lc] w fun e w'=>e=.returned (.slice (some ⟨w.heap.size,0,none⟩) n n)∧IntsAt w' w.heap.size (.slice (some ⟨w.heap.size,0,none⟩) n n) (Mc.popN n c).1∧Mid w' B t pre (Mc.popN n c).2.cells post∧Gr B w w':=by
 have hmk:=fun w=>Abi n hn w;have hlt:=h.lt;have hne:w.heap.size≠B:=by omega
 have h0:=h.alloc (.cells (List.replicate n (Value.int .i64 0)).toArray 3);have hR0:=Ad w (.cells (List.replicate n (Value.int .i64 0)).toArray 3);have hP:=fun j w h=>Bm (Mc.popN j c).2 B o t pre post w ho (Mb j hf) h;have hPN:=fun j=>Nz j c;have hPL:=fun j=>Fx j c;have HP:=Ac hP;have HN:=Ac hPN;have HL:=Ac hPL;clear hP hPN hPL h;go_enter Tryz.func248,Tryz.ntmps248;go_wp2
 go_loopw [6] (fun i wr=>∃ (k j:Nat),k+j=n∧i=.int .i64 ((k:Int)-1)∧wr.heap[w.heap.size]?=some (.cells (List.replicate k (Value.int .i64 0)++(Mc.popN j c).1.map (Value.int .i64)).toArray 3 (0,0))∧Mid wr B t pre (Mc.popN j c).2.cells post∧Gr B w wr)
  (fun i _=>(intOf i+1).toNat)
 case atStart=>exact⟨n,0,by omega,rfl,by simpa[Mc.popN] using hR0,h0,(Gr.refl _ _).alloc _⟩
 case round =>
  obtain⟨k,j,hkj,rfl,hR,hM,hG⟩:=hrel;cases k with
  | zero =>
   have hj:j=n:=by omega
   subst hj;clear hmk h0 hR0;go_wp2;go_ret;refine⟨rfl,Zy (Aa HL j) hn (Nat.le_refl _) (by simpa using hR),hM,hG⟩
  | succ k =>
   have hP:=Aa HP j _ hM;have e1:((k+1:Nat):Int)-1=(k:Int):=by omega
   have hsz:=hG.size;clear hmk h0 hR0 hM;go_wp2_with fail
   refine hP.mono ?_;rintro e w1 ⟨rfl,h1,hg1⟩;have hR1:=hg1.own hR hne;have hset:=Al (i:=k) hR1 (.int .i64 (Mc.pop (Mc.popN j c).2).1);rw[Aas]at hset;have y0:=Ab hR1 k;have y1:=Ag hR1 k;rw[Acb]at y0;have hkn:(k:Int)<(n:Int):=by omega
   have hM2:Mid (w1.setCell ⟨w.heap.size,k,none⟩ (.int .i64 (Mc.pop (Mc.popN j c).2).1)) B t pre (Mc.pop (Mc.popN j c).2).2.cells post:=by
    unfold Mid;rw[Below.heap_setCell _ _ _ _ (by simpa using (show B≠w.heap.size by omega))];exact h1
   have HG:=Ac (hG.trans hg1);have hnx:=Aa HN j;have HX:=Ac hnx;have HM2:=Ac hM2;have HST:=Ac hset;clear hP HP HN HL h1 hg1 hR hR1 hM2 hnx hset;generalize Mc.pop (Mc.popN j c).2=pv at *;obtain⟨x,c2⟩:=pv;simp only at HX HM2 HST ⊢;go_wp2
   go_roundw
   case rel=>exact⟨k,j+1,by omega,rfl,by rw[Aa HX];exact Aa HST,by rw[Aa HX];exact Aa HM2,(Aa HG).set (.inl (Nat.le_refl _)) _⟩
   case measure=>simp[intOf]
theorem Tryz.infoCall:(Tryz.prog.info? 152).map (·.size)=some 20:=by kernel_rfl
theorem M3 {B g:Nat}{w0 w:World} (hb:Below B w0 w) (hBg:B≤g) (cs:Array Value):Below B w0 (w.setRow g cs) :=
 ⟨hb.os,hb.tape,hb.output,by rw[setRow_size];exact hb.size,fun k hk=>(setRow_other w g k cs (by omega)).trans (hb.block k hk)⟩
theorem Se {w:World}{g:Nat}{old cs:Array Value}{t:TypeId} (hg:w.heap[g]?=some (.cells old t (0,0))):(w.setRow g cs).heap[g]?=some (.cells cs t (0,0)):=setRow_heap w g old cs t (0,0) hg
theorem Abw {w:World}{g k:Nat}{cs:Array Value} (h:k≠g):(w.setRow g cs).heap[k]?=w.heap[k]?:=setRow_other w g k cs h
theorem Ik {w:World}{b:Nat}{a:Option Addr}{n c:Nat}{l:List Int} (h:IntsAt w b (.slice a n c) l) (hl:0<l.length):∃ g,a=some ⟨g,0,none⟩∧g<w.heap.size∧∀ k (hk:k<l.length),w.cell? ⟨g,k,none⟩=some (.int .i64 l[k]):=by
 obtain⟨h1,⟨_,hn⟩|⟨g,cap,cur,hv,_,hg,hle,_,hsz,htk⟩⟩:=h
 ·omega
 ·simp only[Value.slice.injEq]at hv;refine⟨g,hv.1,lt_of_block hg,fun k hk=>?_⟩;have:=congrArg (·[k]?) htk;simp only[List.getElem?_take,Nat.mul_one,if_pos hk,List.getElem?_map,List.getElem?_eq_getElem hk,Option.map_some]at this;rw[Ab hg]
  simpa using this
theorem Zv (k:Nat) (c:Mc.Call):Mc.fill k [] c=c:=rfl
theorem Jy (m:Int) (va:Option Addr) (vc:Nat) (vs:List Int) (bb:Nat) (w:World) (hl:vs.length≤1000) (hv:IntsAt w bb (.slice va vs.length vc) vs) :
  Calls Tryz.prog 84 #[.int .i64 m,.slice va vs.length vc] w fun e w'=>e=.returned (.agg (Mc.newCall m vs).cells.toArray)∧Below w.heap.size w w':=by
 have hB0:Below w.heap.size w (((w.alloc (O23 0 0 0 0 0 0 0 0 0 0 0 0 0 0 0 0 0 0 0 0)).alloc (O23 0 0 0 0 0 0 0 0 0 0 0 0 0 0 0 0 0 0 0 0)).setRow (w.heap.size+1) #[.int .i64 m,.int .i64 0,.int .i64 0,.int .i64 0,.int .i64 0,.int .i64 0,.int .i64 0,.int .i64 0,.int .i64 0,.int .i64 0,.int .i64 0,.int .i64 0,.int .i64 0,.int .i64 0,.int .i64 0,.int .i64 0,.int .i64 0,.int .i64 0,.int .i64 0,.int .i64 0]):=M3 (Aj _ _ _) (by omega) _;have hR0:(((w.alloc (O23 0 0 0 0 0 0 0 0 0 0 0 0 0 0 0 0 0 0 0 0)).alloc (O23 0 0 0 0 0 0 0 0 0 0 0 0 0 0 0 0 0 0 0 0)).setRow (w.heap.size+1) #[.int .i64 m,.int .i64 0,.int .i64 0,.int .i64 0,.int .i64 0,.int .i64 0,.int .i64 0,.int .i64 0,.int .i64 0,.int .i64 0,.int .i64 0,.int .i64 0,.int .i64 0,.int .i64 0,.int .i64 0,.int .i64 0,.int .i64 0,.int .i64 0,.int .i64 0,.int .i64 0]).heap[w.heap.size]?=some (O23 0 0 0 0 0 0 0 0 0 0 0 0 0 0 0 0 0 0 0 0):=(Abw (by omega)).trans (Ak _ _ _);have hC0:Mid (((w.alloc (O23 0 0 0 0 0 0 0 0 0 0 0 0 0 0 0 0 0 0 0 0)).alloc (O23 0 0 0 0 0 0 0 0 0 0 0 0 0 0 0 0 0 0 0 0)).setRow (w.heap.size+1) #[.int .i64 m,.int .i64 0,.int .i64 0,.int .i64 0,.int .i64 0,.int .i64 0,.int .i64 0,.int .i64 0,.int .i64 0,.int .i64 0,.int .i64 0,.int .i64 0,.int .i64 0,.int .i64 0,.int .i64 0,.int .i64 0,.int .i64 0,.int .i64 0,.int .i64 0,.int .i64 0]) (w.heap.size+1) 152 [] (⟨m,0,0,Mc.zeros,Mc.zeros,0⟩:Mc.Call).cells []:=Se (Ai _ _ _);have HF:Hid (Mc.fill 0 (vs.drop 0) ⟨m,0,0,Mc.zeros,Mc.zeros,0⟩=Mc.newCall m vs):=rfl;generalize Mc.newCall m vs=N at *;have hSL:=fun c n v wr h hf=>H5 c n v (w.heap.size+1) 0 152 [] [] wr rfl hf h;go_enter Tryz.func84,Tryz.ntmps84;go_wp2_with (refine wpList_store_row (by rfl) 152 (.tmp 5) (.tmp 9) (by rfl) (w.heap.size+1) #[.int .i64 m,.int .i64 0,.int .i64 0,.int .i64 0,.int .i64 0,.int .i64 0,.int .i64 0,.int .i64 0,.int .i64 0,.int .i64 0,.int .i64 0,.int .i64 0,.int .i64 0,.int .i64 0,.int .i64 0,.int .i64 0,.int .i64 0,.int .i64 0,.int .i64 0,.int .i64 0] (by rfl) (by rfl) 152 _ (Ai w _ _) Tryz.infoCall (by rfl) (by simp[Value.oneCell']) ?_)
 generalize (((w.alloc (O23 0 0 0 0 0 0 0 0 0 0 0 0 0 0 0 0 0 0 0 0)).alloc (O23 0 0 0 0 0 0 0 0 0 0 0 0 0 0 0 0 0 0 0 0)).setRow (w.heap.size+1) #[.int .i64 m,.int .i64 0,.int .i64 0,.int .i64 0,.int .i64 0,.int .i64 0,.int .i64 0,.int .i64 0,.int .i64 0,.int .i64 0,.int .i64 0,.int .i64 0,.int .i64 0,.int .i64 0,.int .i64 0,.int .i64 0,.int .i64 0,.int .i64 0,.int .i64 0,.int .i64 0])=w1 at *
 go_loopw [12] (fun i wr=>∃ (k:Nat) (c:Mc.Call),k≤vs.length∧i=.int .i64 (k:Int)∧Hid (Mc.fill k (vs.drop k) c=N)∧Mc.Wf c∧Mid wr (w.heap.size+1) 152 [] c.cells []∧wr.heap[w.heap.size]?=some (O23 0 0 0 0 0 0 0 0 0 0 0 0 0 0 0 0 0 0 0 0)∧Below w.heap.size w wr)
  (fun i _=>vs.length-(intOf i).toNat)
 case atStart=>exact⟨0,_,by omega,rfl,HF,Sy m,hC0,hR0,hB0⟩
 case round =>
  clear HF hC0 hR0 hB0;obtain⟨k,c,hk,rfl,HF,hf,hC,hR,hB⟩:=hrel;by_cases hkn:k<vs.length
  ·obtain⟨g,hg,hglt,hcell⟩:=Ik hv (by omega);have y0:=hcell k hkn;have y1:wr.cell? ⟨g,k,none⟩=some (.int .i64 vs[k]):=by rw[hB.cell (p:=⟨g,k,none⟩) hglt];exact y0
   have hS:=hSL c (k:Int) vs[k] wr hC hf;have hf2:=Io hf (k:Int) vs[k];have hd:vs.drop k=vs[k]::vs.drop (k+1):=by rw[List.drop_eq_getElem_cons hkn]
   have HF2:Hid (Mc.fill (k+1) (vs.drop (k+1)) (Mc.setLoc (k:Int) vs[k] c)=N):=by
    have:=Aa HF;rw[hd]at this;exact this
   have hkn':(k:Int)<(vs.length:Int):=by omega
   have hBs:=hB.size;generalize vs[k]=x at *;subst hg;clear HF hd y0 hcell hSL hC;go_wp2_with fail
   refine hS.mono ?_;rintro e w2 ⟨rfl,h2,hg2⟩;have hR2:=hg2.own hR (by omega);have hB2:Below w.heap.size w w2:=⟨(World.grownBy.os hg2).trans hB.os,(World.grownBy.tape hg2).trans hB.tape,(World.grownBy.output hg2).trans hB.output,Nat.le_trans hB.size hg2.size,fun j hj=>(hg2.blk (Nat.lt_of_lt_of_le hj hBs) (by omega)).trans (hB.block j hj)⟩;clear hg2 hS;go_wp2
   go_roundw
   case rel=>exact⟨k+1,_,by omega,by go_num,HF2,hf2,h2,hR2,hB2⟩
   case measure=>simp[intOf];omega
  ·have hkk:k=vs.length:=by omega
   subst hkk;have hN:=Aa HF;rw[List.drop_length,Zv]at hN;have hC':wr.heap[w.heap.size+1]?=some (.cells c.cells.toArray 152 (0,0)):=by
    have:=hC;unfold Mid at this
    simpa using this
   have h20:(Tryz.prog.info? 152).map (·.size)=some c.cells.toArray.size:=by rw[Tryz.infoCall];simp[hf.len]
   have hz:20=c.cells.toArray.size:=by simp[hf.len]
   have hall:=all_oneCell_toArray (Dr c);have HN:=Ac hN;clear hN HF hSL hC;generalize hcc:c.cells.toArray=cc at *;have HCC:=Ac hcc;clear hcc;go_wp2_with (first | (refine wpList_load_row (by rfl) 152 (.tmp 5) (by rfl) (w.heap.size+1) (by rfl) 152 cc (0,0) _ hC' Tryz.underlying152 (by rfl) h20 ?_) | (refine wpList_store_row (by rfl) 152 (.tmp 4) (.tmp 21) (by rfl) w.heap.size cc (by rfl) (by rfl) 152 _ hR h20 hz hall ?_))
   refine bodyPost_ret (results_cell_row Tryz.results84 _ _ w.heap.size 152 cc (0,0) _ (by rfl) (Se hR) Tryz.underlying152 (by rfl) h20) rfl ?_;exact⟨by rw[← Aa HCC,Aa HN],M3 hB (Nat.le_refl _) _⟩
end Go.Proofs.YtpcgnjolfahacaaGreat
