/- a part of the proof in YtcefiamkoincoaaGreatFoundProof -/
import Derived.Test.YtcefiamkoincoaaGreatPk19
set_option maxRecDepth 100000
set_option maxHeartbeats 40000000
set_option linter.unusedVariables false
set_option linter.unusedSimpArgs false
namespace Go.Proofs.YtcefiamkoincoaaGreat
open Go.RowKit
def Ck.argF (T:List Int) (x:Ck.Fr):Prop:=(∀ t∈x.locals,Tr.Arg T t.1 t.2)∧∀ t∈x.stack,Tr.Arg T t.1 t.2
theorem Pl (T:List Int) (a b:List (Int × Int)) (h:a.length=b.length):Ck.top T a b=Ck.fitAll T a b:=by
 unfold Ck.top;rw [if_neg (by omega),h,Nat.sub_self,List.drop_zero]
theorem Dl {T:List Int} (hT:Tr.Ok T) {x y:Ck.Fr} (hx:Ck.argF T x) (hy:Ck.argF T y):Ck.frameFits T x y=Pk.frameFits T x y:=by
 unfold Ck.frameFits Pk.frameFits Pk.allFit;by_cases h1:x.stack.length=y.stack.length
 ·rw [if_neg (fun g=>g h1),if_pos h1];by_cases h2:x.locals.length=y.locals.length
  ·rw [if_neg (fun g=>g h2),if_pos h2,Pl T _ _ h2,Pl T _ _ h1,Dn hT _ _ hx.1 hy.1,Dn hT _ _ hx.2 hy.2]
  ·rw [if_pos h2,if_neg h2];rfl
 ·rw [if_pos h1,if_neg h1,Bool.and_false]
theorem Wv (T:List Int) (cs:List Rd.Cls) (h7:7≤cs.length) (hg:∀ i,i < 7→(cs.getD i ⟨0,[]⟩).fields=[]) (ms:List Rd.Mth) (res:Int × Int) (op:Int) (n:Nat) (hn:op=17∨op=18→n < (Rf.fieldsTo T cs (cs.length - 7)).length) :
  Pk.takes (cs.map Rd.Cls.fields) ms res op (n:Int)=Ck.takes (Rf.fieldsTo T cs (cs.length - 7)) ms res op (n:Int):=by
 unfold Pk.takes Ck.takes;by_cases h17:op=17
 ·subst h17;rw [Kg T cs h7 hg n (hn (.inl rfl)),Int.toNat_natCast]
 ·by_cases h18:op=18
  ·subst h18;rw [Kg T cs h7 hg n (hn (.inr rfl)),Int.toNat_natCast]
  ·simp only [h17,h18,if_false]
theorem Wh (T:List Int) (cs:List Rd.Cls) (h7:7≤cs.length) (hg:∀ i,i < 7→(cs.getD i ⟨0,[]⟩).fields=[]) (ms:List Rd.Mth) (op:Int) (n:Nat) (hn:op=17→n < (Rf.fieldsTo T cs (cs.length - 7)).length) :
  Pk.leaves (cs.map Rd.Cls.fields) ms op (n:Int)=Ck.leaves (Rf.fieldsTo T cs (cs.length - 7)) ms op (n:Int):=by
 unfold Pk.leaves Ck.leaves;by_cases h17:op=17
 ·subst h17;rw [Kg T cs h7 hg n (hn rfl),Int.toNat_natCast]
  simp
 ·simp only [h17,if_false];have:(op=0∨op=24∨op=7∨op=8∨op=9∨op=10)↔(op=0∨op=7∨op=8∨op=9∨op=10∨op=24):=by omega
  simp only [this]
theorem Iz {T:List Int}{mp:Int→Option Ck.Fr}{x:Ck.Fr}{q:Int} (h:mp q=none):Pk.fitsAny T mp x q=true:=by unfold Pk.fitsAny;rw [h];rfl
theorem Ep {T:List Int} (hT:Tr.Ok T) {mp:Int→Option Ck.Fr}{x z:Ck.Fr}{q:Int} (h:mp q=some z) (hx:Ck.argF T x) (hz:Ck.argF T z):Pk.fitsAny T mp x q=Ck.frameFits T x z:=by
 unfold Pk.fitsAny;rw [h,Dl hT hx hz];rfl
theorem Nn {T:List Int}{mp:Int→Option Ck.Fr}{x:Ck.Fr}{q:Int} (h:mp q=none):Pk.jump T mp x q=8:=by unfold Pk.jump;rw [h];rfl
theorem N9 {T:List Int} (hT:Tr.Ok T) {mp:Int→Option Ck.Fr}{x z:Ck.Fr}{q:Int} (h:mp q=some z) (hx:Ck.argF T x) (hz:Ck.argF T z) (hf:Ck.frameFits T x z=false):Pk.jump T mp x q=9:=by
 unfold Pk.jump;rw [if_neg (by rw [h];simp),if_pos (by rw [Ep hT h hx hz];exact hf)]
theorem Nl {T:List Int} (hT:Tr.Ok T) {mp:Int→Option Ck.Fr}{x z:Ck.Fr}{q:Int} (h:mp q=some z) (hx:Ck.argF T x) (hz:Ck.argF T z) (hf:Ck.frameFits T x z=true):Pk.jump T mp x q=0:=by
 unfold Pk.jump;rw [if_neg (by rw [h];simp),if_neg (by rw [Ep hT h hx hz,hf];simp)]
theorem Kc {T:List Int} (hT:Tr.Ok T) (mp:Int→Option Ck.Fr) (hmp:∀ q z,mp q=some z→Ck.argF T z) (p:Int) (lo:List (Int × Int)) (hlo:∀ t∈lo,Tr.Arg T t.1 t.2):∀ hs:List Rd.Hnd,(∀ h∈hs,Tr.Arg T 3 h.cl) →
  Pk.handlers T mp p lo hs=Ck.handlers T mp p lo hs
 | [],_=>rfl
 | h :: r,hh=>by
  have ih:=Kc hT mp hmp p lo hlo r (fun x hx=>hh x (by simp [hx]));rw [Pk.handlers,Ck.handlers,ih];unfold Pk.covers;by_cases h1:p < h.frm
  ·have e:decide (h.frm≤p)=false:=by simp;omega
   rw [e,Bool.false_and,if_pos rfl,if_pos h1]
  ·have e:decide (h.frm≤p)=true:=by simp;omega
   rw [e,Bool.true_and,if_neg h1];by_cases h2:h.til≤p
   ·have e2:decide (p < h.til)=false:=by simp;omega
    rw [e2,if_pos rfl,if_pos h2]
   ·have e2:decide (p < h.til)=true:=by simp;omega
    rw [e2,if_neg (by simp),if_neg h2];cases hm:mp h.target with
    | none =>
     rw [Nn hm,if_pos (show (8:Int) ≠ 0 by decide),if_pos (show (none:Option Ck.Fr).isSome=false from rfl)]
    | some z =>
     have hx:Ck.argF T ⟨lo,[(3,h.cl)]⟩:=⟨hlo,fun t ht=>by obtain rfl:=List.mem_singleton.1 ht;exact hh h (by simp)⟩;have e3:Ck.orNone (some z)=z:=rfl;rw [e3,if_neg (show ¬ (some z).isSome=false by simp)];cases hf:Ck.frameFits T ⟨lo,[(3,h.cl)]⟩ z with
     | false=>rw [N9 hT hm hx (hmp _ _ hm) hf,if_pos (show (9:Int) ≠ 0 by decide),if_pos rfl]
     | true=>rw [Nl hT hm hx (hmp _ _ hm) hf,if_neg (show ¬ (0:Int) ≠ 0 by decide),if_neg (show ¬ true=false by decide)]
theorem Zo {T:List Int} (hT:Tr.Ok T) (mp:Int→Option Ck.Fr) (hmp:∀ q z,mp q=some z→Ck.argF T z) (H:Int) (B:Option Ck.Fr) (hB:∀ y,B=some y→Ck.argF T y) (op n nxt len:Int):Pk.look T mp H B op n nxt len=Ck.look T mp H B op n nxt len:=by
 unfold Pk.look Ck.look;by_cases h0:H ≠ 0
 ·rw [if_pos h0,if_pos h0]
 ·rw [if_neg h0,if_neg h0];cases B with
  | none=>rfl
  | some y =>
   have hy:=hB y rfl;have e:Ck.orNone (some y)=y:=rfl;rw [if_neg (show ¬ (some y).isSome=false by simp),if_neg (show ¬ (some y).isSome=false by simp),e];have hgo:(if Ck.goes op=false then 0 else Pk.goOn T mp len y nxt)=(if Ck.goes op=false then 0 else if len≤nxt then 11 else if (mp nxt).isSome=true∧Ck.frameFits T y (Ck.orNone (mp nxt))=false then 9 else 0):=by
    by_cases hg:Ck.goes op=false
    ·rw [if_pos hg,if_pos hg]
    ·rw [if_neg hg,if_neg hg];unfold Pk.goOn;by_cases hl:len≤nxt
     ·rw [if_pos hl,if_pos hl]
     ·rw [if_neg hl,if_neg hl];cases hm:mp nxt with
      | none=>rw [Iz hm,if_neg (by simp),if_neg (by simp)]
      | some z =>
       have e3:Ck.orNone (some z)=z:=rfl;rw [Ep hT hm hy (hmp _ _ hm),e3];cases hf:Ck.frameFits T y z with
       | false=>rw [if_pos rfl,if_pos ⟨rfl,rfl⟩]
       | true=>rw [if_neg (by simp),if_neg (by simp)]
   cases hj:Ck.jumps op with
   | false=>rw [if_neg (show ¬ (false=true∧Pk.jump T mp y n ≠ 0) by simp),if_neg (show ¬ (false=true∧(mp n).isSome=false) by simp),if_neg (show ¬ (false=true∧Ck.frameFits T y (Ck.orNone (mp n))=false) by simp)];exact hgo
   | true =>
    cases hm:mp n with
    | none=>rw [Nn hm,if_pos (show true=true∧(8:Int) ≠ 0 by decide),if_pos (show true=true∧(none:Option Ck.Fr).isSome=false from ⟨rfl,rfl⟩)]
    | some z =>
     have e3:Ck.orNone (some z)=z:=rfl;rw [e3];cases hf:Ck.frameFits T y z with
     | false=>rw [N9 hT hm hy (hmp _ _ hm) hf,if_pos (show true=true∧(9:Int) ≠ 0 by decide),if_neg (show ¬ (true=true∧(some z).isSome=false) by simp),if_pos (show true=true∧false=false from ⟨rfl,rfl⟩)]
     | true =>
      rw [Nl hT hm hy (hmp _ _ hm) hf,if_neg (show ¬ (true=true∧(0:Int) ≠ 0) by decide),if_neg (show ¬ (true=true∧(some z).isSome=false) by simp),if_neg (show ¬ (true=true∧true=false) by decide)];exact hgo
theorem Lv (c:List Int):∀ (k p:Nat),(∀ q∈Cd.starts c k p,p≤q)∧(Cd.starts c k p).Pairwise (· < ·)
 | 0,p=>by simp [Cd.starts]
 | k+1,p=>by
  have hw:=Cd.wd_bd (c.getD p 0);obtain ⟨h1,h2⟩:=Lv c k (p+Cd.wd (c.getD p 0));unfold Cd.starts
  split
  ·refine ⟨fun q hq=>?_,List.pairwise_cons.2 ⟨fun q hq=>?_,h2⟩⟩
   ·rcases List.mem_cons.1 hq with rfl | hq
    ·exact Nat.le_refl _
    ·have:=h1 q hq;omega
   ·have:=h1 q hq;omega
  ·simp
theorem Nc (c:List Int):(Cd.places c).Pairwise (· < ·):=(Lv c c.length 0).2
theorem Ny (mp:Int→Option Ck.Fr) (rl:Nat→Ck.Fr→Option Ck.Fr) (lk:Nat→Ck.Fr→Int) (c:List Int) (lkP:Cd.Ins→Ck.Fr→Int) (bh:Cd.Ins→Ck.Fr→Option Ck.Fr) (P:Ck.Fr→Prop) (hPm:∀ q z,mp q=some z→P z) :
  ∀ (ps:List Nat),(∀ p∈ps,∀ x,P x→lkP (Cd.insAt c p) x=lk p x∧(lk p x=0→∃ y,rl p x=some y∧bh (Cd.insAt c p) x=some y∧P y))→∀ o:Option Ck.Fr,(∀ x,o=some x→P x) →
   Pk.walk mp lkP bh (ps.map (Cd.insAt c)) o=Ck.pass (fun p=>mp (p:Int)) rl (fun p=>Ck.goes (c.getD p 0)) lk ps o
 | [],_,_,_=>rfl
 | p :: r,h,o,ho=>by
  have ih:=Ny mp rl lk c lkP bh P hPm r (fun q hq=>h q (by simp [hq]));rw [List.map_cons,Pk.walk,Ck.pass];have e1:(Cd.insAt c p).place=(p:Int):=rfl;have e2:(Cd.insAt c p).op=c.getD p 0:=rfl;rw [e1,e2];cases hm:(mp (p:Int)).or o with
  | none=>exact ih none (fun x hx=>by cases hx)
  | some x =>
   have hPx:P x:=by
    cases hq:mp (p:Int) with
    | none=>rw [hq] at hm;exact ho x hm
    | some z=>rw [hq] at hm;obtain rfl:=Option.some.inj hm;exact hPm _ _ hq
   obtain ⟨g1,g2⟩:=h p (by simp) x hPx;simp only;rw [g1];by_cases hz:lk p x=0
   ·rw [if_neg (show ¬ lk p x ≠ 0 from fun g=>g hz),if_neg (show ¬ lk p x ≠ 0 from fun g=>g hz)];obtain ⟨y,hy1,hy2,hPy⟩:=g2 hz;have hst:Ck.step (fun p=>mp (p:Int)) rl (fun p=>Ck.goes (c.getD p 0)) p o=if Ck.goes (c.getD p 0)=true then some y else none:=by
     unfold Ck.step;simp only;rw [hm];simp only [Option.bind_some];rw [hy1];rfl
    rw [hst,hy2];refine ih _ (fun x' hx'=>?_)
    split at hx'
    ·obtain rfl:=Option.some.inj hx';exact hPy
    ·cases hx'
   ·rw [if_pos (show lk p x ≠ 0 from hz),if_pos (show lk p x ≠ 0 from hz)]
theorem Pt {T:List Int} (hT:Tr.Ok T) (mp:Int→Option Ck.Fr) (rl:Nat→Ck.Fr→Option Ck.Fr) (lk:Nat→Ck.Fr→Int) (c:List Int) (lkP:Cd.Ins→Ck.Fr→Int) (bh:Cd.Ins→Ck.Fr→Option Ck.Fr) (P:Ck.Fr→Prop) (hPA:∀ x,P x→Ck.argF T x) (hPm:∀ q z,mp q=some z→P z) (x0:Ck.Fr) (hP0:P x0)
  (h:∀ p∈Cd.places c,∀ x,P x→lkP (Cd.insAt c p) x=lk p x∧(lk p x=0→∃ y,rl p x=some y∧bh (Cd.insAt c p) x=some y∧P y)) :
  Pk.find T mp lkP bh (Cd.insts c) x0=Ck.checked T (mp 0) x0 (fun q=>Ck.ahead (fun p=>mp (p:Int)) rl (fun p=>Ck.goes (c.getD p 0)) q (Cd.places c) (some x0)) lk (Cd.places c):=by
 unfold Pk.find Ck.checked Cd.insts;have hl:=Is (fun p=>mp (p:Int)) rl (fun p=>Ck.goes (c.getD p 0)) lk (some x0) (Cd.places c) [] (by simpa using Nc c);simp only [List.nil_append,List.foldl_nil] at hl;rw [hl,Ny mp rl lk c lkP bh P hPm (Cd.places c) h (some x0) (fun x hx=>by obtain rfl:=Option.some.inj hx;exact hP0)];cases hm:mp 0 with
 | none=>rw [Iz hm,if_neg (show ¬ true=false by decide),if_neg (show ¬ ((none:Option Ck.Fr).isSome=true∧Ck.frameFits T x0 (Ck.orNone none)=false) by simp)]
 | some z =>
  have e3:Ck.orNone (some z)=z:=rfl;rw [Ep hT hm (hPA _ hP0) (hPA _ (hPm _ _ hm)),e3];cases hf:Ck.frameFits T x0 z with
  | false=>rw [if_pos rfl,if_pos (show (some z).isSome=true∧false=false from ⟨rfl,rfl⟩)]
  | true=>rw [if_neg (show ¬ true=false by decide),if_neg (show ¬ ((some z).isSome=true∧true=false) by simp)]
theorem Lj (f g:Rd.Mth→Int × Int):∀ (ms:List Rd.Mth) (k:Nat),(∀ m∈ms,f m=g m)→Pk.firstOf f k ms=Ck.firstOf g k ms
 | [],_,_=>rfl
 | m :: r,k,h=>by rw [Pk.firstOf,Ck.firstOf,h m (by simp),Lj f g r (k+1) (fun x hx=>h x (by simp [hx]))]
theorem M4 {T:List Int}{ms:List Rd.Mth}:∀ (l:List Rd.Mth) (k:Nat),Fm.heads T ms k l < 0→∀ m∈l,∃ j,Fm.headOk T ms j m=true
 | [],_,_=>by simp
 | m :: r,k,h=>by
  rw [Fm.heads] at h;by_cases h1:Fm.headOk T ms k m=false
  ·rw [if_pos h1] at h;omega
  ·rw [if_neg h1] at h;intro x hx;rcases List.mem_cons.1 hx with rfl | hx
   ·exact ⟨k,by simpa using h1⟩
   ·exact M4 r _ h x hx
theorem Me {T:List Int}{nf:Int}{ow:List Int}:∀ (l:List Rd.Mth) (k:Nat),(Fm.bodies T nf ow k l).1=0→∀ m∈l,(Fm.body T nf ow m).1=0
 | [],_,_=>by simp
 | m :: r,k,h=>by
  rw [Fm.bodies] at h;by_cases h1:(Fm.body T nf ow m).1 ≠ 0
  ·rw [if_pos h1] at h;exact absurd h h1
  ·rw [if_neg h1] at h;intro x hx;rcases List.mem_cons.1 hx with rfl | hx
   ·simpa using h1
   ·exact Me r _ h x hx
theorem Pc {T:List Int}:∀ (l:List Rd.Cls) (k:Nat),(Tr.inCl T k l).1=0→∀ c∈l,Tr.allPlainB T c.fields=true
 | [],_,_=>by simp
 | c :: r,k,h=>by
  rw [Tr.inCl] at h;by_cases h1:7+(k:Int)≤c.above
  ·rw [if_pos h1] at h;simp at h
  ·rw [if_neg h1] at h;by_cases h2:Tr.allPlainB T c.fields=false
   ·rw [if_pos h2] at h;simp at h
   ·rw [if_neg h2] at h;intro x hx;rcases List.mem_cons.1 hx with rfl | hx
    ·simpa using h2
    ·exact Pc r _ h x hx
theorem Jz {α:Type}{f:α→Bool}:∀ (l:List α) (k:Nat),Cd.firstIx f k l < 0→∀ x∈l,f x=false
 | [],_,_=>by simp
 | x :: r,k,h=>by
  rw [Cd.firstIx] at h;by_cases h1:f x=true
  ·rw [if_pos h1] at h;omega
  ·rw [if_neg h1] at h;intro y hy;rcases List.mem_cons.1 hy with rfl | hy
   ·simpa using h1
   ·exact Jz r _ h y hy
theorem J9 {T c:List Int}:∀ (l:List Rd.Mp) (i:Nat) (last:Int),Cd.mapsBad T c i last l < 0→∀ x∈l,Cd.frAll T c x.locals=true∧Cd.frAll T c x.stack=true∧Cd.begB c x.place=true
 | [],_,_,_=>by simp
 | m :: r,i,last,h=>by
  rw [Cd.mapsBad] at h;by_cases h1:Cd.begB c m.place=false
  ·rw [if_pos h1] at h;omega
  ·rw [if_neg h1] at h;by_cases h2:m.place≤last
   ·rw [if_pos h2] at h;omega
   ·rw [if_neg h2] at h;by_cases h3:Cd.frAll T c m.locals=false
    ·rw [if_pos h3] at h;omega
    ·rw [if_neg h3] at h;by_cases h4:Cd.frAll T c m.stack=false
     ·rw [if_pos h4] at h;omega
     ·rw [if_neg h4] at h;intro y hy;rcases List.mem_cons.1 hy with rfl | hy
      ·exact ⟨by simpa using h3,by simpa using h4,by simpa using h1⟩
      ·exact J9 r _ _ h y hy
structure Pf.MRd (m:Rd.Mth):Prop where
 lo:0≤m.locals∧m.locals≤8
 st:0≤m.stack∧m.stack≤8
 ml:∀ q∈m.maps,q.locals.length=m.locals.toNat∧(q.stack.length:Int)≤m.stack
 c255:∀ x∈m.code,x≤255
theorem Zw (s:List UInt8) (L H:Int) (hH:0≤H) (t:Rd.St):(Rd.mp s L H t).1.locals.length=L.toNat∧((Rd.mp s L H t).1.stack.length:Int)≤H:=by
 simp only [Rd.mp,Rd.tys,Rd.rep_len];have:=Rd.cn_bd s 0 H (Rd.rep (Rd.ty s) L.toNat (Rd.nx s t).2).2 hH;exact ⟨trivial,by omega⟩
theorem Z4 (s:List UInt8) (t:Rd.St):Pf.MRd (Rd.mth s t).1:=by
 simp only [Rd.mth];generalize (Rd.nx s (Rd.nx s t).2).2=t1;generalize Rd.cn s 0 4 t1=p at *;generalize (Rd.tys s p.1.toNat p.2).2=t2;generalize (Rd.ty s t2).2=t3;have h2:=Rd.cn_bd s 0 8 t3 (by omega);generalize Rd.cn s 0 8 t3=l at *;have h3:=Rd.cn_bd s 0 8 l.2 (by omega);generalize Rd.cn s 0 8 l.2=h at *;refine ⟨h2,h3,?_,by simp only [Rd.codes];exact Ei (fun x:Int=>x≤255) _ (fun t=>(Rd.nx_bd s t).2) _ _⟩;simp only [Rd.mps];exact Ei (fun q:Rd.Mp=>q.locals.length=l.1.toNat∧(q.stack.length:Int)≤h.1) _ (fun t=>Zw s l.1 h.1 h3.1 t) _ _
theorem Zq (s:List UInt8):∀ m∈(Rd.read s).1.methods,Pf.MRd m:=by
 unfold Rd.read
 split
 ·simp
 ·split
  ·simp
  ·simp only [Rd.fil];exact Ei Pf.MRd _ (fun t=>Z4 s t) _ _
structure Fm.Good (T:List Int) (nf:Int) (ms:List Rd.Mth) (m:Rd.Mth):Prop where
 bd:Pf.MBd m
 rd:Pf.MRd m
 unread:Cd.unread m.code < 0
 arg:∀ p∈Cd.places m.code,Cd.argAt T nf (ms.map Rd.Mth.cl) m.locals m.code p=true
 hnd:∀ h∈m.handlers,Cd.hndBad T m.code h=false
 map:∀ q∈m.maps,Cd.frAll T m.code q.locals=true∧Cd.frAll T m.code q.stack=true∧Cd.begB m.code q.place=true
 cl:m.cl=255∨Tr.hasB T m.cl=true
 res:Tr.plainB T m.result.1 m.result.2=true∨m.result=(0,0)
 ps:Tr.allPlainB T m.params=true
 own:((Ck.own m.cl m.params).length:Int)≤m.locals
theorem Ue {T:List Int}{nf:Int}{ms:List Rd.Mth}{m:Rd.Mth} (hb:Pf.MBd m) (hr:Pf.MRd m) (hh:∃ j,Fm.headOk T ms j m=true) (h:(Fm.body T nf (ms.map Rd.Mth.cl) m).1=0):Fm.Good T nf ms m:=by
 unfold Fm.body at h;by_cases h1:0≤Cd.badCode T nf (ms.map Rd.Mth.cl) m.locals m.code
 ·rw [if_pos h1] at h;simp at h
 rw [if_neg h1] at h;by_cases h2:0≤Cd.firstIx (Cd.hndBad T m.code) 0 m.handlers
 ·rw [if_pos h2] at h;simp at h
 rw [if_neg h2] at h;by_cases h3:0≤Cd.mapsBad T m.code 0 (-1) m.maps
 ·rw [if_pos h3] at h;simp at h
 unfold Cd.badCode at h1;have hu:Cd.unread m.code < 0:=by
  by_cases hu:0≤Cd.unread m.code
  ·rw [if_pos hu] at h1;exact absurd hu h1
  ·omega
 rw [if_neg (by omega)] at h1;obtain ⟨j,hj⟩:=hh;unfold Fm.headOk Hd.headB at hj;by_cases g1:Hd.bad1 T m.cl m.name m.result.1 m.result.2=true
 ·rw [if_pos g1] at hj;simp at hj
 rw [if_neg g1] at hj;by_cases g2:Tr.allPlainB T m.params=false
 ·rw [if_pos g2] at hj;simp at hj
 rw [if_neg g2] at hj;by_cases g3:Hd.bad3 m.cl m.locals m.params=true
 ·rw [if_pos g3] at hj;simp at hj
 unfold Hd.bad1 at g1;unfold Hd.bad3 at g3;simp only [Bool.or_eq_true,Bool.and_eq_true,decide_eq_true_eq,Bool.not_eq_true',decide_eq_false_iff_not,not_or,not_and] at g1 g3;have g4:Cd.firstIx (Cd.hndBad T m.code) 0 m.handlers < 0:=by omega
 have g5:Cd.mapsBad T m.code 0 (-1) m.maps < 0:=by omega
 have g6:Cd.first (Cd.badArg T nf (ms.map Rd.Mth.cl) m.locals m.code) (Cd.places m.code) < 0:=by omega
 refine ⟨hb,hr,hu,?_,Jz _ _ g4,J9 _ _ _ g5,?_,?_,by simpa using g2,?_⟩
 ·intro p hp;have:=Iv g6 p hp;unfold Cd.badArg at this
  simpa using this
 ·by_cases h255:m.cl=255
  ·exact .inl h255
  ·have:=g1.1;rw [if_neg h255] at this;simp at this;exact .inr this.1
 ·by_cases hp:Tr.plainB T m.result.1 m.result.2=true
  ·exact .inl hp
  ·have:=g1.2 (by simpa using hp);exact .inr (by simpa [Prod.ext_iff] using this)
 ·unfold Ck.own;by_cases h255:m.cl=255
  ·rw [if_pos h255];simp;omega
  ·rw [if_neg h255];have:=g3.2 h255
   simp;omega
structure Fm.Ok (cs:List Rd.Cls) (ms:List Rd.Mth):Prop where
 ok:Tr.Ok (Tr.tree cs)
 l6:cs.length≤6
 m6:ms.length≤6
 fn:∀ c∈cs,c.fields.length≤1000
 fl:∀ c∈cs,Tr.allPlainB (Tr.tree cs) c.fields=true
 mt:∀ m∈ms,Fm.Good (Tr.tree cs) (Cd.fieldSum cs:Int) ms m
theorem Bj (s:List UInt8) (h:(Rf.formed s).1=0):Fm.Ok (Rd.read s).1.classes (Rd.read s).1.methods∧(Rf.fil s).1=(Rd.read s).1.classes∧(Rf.fil s).2.1.map Rf.Mth.m=(Rd.read s).1.methods:=by
 rw [← Cp] at h;obtain ⟨hc6,hfn⟩:=Hq s;obtain ⟨hm6,hmb⟩:=Gu s;have hrd:=Zq s;unfold Pf.read at h;by_cases h0:(Rd.read s).2 ≠ 0
 ·rw [if_pos h0] at h;exact absurd h h0
 rw [if_neg h0] at h;obtain ⟨e1,e2⟩:=(Ib s).2 (by simpa using h0);refine ⟨?_,e1.symm,e2.symm⟩;unfold Pf.find at h;by_cases h1:(Tr.inCl (Tr.tree (Rd.read s).1.classes) 0 (Rd.read s).1.classes).1 ≠ 0
 ·rw [if_pos h1] at h;exact absurd h h1
 rw [if_neg h1] at h;have h1':(Tr.inCl (Tr.tree (Rd.read s).1.classes) 0 (Rd.read s).1.classes).1=0:=by simpa using h1
 have hT:=Rl _ (Oe s) h1';have hTl:=Ca (Rd.read s).1.classes;rw [Q0 hT (by omega) (by omega) _ _ (fun o ho=>(hmb o ho).cl) (fun m hm=>(hmb m hm).code0)] at h;unfold Fm.rest at h;by_cases h2:0≤Fm.heads (Tr.tree (Rd.read s).1.classes) (Rd.read s).1.methods 0 (Rd.read s).1.methods
 ·rw [if_pos h2] at h;simp at h
 rw [if_neg h2] at h;have h3:Fm.heads (Tr.tree (Rd.read s).1.classes) (Rd.read s).1.methods 0 (Rd.read s).1.methods < 0:=by omega
 exact ⟨hT,hc6,hm6,hfn,Pc _ _ h1',fun m hm=>Ue (hmb m hm) (hrd m hm) (M4 _ _ h3 m hm) (Me _ _ h m hm)⟩
def Cd.atI (c:List Int) (i:Int):Int:=if i < 0 then -1 else if (c.length:Int)≤i then -1 else c.getD i.toNat 0
theorem Mi (c:List Int) (p:Nat):Cd.nAt c p=Cd.atI c ((p:Int)+1):=by
 unfold Cd.nAt Cd.atI;rw [if_neg (show ¬ (p:Int)+1 < 0 by omega)];by_cases h:p+1 < c.length
 ·rw [if_pos h,if_neg (by omega)]
  congr 1
 ·rw [if_neg h,if_pos (by omega)]
theorem Cz {c:List Int} (h:Cd.unread c < 0):∀ p∈Cd.places c,c.getD p 0≤25∧p+Cd.wd (c.getD p 0)≤c.length:=by
 intro p hp;have:=Iv h p hp;unfold Cd.noRead at this;simp at this
 simpa using this
theorem H6 {c:List Int}{p:Nat} (h:p+Cd.wd (c.getD p 0)≤c.length) (h2:Cd.wd (c.getD p 0)=2):(Cd.insAt c p).n=Cd.atI c ((p:Int)+1)∧Cd.atI c ((p:Int)+1)=c.getD (p+1) 0:=by
 have:Cd.atI c ((p:Int)+1)=c.getD (p+1) 0:=by
  rw [← Mi];unfold Cd.nAt;rw [if_pos (by omega)]
 refine ⟨?_,this⟩;rw [this];unfold Cd.insAt;simp only;rw [if_pos h2]
theorem Yx {T:List Int}{F:List Rf.Fld}{ms:List Rd.Mth}{want:Int→List (Int × Int)}{arg:Int→Int}{res:Int × Int}{p op:Int}{x:Ck.Fr} (h:Cd.wd op=1) (n n':Int) :
  Ck.moved T F ms want arg res p op n x=Ck.moved T F ms want arg res p op n' x:=by
 have h':¬ (op=0∨op=2∨op=3∨(11≤op∧op≤21)):=by
  intro g;unfold Cd.wd at h;rw [if_pos g] at h;omega
 have e1:Ck.takes F ms res op n=Ck.takes F ms res op n':=by
  unfold Ck.takes;simp only [show op ≠ 17 by omega,show op ≠ 18 by omega,show op ≠ 20 by omega,show op ≠ 21 by omega,if_false]
 have e2:Ck.leaves F ms op n=Ck.leaves F ms op n':=by
  unfold Ck.leaves;simp only [show op ≠ 17 by omega,show op ≠ 19 by omega,show op ≠ 20 by omega,show op ≠ 21 by omega,if_false,false_or]
 unfold Ck.moved;rw [e1,e2];simp only [show op ≠ 2 by omega,show op ≠ 3 by omega,show op ≠ 16 by omega,if_false]
theorem Aaq {T:List Int}{mp:Int→Option Ck.Fr}{H:Int}{R:Option Ck.Fr}{op nxt len:Int} (h:Cd.wd op=1) (n n':Int):Ck.look T mp H R op n nxt len=Ck.look T mp H R op n' nxt len:=by
 have h':¬ (op=0∨op=2∨op=3∨(11≤op∧op≤21)):=by
  intro g;unfold Cd.wd at h;rw [if_pos g] at h;omega
 have e:Ck.jumps op=false:=by unfold Ck.jumps;simp;omega
 unfold Ck.look;simp only [e,Bool.false_eq_true,false_and,if_false]
theorem Ek {T:List Int}{n:Int}:Tr.hasB T n=true↔0≤n∧n < (T.length:Int):=by unfold Tr.hasB;simp
theorem Ct {T:List Int}{t:Int × Int} (h:Tr.plainB T t.1 t.2=true):Tr.Arg T t.1 t.2∧t.1 ≠ 4:=by
 unfold Tr.plainB at h;by_cases h1:t.1=1
 ·rw [if_pos h1] at h;exact ⟨.inr (.inl ⟨h1,by simpa using h⟩),by omega⟩
 ·rw [if_neg h1] at h;by_cases h3:t.1=3
  ·rw [if_pos h3] at h;exact ⟨.inr (.inr (.inr (.inl ⟨h3,Ek.1 h⟩))),by omega⟩
  ·rw [if_neg h3] at h;simp at h
theorem Km {T:List Int}{isN:Int→Prop}{t:Int × Int} (h:Tr.plainB T t.1 t.2=true):Ck.tyOk T isN t:=⟨(Ct h).1,fun g=>absurd g (Ct h).2⟩
theorem Em {T:List Int}{l:List (Int × Int)} (h:Tr.allPlainB T l=true):∀ t∈l,Tr.plainB T t.1 t.2=true:=fun t ht=>by
 unfold Tr.allPlainB at h;exact List.all_eq_true.1 h t ht
theorem Df {T:List Int}{n:Int} (h:0≤n∧n < (T.length:Int)):Tr.Arg T 3 n:=.inr (.inr (.inr (.inl ⟨rfl,h⟩)))
theorem Mx {T:List Int}{r:Int × Int} (h:Tr.plainB T r.1 r.2=true∨r=(0,0)):∀ t∈Ck.gives r,Tr.plainB T t.1 t.2=true:=by
 intro t ht;unfold Ck.gives at ht
 split at ht
 ·simp at ht
 ·rename_i h0;obtain rfl:=List.mem_singleton.1 ht;rcases h with h | h
  ·exact h
  ·rw [h] at h0;exact absurd rfl h0
theorem Ng {c base:Int}{own:List (Int × Int)}:∀ (k:Nat),k≤own.length→∀ f∈Rf.ownTo c base own k,f.owner=c∧f.t∈own
 | 0,_=>by simp [Rf.ownTo]
 | k+1,h=>by
  intro f hf;rw [Rf.ownTo] at hf;rcases List.mem_append.1 hf with hf | hf
  ·exact Ng k (by omega) f hf
  ·obtain rfl:=List.mem_singleton.1 hf;exact ⟨rfl,Cf (by omega)⟩
theorem Ef:Rf.given.length=7:=rfl
theorem Xl (cs:List Rd.Cls) (j:Nat):(Rf.given ++ cs).getD (7+j) ⟨0,[]⟩=cs.getD j ⟨0,[]⟩:=by
 rw [List.getD_eq_getElem?_getD,List.getElem?_append_right (by rw [Ef];omega),Ef,← List.getD_eq_getElem?_getD]
 congr 1;omega
theorem Gf (cs:List Rd.Cls) (i:Nat) (h:i < 7):((Rf.given ++ cs).getD i ⟨0,[]⟩).fields=[]:=by
 rw [List.getD_eq_getElem?_getD,List.getElem?_append_left (by rw [Ef];omega)];have:i=0∨i=1∨i=2∨i=3∨i=4∨i=5∨i=6:=by omega
 rcases this with rfl | rfl | rfl | rfl | rfl | rfl | rfl <;> rfl
theorem Nr {T:List Int}{cs:List Rd.Cls} (h:∀ c∈cs,Tr.allPlainB T c.fields=true) (d:Nat):∀ t∈((Rf.given ++ cs).getD d ⟨0,[]⟩).fields,Tr.plainB T t.1 t.2=true:=by
 by_cases h7:d < 7
 ·rw [Gf cs d h7];simp
 ·obtain ⟨j,rfl⟩:∃ j,d=7+j:=⟨d - 7,by omega⟩;rw [Xl];by_cases hj:j < cs.length
  ·exact Em (h _ (Cf hj))
  ·rw [List.getD_eq_getElem?_getD,List.getElem?_eq_none (by omega)];simp
theorem Mc {T:List Int}{cs:List Rd.Cls} (h:∀ c∈cs,Tr.allPlainB T c.fields=true):∀ (j:Nat),∀ f∈Rf.fieldsTo T (Rf.given ++ cs) j,(7≤f.owner∧f.owner < 7+(j:Int))∧Tr.plainB T f.t.1 f.t.2=true
 | 0=>by simp [Rf.fieldsTo]
 | j+1=>by
  intro f hf;rw [Rf.fieldsTo] at hf;rcases List.mem_append.1 hf with hf | hf
  ·obtain ⟨a,b⟩:=Mc h j f hf;exact ⟨by omega,b⟩
  ·unfold Rf.ownOf at hf;obtain ⟨a,b⟩:=Ng _ (Nat.le_refl _) f hf;exact ⟨by omega,Nr h _ _ b⟩
theorem I9 {T:List Int}{cs:List Rd.Cls} (h:∀ c∈cs,Tr.allPlainB T c.fields=true) (c:Int):∀ (d:Nat),∀ t∈Rf.allTo T (Rf.given ++ cs) c d,Tr.plainB T t.1 t.2=true
 | 0=>by simp [Rf.allTo]
 | d+1=>by
  intro t ht;rw [Rf.allTo] at ht;rcases List.mem_append.1 ht with ht | ht
  ·exact I9 h c d t ht
  ·split at ht
   ·exact Nr h d t ht
   ·simp at ht
def Ck.isN (c:List Int) (q:Int):Prop:=Cd.begB c q=true∧c.getD q.toNat 0=15
def Ck.P (T:List Int) (m:Rd.Mth) (x:Ck.Fr):Prop:=Ck.Inv T m.locals.toNat m.stack (Ck.isN m.code) x
def Ck.flds (cs:List Rd.Cls):List Rf.Fld:=Rf.fieldsTo (Tr.tree cs) (Rf.given ++ cs) cs.length
def Ck.mMap (m:Rd.Mth) (q:Int):Option Ck.Fr:=Ck.mapAt q m.maps
def Ck.mStart (m:Rd.Mth):Ck.Fr:=Ck.start m.cl m.params m.locals.toNat
def Ck.mRule (cs:List Rd.Cls) (ms:List Rd.Mth) (m:Rd.Mth) (p:Nat) (x:Ck.Fr):Option Ck.Fr :=
 Ck.rule m.stack (Ck.moved (Tr.tree cs) (Ck.flds cs) ms (fun c=>Rf.all (Tr.tree cs) (Rf.given ++ cs) c.toNat) (fun q=>Cd.atI m.code (q+1)) m.result (p:Int) (m.code.getD p 0) (Cd.atI m.code ((p:Int)+1)) x)
def Ck.mLook (cs:List Rd.Cls) (ms:List Rd.Mth) (m:Rd.Mth) (p:Nat) (x:Ck.Fr):Int :=
 Ck.look (Tr.tree cs) (Ck.mMap m) (Ck.handlers (Tr.tree cs) (Ck.mMap m) (p:Int) x.locals m.handlers) (Ck.mRule cs ms m p x) (m.code.getD p 0) (Cd.atI m.code ((p:Int)+1)) ((p+Cd.wd (m.code.getD p 0):Nat):Int) (m.code.length:Int)
def Ck.mAhead (cs:List Rd.Cls) (ms:List Rd.Mth) (m:Rd.Mth) (q:Nat):Option Ck.Fr :=
 Ck.ahead (fun p=>Ck.mMap m (p:Int)) (Ck.mRule cs ms m) (fun p=>Ck.goes (m.code.getD p 0)) q (Cd.places m.code) (some (Ck.mStart m))
def Ck.mChecked (cs:List Rd.Cls) (ms:List Rd.Mth) (m:Rd.Mth):Int × Int :=
 Ck.checked (Tr.tree cs) (Ck.mMap m 0) (Ck.mStart m) (Ck.mAhead cs ms m) (Ck.mLook cs ms m) (Cd.places m.code)
def Pk.mFs (cs:List Rd.Cls):List (List (Int × Int)):=(Rf.given ++ cs).map Rd.Cls.fields
def Pk.mBehind (cs:List Rd.Cls) (ms:List Rd.Mth) (m:Rd.Mth) (i:Cd.Ins) (x:Ck.Fr):Option Ck.Fr :=
 Pk.behind (Tr.tree cs) m.stack (Pk.takes (Pk.mFs cs) ms m.result i.op i.n) (Pk.leaves (Pk.mFs cs) ms i.op i.n) (Pk.fieldsOf (Tr.tree cs) (Pk.mFs cs) i.n) (Pk.isNew (Cd.readL m.code) i.n) i.place i.op i.n x
def Pk.mLook (cs:List Rd.Cls) (ms:List Rd.Mth) (m:Rd.Mth) (i:Cd.Ins) (x:Ck.Fr):Int :=
 Pk.look (Tr.tree cs) (Ck.mMap m) (Pk.handlers (Tr.tree cs) (Ck.mMap m) i.place x.locals m.handlers) (Pk.mBehind cs ms m i x) i.op i.n ((i.place.toNat+Cd.wd i.op:Nat):Int) (m.code.length:Int)
def Pk.mFind (cs:List Rd.Cls) (ms:List Rd.Mth) (m:Rd.Mth):Int × Int :=
 Pk.find (Tr.tree cs) (Ck.mMap m) (Pk.mLook cs ms m) (Pk.mBehind cs ms m) (Cd.readL m.code) (Ck.mStart m)
theorem D7 {T:List Int}{m:Rd.Mth}{x:Ck.Fr} (h:Ck.P T m x):Ck.argF T x:=⟨fun t ht=>(h.tl t ht).1,fun t ht=>(h.ts t ht).1⟩
theorem Vt {l:List Rd.Mp}{q:Int}{z:Ck.Fr} (h:Ck.mapAt q l=some z):∃ y∈l,z=⟨y.locals,y.stack⟩:=by
 induction l with
 | nil=>simp [Ck.mapAt] at h
 | cons y r ih =>
  rw [Ck.mapAt] at h
  split at h
  ·exact ⟨y,by simp,(Option.some.inj h).symm⟩
  ·obtain ⟨y',hy,e⟩:=ih h;exact ⟨y',by simp [hy],e⟩
theorem Iq {T c:List Int} (hc:c.length≤120) {t:Int × Int} (h:Cd.framed T c t.1 t.2=true):Ck.tyOk T (Ck.isN c) t:=by
 unfold Cd.framed at h;by_cases h0:t.1=0∨t.1=1∨t.1=2
 ·rw [if_pos h0] at h;have:t.2=0:=by simpa using h
  refine ⟨?_,fun g=>by omega⟩;rcases h0 with h0 | h0 | h0
  ·exact .inl ⟨h0,this⟩
  ·exact .inr (.inl ⟨h0,this⟩)
  ·exact .inr (.inr (.inl ⟨h0,this⟩))
 rw [if_neg h0] at h;by_cases h3:t.1=3
 ·rw [if_pos h3] at h;exact ⟨by rw [h3];exact Df (Ek.1 h),fun g=>by omega⟩
 rw [if_neg h3] at h;by_cases h4:t.1=4
 ·rw [if_pos h4] at h;simp only [Bool.and_eq_true,beq_iff_eq] at h;have:=Ej h.1;exact ⟨.inr (.inr (.inr (.inr ⟨h4,by omega,by omega⟩))),fun _=>h⟩
 ·rw [if_neg h4] at h;simp at h
theorem Pp {T c:List Int} (hc:c.length≤120) {l:List (Int × Int)} (h:Cd.frAll T c l=true):∀ t∈l,Ck.tyOk T (Ck.isN c) t:=fun t ht=>Iq hc (List.all_eq_true.1 h t ht)
theorem Fk {T:List Int}{nf:Int}{ms:List Rd.Mth}{m:Rd.Mth} (g:Fm.Good T nf ms m) {q:Int}{z:Ck.Fr} (h:Ck.mMap m q=some z):Ck.P T m z:=by
 obtain ⟨y,hy,rfl⟩:=Vt h;obtain ⟨a,b,_⟩:=g.map y hy;obtain ⟨c,d⟩:=g.rd.ml y hy;exact ⟨c,d,Pp g.bd.code a,Pp g.bd.code b⟩
theorem Gd {T:List Int}{nf:Int}{ms:List Rd.Mth}{m:Rd.Mth} (g:Fm.Good T nf ms m):Ck.P T m (Ck.mStart m):=by
 have h1:=g.own;have h2:=g.rd.lo;have h3:=g.rd.st;refine ⟨?_,by simpa [Ck.mStart,Ck.start] using h3.1,?_,by simp [Ck.mStart,Ck.start]⟩
 ·simp only [Ck.mStart,Ck.start,List.length_append,List.length_replicate];omega
 ·intro t ht;simp only [Ck.mStart,Ck.start] at ht;rcases List.mem_append.1 ht with ht | ht
  ·unfold Ck.own at ht;rcases List.mem_append.1 ht with ht | ht
   ·split at ht
    ·simp at ht
    ·rename_i h255;obtain rfl:=List.mem_singleton.1 ht;exact ⟨Df (Ek.1 (g.cl.resolve_left h255)),fun h=>by simp at h⟩
   ·exact Km (Em g.ps t ht)
  ·rw [(List.mem_replicate.1 ht).2];exact Kj _ _
structure Fm.Num (T:List Int) (nf:Int) (ms:List Rd.Mth) (m:Rd.Mth) (op n:Int):Prop where
 loc:op=2∨op=3→0≤n∧n < m.locals
 cls:op=15∨op=16∨op=19→0≤n∧n < (T.length:Int)
 fld:op=17∨op=18→0≤n∧n < nf
 mth:op=20∨op=21→0≤n∧n < (ms.length:Int)
 own:op=21→(ms.getD n.toNat ⟨0,0,[],(0,0),0,0,[],[],[]⟩).cl ≠ 255
theorem Lf {T:List Int}{nf:Int}{ms:List Rd.Mth}{m:Rd.Mth} (g:Fm.Good T nf ms m) {p:Nat} (hp:p∈Cd.places m.code):Fm.Num T nf ms m (m.code.getD p 0) (Cd.atI m.code ((p:Int)+1)):=by
 have ha:=g.arg p hp;obtain ⟨h25,hw⟩:=Cz g.unread p hp;unfold Cd.argAt at ha;rw [Mi] at ha;have hpos:Cd.wd (m.code.getD p 0)=2→0≤Cd.atI m.code ((p:Int)+1):=fun h2=>by
  rw [(H6 hw h2).2];exact H5 g.bd.code0 _
 generalize Cd.atI m.code ((p:Int)+1)=n at *;generalize m.code.getD p 0=op at *;have hwd:op=2∨op=3∨(11≤op∧op≤21)→0≤n:=fun h=>hpos (by unfold Cd.wd;rw [if_pos (by omega)]);unfold Cd.argB at ha;refine ⟨fun h=>?_,fun h=>?_,fun h=>?_,fun h=>?_,fun h=>?_⟩
 ·rw [if_pos h] at ha;exact ⟨hwd (by omega),by simpa using ha⟩
 ·rw [if_neg (by omega),if_neg (by omega),if_pos h] at ha;exact Ek.1 ha
 ·rw [if_neg (by omega),if_neg (by omega),if_neg (by omega),if_pos h] at ha;exact ⟨hwd (by omega),by simpa using ha⟩
 ·refine ⟨hwd (by omega),?_⟩;rw [if_neg (by omega),if_neg (by omega),if_neg (by omega),if_neg (by omega)] at ha;rcases h with h | h
  ·rw [if_pos h] at ha;simp at ha;exact_mod_cast ha.1
  ·rw [if_neg (by omega),if_pos h] at ha;simp at ha;exact_mod_cast ha.1
 ·have h0:=hwd (by omega);rw [if_neg (by omega),if_neg (by omega),if_neg (by omega),if_neg (by omega),if_neg (by omega),if_pos h] at ha;simp only [Bool.and_eq_true,decide_eq_true_eq,bne_iff_ne,ne_eq,List.length_map] at ha;have e:(List.map Rd.Mth.cl ms).getD n.toNat 0=(ms.getD n.toNat ⟨0,0,[],(0,0),0,0,[],[],[]⟩).cl:=by
   simp only [List.getD_eq_getElem?_getD,List.getElem?_map];have:n.toNat < ms.length:=by omega
   rw [List.getElem?_eq_getElem this];rfl
  rw [e] at ha;exact ha.2
theorem O1 (cs:List Rd.Cls):((Ck.flds cs).length:Int)=(Cd.fieldSum cs:Int):=by
 have:=Cd.fields_eq (Tr.tree cs) cs cs.length (Nat.le_refl _);rw [List.take_length] at this;unfold Ck.flds;rw [this]
theorem Pe {cs:List Rd.Cls}{ms:List Rd.Mth} (k:Fm.Ok cs ms) {n:Int} (h:0≤n∧n < (Cd.fieldSum cs:Int)):(0≤((Ck.flds cs).getD n.toNat ⟨0,0,(0,0)⟩).owner∧((Ck.flds cs).getD n.toNat ⟨0,0,(0,0)⟩).owner < ((Tr.tree cs).length:Int)) ∧
  Tr.plainB (Tr.tree cs) ((Ck.flds cs).getD n.toNat ⟨0,0,(0,0)⟩).t.1 ((Ck.flds cs).getD n.toNat ⟨0,0,(0,0)⟩).t.2=true:=by
 have hl:=O1 cs;have:=Mc k.fl cs.length _ (show (Ck.flds cs).getD n.toNat ⟨0,0,(0,0)⟩∈Ck.flds cs from Cf (by omega));have hT:=Ca cs;exact ⟨by omega,this.2⟩
theorem Nd {cs:List Rd.Cls}{ms:List Rd.Mth} (k:Fm.Ok cs ms) {m:Rd.Mth}{op n:Int} (hm:m∈ms) (h:Fm.Num (Tr.tree cs) (Cd.fieldSum cs:Int) ms m op n):∀ t∈Ck.takes (Ck.flds cs) ms m.result op n,Tr.Arg (Tr.tree cs) t.1 t.2:=by
 have hT:=Ca cs;have g:=k.mt m hm;unfold Ck.takes;intro t ht
 split at ht
 ·simp at ht;rw [ht];exact .inr (.inl ⟨rfl,rfl⟩)
 split at ht
 ·simp at ht;rw [ht];exact .inr (.inl ⟨rfl,rfl⟩)
 split at ht
 ·simp at ht;rw [ht];exact Df ⟨by simp,by simp;omega⟩
 split at ht
 ·rename_i h17;obtain rfl:=List.mem_singleton.1 ht;exact Df (Pe k (h.fld (.inl h17))).1
 split at ht
 ·rename_i h18;have:=Pe k (h.fld (.inr h18));simp only [List.mem_cons,List.not_mem_nil,or_false] at ht;rcases ht with rfl | rfl
  ·exact Df this.1
  ·exact (Ct this.2).1
 split at ht
 ·rename_i h20;have:=h.mth (.inl h20);exact (Ct (Em (k.mt _ (Cf (show n.toNat < ms.length by omega))).ps t ht)).1
 split at ht
 ·rename_i h21;have h1:=h.mth (.inr h21);have g':=k.mt _ (Cf (d:=⟨0,0,[],(0,0),0,0,[],[],[]⟩) (show n.toNat < ms.length by omega));rcases List.mem_cons.1 ht with rfl | ht
  ·exact Df (Ek.1 (g'.cl.resolve_left (h.own h21)))
  ·exact (Ct (Em g'.ps t ht)).1
 split at ht
 ·exact (Ct (Mx g.res t ht)).1
 split at ht
 ·obtain rfl:=List.mem_singleton.1 ht;exact Df ⟨by simp,by simp;omega⟩
 ·simp at ht
theorem Tv {cs:List Rd.Cls}{ms:List Rd.Mth} (k:Fm.Ok cs ms) {m:Rd.Mth}{op n:Int}{isN:Int→Prop} (h:Fm.Num (Tr.tree cs) (Cd.fieldSum cs:Int) ms m op n):∀ t∈Ck.leaves (Ck.flds cs) ms op n,Ck.tyOk (Tr.tree cs) isN t:=by
 unfold Ck.leaves;intro t ht
 split at ht
 ·simp at ht;rw [ht];exact ⟨.inr (.inl ⟨rfl,rfl⟩),fun h=>by simp at h⟩
 split at ht
 ·simp at ht;rw [ht];exact ⟨.inr (.inr (.inl ⟨rfl,rfl⟩)),fun h=>by simp at h⟩
 split at ht
 ·rename_i h17;obtain rfl:=List.mem_singleton.1 ht;exact Km (Pe k (h.fld (.inl h17))).2
 split at ht
 ·rename_i h19;obtain rfl:=List.mem_singleton.1 ht;exact ⟨Df (h.cls (.inr (.inr h19))),fun h=>by simp at h⟩
 split at ht
 ·rename_i h20;have:=h.mth h20;exact Km (Mx (k.mt _ (Cf (show n.toNat < ms.length by omega))).res t ht)
 ·simp at ht
theorem Gh {c:List Int} (h:Cd.unread c < 0):Cd.readL c=Cd.insts c:=by
 unfold Cd.readL;rw [if_neg (by omega)]
theorem Ki {c:List Int}{q:Int} (h:Cd.begB c q=true):q.toNat∈Cd.places c:=by
 unfold Cd.begB at h;rw [List.any_eq_true] at h;obtain ⟨p,hp,hn⟩:=h;have:(p:Int)=q:=by simpa using hn
 rw [← this,Int.toNat_natCast];exact hp
theorem Ur {c:List Int} (hu:Cd.unread c < 0) {q:Int} (h:Ck.isN c q) (n:Int):Pk.isNew (Cd.readL c) n q=true↔Cd.atI c (q+1)=n:=by
 rw [Gh hu];have hb:=Ej h.1;have h1:(Cd.findAt q (Cd.insts c)).isSome=true:=by rw [Cd.find_beg];exact h.1
 have h2:=(Cd.find_at c q (Cd.places c) h1).1;have h3:=Cz hu _ (Ki h.1);rw [h.2] at h3;have hw:Cd.wd (c.getD q.toNat 0)=2:=by rw [h.2];rfl
 have h4:=H6 (c:=c) (p:=q.toNat) (by rw [h.2];exact h3.2) hw;unfold Pk.isNew;rw [h1];unfold Cd.insts;rw [h2,h4.1];have e:(Cd.insAt c q.toNat).op=15:=h.2;have e2:((q.toNat:Nat):Int)=q:=by omega
 rw [e,e2]
 simp
theorem Fn {cs:List Rd.Cls}{ms:List Rd.Mth} (k:Fm.Ok cs ms) {m:Rd.Mth} (hm:m∈ms) {p:Nat} (hp:p∈Cd.places m.code) {x y:Ck.Fr} (hx:Ck.P (Tr.tree cs) m x) (h:Ck.mRule cs ms m p x=some y):Ck.P (Tr.tree cs) m y:=by
 have g:=k.mt m hm;have hn:=Lf g hp;unfold Ck.mRule at h;rw [Ho] at h;refine X3 _ _ _ _ _ _ _ _ _ hx (Tv k hn) (fun h2=>?_) (fun h15=>?_) (fun h16=>hn.cls (by omega)) h
 ·have:=hn.loc (.inl h2);have:=g.rd.lo;omega
 ·have hb:Cd.begB m.code (p:Int)=true:=by
   unfold Cd.begB;rw [List.any_eq_true];exact ⟨p,hp,by simp⟩
  have:=Ej hb;have:=g.bd.code;exact ⟨.inr (.inr (.inr (.inr ⟨rfl,by simp,by simp;omega⟩))),fun _=>⟨hb,by simpa using h15⟩⟩
theorem Fe {cs:List Rd.Cls}{ms:List Rd.Mth} (k:Fm.Ok cs ms) {m:Rd.Mth} (hm:m∈ms) {p:Nat} (hp:p∈Cd.places m.code) {x:Ck.Fr} (hx:Ck.P (Tr.tree cs) m x):Pk.mBehind cs ms m (Cd.insAt m.code p) x=Ck.mRule cs ms m p x:=by
 have g:=k.mt m hm;have hT:=Ca cs;have hfl:=O1 cs;obtain ⟨h25,hw⟩:=Cz g.unread p hp;have hn:=Lf g hp;have e0:(Cd.insAt m.code p).op=m.code.getD p 0:=rfl;have e1:(Cd.insAt m.code p).place=(p:Int):=rfl
 -- the number as the program has it
 have hN:Ck.mRule cs ms m p x=Ck.rule m.stack (Ck.moved (Tr.tree cs) (Ck.flds cs) ms (fun c=>Rf.all (Tr.tree cs) (Rf.given ++ cs) c.toNat) (fun q=>Cd.atI m.code (q+1)) m.result (p:Int) (m.code.getD p 0) (Cd.insAt m.code p).n x):=by
  unfold Ck.mRule;have hwb:=Cd.wd_bd (m.code.getD p 0);by_cases h2:Cd.wd (m.code.getD p 0)=2
  ·rw [(H6 hw h2).1]
  ·rw [Yx (show Cd.wd (m.code.getD p 0)=1 by omega)]
 have hnn:Fm.Num (Tr.tree cs) (Cd.fieldSum cs:Int) ms m (m.code.getD p 0) (Cd.insAt m.code p).n:=by
  have hwb:=Cd.wd_bd (m.code.getD p 0);by_cases h2:Cd.wd (m.code.getD p 0)=2
  ·rw [(H6 hw h2).1];exact hn
  ·have h':¬ (m.code.getD p 0=0∨m.code.getD p 0=2∨m.code.getD p 0=3∨(11≤m.code.getD p 0∧m.code.getD p 0≤21)):=by
    intro gg;unfold Cd.wd at h2;rw [if_pos gg] at h2;exact h2 rfl
   exact ⟨fun h=>by omega,fun h=>by omega,fun h=>by omega,fun h=>by omega,fun h=>by omega⟩
 have hpos:0≤(Cd.insAt m.code p).n:=by
  unfold Cd.insAt;simp only
  split
  ·exact H5 g.bd.code0 _
  ·omega
 obtain ⟨n,en⟩:∃ n:Nat,(Cd.insAt m.code p).n=(n:Int):=⟨(Cd.insAt m.code p).n.toNat,by omega⟩;rw [hN];unfold Pk.mBehind;rw [e0,e1,en];rw [en] at hnn;clear hN hn e0 e1 en hpos;generalize hop:m.code.getD p 0=op at *;have hl7:7≤(Rf.given ++ cs).length:=by simp [Ef]
 have hlc:(Rf.given ++ cs).length - 7=cs.length:=by simp [Ef]
 have hgl:(Rf.given ++ cs).length=7+cs.length:=by simp [Ef]
 have hF:Ck.flds cs=Rf.fieldsTo (Tr.tree cs) (Rf.given ++ cs) ((Rf.given ++ cs).length - 7):=by rw [hlc];rfl
 have t1:Pk.takes (Pk.mFs cs) ms m.result op (n:Int)=Ck.takes (Ck.flds cs) ms m.result op (n:Int):=by
  rw [hF];refine Wv _ _ hl7 (Gf cs) _ _ _ _ (fun h=>?_);have:=hnn.fld h;rw [← hF];omega
 have t2:Pk.leaves (Pk.mFs cs) ms op (n:Int)=Ck.leaves (Ck.flds cs) ms op (n:Int):=by
  rw [hF];refine Wh _ _ hl7 (Gf cs) _ _ _ (fun h=>?_);have:=hnn.fld (.inl h);rw [← hF];omega
 rw [Ho,t1,t2,← T5 k.ok (isNew:=Pk.isNew (Cd.readL m.code) (n:Int)) (want:=Rf.all (Tr.tree cs) (Rf.given ++ cs) (n:Int).toNat)]
 ·-- only Init wants the fields
  by_cases h16:op=16
  ·have:=hnn.cls (by omega);rw [show Pk.mFs cs=(Rf.given ++ cs).map Rd.Cls.fields from rfl,Qm k.ok (Rf.given ++ cs) (by omega) (by omega),Int.toNat_natCast]
  ·unfold Pk.behind Pk.works;simp only [if_neg h16]
 ·exact fun t ht=>(hx.ts t ht).1
 ·exact Nd k hm hnn
 ·exact fun t ht=>(Ct (I9 k.fl _ _ t ht)).1
 ·exact Rw _ _ _ _
 ·exact hx.hi
 ·intro h;have:=hnn.loc h;have:=hx.lo;have:=g.rd.lo;omega
 ·intro _ t ht h4;exact Ur g.unread ((hx.ts t ht).2 h4) _
theorem Nz {T:List Int}{mp:Int→Option Ck.Fr}{H:Int}{R:Option Ck.Fr}{op n nxt len:Int} (h:Ck.look T mp H R op n nxt len=0):∃ y,R=some y:=by
 unfold Ck.look at h;by_cases h0:H ≠ 0
 ·rw [if_pos h0] at h;exact absurd h h0
 ·rw [if_neg h0] at h;cases R with
  | none=>simp at h
  | some y=>exact ⟨y,rfl⟩
theorem Zp {T:List Int}{nf:Int}{ms:List Rd.Mth}{m:Rd.Mth} (g:Fm.Good T nf ms m):∀ h∈m.handlers,Tr.Arg T 3 h.cl:=by
 intro h hh;have:=g.hnd h hh;unfold Cd.hndBad at this;simp only [Bool.or_eq_false_iff,Bool.not_eq_false'] at this;exact Df (Ek.1 this.1.2)
theorem Mw {cs:List Rd.Cls}{ms:List Rd.Mth} (k:Fm.Ok cs ms) {m:Rd.Mth} (hm:m∈ms) {p:Nat} (hp:p∈Cd.places m.code) {x:Ck.Fr} (hx:Ck.P (Tr.tree cs) m x):Pk.mLook cs ms m (Cd.insAt m.code p) x=Ck.mLook cs ms m p x:=by
 have g:=k.mt m hm;obtain ⟨h25,hw⟩:=Cz g.unread p hp;have hmp:∀ q z,Ck.mMap m q=some z→Ck.argF (Tr.tree cs) z:=fun q z h=>D7 (Fk g h);unfold Pk.mLook Ck.mLook;have e0:(Cd.insAt m.code p).op=m.code.getD p 0:=rfl;have e1:(Cd.insAt m.code p).place=(p:Int):=rfl;rw [Fe k hm hp hx,e0,e1,Int.toNat_natCast,Kc k.ok _ hmp _ _ (fun t ht=>(hx.tl t ht).1) _ (Zp g),
  Zo k.ok _ hmp _ _ (fun y hy=>D7 (Fn k hm hp hx hy))]
 have hwb:=Cd.wd_bd (m.code.getD p 0);by_cases h2:Cd.wd (m.code.getD p 0)=2
 ·rw [(H6 hw h2).1]
 ·exact Aaq (by omega) _ _
theorem V8 {cs:List Rd.Cls}{ms:List Rd.Mth} (k:Fm.Ok cs ms) {m:Rd.Mth} (hm:m∈ms):Pk.mFind cs ms m=Ck.mChecked cs ms m:=by
 have g:=k.mt m hm;unfold Pk.mFind Ck.mChecked Ck.mAhead;rw [Gh g.unread];refine Pt k.ok (Ck.mMap m) (Ck.mRule cs ms m) (Ck.mLook cs ms m) m.code (Pk.mLook cs ms m) (Pk.mBehind cs ms m) (Ck.P (Tr.tree cs) m) (fun x h=>D7 h) (fun q z h=>Fk g h) (Ck.mStart m) (Gd g) ?_;intro p hp x hx;refine ⟨Mw k hm hp hx,fun h0=>?_⟩;obtain ⟨y,hy⟩:=Nz h0;exact ⟨y,hy,by rw [Fe k hm hp hx,hy],Fn k hm hp hx hy⟩
def Ck.all (s:List UInt8):Int × Int × Int:=Ck.check (Rf.formed s) (Ck.firstOf (Ck.mChecked (Rd.read s).1.classes (Rd.read s).1.methods) 0 (Rd.read s).1.methods)
def Pk.fl (lcs:List (Rd.Cls × Value)):List (Value × List (Int × Int)):=List.replicate 7 (.slice none 0 0,[]) ++ lcs.map fun p=>(p.2,p.1.fields)
theorem We (lcs:List (Rd.Cls × Value)):(Pk.fl lcs).map Prod.fst=Tr.fvals lcs:=by
 unfold Pk.fl Tr.fvals;rw [List.map_append,List.map_replicate,List.map_map];rfl
theorem Aae (lcs:List (Rd.Cls × Value)):(Pk.fl lcs).map Prod.snd=Pk.mFs (lcs.map Prod.fst):=by
 unfold Pk.fl Pk.mFs;rw [List.map_append,List.map_replicate,List.map_map,List.map_append,List.map_map];rfl
theorem Ht (lcs:List (Rd.Cls × Value)):(Pk.fl lcs).length=7+lcs.length:=by unfold Pk.fl;simp;omega
theorem Yt {c:List Int} (h:∀ x∈c,x≤255) (i:Nat):c.getD i 0≤255:=by
 by_cases hi:i < c.length
 ·exact h _ (Cf hi)
 ·rw [List.getD_eq_getElem?_getD,List.getElem?_eq_none (by omega)];simp
structure Pk.At (cs:List Rd.Cls) (ms:List Rd.Mth) (lcs:List (Rd.Cls × Value)) (lms:List (Rd.Mth × MthV)) (b:PBd) (m:Rd.Mth) (bm:Nat) (w:World):Prop where
 k:Fm.Ok cs ms
 ec:lcs.map Prod.fst=cs
 em:lms.map Prod.fst=ms
 mem:m∈ms
 T:b.T=Tr.tree cs
 L:b.L=Cd.readL m.code
 ru:Ru b w 0 lms (Pk.fl lcs)
 is:(⟨b.cl,b.nm,b.pa,b.pl,b.pc,b.r1,b.r2,b.lo,b.st,b.ca,b.cn,b.cc,b.ha,b.hl,b.hc,b.ma,b.ml,b.mc⟩:PM).is m w bm
theorem Pk.At.below {cs:List Rd.Cls}{ms:List Rd.Mth}{lcs:List (Rd.Cls × Value)}{lms:List (Rd.Mth × MthV)}{b:PBd}{m:Rd.Mth}{bm:Nat}{w w':World} (h:Pk.At cs ms lcs lms b m bm w) (hb:Below w.heap.size w w'):Pk.At cs ms lcs lms b m bm w' :=
 ⟨h.k,h.ec,h.em,h.mem,h.T,h.L,h.ru.below hb,h.is.below hb⟩
theorem Hj {cs:List Rd.Cls}{ms:List Rd.Mth}{lcs:List (Rd.Cls × Value)}{lms:List (Rd.Mth × MthV)}{b:PBd}{m:Rd.Mth}{bm:Nat}{w:World} (h:Pk.At cs ms lcs lms b m bm w):MpSays b (Ck.mMap m) w:=by
 intro q w' hb;have h':=h.below hb;have g:=h.k.mt m h.mem;obtain ⟨lm,elm,hmp⟩:=h'.is.mp;have hlm:lm.length=m.maps.length:=by rw [← elm];simp
 have h64:=g.bd.mp;have hfr:∀ q∈lm,q.1.locals.length≤5000∧q.1.stack.length≤5000:=fun q hq=>by
  have:q.1∈m.maps:=by rw [← elm];exact List.mem_map.2 ⟨q,hq,rfl⟩
  have:=g.bd.fr _ this;omega
 have:=Tg b lm bm q w' (by have:=h'.is.ml;simp only at this;omega) (by omega) hfr hmp;rw [elm] at this;exact this
theorem P9 {cs:List Rd.Cls}{ms:List Rd.Mth}{lcs:List (Rd.Cls × Value)}{lms:List (Rd.Mth × MthV)}{b:PBd}{m:Rd.Mth}{bm:Nat}{w:World} (h:Pk.At cs ms lcs lms b m bm w) :
  Calls Tryz.prog 78 #[.agg #[.int .i64 b.cl,.int .i64 b.nm,.slice b.pa b.pl b.pc,.int .i64 b.r1,.int .i64 b.r2,.int .i64 b.lo,.int .i64 b.st,.slice b.ca b.cn b.cc,.slice b.ha b.hl b.hc,.slice b.ma b.ml b.mc]] w fun e w''=>∃ u:FrV,e=.returned u.val∧u.is (Ck.mStart m) w''∧Below w.heap.size w w'':=by
 have g:=h.k.mt m h.mem;have hlo:=g.rd.lo;have e1:=h.is.lo;have e2:=h.is.cl;simp only at e1 e2;have:=Lz ⟨b.cl,b.nm,b.pa,b.pl,b.pc,b.r1,b.r2,b.lo,b.st,b.ca,b.cn,b.cc,b.ha,b.hl,b.hc,b.ma,b.ml,b.mc⟩ m.params m.locals.toNat w (by simp only;omega) (by omega) (TyR.of_tys h.is.ps) (by have:=g.bd.ps;omega);simp only [PM.val,e2] at this;unfold Ck.mStart;rw [e2];exact this
theorem Ik {cs:List Rd.Cls}{ms:List Rd.Mth}{lcs:List (Rd.Cls × Value)}{lms:List (Rd.Mth × MthV)}{b:PBd}{m:Rd.Mth}{bm:Nat}{w:World} (h:Pk.At cs ms lcs lms b m bm w) (p:Nat) (v:FrV) (x:Ck.Fr) (hp:p∈Cd.places m.code) (hv:v.is x w) (hx:Ck.P (Tr.tree cs) m x) :
  Calls Tryz.prog 170 #[b.val,.agg #[.int .i64 (p:Int),.int .i64 (Cd.insAt m.code p).op,.int .i64 (Cd.insAt m.code p).n],v.val] w fun e w''=>∃ u:FrV,e=.returned (.tuple #[u.val,.bool (Pk.mBehind cs ms m (Cd.insAt m.code p) x).isSome])∧(∀ y,Pk.mBehind cs ms m (Cd.insAt m.code p) x=some y→u.is y w'')∧Below w.heap.size w w'':=by
 have g:=h.k.mt m h.mem;obtain ⟨h25,hw⟩:=Cz g.unread p hp;have hn:=Lf g hp;have hlo:=g.rd.lo;have hst:=g.rd.st;have hpos:0≤(Cd.insAt m.code p).n:=by
  unfold Cd.insAt;simp only
  split
  ·exact H5 g.bd.code0 _
  ·omega
 have hN2:(Cd.insAt m.code p).op=20∨(Cd.insAt m.code p).op=21→(Cd.insAt m.code p).n.toNat < lms.length:=by
  intro ho;have ho':m.code.getD p 0=20∨m.code.getD p 0=21:=ho;have h2:Cd.wd (m.code.getD p 0)=2:=by unfold Cd.wd;rw [if_pos (by omega)]
  have:=hn.mth ho';rw [(H6 hw h2).1];have:ms.length=lms.length:=by rw [← h.em];simp
  omega
 have hbig:(Cd.insAt m.code p).n.toNat≤100000:=by
  have:(Cd.insAt m.code p).n≤255:=by
   unfold Cd.insAt;simp only
   split
   ·exact Yt g.rd.c255 _
   ·omega
  omega
 have hps:∀ q∈lms,q.1.params.length≤1000:=fun q hq=>by
  have:q.1∈ms:=by rw [← h.em];exact List.mem_map.2 ⟨q,hq,rfl⟩
  have:=(h.k.mt _ this).bd.ps;omega
 have:=Qj b 0 lms (Pk.fl lcs) (p:Int) (Cd.insAt m.code p).op (Cd.insAt m.code p).n.toNat v x w h.ru hv hbig (by rw [hx.lo];omega) (by have:=hx.hi;omega) hps hN2;have e1:=h.is.st;have e2:=h.is.r1;have e3:=h.is.r2;simp only at e1 e2 e3;rw [show (((Cd.insAt m.code p).n.toNat:Nat):Int)=(Cd.insAt m.code p).n by omega,Aae,h.em,h.ec,h.T,h.L,e1,show (b.r1,b.r2)=m.result by rw [e2,e3]] at this;exact this
theorem Tb {cs:List Rd.Cls}{ms:List Rd.Mth}{lcs:List (Rd.Cls × Value)}{lms:List (Rd.Mth × MthV)}{b:PBd}{m:Rd.Mth}{bm:Nat}{w:World} (h:Pk.At cs ms lcs lms b m bm w) (p:Nat) (v:FrV) (x:Ck.Fr) (hp:p∈Cd.places m.code) (hv:v.is x w) (hx:Ck.P (Tr.tree cs) m x) :
  Calls Tryz.prog 130 #[b.pval,.agg #[.int .i64 (p:Int),.int .i64 (Cd.insAt m.code p).op,.int .i64 (Cd.insAt m.code p).n],v.val] w fun e w''=>∃ u:FrV,e=.returned (.tuple #[u.val,.int .i64 (Pk.mLook cs ms m (Cd.insAt m.code p) x)]) ∧
   (Pk.mLook cs ms m (Cd.insAt m.code p) x=0→∃ y,Pk.mBehind cs ms m (Cd.insAt m.code p) x=some y∧u.is y w''∧Ck.P (Tr.tree cs) m y)∧Below w.heap.size w w'':=by
 have g:=h.k.mt m h.mem;have hpl:p < m.code.length:=M6 hp;have h120:=g.bd.code;have hh4:=g.bd.hs;have ecn:=h.is.cn;have ehl:=h.is.hl;simp only at ecn ehl;have hH:=fun w' (hb:Below w.heap.size w w')=>Te b (Ck.mMap m) m.handlers bm (p:Int) v x w' h.ru.tl (h.ru.below hb).tr (Hj (h.below hb)) ehl (by omega) (h.is.below hb).hs (hv.below hb);have:=Vm b (Ck.mMap m) p (Cd.insAt m.code p).op (Cd.insAt m.code p).n (Pk.handlers b.T (Ck.mMap m) (p:Int) x.locals m.handlers) (Pk.mBehind cs ms m (Cd.insAt m.code p) x) v w h.ru.tl h.ru.tr (Hj h) (by omega) hH (fun w' hb=>Ik (h.below hb) p v x hp (hv.below hb) hx);rw [h.T,ecn] at this;refine this.mono ?_;rintro e w' ⟨u,rfl,h1,h2⟩;refine ⟨u,rfl,fun h0=>?_,h2⟩;have hl:=Mw h.k h.mem hp hx;obtain ⟨y,hy⟩:=Nz (show Ck.mLook cs ms m p x=0 by rw [← hl];exact h0);have hbr:Pk.mBehind cs ms m (Cd.insAt m.code p) x=some y:=by rw [Fe h.k h.mem hp hx];exact hy
 exact ⟨y,hbr,h1 h0 y hbr,Fn h.k h.mem hp hx hy⟩
theorem To {cs:List Rd.Cls}{ms:List Rd.Mth}{lcs:List (Rd.Cls × Value)}{lms:List (Rd.Mth × MthV)}{b:PBd}{m:Rd.Mth}{bm:Nat}{w:World} (h:Pk.At cs ms lcs lms b m bm w) :
  Calls Tryz.prog 85 #[b.pval] w fun e w'=>e=.returned (.agg #[.int .i64 (Pk.mFind cs ms m).1,.int .i64 0,.int .i64 (Pk.mFind cs ms m).2])∧Below w.heap.size w w':=by
 have g:=h.k.mt m h.mem;have:=Vf b (Ck.mMap m) (Pk.mLook cs ms m) (Pk.mBehind cs ms m) (Ck.mStart m) (Ck.P (Tr.tree cs) m) 0 w h.ru.tl h.ru.tr (Hj h) h.ru.ll h.ru.ins (fun w' hb=>P9 (h.below hb))
  (fun i hi v x w' hb hv hx=>by
   rw [h.L,Gh g.unread] at hi;obtain ⟨p,hp,rfl⟩:=List.mem_map.1 hi;exact Tb (h.below hb) p v x hp hv hx) (Gd g) (fun q z hz=>Fk g hz)
 rw [h.T,h.L] at this;exact this
theorem Ti {cs:List Rd.Cls}{ms:List Rd.Mth} (k:Fm.Ok cs ms) {a1 a2:Option Addr}{n1 c1 n2 c2 bm:Nat}{lcs:List (Rd.Cls × Value)}{lms:List (Rd.Mth × MthV)}{w:World} (ec:lcs.map Prod.fst=cs) (hc:ClssIn w bm (.slice a1 n1 c1) lcs) (em:lms.map Prod.fst=ms) (hm:MthsIn w bm (.slice a2 n2 c2) lms) :
  Calls Tryz.prog 46 #[.agg #[.slice a1 n1 c1,.slice a2 n2 c2]] w fun e w'=>e=.returned (.agg #[.int .i64 (Pk.firstOf (Pk.mFind cs ms) 0 ms).1,.int .i64 (Pk.firstOf (Pk.mFind cs ms) 0 ms).2.1,.int .i64 (Pk.firstOf (Pk.mFind cs ms) 0 ms).2.2])∧Below w.heap.size w w':=by
 obtain ⟨xa,xc,hsh⟩:=Ae hm.1;simp only [Value.slice.injEq] at hsh;obtain ⟨rfl,rfl,rfl⟩:=hsh;have hl1:lcs.length=cs.length:=by rw [← ec];simp
 have hl2:lms.length=ms.length:=by rw [← em];simp
 have hl6:=k.l6;have hm6:=k.m6;have hTl:=Ca cs;have hmem:∀ p∈lms,p.1∈ms:=fun p hp=>by rw [← em];exact List.mem_map.2 ⟨p,hp,rfl⟩
 have:=Vp a1 a2 n1 c1 c2 bm lcs lms (Pk.mFind cs ms) w (by omega) hc (by omega) hm (fun p hp=>⟨by have:=(k.mt _ (hmem p hp)).bd.code;omega,(k.mt _ (hmem p hp)).bd.code0⟩)
  (fun p hp b bb w' hb e1 e2 e3 e4 e5 e6 hT hL htr hrow his hin=>by
   have g:=k.mt _ (hmem p hp);rw [ec] at hT;obtain ⟨ya,yc,hsh⟩:=Ae hrow;simp only [Value.slice.injEq] at hsh;have hyl:b.yn=(Pk.fl lcs).length:=by rw [Ht];exact hsh.2.1
   have hll:b.L.length≤120:=by
    rw [hL,Gh g.unread];have:=It p.1.code;have:=g.bd.code;omega
   refine To ⟨k,ec,em,hmem p hp,hT,hL,⟨e5,by omega,?_,hyl,by rw [Ht];omega,?_,⟨?_,?_⟩,by rw [hT];omega,htr,by omega,A8 hin (Nat.zero_le _)⟩,his⟩
   ·rw [e4,e5,e6];exact (hm.kp (Kp.of_below (e:=none) hb) (by decide) (by decide) (by decide) (by decide) (by decide)).mono (Nat.zero_le _)
   ·intro q hq;unfold Pk.fl at hq;rcases List.mem_append.1 hq with hq | hq
    ·rw [(List.mem_replicate.1 hq).2];simp
    ·obtain ⟨c,hc',rfl⟩:=List.mem_map.1 hq;exact k.fn c.1 (by rw [← ec];exact List.mem_map.2 ⟨c,hc',rfl⟩)
   ·rw [We,Ht];exact A8 hrow (Nat.zero_le _)
   ·intro q hq;unfold Pk.fl at hq;rcases List.mem_append.1 hq with hq | hq
    ·rw [(List.mem_replicate.1 hq).2];exact TyR.nil _
    ·obtain ⟨c,hc',rfl⟩:=List.mem_map.1 hq;exact TyR.of_tys ((hc.kp (Kp.of_below (e:=none) hb) (by decide) (by decide)).2 c hc'))
 rw [em] at this;exact this
theorem Jc (f:Rd.Mth→Int × Int):∀ (l:List Rd.Mth) (k:Nat),(Ck.firstOf f k l).1=0→Ck.firstOf f k l=(0,0,0)
 | [],_,_=>rfl
 | m :: r,k,h=>by
  rw [Ck.firstOf] at h ⊢;by_cases h1:(f m).1 ≠ 0
  ·rw [if_pos h1] at h;exact absurd h h1
  ·rw [if_neg h1] at h ⊢;exact Jc f r _ h
theorem Sk (s:List UInt8):Pk.check (Pf.read s) (Pk.firstOf (Pk.mFind (Rd.read s).1.classes (Rd.read s).1.methods) 0 (Rd.read s).1.methods)=Ck.check (Rf.formed s) (Ck.firstOf (Ck.mChecked (Rd.read s).1.classes (Rd.read s).1.methods) 0 (Rd.read s).1.methods):=by
 rw [Cp];unfold Pk.check Ck.check;by_cases h0:(Rf.formed s).1 ≠ 0
 ·rw [if_pos h0,if_pos h0]
 ·rw [if_neg h0,if_neg h0];obtain ⟨k,_,_⟩:=Bj s (by simpa using h0);rw [Lj _ (Ck.mChecked (Rd.read s).1.classes (Rd.read s).1.methods) _ _ (fun m hm=>V8 k hm)]
  split
  ·rfl
  ·rename_i h1;exact (Jc _ _ _ (by simpa using h1)).symm
theorem Jb (s:ByteArray) (w:World) (hs:s.size≤maxLen) :
  Calls Tryz.prog 11 #[.string s] w fun e w'=>e=.returned (.tuple #[.int .i64 (Ck.all s.data.toList).1,.int .i64 (Ck.all s.data.toList).2.1,.int .i64 (Ck.all s.data.toList).2.2])∧Below w.heap.size w w':=by
 have h:=Ud s (Pk.firstOf (Pk.mFind (Rd.read s.data.toList).1.classes (Rd.read s.data.toList).1.methods) 0 (Rd.read s.data.toList).1.methods) w hs
  (fun h0 a1 n1 c1 a2 n2 c2 bm lcs lms w' hb hl1 hc hl2 hm=>by
   rw [Cp] at h0;obtain ⟨k,_,_⟩:=Bj _ h0;exact Ti k hl1 hc hl2 hm)
 rw [Sk] at h;exact h
end Go.Proofs.YtcefiamkoincoaaGreat
