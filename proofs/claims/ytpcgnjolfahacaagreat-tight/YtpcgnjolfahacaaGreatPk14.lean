/- a part of the proofs -/
import Derived.Test.YtpcgnjolfahacaaGreatPk13
set_option maxRecDepth 100000
set_option maxHeartbeats 40000000
set_option linter.unusedVariables false
set_option linter.unusedSimpArgs false
namespace Go.Proofs.YtpcgnjolfahacaaGreat
open Go.RowKit
def Ad0 (c:List Int) (q:Int):Prop:=Cd.begB c q=true∧c.getD q.toNat 0=15
def Acd (T:List Int) (m:Rd.Mth) (x:Zx):Prop:=Acg T m.locals.toNat m.stack (Ad0 m.code) x
def Ach (cs:List Rd.Cls):List Rf.Fld:=Rf.fieldsTo (Tr.tree cs) (Rf.given++cs) cs.length
def Aa2 (m:Rd.Mth) (q:Int):Option Zx:=Ab2 q m.maps
def Aa9 (m:Rd.Mth):Zx:=Adv m.cl m.params m.locals.toNat
def Abc (cs:List Rd.Cls) (ms:List Rd.Mth) (m:Rd.Mth) (p:Nat) (x:Zx):Option Zx :=
 Abt m.stack (Ad6 (Tr.tree cs) (Ach cs) ms (fun c=>Rf.all (Tr.tree cs) (Rf.given++cs) c.toNat) (fun q=>Cd.atI m.code (q+1)) m.result (p:Int) (m.code.getD p 0) (Cd.atI m.code ((p:Int)+1)) x)
def Aeb (cs:List Rd.Cls) (ms:List Rd.Mth) (m:Rd.Mth) (p:Nat) (x:Zx):Int :=
 Ade (Tr.tree cs) (Aa2 m) (Acl (Tr.tree cs) (Aa2 m) (p:Int) x.locals m.handlers) (Abc cs ms m p x) (m.code.getD p 0) (Cd.atI m.code ((p:Int)+1)) ((p+Cd.wd (m.code.getD p 0):Nat):Int) (m.code.length:Int)
def Ab8 (cs:List Rd.Cls) (ms:List Rd.Mth) (m:Rd.Mth) (q:Nat):Option Zx :=
 Adx (fun p=>Aa2 m (p:Int)) (Abc cs ms m) (fun p=>Aa4 (m.code.getD p 0)) q (Cd.places m.code) (some (Aa9 m))
def Acm (cs:List Rd.Cls) (ms:List Rd.Mth) (m:Rd.Mth):Int × Int :=
 Aei (Tr.tree cs) (Aa2 m 0) (Aa9 m) (Ab8 cs ms m) (Aeb cs ms m) (Cd.places m.code)
def Aee (cs:List Rd.Cls):List (List (Int × Int)):=(Rf.given++cs).map Rd.Cls.fields
def Aag (cs:List Rd.Cls) (ms:List Rd.Mth) (m:Rd.Mth) (i:Cd.Ins) (x:Zx):Option Zx :=
 Adh (Tr.tree cs) m.stack (Ab1 (Aee cs) ms m.result i.op i.n) (Abp (Aee cs) ms i.op i.n) (Aba (Tr.tree cs) (Aee cs) i.n) (Acr (Cd.readL m.code) i.n) i.place i.op i.n x
def Ady (cs:List Rd.Cls) (ms:List Rd.Mth) (m:Rd.Mth) (i:Cd.Ins) (x:Zx):Int :=
 Ad9 (Tr.tree cs) (Aa2 m) (Abm (Tr.tree cs) (Aa2 m) i.place x.locals m.handlers) (Aag cs ms m i x) i.op i.n ((i.place.toNat+Cd.wd i.op:Nat):Int) (m.code.length:Int)
def Adb (cs:List Rd.Cls) (ms:List Rd.Mth) (m:Rd.Mth):Int × Int :=
 Aea (Tr.tree cs) (Aa2 m) (Ady cs ms m) (Aag cs ms m) (Cd.readL m.code) (Aa9 m)
theorem Gg {T:List Int}{m:Rd.Mth}{x:Zx} (h:Acd T m x):Aa0 T x:=⟨fun t ht=>(h.tl t ht).1,fun t ht=>(h.ts t ht).1⟩
theorem To {l:List Rd.Mp}{q:Int}{z:Zx} (h:Ab2 q l=some z):∃ y∈l,z=⟨y.locals,y.stack⟩:=by
 induction l with
 | nil=>simp[Ab2]at h
 | cons y r ih =>
  rw[Ab2]at h
  split at h
  ·exact⟨y,by simp,(Option.some.inj h).symm⟩
  ·obtain⟨y',hy,e⟩:=ih h;exact⟨y',by simp[hy],e⟩
theorem Us {T c:List Int} (hc:c.length≤120) {t:Int × Int} (h:Cd.framed T c t.1 t.2=true):Aab T (Ad0 c) t:=by
 unfold Cd.framed at h;by_cases h0:t.1=0∨t.1=1∨t.1=2
 ·rw[if_pos h0]at h;have:t.2=0:=by simpa using h
  refine⟨?_,fun g=>by omega⟩;rcases h0 with h0 | h0 | h0
  ·exact .inl ⟨h0,this⟩
  ·exact .inr (.inl ⟨h0,this⟩)
  ·exact .inr (.inr (.inl ⟨h0,this⟩))
 rw[if_neg h0]at h;by_cases h3:t.1=3
 ·rw[if_pos h3]at h;exact⟨by rw[h3];exact Cy (Dv.1 h),fun g=>by omega⟩
 rw[if_neg h3]at h;by_cases h4:t.1=4
 ·rw[if_pos h4]at h;simp only[Bool.and_eq_true,beq_iff_eq]at h;have:=El h.1;exact⟨.inr (.inr (.inr (.inr ⟨h4,by omega,by omega⟩))),fun _=>h⟩
 ·rw[if_neg h4]at h;simp at h
theorem N8 {T c:List Int} (hc:c.length≤120) {l:List (Int × Int)} (h:Cd.frAll T c l=true):∀ t∈l,Aab T (Ad0 c) t:=fun t ht=>Us hc (List.all_eq_true.1 h t ht)
theorem Ep {T:List Int}{nf:Int}{ms:List Rd.Mth}{m:Rd.Mth} (g:Ad2 T nf ms m) {q:Int}{z:Zx} (h:Aa2 m q=some z):Acd T m z:=by
 obtain⟨y,hy,rfl⟩:=To h;obtain⟨a,b,_⟩:=g.map y hy;obtain⟨c,d⟩:=g.rd.ml y hy;exact⟨c,d,N8 g.bd.code a,N8 g.bd.code b⟩
theorem Gs {T:List Int}{nf:Int}{ms:List Rd.Mth}{m:Rd.Mth} (g:Ad2 T nf ms m):Acd T m (Aa9 m):=by
 have h1:=g.own;have h2:=g.rd.lo;have h3:=g.rd.st;refine⟨?_,by simpa[Aa9,Adv] using h3.1,?_,by simp[Aa9,Adv]⟩
 ·simp only[Aa9,Adv,List.length_append,List.length_replicate];omega
 ·intro t ht;simp only[Aa9,Adv]at ht;rcases List.mem_append.1 ht with ht | ht
  ·unfold Aep at ht;rcases List.mem_append.1 ht with ht | ht
   ·split at ht
    ·simp at ht
    ·rename_i h255;obtain rfl:=List.mem_singleton.1 ht;exact⟨Cy (Dv.1 (g.cl.resolve_left h255)),fun h=>by simp at h⟩
   ·exact Jt (Dx g.ps t ht)
  ·rw[(List.mem_replicate.1 ht).2];exact Jp _ _
structure Afb (T:List Int) (nf:Int) (ms:List Rd.Mth) (m:Rd.Mth) (op n:Int):Prop where
 loc:op=2∨op=3→0≤n∧n<m.locals
 cls:op=15∨op=16∨op=19→0≤n∧n<(T.length:Int)
 fld:op=17∨op=18→0≤n∧n<nf
 mth:op=20∨op=21→0≤n∧n<(ms.length:Int)
 own:op=21→(ms.getD n.toNat ⟨0,0,[],(0,0),0,0,[],[],[]⟩).cl≠255
theorem J4 {T:List Int}{nf:Int}{ms:List Rd.Mth}{m:Rd.Mth} (g:Ad2 T nf ms m) {p:Nat} (hp:p∈Cd.places m.code):Afb T nf ms m (m.code.getD p 0) (Cd.atI m.code ((p:Int)+1)):=by
 have ha:=g.arg p hp;obtain⟨h25,hw⟩:=Cp g.unread p hp;unfold Cd.argAt at ha;rw[Kx]at ha;have hpos:Cd.wd (m.code.getD p 0)=2→0≤Cd.atI m.code ((p:Int)+1):=fun h2=>by
  rw[(Hf hw h2).2];exact Hg g.bd.code0 _
 generalize Cd.atI m.code ((p:Int)+1)=n at *;generalize m.code.getD p 0=op at *;have hwd:op=2∨op=3∨(11≤op∧op≤21)→0≤n:=fun h=>hpos (by unfold Cd.wd;rw[if_pos (by omega)]);unfold Cd.argB at ha;refine⟨fun h=>?_,fun h=>?_,fun h=>?_,fun h=>?_,fun h=>?_⟩
 ·rw[if_pos h]at ha;exact⟨hwd (by omega),by simpa using ha⟩
 ·rw[if_neg (by omega),if_neg (by omega),if_pos h]at ha;exact Dv.1 ha
 ·rw[if_neg (by omega),if_neg (by omega),if_neg (by omega),if_pos h]at ha;exact⟨hwd (by omega),by simpa using ha⟩
 ·refine⟨hwd (by omega),?_⟩;rw[if_neg (by omega),if_neg (by omega),if_neg (by omega),if_neg (by omega)]at ha;rcases h with h | h
  ·rw[if_pos h]at ha;simp at ha;exact_mod_cast ha.1
  ·rw[if_neg (by omega),if_pos h]at ha;simp at ha;exact_mod_cast ha.1
 ·have h0:=hwd (by omega);rw[if_neg (by omega),if_neg (by omega),if_neg (by omega),if_neg (by omega),if_neg (by omega),if_pos h]at ha;simp only[Bool.and_eq_true,decide_eq_true_eq,bne_iff_ne,ne_eq,List.length_map]at ha;have e:(List.map Rd.Mth.cl ms).getD n.toNat 0=(ms.getD n.toNat ⟨0,0,[],(0,0),0,0,[],[],[]⟩).cl:=by
   simp only[List.getD_eq_getElem?_getD,List.getElem?_map];have:n.toNat<ms.length:=by omega
   rw[List.getElem?_eq_getElem this];rfl
  rw[e]at ha;exact ha.2
theorem Nm (cs:List Rd.Cls):((Ach cs).length:Int)=(Cd.fieldSum cs:Int):=by
 have:=Cd.fields_eq (Tr.tree cs) cs cs.length (Nat.le_refl _);rw[List.take_length]at this;unfold Ach;rw[this]
theorem Oc {cs:List Rd.Cls}{ms:List Rd.Mth} (k:Ace cs ms) {n:Int} (h:0≤n∧n<(Cd.fieldSum cs:Int)):(0≤((Ach cs).getD n.toNat ⟨0,0,(0,0)⟩).owner∧((Ach cs).getD n.toNat ⟨0,0,(0,0)⟩).owner<((Tr.tree cs).length:Int)) ∧
  Tr.plainB (Tr.tree cs) ((Ach cs).getD n.toNat ⟨0,0,(0,0)⟩).t.1 ((Ach cs).getD n.toNat ⟨0,0,(0,0)⟩).t.2=true:=by
 have hl:=Nm cs;have:=Ke k.fl cs.length _ (show (Ach cs).getD n.toNat ⟨0,0,(0,0)⟩∈Ach cs from Bx (by omega));have hT:=Bm cs;exact⟨by omega,this.2⟩
theorem Ld {cs:List Rd.Cls}{ms:List Rd.Mth} (k:Ace cs ms) {m:Rd.Mth}{op n:Int} (hm:m∈ms) (h:Afb (Tr.tree cs) (Cd.fieldSum cs:Int) ms m op n):∀ t∈Acb (Ach cs) ms m.result op n,Tr.Arg (Tr.tree cs) t.1 t.2:=by
 have hT:=Bm cs;have g:=k.mt m hm;unfold Acb;intro t ht
 split at ht
 ·simp at ht;rw[ht];exact .inr (.inl ⟨rfl,rfl⟩)
 split at ht
 ·simp at ht;rw[ht];exact .inr (.inl ⟨rfl,rfl⟩)
 split at ht
 ·simp at ht;rw[ht];exact Cy ⟨by simp,by simp;omega⟩
 split at ht
 ·rename_i h17;obtain rfl:=List.mem_singleton.1 ht;exact Cy (Oc k (h.fld (.inl h17))).1
 split at ht
 ·rename_i h18;have:=Oc k (h.fld (.inr h18));simp only[List.mem_cons,List.not_mem_nil,or_false]at ht;rcases ht with rfl | rfl
  ·exact Cy this.1
  ·exact(Cm this.2).1
 split at ht
 ·rename_i h20;have:=h.mth (.inl h20);exact(Cm (Dx (k.mt _ (Bx (show n.toNat<ms.length by omega))).ps t ht)).1
 split at ht
 ·rename_i h21;have h1:=h.mth (.inr h21);have g':=k.mt _ (Bx (d:=⟨0,0,[],(0,0),0,0,[],[],[]⟩) (show n.toNat<ms.length by omega));rcases List.mem_cons.1 ht with rfl | ht
  ·exact Cy (Dv.1 (g'.cl.resolve_left (h.own h21)))
  ·exact(Cm (Dx g'.ps t ht)).1
 split at ht
 ·exact(Cm (Lx g.res t ht)).1
 split at ht
 ·obtain rfl:=List.mem_singleton.1 ht;exact Cy ⟨by simp,by simp;omega⟩
 ·simp at ht
theorem Sr {cs:List Rd.Cls}{ms:List Rd.Mth} (k:Ace cs ms) {m:Rd.Mth}{op n:Int}{isN:Int→Prop} (h:Afb (Tr.tree cs) (Cd.fieldSum cs:Int) ms m op n):∀ t∈Abw (Ach cs) ms op n,Aab (Tr.tree cs) isN t:=by
 unfold Abw;intro t ht
 split at ht
 ·simp at ht;rw[ht];exact⟨.inr (.inl ⟨rfl,rfl⟩),fun h=>by simp at h⟩
 split at ht
 ·simp at ht;rw[ht];exact⟨.inr (.inr (.inl ⟨rfl,rfl⟩)),fun h=>by simp at h⟩
 split at ht
 ·rename_i h17;obtain rfl:=List.mem_singleton.1 ht;exact Jt (Oc k (h.fld (.inl h17))).2
 split at ht
 ·rename_i h19;obtain rfl:=List.mem_singleton.1 ht;exact⟨Cy (h.cls (.inr (.inr h19))),fun h=>by simp at h⟩
 split at ht
 ·rename_i h20;have:=h.mth h20;exact Jt (Lx (k.mt _ (Bx (show n.toNat<ms.length by omega))).res t ht)
 ·simp at ht
theorem Fu {c:List Int} (h:Cd.unread c<0):Cd.readL c=Cd.insts c:=by
 unfold Cd.readL;rw[if_neg (by omega)]
theorem Jj {c:List Int}{q:Int} (h:Cd.begB c q=true):q.toNat∈Cd.places c:=by
 unfold Cd.begB at h;rw[List.any_eq_true]at h;obtain⟨p,hp,hn⟩:=h;have:(p:Int)=q:=by simpa using hn
 rw[← this,Int.toNat_natCast];exact hp
theorem Vc {c:List Int} (hu:Cd.unread c<0) {q:Int} (h:Ad0 c q) (n:Int):Acr (Cd.readL c) n q=true↔Cd.atI c (q+1)=n:=by
 rw[Fu hu];have hb:=El h.1;have h1:(Cd.findAt q (Cd.insts c)).isSome=true:=by rw[Cd.find_beg];exact h.1
 have h2:=(Cd.find_at c q (Cd.places c) h1).1;have h3:=Cp hu _ (Jj h.1);rw[h.2]at h3;have hw:Cd.wd (c.getD q.toNat 0)=2:=by rw[h.2];rfl
 have h4:=Hf (c:=c) (p:=q.toNat) (by rw[h.2];exact h3.2) hw;unfold Acr;rw[h1];unfold Cd.insts;rw[h2,h4.1];have e:(Cd.insAt c q.toNat).op=15:=h.2;have e2:((q.toNat:Nat):Int)=q:=by omega
 rw[e,e2]
 simp
theorem Gm {cs:List Rd.Cls}{ms:List Rd.Mth} (k:Ace cs ms) {m:Rd.Mth} (hm:m∈ms) {p:Nat} (hp:p∈Cd.places m.code) {x y:Zx} (hx:Acd (Tr.tree cs) m x) (h:Abc cs ms m p x=some y):Acd (Tr.tree cs) m y:=by
 have g:=k.mt m hm;have hn:=J4 g hp;unfold Abc at h;rw[Gn]at h;refine V8 _ _ _ _ _ _ _ _ _ hx (Sr k hn) (fun h2=>?_) (fun h15=>?_) (fun h16=>hn.cls (by omega)) h
 ·have:=hn.loc (.inl h2);have:=g.rd.lo;omega
 ·have hb:Cd.begB m.code (p:Int)=true:=by
   unfold Cd.begB;rw[List.any_eq_true];exact⟨p,hp,by simp⟩
  have:=El hb;have:=g.bd.code;exact⟨.inr (.inr (.inr (.inr ⟨rfl,by simp,by simp;omega⟩))),fun _=>⟨hb,by simpa using h15⟩⟩
theorem Eo {cs:List Rd.Cls}{ms:List Rd.Mth} (k:Ace cs ms) {m:Rd.Mth} (hm:m∈ms) {p:Nat} (hp:p∈Cd.places m.code) {x:Zx} (hx:Acd (Tr.tree cs) m x):Aag cs ms m (Cd.insAt m.code p) x=Abc cs ms m p x:=by
 have g:=k.mt m hm;have hT:=Bm cs;have hfl:=Nm cs;obtain⟨h25,hw⟩:=Cp g.unread p hp;have hn:=J4 g hp;have e0:(Cd.insAt m.code p).op=m.code.getD p 0:=rfl;have e1:(Cd.insAt m.code p).place=(p:Int):=rfl
 -- the number as the program has it
 have hN:Abc cs ms m p x=Abt m.stack (Ad6 (Tr.tree cs) (Ach cs) ms (fun c=>Rf.all (Tr.tree cs) (Rf.given++cs) c.toNat) (fun q=>Cd.atI m.code (q+1)) m.result (p:Int) (m.code.getD p 0) (Cd.insAt m.code p).n x):=by
  unfold Abc;have hwb:=Cd.wd_bd (m.code.getD p 0);by_cases h2:Cd.wd (m.code.getD p 0)=2
  ·rw[(Hf hw h2).1]
  ·rw[Ye (show Cd.wd (m.code.getD p 0)=1 by omega)]
 have hnn:Afb (Tr.tree cs) (Cd.fieldSum cs:Int) ms m (m.code.getD p 0) (Cd.insAt m.code p).n:=by
  have hwb:=Cd.wd_bd (m.code.getD p 0);by_cases h2:Cd.wd (m.code.getD p 0)=2
  ·rw[(Hf hw h2).1];exact hn
  ·have h':¬ (m.code.getD p 0=0∨m.code.getD p 0=2∨m.code.getD p 0=3∨(11≤m.code.getD p 0∧m.code.getD p 0≤21)):=by
    intro gg;unfold Cd.wd at h2;rw[if_pos gg]at h2;exact h2 rfl
   exact⟨fun h=>by omega,fun h=>by omega,fun h=>by omega,fun h=>by omega,fun h=>by omega⟩
 have hpos:0≤(Cd.insAt m.code p).n:=by
  unfold Cd.insAt;simp only
  split
  ·exact Hg g.bd.code0 _
  ·omega
 obtain⟨n,en⟩:∃ n:Nat,(Cd.insAt m.code p).n=(n:Int):=⟨(Cd.insAt m.code p).n.toNat,by omega⟩;rw[hN];unfold Aag;rw[e0,e1,en];rw[en]at hnn;clear hN hn e0 e1 en hpos;generalize hop:m.code.getD p 0=op at *;have hl7:7≤(Rf.given++cs).length:=by simp[Du]
 have hlc:(Rf.given++cs).length-7=cs.length:=by simp[Du]
 have hgl:(Rf.given++cs).length=7+cs.length:=by simp[Du]
 have hF:Ach cs=Rf.fieldsTo (Tr.tree cs) (Rf.given++cs) ((Rf.given++cs).length-7):=by rw[hlc];rfl
 have t1:Ab1 (Aee cs) ms m.result op (n:Int)=Acb (Ach cs) ms m.result op (n:Int):=by
  rw[hF];refine V5 _ _ hl7 (Ga cs) _ _ _ _ (fun h=>?_);have:=hnn.fld h;rw[← hF];omega
 have t2:Abp (Aee cs) ms op (n:Int)=Abw (Ach cs) ms op (n:Int):=by
  rw[hF];refine Sv _ _ hl7 (Ga cs) _ _ _ (fun h=>?_);have:=hnn.fld (.inl h);rw[← hF];omega
 rw[Gn,t1,t2,← Tw k.ok (isNew:=Acr (Cd.readL m.code) (n:Int)) (want:=Rf.all (Tr.tree cs) (Rf.given++cs) (n:Int).toNat)]
 ·-- only Init wants the fields
  by_cases h16:op=16
  ·have:=hnn.cls (by omega);rw[show Aee cs=(Rf.given++cs).map Rd.Cls.fields from rfl,Pl k.ok (Rf.given++cs) (by omega) (by omega),Int.toNat_natCast]
  ·unfold Adh Aex;simp only[if_neg h16]
 ·exact fun t ht=>(hx.ts t ht).1
 ·exact Ld k hm hnn
 ·exact fun t ht=>(Cm (H5 k.fl _ _ t ht)).1
 ·exact Qr _ _ _ _
 ·exact hx.hi
 ·intro h;have:=hnn.loc h;have:=hx.lo;have:=g.rd.lo;omega
 ·intro _ t ht h4;exact Vc g.unread ((hx.ts t ht).2 h4) _
theorem Mq {T:List Int}{mp:Int→Option Zx}{H:Int}{R:Option Zx}{op n nxt len:Int} (h:Ade T mp H R op n nxt len=0):∃ y,R=some y:=by
 unfold Ade at h;by_cases h0:H≠0
 ·rw[if_pos h0]at h;exact absurd h h0
 ·rw[if_neg h0]at h;cases R with
  | none=>simp at h
  | some y=>exact⟨y,rfl⟩
theorem Yj {T:List Int}{nf:Int}{ms:List Rd.Mth}{m:Rd.Mth} (g:Ad2 T nf ms m):∀ h∈m.handlers,Tr.Arg T 3 h.cl:=by
 intro h hh;have:=g.hnd h hh;unfold Cd.hndBad at this;simp only[Bool.or_eq_false_iff,Bool.not_eq_false']at this;exact Cy (Dv.1 this.1.2)
theorem Mo {cs:List Rd.Cls}{ms:List Rd.Mth} (k:Ace cs ms) {m:Rd.Mth} (hm:m∈ms) {p:Nat} (hp:p∈Cd.places m.code) {x:Zx} (hx:Acd (Tr.tree cs) m x):Ady cs ms m (Cd.insAt m.code p) x=Aeb cs ms m p x:=by
 have g:=k.mt m hm;obtain⟨h25,hw⟩:=Cp g.unread p hp;have hmp:∀ q z,Aa2 m q=some z→Aa0 (Tr.tree cs) z:=fun q z h=>Gg (Ep g h);unfold Ady Aeb;have e0:(Cd.insAt m.code p).op=m.code.getD p 0:=rfl;have e1:(Cd.insAt m.code p).place=(p:Int):=rfl;rw[Eo k hm hp hx,e0,e1,Int.toNat_natCast,Iu k.ok _ hmp _ _ (fun t ht=>(hx.tl t ht).1) _ (Yj g),
  Xr k.ok _ hmp _ _ (fun y hy=>Gg (Gm k hm hp hx hy))]
 have hwb:=Cd.wd_bd (m.code.getD p 0);by_cases h2:Cd.wd (m.code.getD p 0)=2
 ·rw[(Hf hw h2).1]
 ·exact Zi (by omega) _ _
theorem U9 {cs:List Rd.Cls}{ms:List Rd.Mth} (k:Ace cs ms) {m:Rd.Mth} (hm:m∈ms):Adb cs ms m=Acm cs ms m:=by
 have g:=k.mt m hm;unfold Adb Acm Ab8;rw[Fu g.unread];refine Nt k.ok (Aa2 m) (Abc cs ms m) (Aeb cs ms m) m.code (Ady cs ms m) (Aag cs ms m) (Acd (Tr.tree cs) m) (fun x h=>Gg h) (fun q z h=>Ep g h) (Aa9 m) (Gs g) ?_;intro p hp x hx;refine⟨Mo k hm hp hx,fun h0=>?_⟩;obtain⟨y,hy⟩:=Mq h0;exact⟨y,hy,by rw[Eo k hm hp hx,hy],Gm k hm hp hx hy⟩
def Adf (s:List UInt8):Int × Int × Int:=Ael (Rf.formed s) (Aca (Acm (Rd.read s).1.classes (Rd.read s).1.methods) 0 (Rd.read s).1.methods)
def Adp (lcs:List (Rd.Cls × Value)):List (Value × List (Int × Int)):=List.replicate 7 (.slice none 0 0,[])++lcs.map fun p=>(p.2,p.1.fields)
theorem Uq (lcs:List (Rd.Cls × Value)):(Adp lcs).map Prod.fst=Tr.fvals lcs:=by
 unfold Adp Tr.fvals;rw[List.map_append,List.map_replicate,List.map_map];rfl
theorem Zj (lcs:List (Rd.Cls × Value)):(Adp lcs).map Prod.snd=Aee (lcs.map Prod.fst):=by
 unfold Adp Aee;rw[List.map_append,List.map_replicate,List.map_map,List.map_append,List.map_map];rfl
theorem Gl (lcs:List (Rd.Cls × Value)):(Adp lcs).length=7+lcs.length:=by unfold Adp;simp;omega
theorem Yk {c:List Int} (h:∀ x∈c,x≤255) (i:Nat):c.getD i 0≤255:=by
 by_cases hi:i<c.length
 ·exact h _ (Bx hi)
 ·rw[List.getD_eq_getElem?_getD,List.getElem?_eq_none (by omega)];simp
structure Aec (cs:List Rd.Cls) (ms:List Rd.Mth) (lcs:List (Rd.Cls × Value)) (lms:List (Rd.Mth × MthV)) (b:PBd) (m:Rd.Mth) (bm:Nat) (w:World):Prop where
 k:Ace cs ms
 ec:lcs.map Prod.fst=cs
 em:lms.map Prod.fst=ms
 mem:m∈ms
 T:b.T=Tr.tree cs
 L:b.L=Cd.readL m.code
 ru:Ru b w 0 lms (Adp lcs)
 is:(⟨b.cl,b.nm,b.pa,b.pl,b.pc,b.r1,b.r2,b.lo,b.st,b.ca,b.cn,b.cc,b.ha,b.hl,b.hc,b.ma,b.ml,b.mc⟩:PM).is m w bm
theorem Aec.below {cs:List Rd.Cls}{ms:List Rd.Mth}{lcs:List (Rd.Cls × Value)}{lms:List (Rd.Mth × MthV)}{b:PBd}{m:Rd.Mth}{bm:Nat}{w w':World} (h:Aec cs ms lcs lms b m bm w) (hb:Below w.heap.size w w'):Aec cs ms lcs lms b m bm w' :=
 ⟨h.k,h.ec,h.em,h.mem,h.T,h.L,h.ru.below hb,h.is.below hb⟩
theorem Gj {cs:List Rd.Cls}{ms:List Rd.Mth}{lcs:List (Rd.Cls × Value)}{lms:List (Rd.Mth × MthV)}{b:PBd}{m:Rd.Mth}{bm:Nat}{w:World} (h:Aec cs ms lcs lms b m bm w):MpSays b (Aa2 m) w:=by
 intro q w' hb;have h':=h.below hb;have g:=h.k.mt m h.mem;obtain⟨lm,elm,hmp⟩:=h'.is.mp;have hlm:lm.length=m.maps.length:=by rw[← elm];simp
 have h64:=g.bd.mp;have hfr:∀ q∈lm,q.1.locals.length≤5000∧q.1.stack.length≤5000:=fun q hq=>by
  have:q.1∈m.maps:=by rw[← elm];exact List.mem_map.2 ⟨q,hq,rfl⟩
  have:=g.bd.fr _ this;omega
 have:=Qn b lm bm q w' (by have:=h'.is.ml;simp only at this;omega) (by omega) hfr hmp;rw[elm]at this;exact this
theorem Ol {cs:List Rd.Cls}{ms:List Rd.Mth}{lcs:List (Rd.Cls × Value)}{lms:List (Rd.Mth × MthV)}{b:PBd}{m:Rd.Mth}{bm:Nat}{w:World} (h:Aec cs ms lcs lms b m bm w) :
  Calls Tryz.prog 110 #[.agg #[.int .i64 b.cl,.int .i64 b.nm,.slice b.pa b.pl b.pc,.int .i64 b.r1,.int .i64 b.r2,.int .i64 b.lo,.int .i64 b.st,.slice b.ca b.cn b.cc,.slice b.ha b.hl b.hc,.slice b.ma b.ml b.mc]] w fun e w''=>∃ u:FrV,e=.returned u.val∧u.is (Aa9 m) w''∧Below w.heap.size w w'':=by
 have g:=h.k.mt m h.mem;have hlo:=g.rd.lo;have e1:=h.is.lo;have e2:=h.is.cl;simp only at e1 e2;have:=J8 ⟨b.cl,b.nm,b.pa,b.pl,b.pc,b.r1,b.r2,b.lo,b.st,b.ca,b.cn,b.cc,b.ha,b.hl,b.hc,b.ma,b.ml,b.mc⟩ m.params m.locals.toNat w (by simp only;omega) (by omega) (TyR.of_tys h.is.ps) (by have:=g.bd.ps;omega);simp only[PM.val,e2]at this;unfold Aa9;rw[e2];exact this
theorem Hs {cs:List Rd.Cls}{ms:List Rd.Mth}{lcs:List (Rd.Cls × Value)}{lms:List (Rd.Mth × MthV)}{b:PBd}{m:Rd.Mth}{bm:Nat}{w:World} (h:Aec cs ms lcs lms b m bm w) (p:Nat) (v:FrV) (x:Zx) (hp:p∈Cd.places m.code) (hv:v.is x w) (hx:Acd (Tr.tree cs) m x) :
  Calls Tryz.prog 221 #[b.val,.agg #[.int .i64 (p:Int),.int .i64 (Cd.insAt m.code p).op,.int .i64 (Cd.insAt m.code p).n],v.val] w fun e w''=>∃ u:FrV,e=.returned (.tuple #[u.val,.bool (Aag cs ms m (Cd.insAt m.code p) x).isSome])∧(∀ y,Aag cs ms m (Cd.insAt m.code p) x=some y→u.is y w'')∧Below w.heap.size w w'':=by
 have g:=h.k.mt m h.mem;obtain⟨h25,hw⟩:=Cp g.unread p hp;have hn:=J4 g hp;have hlo:=g.rd.lo;have hst:=g.rd.st;have hpos:0≤(Cd.insAt m.code p).n:=by
  unfold Cd.insAt;simp only
  split
  ·exact Hg g.bd.code0 _
  ·omega
 have hN2:(Cd.insAt m.code p).op=20∨(Cd.insAt m.code p).op=21→(Cd.insAt m.code p).n.toNat<lms.length:=by
  intro ho;have ho':m.code.getD p 0=20∨m.code.getD p 0=21:=ho;have h2:Cd.wd (m.code.getD p 0)=2:=by unfold Cd.wd;rw[if_pos (by omega)]
  have:=hn.mth ho';rw[(Hf hw h2).1];have:ms.length=lms.length:=by rw[← h.em];simp
  omega
 have hbig:(Cd.insAt m.code p).n.toNat≤100000:=by
  have:(Cd.insAt m.code p).n≤255:=by
   unfold Cd.insAt;simp only
   split
   ·exact Yk g.rd.c255 _
   ·omega
  omega
 have hps:∀ q∈lms,q.1.params.length≤1000:=fun q hq=>by
  have:q.1∈ms:=by rw[← h.em];exact List.mem_map.2 ⟨q,hq,rfl⟩
  have:=(h.k.mt _ this).bd.ps;omega
 have:=Pm b 0 lms (Adp lcs) (p:Int) (Cd.insAt m.code p).op (Cd.insAt m.code p).n.toNat v x w h.ru hv hbig (by rw[hx.lo];omega) (by have:=hx.hi;omega) hps hN2;have e1:=h.is.st;have e2:=h.is.r1;have e3:=h.is.r2;simp only at e1 e2 e3;rw[show (((Cd.insAt m.code p).n.toNat:Nat):Int)=(Cd.insAt m.code p).n by omega,Zj,h.em,h.ec,h.T,h.L,e1,show (b.r1,b.r2)=m.result by rw[e2,e3]]at this;exact this
theorem Ro {cs:List Rd.Cls}{ms:List Rd.Mth}{lcs:List (Rd.Cls × Value)}{lms:List (Rd.Mth × MthV)}{b:PBd}{m:Rd.Mth}{bm:Nat}{w:World} (h:Aec cs ms lcs lms b m bm w) (p:Nat) (v:FrV) (x:Zx) (hp:p∈Cd.places m.code) (hv:v.is x w) (hx:Acd (Tr.tree cs) m x) :
  Calls Tryz.prog 186 #[b.pval,.agg #[.int .i64 (p:Int),.int .i64 (Cd.insAt m.code p).op,.int .i64 (Cd.insAt m.code p).n],v.val] w fun e w''=>∃ u:FrV,e=.returned (.tuple #[u.val,.int .i64 (Ady cs ms m (Cd.insAt m.code p) x)]) ∧
   (Ady cs ms m (Cd.insAt m.code p) x=0→∃ y,Aag cs ms m (Cd.insAt m.code p) x=some y∧u.is y w''∧Acd (Tr.tree cs) m y)∧Below w.heap.size w w'':=by
 have g:=h.k.mt m h.mem;have hpl:p<m.code.length:=Mj hp;have h120:=g.bd.code;have hh4:=g.bd.hs;have ecn:=h.is.cn;have ehl:=h.is.hl;simp only at ecn ehl;have hH:=fun w' (hb:Below w.heap.size w w')=>Re b (Aa2 m) m.handlers bm (p:Int) v x w' h.ru.tl (h.ru.below hb).tr (Gj (h.below hb)) ehl (by omega) (h.is.below hb).hs (hv.below hb);have:=Vj b (Aa2 m) p (Cd.insAt m.code p).op (Cd.insAt m.code p).n (Abm b.T (Aa2 m) (p:Int) x.locals m.handlers) (Aag cs ms m (Cd.insAt m.code p) x) v w h.ru.tl h.ru.tr (Gj h) (by omega) hH (fun w' hb=>Hs (h.below hb) p v x hp (hv.below hb) hx);rw[h.T,ecn]at this;refine this.mono ?_;rintro e w' ⟨u,rfl,h1,h2⟩;refine⟨u,rfl,fun h0=>?_,h2⟩;have hl:=Mo h.k h.mem hp hx;obtain⟨y,hy⟩:=Mq (show Aeb cs ms m p x=0 by rw[← hl];exact h0);have hbr:Aag cs ms m (Cd.insAt m.code p) x=some y:=by rw[Eo h.k h.mem hp hx];exact hy
 exact⟨y,hbr,h1 h0 y hbr,Gm h.k h.mem hp hx hy⟩
theorem Rb {cs:List Rd.Cls}{ms:List Rd.Mth}{lcs:List (Rd.Cls × Value)}{lms:List (Rd.Mth × MthV)}{b:PBd}{m:Rd.Mth}{bm:Nat}{w:World} (h:Aec cs ms lcs lms b m bm w) :
  Calls Tryz.prog 129 #[b.pval] w fun e w'=>e=.returned (.agg #[.int .i64 (Adb cs ms m).1,.int .i64 0,.int .i64 (Adb cs ms m).2])∧Below w.heap.size w w':=by
 have g:=h.k.mt m h.mem;have:=Tf b (Aa2 m) (Ady cs ms m) (Aag cs ms m) (Aa9 m) (Acd (Tr.tree cs) m) 0 w h.ru.tl h.ru.tr (Gj h) h.ru.ll h.ru.ins (fun w' hb=>Ol (h.below hb))
  (fun i hi v x w' hb hv hx=>by
   rw[h.L,Fu g.unread]at hi;obtain⟨p,hp,rfl⟩:=List.mem_map.1 hi;exact Ro (h.below hb) p v x hp hv hx) (Gs g) (fun q z hz=>Ep g hz)
 rw[h.T,h.L]at this;exact this
theorem Qx {cs:List Rd.Cls}{ms:List Rd.Mth} (k:Ace cs ms) {a1 a2:Option Addr}{n1 c1 n2 c2 bm:Nat}{lcs:List (Rd.Cls × Value)}{lms:List (Rd.Mth × MthV)}{w:World} (ec:lcs.map Prod.fst=cs) (hc:ClssIn w bm (.slice a1 n1 c1) lcs) (em:lms.map Prod.fst=ms) (hm:MthsIn w bm (.slice a2 n2 c2) lms) :
  Calls Tryz.prog 80 #[.agg #[.slice a1 n1 c1,.slice a2 n2 c2]] w fun e w'=>e=.returned (.agg #[.int .i64 (Abe (Adb cs ms) 0 ms).1,.int .i64 (Abe (Adb cs ms) 0 ms).2.1,.int .i64 (Abe (Adb cs ms) 0 ms).2.2])∧Below w.heap.size w w':=by
 obtain⟨xa,xc,hsh⟩:=Ag hm.1;simp only[Value.slice.injEq]at hsh;obtain⟨rfl,rfl,rfl⟩:=hsh;have hl1:lcs.length=cs.length:=by rw[← ec];simp
 have hl2:lms.length=ms.length:=by rw[← em];simp
 have hl6:=k.l6;have hm6:=k.m6;have hTl:=Bm cs;have hmem:∀ p∈lms,p.1∈ms:=fun p hp=>by rw[← em];exact List.mem_map.2 ⟨p,hp,rfl⟩
 have:=Tp a1 a2 n1 c1 c2 bm lcs lms (Adb cs ms) w (by omega) hc (by omega) hm (fun p hp=>⟨by have:=(k.mt _ (hmem p hp)).bd.code;omega,(k.mt _ (hmem p hp)).bd.code0⟩)
  (fun p hp b bb w' hb e1 e2 e3 e4 e5 e6 hT hL htr hrow his hin=>by
   have g:=k.mt _ (hmem p hp);rw[ec]at hT;obtain⟨ya,yc,hsh⟩:=Ag hrow;simp only[Value.slice.injEq]at hsh;have hyl:b.yn=(Adp lcs).length:=by rw[Gl];exact hsh.2.1
   have hll:b.L.length≤120:=by
    rw[hL,Fu g.unread];have:=Hu p.1.code;have:=g.bd.code;omega
   refine Rb ⟨k,ec,em,hmem p hp,hT,hL,⟨e5,by omega,?_,hyl,by rw[Gl];omega,?_,⟨?_,?_⟩,by rw[hT];omega,htr,by omega,Az hin (Nat.zero_le _)⟩,his⟩
   ·rw[e4,e5,e6];exact(hm.kp (Kp.of_below (e:=none) hb) (by decide) (by decide) (by decide) (by decide) (by decide)).mono (Nat.zero_le _)
   ·intro q hq;unfold Adp at hq;rcases List.mem_append.1 hq with hq | hq
    ·rw[(List.mem_replicate.1 hq).2];simp
    ·obtain⟨c,hc',rfl⟩:=List.mem_map.1 hq;exact k.fn c.1 (by rw[← ec];exact List.mem_map.2 ⟨c,hc',rfl⟩)
   ·rw[Uq,Gl];exact Az hrow (Nat.zero_le _)
   ·intro q hq;unfold Adp at hq;rcases List.mem_append.1 hq with hq | hq
    ·rw[(List.mem_replicate.1 hq).2];exact TyR.nil _
    ·obtain⟨c,hc',rfl⟩:=List.mem_map.1 hq;exact TyR.of_tys ((hc.kp (Kp.of_below (e:=none) hb) (by decide) (by decide)).2 c hc'))
 rw[em]at this;exact this
theorem Hv (f:Rd.Mth→Int × Int):∀ (l:List Rd.Mth) (k:Nat),(Aca f k l).1=0→Aca f k l=(0,0,0)
 | [],_,_=>rfl
 | m::r,k,h=>by
  rw[Aca]at h ⊢;by_cases h1:(f m).1≠0
  ·rw[if_pos h1]at h;exact absurd h h1
  ·rw[if_neg h1]at h ⊢;exact Hv f r _ h
theorem Qp (s:List UInt8):Acw (Aa7 s) (Abe (Adb (Rd.read s).1.classes (Rd.read s).1.methods) 0 (Rd.read s).1.methods)=Ael (Rf.formed s) (Aca (Acm (Rd.read s).1.classes (Rd.read s).1.methods) 0 (Rd.read s).1.methods):=by
 rw[Bu];unfold Acw Ael;by_cases h0:(Rf.formed s).1≠0
 ·rw[if_pos h0,if_pos h0]
 ·rw[if_neg h0,if_neg h0];obtain⟨k,_,_⟩:=Cg s (by simpa using h0);rw[Kg _ (Acm (Rd.read s).1.classes (Rd.read s).1.methods) _ _ (fun m hm=>U9 k hm)]
  split
  ·rfl
  ·rename_i h1;exact(Hv _ _ _ (by simpa using h1)).symm
theorem Mf (s:ByteArray) (w:World) (hs:s.size≤maxLen) :
  Calls Tryz.prog 20 #[.string s] w fun e w'=>e=.returned (.tuple #[.int .i64 (Adf s.data.toList).1,.int .i64 (Adf s.data.toList).2.1,.int .i64 (Adf s.data.toList).2.2])∧Below w.heap.size w w':=by
 have h:=Uc s (Abe (Adb (Rd.read s.data.toList).1.classes (Rd.read s.data.toList).1.methods) 0 (Rd.read s.data.toList).1.methods) w hs
  (fun h0 a1 n1 c1 a2 n2 c2 bm lcs lms w' hb hl1 hc hl2 hm=>by
   rw[Bu]at h0;obtain⟨k,_,_⟩:=Cg _ h0;exact Qx k hl1 hc hl2 hm)
 rw[Qp]at h;exact h
structure Ac3 where
 fr:Zx
 st:Bool
 ri:Bool
 wa:Bool
def Acc:Ac3:=⟨⟨[],[]⟩,false,false,false⟩
structure Z4 where
 sp:List Ac3
 hop:Bool
def Z4.at (s:Z4) (q:Nat):Ac3:=s.sp.getD q Acc
def Z4.put (s:Z4) (q:Nat) (y:Zx):Z4:=⟨s.sp.set q ⟨y,true,true,(s.at q).wa⟩,s.hop⟩
def Z4.stop (s:Z4):Z4:=⟨s.sp,true⟩
def Z4.want (s:Z4) (q:Nat):Z4:=⟨s.sp.set q ⟨(s.at q).fr,(s.at q).st,(s.at q).ri,true⟩,s.hop⟩
def Z4.calm (s:Z4) (q:Nat):Z4:=⟨s.sp.set q ⟨(s.at q).fr,(s.at q).st,false,(s.at q).wa⟩,s.hop⟩
def Acv (T:List Int) (x y:Zx):Zx:=⟨List.zipWith (Tr.joinT T) x.locals y.locals,List.zipWith (Tr.joinT T) x.stack y.stack⟩
def Aal (T:List Int) (hi:Int) (x:Zx) (q:Int) (s:Z4):Z4 :=
 if q<0∨(s.sp.length:Int)≤q∨hi<(x.stack.length:Int) then s.stop
 else if (s.at q.toNat).st=false then s.put q.toNat x
 else if Abx T x (s.at q.toNat).fr=true then s
 else if x.locals.length=(s.at q.toNat).fr.locals.length∧x.stack.length=(s.at q.toNat).fr.stack.length then s.put q.toNat (Acv T x (s.at q.toNat).fr)
 else s.stop
def Aek (q:Int) (s:Z4):Z4:=if 0≤q∧q<(s.sp.length:Int) then s.want q.toNat else s
def Abz (T:List Int) (hi:Int) (x:Zx) (q:Int) (s:Z4):Z4:=Aek q (Aal T hi x q s)
def Aaj (T:List Int) (hi:Int) (p:Int) (lo:List (Int × Int)):List Rd.Hnd→Z4→Z4
 | [],s=>s
 | h::r,s=>Aaj T hi p lo r (if Aa3 h p=true then Abz T hi ⟨lo,[(3,h.cl)]⟩ h.target s else s)
def Ac0 (T:List Int) (hi:Int) (hs:List Rd.Hnd) (bh:Cd.Ins→Zx→Option Zx) (i:Cd.Ins) (x:Zx) (s:Z4):Z4 :=
 match bh i x with
 | none=>(Aaj T hi i.place x.locals hs s).stop
 | some y =>
  let s1:=Aaj T hi i.place x.locals hs s
  let s2:=if Aan i.op=true then Abz T hi y i.n s1 else s1
  if Aa4 i.op=true then Aal T hi y (i.place+(Cd.wd i.op:Int)) s2 else s2
def Z8 (lk:Cd.Ins→Zx→Z4→Z4):List Cd.Ins→Bool→Z4→Z4 × Bool
 | [],b,s=>(s,b)
 | i::r,b,s=>if (s.sp.length:Int)≤i.place∨(s.at i.place.toNat).ri=false then Z8 lk r b s
  else Z8 lk r true (lk i (s.at i.place.toNat).fr (s.calm i.place.toNat))
def Aco (lk:Cd.Ins→Zx→Z4→Z4) (L:List Cd.Ins):Nat→Z4→Z4
 | 0,s=>s
 | n+1,s=>if (Z8 lk L false s).2=true∧(Z8 lk L false s).1.hop=false then Aco lk L n (Z8 lk L false s).1 else (Z8 lk L false s).1
def Aai:Nat→List Ac3→List Rd.Mp
 | _,[]=>[]
 | k,p::r=>if p.wa=true then ⟨(k:Int),p.fr.locals,p.fr.stack⟩::Aai (k+1) r else Aai (k+1) r
def Aed (T:List Int) (t:Int × Int):Nat:=if t.1=0 then 0 else if t.1=3 then 1+t.2.toNat else if t.1=2 then T.length+1 else 1
def Ads (T:List Int) (l:List (Int × Int)):Nat:=(l.map (Aed T)).sum
def Aeq (T:List Int) (x:Zx):Nat:=Ads T x.locals+Ads T x.stack
theorem Yo {T:List Int} (h:Tr.Ok T) {a b:Int × Int} (ha:Tr.Arg T a.1 a.2) (hb:Tr.Arg T b.1 b.2):Aed T (Tr.joinT T a b)≤Aed T b∧(Tr.fitsB T a.1 a.2 b.1 b.2=false→Aed T (Tr.joinT T a b)<Aed T b):=by
 obtain⟨k,n⟩:=a;obtain⟨k',n'⟩:=b;simp only at ha hb;obtain⟨j1,j2,j3,j4⟩:=Tr.join_spec h ha hb;simp only;by_cases hf:Tr.fitsB T k n k' n'=true
 ·have e:Tr.joinT T (k,n) (k',n')=(k',n'):=by unfold Tr.joinT;rw[if_pos hf]
  rw[e,hf];exact⟨Nat.le_refl _,fun h=>by simp at h⟩
 ·have hne:Tr.joinT T (k,n) (k',n')≠(k',n'):=fun e=>hf (by rw[e]at j2;exact j2);generalize Tr.joinT T (k,n) (k',n')=J at *;obtain⟨a,b⟩:=J;simp only at j1 j2 j3;have:Aed T (a,b)<Aed T (k',n'):=by
   unfold Aed;simp only;rcases(Tr.fits_iff ..).1 j3 with ⟨rfl,rfl⟩ | e | ⟨rfl,rfl⟩ | ⟨rfl,rfl,e⟩
   ·exact absurd rfl hne
   ·subst e;have hk':k' ≠ 0:=by
     rintro rfl;exact hf ((Tr.fits_iff ..).2 (.inr (.inl rfl)))
    rw[if_pos rfl,if_neg hk']
    split
    ·omega
    ·split<;>omega
   ·unfold Tr.Arg at j1;rw[if_neg (by decide),if_pos rfl,if_neg (by decide),if_neg (by decide),if_pos rfl];omega
   ·unfold Tr.Arg at j1 hb;have:=Tr.below_lt h (a:=n') (b:=b) (by omega) (by omega) e;rw[if_neg (by decide),if_pos rfl,if_neg (by decide),if_pos rfl];omega
  exact⟨Nat.le_of_lt this,fun _=>this⟩
theorem Jo {T:List Int} (h:Tr.Ok T):∀ (a b:List (Int × Int)),(∀ t∈a,Tr.Arg T t.1 t.2)→(∀ t∈b,Tr.Arg T t.1 t.2)→a.length=b.length →
  Ads T (List.zipWith (Tr.joinT T) a b)≤Ads T b∧(Aaq T a b=false→Ads T (List.zipWith (Tr.joinT T) a b)<Ads T b)
 | [],[],_,_,_=>⟨Nat.le_refl _,fun h=>by simp[Aaq]at h⟩
 | [],y::b,_,_,hl=>by simp at hl
 | x::a,[],_,_,hl=>by simp at hl
 | x::a,y::b,ha,hb,hl=>by
  have h1:=Yo h (ha x (by simp)) (hb y (by simp));have h2:=Jo h a b (fun t ht=>ha t (by simp[ht])) (fun t ht=>hb t (by simp[ht])) (by simpa using hl);unfold Ads at h2 ⊢;simp only[List.zipWith_cons_cons,List.map_cons,List.sum_cons];refine⟨by omega,fun hf=>?_⟩;unfold Aaq at hf;by_cases hx:Tr.fitsB T x.1 x.2 y.1 y.2=true
  ·have:Aaq T a b=false:=by simpa[hx] using hf
   have:=h2.2 this;omega
  ·have:=h1.2 (by simpa using hx);omega
theorem Yh {T:List Int} (h:Tr.Ok T) {x y:Zx} (hx:Aa0 T x) (hy:Aa0 T y) (hl:x.locals.length=y.locals.length) (hs:x.stack.length=y.stack.length) (hn:Abx T x y=false):Aeq T (Acv T x y)<Aeq T y:=by
 have h1:=Jo h x.locals y.locals hx.1 hy.1 hl;have h2:=Jo h x.stack y.stack hx.2 hy.2 hs;unfold Abx Ac2 at hn;rw[if_pos hl,if_pos hs]at hn;unfold Aeq Acv;simp only;by_cases hf:Aaq T x.locals y.locals=true
 ·have:=h2.2 (by simpa[hf] using hn);omega
 ·have:=h1.2 (by simpa using hf);omega
theorem Mw {T:List Int}:∀ (l:List (Int × Int)),(∀ t∈l,Tr.Arg T t.1 t.2)→Ads T l≤(T.length+1)*l.length
 | [],_=>by simp[Ads]
 | x::l,h=>by
  have h1:=Mw l (fun t ht=>h t (by simp[ht]));have hx:=h x (by simp);have:Aed T x≤T.length+1:=by
   unfold Aed;unfold Tr.Arg at hx
   split
   ·omega
   ·split
    ·omega
    ·split<;>omega
  unfold Ads at h1 ⊢;simp only[List.map_cons,List.sum_cons,List.length_cons,Nat.mul_succ];omega
def Acu (T:List Int) (lo:Nat) (hi:Int) (isN:Int→Prop) (s:Z4):Prop:=∀ p∈s.sp,(p.st=true→Acg T lo hi isN p.fr)∧(p.ri=true→p.st=true)
def Ab0 (T:List Int) (K:Nat) (p:Ac3):Nat:=if p.st=true then Aeq T p.fr else K
def Ac5 (T:List Int) (K:Nat) (s:Z4):Nat:=(s.sp.map (Ab0 T K)).sum*(s.sp.length+1)+s.sp.countP (fun p=>p.ri)
theorem Ig {α:Type} (f:α→Nat) (d y:α):∀ (l:List α) (i:Nat),i<l.length→((l.set i y).map f).sum+f (l.getD i d)=(l.map f).sum+f y
 | [],_,h=>by simp at h
 | x::l,0,_=>by simp;omega
 | x::l,i+1,h=>by
  have:=Ig f d y l i (by simpa using h);simp at this ⊢;omega
theorem Gc {α:Type} (f:α→Bool) (d y:α):∀ (l:List α) (i:Nat),i<l.length→(l.set i y).countP f+(if f (l.getD i d)=true then 1 else 0)=l.countP f+(if f y=true then 1 else 0)
 | [],_,h=>by simp at h
 | x::l,0,_=>by
  simp only[List.set_cons_zero,List.countP_cons,List.getD_cons_zero];omega
 | x::l,i+1,h=>by
  have:=Gc f d y l i (by simpa using h);simp only[List.set_cons_succ,List.countP_cons,List.getD_cons_succ];omega
theorem Ab9 {s:Z4}{q:Nat} (h:q<s.sp.length):s.at q∈s.sp:=by
 unfold Z4.at;rw[List.getD_eq_getElem?_getD,List.getElem?_eq_getElem h];exact List.getElem_mem _
structure Ab4 (T:List Int) (lo:Nat) (hi:Int) (isN:Int→Prop) (K:Nat) (s s':Z4):Prop where
 ok:Acu T lo hi isN s'
 len:s'.sp.length=s.sp.length
 mu:Ac5 T K s'≤Ac5 T K s
theorem Ab4.refl {T:List Int}{lo:Nat}{hi:Int}{isN:Int→Prop}{K:Nat}{s:Z4} (h:Acu T lo hi isN s):Ab4 T lo hi isN K s s:=⟨h,rfl,Nat.le_refl _⟩
theorem Ab4.trans {T:List Int}{lo:Nat}{hi:Int}{isN:Int→Prop}{K:Nat}{a b c:Z4} (h:Ab4 T lo hi isN K a b) (g:Ab4 T lo hi isN K b c):Ab4 T lo hi isN K a c:=⟨g.ok,g.len.trans h.len,Nat.le_trans g.mu h.mu⟩
theorem Ab4.stop {T:List Int}{lo:Nat}{hi:Int}{isN:Int→Prop}{K:Nat}{s:Z4} (h:Acu T lo hi isN s):Ab4 T lo hi isN K s s.stop:=⟨h,rfl,Nat.le_refl _⟩
theorem Ab4.put {T:List Int}{lo:Nat}{hi:Int}{isN:Int→Prop}{K:Nat}{s:Z4} (h:Acu T lo hi isN s) {q:Nat} (hq:q<s.sp.length) {y:Zx} (hy:Acg T lo hi isN y) (hc:Aeq T y<Ab0 T K (s.at q)):Ab4 T lo hi isN K s (s.put q y):=by
 refine⟨fun p hp=>?_,by simp[Z4.put],?_⟩
 ·rcases List.mem_or_eq_of_mem_set hp with hp|rfl
  ·exact h p hp
  ·exact⟨fun _=>hy,fun _=>rfl⟩
 ·have h1:=Ig (Ab0 T K) Acc ⟨y,true,true,(s.at q).wa⟩ s.sp q hq;have h2:=Gc (fun p:Ac3=>p.ri) Acc ⟨y,true,true,(s.at q).wa⟩ s.sp q hq;unfold Ac5 Z4.put;simp only[List.length_set];unfold Z4.at at hc h1 h2 ⊢;simp only[if_true]at h2;have e:Ab0 T K ⟨y,true,true,(s.sp.getD q Acc).wa⟩=Aeq T y:=by unfold Ab0;rw[if_pos rfl]
  rw[e]at h1;have h3:((s.sp.set q ⟨y,true,true,(s.sp.getD q Acc).wa⟩).map (Ab0 T K)).sum+1≤(s.sp.map (Ab0 T K)).sum:=by omega
  have h4:=Nat.mul_le_mul_right (s.sp.length+1) h3;rw[Nat.add_mul]at h4;omega
theorem Ab4.want {T:List Int}{lo:Nat}{hi:Int}{isN:Int→Prop}{K:Nat}{s:Z4} (h:Acu T lo hi isN s) {q:Nat} (hq:q<s.sp.length):Ab4 T lo hi isN K s (s.want q):=by
 refine⟨fun p hp=>?_,by simp[Z4.want],?_⟩
 ·rcases List.mem_or_eq_of_mem_set hp with hp|rfl
  ·exact h p hp
  ·exact⟨(h _ (Ab9 hq)).1,(h _ (Ab9 hq)).2⟩
 ·have h1:=Ig (Ab0 T K) Acc ⟨(s.at q).fr,(s.at q).st,(s.at q).ri,true⟩ s.sp q hq;have h2:=Gc (fun p:Ac3=>p.ri) Acc ⟨(s.at q).fr,(s.at q).st,(s.at q).ri,true⟩ s.sp q hq;unfold Ac5 Z4.want;simp only[List.length_set];have e:Ab0 T K ⟨(s.at q).fr,(s.at q).st,(s.at q).ri,true⟩=Ab0 T K (s.at q):=rfl;unfold Z4.at at h1 h2 e ⊢;rw[e]at h1;simp only at h2;have h3:((s.sp.set q ⟨(s.sp.getD q Acc).fr,(s.sp.getD q Acc).st,(s.sp.getD q Acc).ri,true⟩).map (Ab0 T K)).sum=(s.sp.map (Ab0 T K)).sum:=by omega
  rw[h3];omega
theorem Aeh {T:List Int}{lo:Nat}{hi:Int}{isN:Int→Prop}{K:Nat}{s:Z4} (h:Acu T lo hi isN s) {q:Nat} (hq:q<s.sp.length) (hr:(s.at q).ri=true):Acu T lo hi isN (s.calm q)∧(s.calm q).sp.length=s.sp.length∧Ac5 T K (s.calm q)<Ac5 T K s:=by
 refine⟨fun p hp=>?_,by simp[Z4.calm],?_⟩
 ·rcases List.mem_or_eq_of_mem_set hp with hp|rfl
  ·exact h p hp
  ·exact⟨(h _ (Ab9 hq)).1,fun h=>by simp at h⟩
 ·have h1:=Ig (Ab0 T K) Acc ⟨(s.at q).fr,(s.at q).st,false,(s.at q).wa⟩ s.sp q hq;have h2:=Gc (fun p:Ac3=>p.ri) Acc ⟨(s.at q).fr,(s.at q).st,false,(s.at q).wa⟩ s.sp q hq;unfold Ac5 Z4.calm;simp only[List.length_set];have e:Ab0 T K ⟨(s.at q).fr,(s.at q).st,false,(s.at q).wa⟩=Ab0 T K (s.at q):=rfl;unfold Z4.at at h1 h2 e hr ⊢;rw[e]at h1;simp only[hr,if_true,Bool.false_eq_true,if_false]at h2;have h3:((s.sp.set q ⟨(s.sp.getD q Acc).fr,(s.sp.getD q Acc).st,false,(s.sp.getD q Acc).wa⟩).map (Ab0 T K)).sum=(s.sp.map (Ab0 T K)).sum:=by omega
  rw[h3];omega
theorem Acg.arg {T:List Int}{lo:Nat}{hi:Int}{isN:Int→Prop}{x:Zx} (h:Acg T lo hi isN x):Aa0 T x:=⟨fun t ht=>(h.tl t ht).1,fun t ht=>(h.ts t ht).1⟩
theorem Xz {T:List Int} (h:Tr.Ok T) {isN:Int→Prop}{a b:Int × Int} (ha:Aab T isN a) (hb:Aab T isN b):Aab T isN (Tr.joinT T a b):=by
 have j:=(Tr.join_spec h (k:=a.1) (n:=a.2) (k':=b.1) (n':=b.2) ha.1 hb.1).1;refine⟨j,?_⟩;unfold Tr.joinT
 split
 ·exact hb.2
 ·split
  ·exact ha.2
  ·split
   ·intro h;simp at h
   ·split
    ·intro h;simp at h
    ·intro h;simp at h
theorem Nb {T:List Int} (h:Tr.Ok T) {isN:Int→Prop}:∀ (a b:List (Int × Int)),(∀ t∈a,Aab T isN t)→(∀ t∈b,Aab T isN t)→∀ t∈List.zipWith (Tr.joinT T) a b,Aab T isN t
 | [],_,_,_,t,ht=>by simp at ht
 | _::_,[],_,_,t,ht=>by simp at ht
 | x::a,y::b,ha,hb,t,ht=>by
  simp only[List.zipWith_cons_cons,List.mem_cons]at ht;rcases ht with rfl | ht
  ·exact Xz h (ha x (by simp)) (hb y (by simp))
  ·exact Nb h a b (fun t ht=>ha t (by simp[ht])) (fun t ht=>hb t (by simp[ht])) t ht
theorem Oh {T:List Int} (h:Tr.Ok T) {lo:Nat}{hi:Int}{isN:Int→Prop}{x y:Zx} (hx:Acg T lo hi isN x) (hy:Acg T lo hi isN y):Acg T lo hi isN (Acv T x y):=by
 refine⟨?_,?_,Nb h _ _ hx.tl hy.tl,Nb h _ _ hx.ts hy.ts⟩
 ·have:=hx.lo;have:=hy.lo;simp[Acv];omega
 ·have:=hx.hi;simp[Acv];omega
theorem Zr {T:List Int}{lo:Nat}{hi:Int}{isN:Int→Prop}{x:Zx} (hx:Acg T lo hi isN x):Aeq T x<(T.length+1)*(lo+hi.toNat)+1:=by
 have h1:=Mw x.locals hx.arg.1;have h2:=Mw x.stack hx.arg.2;have h3:=hx.lo;have h4:=hx.hi;have h5:=Nat.mul_le_mul_left (T.length+1) (show x.stack.length≤hi.toNat by omega);unfold Aeq;rw[Nat.mul_add];rw[h3]at h1;omega
def Adw (T:List Int) (lo:Nat) (hi:Int):Nat:=(T.length+1)*(lo+hi.toNat)+1
theorem Lb {T:List Int} (h:Tr.Ok T) {lo:Nat}{hi:Int}{isN:Int→Prop}{s:Z4} (hs:Acu T lo hi isN s) {x:Zx} (hx:x.locals.length=lo) (ht:∀ t∈x.locals,Aab T isN t) (hk:∀ t∈x.stack,Aab T isN t) (q:Int):Ab4 T lo hi isN (Adw T lo hi) s (Aal T hi x q s):=by
 unfold Aal
 split
 ·exact .stop hs
 ·next hn =>
  have hx':Acg T lo hi isN x:=⟨hx,by omega,ht,hk⟩
  split
  ·next h1=>exact .put hs (by omega) hx' (by unfold Ab0;rw[if_neg (by simp[h1])];exact Zr hx')
  ·next h1 =>
   split
   ·exact .refl hs
   ·next h2 =>
    split
    ·next h3 =>
     have hy:=(hs _ (Ab9 (s:=s) (q:=q.toNat) (by omega))).1 (by simpa using h1);exact .put hs (by omega) (Oh h hx' hy) (by unfold Ab0;rw[if_pos (by simpa using h1)];exact Yh h hx'.arg hy.arg h3.1 h3.2 (by simpa using h2))
    ·exact .stop hs
theorem X8 {T:List Int}{lo:Nat}{hi:Int}{isN:Int→Prop}{K:Nat}{s:Z4} (hs:Acu T lo hi isN s) (q:Int):Ab4 T lo hi isN K s (Aek q s):=by
 unfold Aek
 split
 ·exact .want hs (by omega)
 ·exact .refl hs
theorem P8 {T:List Int} (h:Tr.Ok T) {lo:Nat}{hi:Int}{isN:Int→Prop}{s:Z4} (hs:Acu T lo hi isN s) {x:Zx} (hx:x.locals.length=lo) (ht:∀ t∈x.locals,Aab T isN t) (hk:∀ t∈x.stack,Aab T isN t) (q:Int):Ab4 T lo hi isN (Adw T lo hi) s (Abz T hi x q s):=by
 have h1:=Lb h hs hx ht hk q;exact h1.trans (X8 h1.ok q)
theorem Jb {T:List Int} (h:Tr.Ok T) {lo:Nat}{hi:Int}{isN:Int→Prop}{x:Zx} (hx:x.locals.length=lo) (ht:∀ t∈x.locals,Aab T isN t) (p:Int):∀ (hs:List Rd.Hnd),(∀ y∈hs,Tr.Arg T 3 y.cl)→∀ {s:Z4},Acu T lo hi isN s→Ab4 T lo hi isN (Adw T lo hi) s (Aaj T hi p x.locals hs s)
 | [],_,s,h0=>.refl h0
 | y::r,hy,s,h0=>by
  unfold Aaj;have h1:Ab4 T lo hi isN (Adw T lo hi) s (if Aa3 y p=true then Abz T hi ⟨x.locals,[(3,y.cl)]⟩ y.target s else s):=by
   split
   ·exact P8 (x:=⟨x.locals,[(3,y.cl)]⟩) h h0 hx ht (by intro t ht;rw[List.mem_singleton.1 ht];exact⟨hy y (by simp),fun h=>by simp at h⟩) _
   ·exact .refl h0
  exact h1.trans (Jb h hx ht p r (fun z hz=>hy z (by simp[hz])) h1.ok)
theorem Yd {T:List Int} (h:Tr.Ok T) {lo:Nat}{hi:Int}{isN:Int→Prop}{x:Zx} (hx:Acg T lo hi isN x) {hs:List Rd.Hnd} (hy:∀ y∈hs,Tr.Arg T 3 y.cl) {bh:Cd.Ins→Zx→Option Zx}{i:Cd.Ins} (hb:∀ y,bh i x=some y→Acg T lo hi isN y) {s:Z4} (h0:Acu T lo hi isN s):Ab4 T lo hi isN (Adw T lo hi) s (Ac0 T hi hs bh i x s):=by
 have h1:=Jb h hx.lo hx.tl i.place hs hy h0;unfold Ac0
 split
 ·exact h1.trans (.stop h1.ok)
 ·next y e =>
  have hy':=hb y e;have h2:Ab4 T lo hi isN (Adw T lo hi) s (if Aan i.op=true then Abz T hi y i.n (Aaj T hi i.place x.locals hs s) else Aaj T hi i.place x.locals hs s):=by
   split
   ·exact h1.trans (P8 h h1.ok hy'.lo hy'.tl hy'.ts _)
   ·exact h1
  simp only
  split
  ·exact h2.trans (Lb h h2.ok hy'.lo hy'.tl hy'.ts _)
  ·exact h2
theorem Gx {T:List Int}{lo:Nat}{hi:Int}{isN:Int→Prop}{K:Nat}{lk:Cd.Ins→Zx→Z4→Z4}:∀ (L:List Cd.Ins),(∀ i∈L,0≤i.place) →
  (∀ i∈L,∀ x s,Acg T lo hi isN x→Acu T lo hi isN s→Ab4 T lo hi isN K s (lk i x s)) →
  ∀ (b:Bool) {s:Z4},Acu T lo hi isN s→Ab4 T lo hi isN K s (Z8 lk L b s).1∧((Z8 lk L b s).2=true→b=false→Ac5 T K (Z8 lk L b s).1<Ac5 T K s)
 | [],_,_,b,s,h0=>⟨.refl h0,fun h g=>by simp[Z8,g]at h⟩
 | i::r,hp,hk,b,s,h0=>by
  unfold Z8;have ih:=fun b {s:Z4} h0=>Gx (T:=T) (lo:=lo) (hi:=hi) (isN:=isN) (K:=K) (lk:=lk) r (fun z hz=>hp z (by simp[hz])) (fun z hz=>hk z (by simp[hz])) b (s:=s) h0
  split
  ·exact ih b h0
  ·next hn =>
   have hpi:=hp i (by simp);have hri:(s.at i.place.toNat).ri=true:=by
    cases h:(s.at i.place.toNat).ri with
    | true=>rfl
    | false=>exact absurd (.inr h) hn
   have hq:i.place.toNat<s.sp.length:=by
    have:¬ (s.sp.length:Int)≤i.place:=fun h=>hn (.inl h);omega
   obtain⟨c1,c2,c3⟩:=Aeh (K:=K) h0 hq hri;have hx:=(h0 _ (Ab9 hq)).1 ((h0 _ (Ab9 hq)).2 hri);have h1:=hk i (by simp) _ _ hx c1;have h2:=(ih true h1.ok).1;have hmu:=Nat.le_trans h2.mu h1.mu;exact⟨⟨h2.ok,h2.len.trans (h1.len.trans c2),by omega⟩,fun _ _=>by omega⟩
theorem Hm {T:List Int}{lo:Nat}{hi:Int}{isN:Int→Prop}{K:Nat}{lk:Cd.Ins→Zx→Z4→Z4}{L:List Cd.Ins} (hp:∀ i∈L,0≤i.place)
  (hk:∀ i∈L,∀ x s,Acg T lo hi isN x→Acu T lo hi isN s→Ab4 T lo hi isN K s (lk i x s)):∀ (n m:Nat) {s:Z4},Acu T lo hi isN s→Ac5 T K s<n→Ac5 T K s<m→Aco lk L n s=Aco lk L m s
 | 0,_,s,_,h,_=>absurd h (by omega)
 | n+1,0,s,_,_,h=>absurd h (by omega)
 | n+1,m+1,s,h0,hn,hm=>by
  have h1:=Gx (K:=K) L hp hk false h0;unfold Aco;by_cases hc:(Z8 lk L false s).2=true∧(Z8 lk L false s).1.hop=false
  ·rw[if_pos hc,if_pos hc];have:=h1.2 hc.1 rfl;exact Hm hp hk n m h1.1.ok (by omega) (by omega)
  ·rw[if_neg hc,if_neg hc]
def Aev (T:List Int) (K:Nat) (lk:Cd.Ins→Zx→Z4→Z4) (L:List Cd.Ins) (s:Z4):Z4:=Aco lk L (Ac5 T K s+1) s
theorem Tz {T:List Int}{lo:Nat}{hi:Int}{isN:Int→Prop}{K:Nat}{lk:Cd.Ins→Zx→Z4→Z4}{L:List Cd.Ins} (hp:∀ i∈L,0≤i.place)
  (hk:∀ i∈L,∀ x s,Acg T lo hi isN x→Acu T lo hi isN s→Ab4 T lo hi isN K s (lk i x s)) {s:Z4} (h0:Acu T lo hi isN s) :
  Aev T K lk L s=if (Z8 lk L false s).2=true∧(Z8 lk L false s).1.hop=false then Aev T K lk L (Z8 lk L false s).1 else (Z8 lk L false s).1:=by
 have h1:=Gx (K:=K) L hp hk false h0;unfold Aev;rw[Aco];by_cases hc:(Z8 lk L false s).2=true∧(Z8 lk L false s).1.hop=false
 ·rw[if_pos hc,if_pos hc];have:=h1.2 hc.1 rfl;exact Hm hp hk _ _ h1.1.ok (by omega) (by omega)
 ·rw[if_neg hc,if_neg hc]
abbrev Afd (T:List Int) (s t:Int × Int):Prop:=Tr.fitsB T s.1 s.2 t.1 t.2=true
def Aas (T:List Int):List (Int × Int)→List (Int × Int)→Prop
 | [],[]=>True
 | s::a,t::b=>Afd T s t∧Aas T a b
 | _,_=>False
theorem Aas.nil {T:List Int}:Aas T [] []:=trivial
theorem Aas.cons {T:List Int}{s t:Int × Int}{a b:List (Int × Int)} (h:Afd T s t) (k:Aas T a b):Aas T (s::a) (t::b):=⟨h,k⟩
theorem Aas.el {T:List Int}{P:(a b:List (Int × Int))→Aas T a b→Prop} (nil:P [] [] .nil) (cons:∀{s t:Int × Int}{a b:List (Int × Int)} (h:Afd T s t) (k:Aas T a b),P a b k→P (s::a) (t::b) (.cons h k)):∀{a b:List (Int × Int)} (h:Aas T a b),P a b h
 | [],[],_=>nil
 | [],_::_,h=>False.elim h
 | _::_,[],h=>False.elim h
 | _::_,_::_,h=>cons h.1 h.2 (Aas.el nil cons h.2)
structure Aay (T:List Int) (x y:Zx):Prop where
 lo:Aas T x.locals y.locals
 st:Aas T x.stack y.stack
theorem Aas.len {T:List Int}{a b:List (Int × Int)} (h:Aas T a b):a.length=b.length:=by
 induction h using Aas.el with
 | nil=>rfl
 | cons _ _ ih=>simp[ih]
theorem Aas.refl (T:List Int) (a:List (Int × Int)):Aas T a a:=by
 induction a with
 | nil=>exact .nil
 | cons x r ih=>exact .cons (Tr.fits_refl _ _ _) ih
theorem Aas.trans {T:List Int} (hT:Tr.Ok T) {a b c:List (Int × Int)} (h:Aas T a b) (g:Aas T b c) (ha:∀ t∈a,Tr.Arg T t.1 t.2) (hb:∀ t∈b,Tr.Arg T t.1 t.2) (hc:∀ t∈c,Tr.Arg T t.1 t.2):Aas T a c:=by
 induction h using Aas.el generalizing c with
 | nil=>exact g
 | cons h1 h2 ih =>
  cases g using Aas.el with
  | cons g1 g2=>exact .cons (Tr.fits_trans hT (ha _ (by simp)) (hb _ (by simp)) (hc _ (by simp)) h1 g1) (ih g2 (fun t ht=>ha t (by simp[ht])) (fun t ht=>hb t (by simp[ht])) (fun t ht=>hc t (by simp[ht])))
theorem Aas.getD {T:List Int}{a b:List (Int × Int)} (h:Aas T a b) (i:Nat):Afd T (a.getD i (0,0)) (b.getD i (0,0)):=by
 induction h using Aas.el generalizing i with
 | nil=>exact Tr.fits_refl _ _ _
 | cons h1 _ ih =>
  cases i with
  | zero=>simpa using h1
  | succ i=>simpa using ih i
theorem Aas.set {T:List Int}{a b:List (Int × Int)} (h:Aas T a b) (i:Nat) {s t:Int × Int} (hs:Afd T s t):Aas T (a.set i s) (b.set i t):=by
 induction h using Aas.el generalizing i with
 | nil=>exact .nil
 | cons h1 h2 ih =>
  cases i with
  | zero=>exact .cons hs h2
  | succ i=>exact .cons h1 (ih i)
theorem Aas.take {T:List Int}{a b:List (Int × Int)} (h:Aas T a b) (i:Nat):Aas T (a.take i) (b.take i):=by
 induction h using Aas.el generalizing i with
 | nil=>simpa using Aas.nil
 | cons h1 h2 ih =>
  cases i with
  | zero=>exact .nil
  | succ i=>exact .cons h1 (ih i)
theorem Aas.drop {T:List Int}{a b:List (Int × Int)} (h:Aas T a b) (i:Nat):Aas T (a.drop i) (b.drop i):=by
 induction h using Aas.el generalizing i with
 | nil=>simpa using Aas.nil
 | cons h1 h2 ih =>
  cases i with
  | zero=>exact .cons h1 h2
  | succ i=>exact ih i
theorem Aas.append {T:List Int}{a b c d:List (Int × Int)} (h:Aas T a b) (g:Aas T c d):Aas T (a++c) (b++d):=by
 induction h using Aas.el with
 | nil=>exact g
 | cons h1 _ ih=>exact .cons h1 ih
theorem M4 {T:List Int}{s:Int × Int}{p:Int} (h:Afd T s (4,p)):s=(4,p):=by
 rcases(Tr.fits_iff ..).1 h with ⟨a,b⟩ | e|⟨e,_⟩|⟨e,_⟩
 ·exact Prod.ext a b
 ·exact absurd e (by simp)
 ·exact absurd e (by simp)
 ·exact absurd e (by simp)
theorem Ws {T:List Int}{t:Int × Int}{p:Int} (h:Afd T (4,p) t):t=(4,p)∨t.1=0:=by
 rcases(Tr.fits_iff ..).1 h with ⟨a,b⟩ | e|⟨_,e⟩|⟨_,e,_⟩
 ·exact .inl (Prod.ext a.symm b.symm)
 ·exact .inr e
 ·exact absurd e (by simp)
 ·exact absurd e (by simp)
theorem Aas.turned {T:List Int}{a b:List (Int × Int)} (h:Aas T a b) (p:Int) (u:Int × Int):Aas T (Aa1 (4,p) u a) (Aa1 (4,p) u b):=by
 induction h using Aas.el with
 | nil=>exact .nil
 | @cons s t a b h1 _ ih =>
  refine Aas.cons ?_ ih;show Afd T (if s=(4,p) then u else s) (if t=(4,p) then u else t)
  by_cases hs:s=(4,p)
  ·subst hs;rw[if_pos rfl];rcases Ws h1 with rfl | h0
   ·rw[if_pos rfl];exact Tr.fits_refl _ _ _
   ·rw[if_neg (by rintro rfl;simp at h0)];exact(Tr.fits_iff ..).2 (.inr (.inl h0))
  ·rw[if_neg hs];by_cases ht:t=(4,p)
   ·subst ht;exact absurd (M4 h1) hs
   ·rw[if_neg ht];exact h1
theorem Uu {T:List Int} (hT:Tr.Ok T) {a b:List (Int × Int)} (h:Aas T a b) (ha:∀ t∈a,Tr.Arg T t.1 t.2) (hb:∀ t∈b,Tr.Arg T t.1 t.2):∀ {c:List (Int × Int)},(∀ t∈c,Tr.Arg T t.1 t.2)→Aaq T b c=true→Aaq T a c=true:=by
 induction h using Aas.el with
 | nil=>exact fun _ h=>h
 | cons h1 _ ih =>
  intro c hc hf;cases c with
  | nil=>simp[Aaq]
  | cons u c =>
   simp only[Aaq,Bool.and_eq_true]at hf ⊢;exact⟨Tr.fits_trans hT (ha _ (by simp)) (hb _ (by simp)) (hc _ (by simp)) h1 hf.1,ih (fun t ht=>ha t (by simp[ht])) (fun t ht=>hb t (by simp[ht])) (fun t ht=>hc t (by simp[ht])) hf.2⟩
theorem Vf {T:List Int} (hT:Tr.Ok T) {a b c:List (Int × Int)} (h:Aas T a b) (ha:∀ t∈a,Tr.Arg T t.1 t.2) (hb:∀ t∈b,Tr.Arg T t.1 t.2) (hc:∀ t∈c,Tr.Arg T t.1 t.2) (hf:Acf T b c=true):Acf T a c=true:=by
 unfold Acf at hf ⊢;rw[h.len];by_cases hl:b.length<c.length
 ·rw[if_pos hl]at hf;cases hf
 ·rw[if_neg hl]at hf ⊢;rw[Dg hT _ _ (fun t ht=>hb t (List.mem_of_mem_drop ht)) hc]at hf;rw[Dg hT _ _ (fun t ht=>ha t (List.mem_of_mem_drop ht)) hc];exact Uu hT (h.drop _) (fun t ht=>ha t (List.mem_of_mem_drop ht)) (fun t ht=>hb t (List.mem_of_mem_drop ht)) hc hf
theorem Sh {T:List Int} (hT:Tr.Ok T) {tk lv want:List (Int × Int)}{arg:Int→Int}{p op n:Int}{x y z:Zx} (hx:Aa0 T x) (hy:Aa0 T y) (hk:∀ t∈tk,Tr.Arg T t.1 t.2) (hw:∀ t∈want,Tr.Arg T t.1 t.2) (h:Aay T x y)
  (hz:Ac4 T tk lv want arg p op n y=some z):∃ u,Ac4 T tk lv want arg p op n x=some u∧Aay T u z:=by
 have el:=h.lo.len;have es:=h.st.len;unfold Ac4 at hz ⊢;by_cases h2:op=2
 ·rw[if_pos h2]at hz ⊢;have hg:=h.lo.getD n.toNat;by_cases hk0:(y.locals.getD n.toNat (0,0)).1=0
  ·rw[if_pos hk0]at hz;cases hz
  ·rw[if_neg hk0]at hz;have hk1:(x.locals.getD n.toNat (0,0)).1≠0:=by
    intro e;rcases(Tr.fits_iff ..).1 hg with ⟨a,_⟩ | a | ⟨_,a⟩ | ⟨_,a,_⟩<;>omega
   rw[if_neg hk1];cases hz;exact⟨_,rfl,h.lo,h.st.append (.cons hg .nil)⟩
 ·rw[if_neg h2]at hz ⊢;by_cases h3:op=3
  ·rw[if_pos h3,es]at *;by_cases hl:y.stack.length<1
   ·rw[if_pos hl]at hz;cases hz
   ·rw[if_neg hl]at hz ⊢;cases hz;exact⟨_,rfl,h.lo.set _ (h.st.getD _),h.st.take _⟩
  ·rw[if_neg h3]at hz ⊢;by_cases h4:op=4
   ·rw[if_pos h4,es]at *;by_cases hl:y.stack.length<1
    ·rw[if_pos hl]at hz;cases hz
    ·rw[if_neg hl]at hz ⊢;cases hz;exact⟨_,rfl,h.lo,h.st.take _⟩
   ·rw[if_neg h4]at hz ⊢;by_cases h5:op=5
    ·rw[if_pos h5,es]at *;by_cases hl:y.stack.length<1
     ·rw[if_pos hl]at hz;cases hz
     ·rw[if_neg hl]at hz ⊢;cases hz;exact⟨_,rfl,h.lo,h.st.append (h.st.drop _)⟩
    ·rw[if_neg h5]at hz ⊢;by_cases h6:op=6
     ·rw[if_pos h6,es]at *;by_cases hl:y.stack.length<2
      ·rw[if_pos hl]at hz;cases hz
      ·rw[if_neg hl]at hz ⊢;cases hz;exact⟨_,rfl,h.lo,(h.st.take _).append (.cons (h.st.getD _) (.cons (h.st.getD _) .nil))⟩
     ·rw[if_neg h6]at hz ⊢;by_cases h15:op=15
      ·rw[if_pos h15]at hz ⊢;cases hz;exact⟨_,rfl,h.lo.turned _ _,(h.st.turned _ _).append (.cons (Tr.fits_refl _ _ _) .nil)⟩
      ·rw[if_neg h15]at hz ⊢;by_cases h16:op=16
       ·rw[if_pos h16]at hz ⊢;unfold Ae3 at hz ⊢;rw[es]at *;by_cases ht:Acf T y.stack want=false
        ·rw[if_pos ht]at hz;cases hz
        ·have ht':=Vf hT h.st hx.2 hy.2 hw (by simpa using ht);rw[if_neg ht]at hz;rw[if_neg (by simp[ht'])];by_cases hl:y.stack.length<want.length+1
         ·rw[if_pos hl]at hz;cases hz
         ·rw[if_neg hl]at hz ⊢;have hg:=h.st.getD (y.stack.length-want.length-1);have hg2:=h.st.take (y.stack.length-want.length-1);generalize y.stack.getD (y.stack.length-want.length-1) (0,0)=r at *;generalize x.stack.getD (y.stack.length-want.length-1) (0,0)=r' at *;by_cases h41:r.1≠4
          ·rw[if_pos h41]at hz;cases hz
          ·rw[if_neg h41]at hz;obtain⟨r1,r2⟩:=r;have:r1=4:=by simpa using h41
           subst this;have e:=M4 hg;subst e;rw[if_neg h41];by_cases ha:arg r2≠n
           ·rw[if_pos ha]at hz;cases hz
           ·rw[if_neg ha]at hz ⊢;cases hz;exact⟨_,rfl,h.lo.turned _ _,hg2.turned _ _⟩
       ·rw[if_neg h16]at hz ⊢;by_cases ht:Acf T y.stack tk=false
        ·rw[if_pos ht]at hz;cases hz
        ·have ht':=Vf hT h.st hx.2 hy.2 hk (by simpa using ht);rw[if_neg ht,es]at *;rw[if_neg (by simp[ht'])];cases hz;exact⟨_,rfl,h.lo,(h.st.take _).append (.refl _ _)⟩
structure Aaf where
 T:List Int
 lo:Nat
 hi:Int
 isN:Int→Prop
 n:Nat
 ps:List Nat
 hs:List Rd.Hnd
 rl:Nat→Zx→Option Zx
 op:Nat→Int
 ar:Nat→Int
 x0:Zx
abbrev Aaf.I (E:Aaf) (x:Zx):Prop:=Acg E.T E.lo E.hi E.isN x
def Aaf.nx (E:Aaf) (p:Nat):Int:=(p:Int)+(Cd.wd (E.op p):Int)
structure Aaf.Good (E:Aaf):Prop where
 T:Tr.Ok E.T
 x0:E.I E.x0
 rl:∀ p∈E.ps,∀ x y,E.I x→E.rl p x=some y→E.I y
 mono:∀ p∈E.ps,∀ x y z,E.I x→E.I y→Aay E.T x y→E.rl p y=some z→∃ u,E.rl p x=some u∧Aay E.T u z
 tgt:∀ p∈E.ps,Aan (E.op p)=true→0≤E.ar p∧E.ar p<(E.n:Int)∧(E.ar p).toNat∈E.ps
 nxt:∀ p∈E.ps,E.nx p<(E.n:Int)→(E.nx p).toNat∈E.ps
 hnd:∀ h∈E.hs,0≤h.target∧h.target<(E.n:Int)∧h.target.toNat∈E.ps∧Tr.Arg E.T 3 h.cl
 zero:0∈E.ps
 lt:∀ p∈E.ps,p<E.n
def Abo (x:Zx) (h:Rd.Hnd):Zx:=⟨x.locals,[(3,h.cl)]⟩
def Acx (E:Aaf) (p:Nat) (x:Zx) (q:Int) (y:Zx) (a:Bool):Prop:=(∃ h,h∈E.hs∧Aa3 h (p:Int)=true∧q=h.target∧y=Abo x h∧a=true)∨(E.rl p x=some y∧Aan (E.op p)=true∧q=E.ar p∧a=true)∨(E.rl p x=some y∧Aa4 (E.op p)=true∧q=E.nx p∧a=false)
theorem Acx.hnd {E:Aaf}{p:Nat}{x:Zx} (h:Rd.Hnd) (k:h∈E.hs) (c:Aa3 h (p:Int)=true):Acx E p x h.target (Abo x h) true:=Or.inl ⟨h,k,c,rfl,rfl,rfl⟩
theorem Acx.jmp {E:Aaf}{p:Nat}{x:Zx} (y:Zx) (k:E.rl p x=some y) (c:Aan (E.op p)=true):Acx E p x (E.ar p) y true:=Or.inr (Or.inl ⟨k,c,rfl,rfl⟩)
theorem Acx.nxt {E:Aaf}{p:Nat}{x:Zx} (y:Zx) (k:E.rl p x=some y) (c:Aa4 (E.op p)=true):Acx E p x (E.nx p) y false:=Or.inr (Or.inr ⟨k,c,rfl,rfl⟩)
theorem Acx.el {E:Aaf}{p:Nat}{x:Zx}{P:(q:Int)→(y:Zx)→(a:Bool)→Acx E p x q y a→Prop} (hnd:∀ (h:Rd.Hnd) (k:h∈E.hs) (c:Aa3 h (p:Int)=true),P _ _ _ (.hnd h k c)) (jmp:∀ (y:Zx) (k:E.rl p x=some y) (c:Aan (E.op p)=true),P _ _ _ (.jmp y k c)) (nxt:∀ (y:Zx) (k:E.rl p x=some y) (c:Aa4 (E.op p)=true),P _ _ _ (.nxt y k c)){q:Int}{y:Zx}{a:Bool} (h:Acx E p x q y a):P q y a h:=by
 rcases h with ⟨h,k,c,rfl,rfl,rfl⟩|⟨k,c,rfl,rfl⟩|⟨k,c,rfl,rfl⟩
 ·exact hnd h k c
 ·exact jmp y k c
 ·exact nxt y k c
structure Afk (E:Aaf) (F:Nat→Option Zx) (W:Nat→Prop) (p:Nat) (x:Zx):Prop where
 rl:∃ y,E.rl p x=some y
 go:∀ q y a,Acx E p x q y a→0≤q∧q<(E.n:Int)∧(y.stack.length:Int)≤E.hi∧(∃ z,F q.toNat=some z∧Aay E.T y z)∧(a=true→W q.toNat)
structure Aef (E:Aaf) (F:Nat→Option Zx):Prop where
 inv:∀ p x,F p=some x→E.I x
 x0:∃ y,F 0=some y∧Aay E.T E.x0 y
 sat:∀ p∈E.ps,∀ x,F p=some x→Afk E F (fun _=>True) p x
def Afc (E:Aaf) (p q:Nat):Prop:=(∃ h∈E.hs,Aa3 h (p:Int)=true∧h.target.toNat=q)∨(Aan (E.op p)=true∧(E.ar p).toNat=q)
theorem Aay.refl (T:List Int) (x:Zx):Aay T x x:=⟨.refl _ _,.refl _ _⟩
theorem Aay.trans {E:Aaf} (g:E.Good) {x y z:Zx} (h:Aay E.T x y) (k:Aay E.T y z) (hx:Aa0 E.T x) (hy:Aa0 E.T y) (hz:Aa0 E.T z):Aay E.T x z :=
 ⟨h.lo.trans g.T k.lo hx.1 hy.1 hz.1,h.st.trans g.T k.st hx.2 hy.2 hz.2⟩
theorem D8 {T:List Int}:∀ {a b:List (Int × Int)},a.length=b.length→(Aaq T a b=true↔Aas T a b)
 | [],[],_=>⟨fun _=>.nil,fun _=>rfl⟩
 | [],_::_,h=>by simp at h
 | _::_,[],h=>by simp at h
 | s::a,t::b,h=>by
  have ih:=D8 (T:=T) (a:=a) (b:=b) (by simpa using h);simp only[Aaq,Bool.and_eq_true]
  constructor
  ·rintro ⟨h1,h2⟩;exact .cons h1 (ih.1 h2)
  ·intro k;cases k using Aas.el with
   | cons k1 k2=>exact⟨k1,ih.2 k2⟩
theorem Jl {T:List Int}{x y:Zx}:Abx T x y=true↔Aay T x y:=by
 unfold Abx Ac2
 constructor
 ·intro h;simp only[Bool.and_eq_true]at h;obtain⟨h1,h2⟩:=h
  split at h1
  ·next e1 =>
   split at h2
   ·next e2=>exact⟨(D8 e1).1 h1,(D8 e2).1 h2⟩
   ·cases h2
  ·cases h1
 ·intro h;rw[if_pos h.lo.len,if_pos h.st.len,(D8 h.lo.len).2 h.lo,(D8 h.st.len).2 h.st];rfl
theorem Jh {T:List Int} (hT:Tr.Ok T):∀ (a b:List (Int × Int)),(∀ t∈a,Tr.Arg T t.1 t.2)→(∀ t∈b,Tr.Arg T t.1 t.2)→a.length=b.length →
  Aas T a (List.zipWith (Tr.joinT T) a b)∧Aas T b (List.zipWith (Tr.joinT T) a b)∧∀ c,(∀ t∈c,Tr.Arg T t.1 t.2)→Aas T a c→Aas T b c→Aas T (List.zipWith (Tr.joinT T) a b) c
 | [],[],_,_,_=>⟨.nil,.nil,fun c _ h _=>h⟩
 | [],_::_,_,_,h=>by simp at h
 | _::_,[],_,_,h=>by simp at h
 | s::a,t::b,ha,hb,h=>by
  obtain⟨i1,i2,i3⟩:=Jh hT a b (fun t ht=>ha t (by simp[ht])) (fun t ht=>hb t (by simp[ht])) (by simpa using h);obtain⟨_,j1,j2,j3⟩:=Tr.join_spec hT (k:=s.1) (n:=s.2) (k':=t.1) (n':=t.2) (ha s (by simp)) (hb t (by simp));refine⟨.cons j1 i1,.cons j2 i2,fun c hc h1 h2=>?_⟩;cases h1 using Aas.el with
  | cons h11 h12 =>
   cases h2 using Aas.el with
   | cons h21 h22=>exact .cons (j3 _ _ (hc _ (by simp)) h11 h21) (i3 _ (fun t ht=>hc t (by simp[ht])) h12 h22)
theorem Qc {T:List Int} (hT:Tr.Ok T) {x y:Zx} (hx:Aa0 T x) (hy:Aa0 T y) (hl:x.locals.length=y.locals.length) (hs:x.stack.length=y.stack.length) :
  Aay T x (Acv T x y)∧Aay T y (Acv T x y)∧∀ z,Aa0 T z→Aay T x z→Aay T y z→Aay T (Acv T x y) z:=by
 obtain⟨a1,a2,a3⟩:=Jh hT x.locals y.locals hx.1 hy.1 hl;obtain⟨b1,b2,b3⟩:=Jh hT x.stack y.stack hx.2 hy.2 hs;exact⟨⟨a1,b1⟩,⟨a2,b2⟩,fun z hz h1 h2=>⟨a3 _ hz.1 h1.lo h2.lo,b3 _ hz.2 h1.st h2.st⟩⟩
theorem Sw {E:Aaf} (g:E.Good) {p:Nat} (hp:p∈E.ps) {x y:Zx} (hx:E.I x) (hy:E.I y) (h:Aay E.T x y) {q:Int}{u:Zx}{a:Bool} (hg:Acx E p x q u a) (hr:∃ z,E.rl p y=some z):∃ z,Acx E p y q z a∧Aay E.T u z:=by
 cases hg using Acx.el with
 | hnd k hk hc=>exact⟨_,.hnd k hk hc,h.lo,.refl _ _⟩
 | jmp _ h1 h2 =>
  obtain⟨z,hz⟩:=hr;obtain⟨u',h3,h4⟩:=g.mono p hp x y z hx hy h hz;rw[h1]at h3;cases h3;exact⟨z,.jmp z hz h2,h4⟩
 | nxt _ h1 h2 =>
  obtain⟨z,hz⟩:=hr;obtain⟨u',h3,h4⟩:=g.mono p hp x y z hx hy h hz;rw[h1]at h3;cases h3;exact⟨z,.nxt z hz h2,h4⟩
theorem Ik {E:Aaf} (g:E.Good) {p:Nat} (hp:p∈E.ps) {x:Zx} (hx:E.I x) {q:Int}{u:Zx}{a:Bool} (hg:Acx E p x q u a):u.locals.length=E.lo∧(∀ t∈u.locals,Aab E.T E.isN t)∧∀ t∈u.stack,Aab E.T E.isN t:=by
 cases hg using Acx.el with
 | hnd k hk hc=>exact⟨hx.lo,hx.tl,fun t ht=>by rw[List.mem_singleton.1 ht];exact⟨(g.hnd k hk).2.2.2,fun h=>by simp at h⟩⟩
 | jmp _ h1 _=>have:=g.rl p hp x u hx h1;exact⟨this.lo,this.tl,this.ts⟩
 | nxt _ h1 _=>have:=g.rl p hp x u hx h1;exact⟨this.lo,this.tl,this.ts⟩
theorem Wf {E:Aaf}{p:Nat}{x:Zx}{q:Int}{u:Zx} (hg:Acx E p x q u true):Afc E p q.toNat:=by
 cases hg using Acx.el with
 | hnd k hk hc=>exact .inl ⟨k,hk,hc,rfl⟩
 | jmp _ h1 h2=>exact .inr ⟨h2,rfl⟩
theorem Yg {E:Aaf} (g:E.Good) {p:Nat} (hp:p∈E.ps) {x:Zx}{q:Int}{u:Zx}{a:Bool} (hg:Acx E p x q u a) (hq:q<(E.n:Int)):q.toNat∈E.ps:=by
 cases hg using Acx.el with
 | hnd k hk hc=>exact(g.hnd k hk).2.2.1
 | jmp _ h1 h2=>exact(g.tgt p hp h2).2.2
 | nxt _ h1 _=>exact g.nxt p hp hq
end Go.Proofs.YtpcgnjolfahacaaGreat
