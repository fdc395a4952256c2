/- a part of the proof in YtpcgnjolfahacaaGreatFurtherProof -/
import Derived.Test.YtpcgnjolfahacaaGreatPk13
set_option maxRecDepth 100000
set_option maxHeartbeats 40000000
set_option linter.unusedVariables false
set_option linter.unusedSimpArgs false
namespace Go.Proofs.YtpcgnjolfahacaaGreat
open Go.RowKit
def Ahb (c:List Int) (q:Int):Prop:=Cd.begB c q=true∧c.getD q.toNat 0=15
def Afw (T:List Int) (m:Rd.Mth) (x:Acp):Prop:=Ael T m.locals.toNat m.stack (Ahb m.code) x
def Aen (cs:List Rd.Cls):List Rf.Fld:=Rf.fieldsTo (Tr.tree cs) (Rf.given++cs) cs.length
def Aeq (m:Rd.Mth) (q:Int):Option Acp:=Aep q m.maps
def Ady (m:Rd.Mth):Acp:=Agd m.cl m.params m.locals.toNat
def Aew (cs:List Rd.Cls) (ms:List Rd.Mth) (m:Rd.Mth) (p:Nat) (x:Acp):Option Acp :=
 Ad3 m.stack (Agn (Tr.tree cs) (Aen cs) ms (fun c=>Rf.all (Tr.tree cs) (Rf.given++cs) c.toNat) (fun q=>Cd.atI m.code (q+1)) m.result (p:Int) (m.code.getD p 0) (Cd.atI m.code ((p:Int)+1)) x)
def Agz (cs:List Rd.Cls) (ms:List Rd.Mth) (m:Rd.Mth) (p:Nat) (x:Acp):Int :=
 Agg (Tr.tree cs) (Aeq m) (Aft (Tr.tree cs) (Aeq m) (p:Int) x.locals m.handlers) (Aew cs ms m p x) (m.code.getD p 0) (Cd.atI m.code ((p:Int)+1)) ((p+Cd.wd (m.code.getD p 0):Nat):Int) (m.code.length:Int)
def Ahx (cs:List Rd.Cls) (ms:List Rd.Mth) (m:Rd.Mth) (q:Nat):Option Acp :=
 Aga (fun p=>Aeq m (p:Int)) (Aew cs ms m) (fun p=>Adr (m.code.getD p 0)) q (Cd.places m.code) (some (Ady m))
def Af7 (cs:List Rd.Cls) (ms:List Rd.Mth) (m:Rd.Mth):Int × Int :=
 Ahi (Tr.tree cs) (Aeq m 0) (Ady m) (Ahx cs ms m) (Agz cs ms m) (Cd.places m.code)
def Agi (cs:List Rd.Cls):List (List (Int × Int)):=(Rf.given++cs).map Rd.Cls.fields
def Acz (cs:List Rd.Cls) (ms:List Rd.Mth) (m:Rd.Mth) (i:Cd.Ins) (x:Acp):Option Acp :=
 Afp (Tr.tree cs) m.stack (Ad9 (Agi cs) ms m.result i.op i.n) (Adx (Agi cs) ms i.op i.n) (Ac0 (Tr.tree cs) (Agi cs) i.n) (Aex (Cd.readL m.code) i.n) i.place i.op i.n x
def Agb (cs:List Rd.Cls) (ms:List Rd.Mth) (m:Rd.Mth) (i:Cd.Ins) (x:Acp):Int :=
 Agl (Tr.tree cs) (Aeq m) (Adw (Tr.tree cs) (Aeq m) i.place x.locals m.handlers) (Acz cs ms m i x) i.op i.n ((i.place.toNat+Cd.wd i.op:Nat):Int) (m.code.length:Int)
def Ae4 (cs:List Rd.Cls) (ms:List Rd.Mth) (m:Rd.Mth):Int × Int :=
 Agp (Tr.tree cs) (Aeq m) (Agb cs ms m) (Acz cs ms m) (Cd.readL m.code) (Ady m)
theorem Lm {T:List Int}{m:Rd.Mth}{x:Acp} (h:Afw T m x):Adb T x:=⟨fun t ht=>(h.tl t ht).1,fun t ht=>(h.ts t ht).1⟩
theorem Wa {l:List Rd.Mp}{q:Int}{z:Acp} (h:Aep q l=some z):∃ y∈l,z=⟨y.locals,y.stack⟩:=by
 induction l with
 | nil=>simp[Aep]at h
 | cons y r ih =>
  rw[Aep]at h
  split at h
  ·exact⟨y,by simp,(Option.some.inj h).symm⟩
  ·obtain⟨y',hy,e⟩:=ih h;exact⟨y',by simp[hy],e⟩
theorem Vu {T c:List Int} (hc:c.length≤120) {t:Int × Int} (h:Cd.framed T c t.1 t.2=true):Acw T (Ahb c) t:=by
 unfold Cd.framed at h;by_cases h0:t.1=0∨t.1=1∨t.1=2
 ·rw[if_pos h0]at h;have:t.2=0:=by simpa using h
  refine⟨?_,fun g=>by omega⟩;rcases h0 with h0 | h0 | h0
  ·exact .inl ⟨h0,this⟩
  ·exact .inr (.inl ⟨h0,this⟩)
  ·exact .inr (.inr (.inl ⟨h0,this⟩))
 rw[if_neg h0]at h;by_cases h3:t.1=3
 ·rw[if_pos h3]at h;exact⟨by rw[h3];exact Df (Ev.1 h),fun g=>by omega⟩
 rw[if_neg h3]at h;by_cases h4:t.1=4
 ·rw[if_pos h4]at h;simp only[Bool.and_eq_true,beq_iff_eq]at h;have:=Fp h.1;exact⟨.inr (.inr (.inr (.inr ⟨h4,by omega,by omega⟩))),fun _=>h⟩
 ·rw[if_neg h4]at h;simp at h
theorem Ph {T c:List Int} (hc:c.length≤120) {l:List (Int × Int)} (h:Cd.frAll T c l=true):∀ t∈l,Acw T (Ahb c) t:=fun t ht=>Vu hc (List.all_eq_true.1 h t ht)
theorem T7 {T:List Int}{nf:Int}{ms:List Rd.Mth}{m:Rd.Mth} (g:Agq T nf ms m) {q:Int}{z:Acp} (h:Aeq m q=some z):Afw T m z:=by
 obtain⟨y,hy,rfl⟩:=Wa h;obtain⟨a,b,_⟩:=g.map y hy;obtain⟨c,d⟩:=g.rd.ml y hy;exact⟨c,d,Ph g.bd.code a,Ph g.bd.code b⟩
theorem Mg {T:List Int}{nf:Int}{ms:List Rd.Mth}{m:Rd.Mth} (g:Agq T nf ms m):Afw T m (Ady m):=by
 have h1:=g.own;have h2:=g.rd.lo;have h3:=g.rd.st;refine⟨?_,by simpa[Ady,Agd] using h3.1,?_,by simp[Ady,Agd]⟩
 ·simp only[Ady,Agd,List.length_append,List.length_replicate];omega
 ·intro t ht;simp only[Ady,Agd]at ht;rcases List.mem_append.1 ht with ht | ht
  ·unfold Ag3 at ht;rcases List.mem_append.1 ht with ht | ht
   ·split at ht
    ·simp at ht
    ·rename_i h255;obtain rfl:=List.mem_singleton.1 ht;exact⟨Df (Ev.1 (g.cl.resolve_left h255)),fun h=>by simp at h⟩
   ·exact J9 (Eh g.ps t ht)
  ·rw[(List.mem_replicate.1 ht).2];exact Kh _ _
structure Ahs (T:List Int) (nf:Int) (ms:List Rd.Mth) (m:Rd.Mth) (op n:Int):Prop where
 loc:op=2∨op=3→0≤n∧n<m.locals
 cls:op=15∨op=16∨op=19→0≤n∧n<(T.length:Int)
 fld:op=17∨op=18→0≤n∧n<nf
 mth:op=20∨op=21→0≤n∧n<(ms.length:Int)
 own:op=21→(ms.getD n.toNat ⟨0,0,[],(0,0),0,0,[],[],[]⟩).cl≠255
theorem Li {T:List Int}{nf:Int}{ms:List Rd.Mth}{m:Rd.Mth} (g:Agq T nf ms m) {p:Nat} (hp:p∈Cd.places m.code):Ahs T nf ms m (m.code.getD p 0) (Cd.atI m.code ((p:Int)+1)):=by
 have ha:=g.arg p hp;obtain⟨h25,hw⟩:=Dv g.unread p hp;unfold Cd.argAt at ha;rw[Mj]at ha;have hpos:Cd.wd (m.code.getD p 0)=2→0≤Cd.atI m.code ((p:Int)+1):=fun h2=>by
  rw[(Hs hw h2).2];exact Hj g.bd.code0 _
 generalize Cd.atI m.code ((p:Int)+1)=n at *;generalize m.code.getD p 0=op at *;have hwd:op=2∨op=3∨(11≤op∧op≤21)→0≤n:=fun h=>hpos (by unfold Cd.wd;rw[if_pos (by omega)]);unfold Cd.argB at ha;refine⟨fun h=>?_,fun h=>?_,fun h=>?_,fun h=>?_,fun h=>?_⟩
 ·rw[if_pos h]at ha;exact⟨hwd (by omega),by simpa using ha⟩
 ·rw[if_neg (by omega),if_neg (by omega),if_pos h]at ha;exact Ev.1 ha
 ·rw[if_neg (by omega),if_neg (by omega),if_neg (by omega),if_pos h]at ha;exact⟨hwd (by omega),by simpa using ha⟩
 ·refine⟨hwd (by omega),?_⟩;rw[if_neg (by omega),if_neg (by omega),if_neg (by omega),if_neg (by omega)]at ha;rcases h with h | h
  ·rw[if_pos h]at ha;simp at ha;exact_mod_cast ha.1
  ·rw[if_neg (by omega),if_pos h]at ha;simp at ha;exact_mod_cast ha.1
 ·have h0:=hwd (by omega);rw[if_neg (by omega),if_neg (by omega),if_neg (by omega),if_neg (by omega),if_neg (by omega),if_pos h]at ha;simp only[Bool.and_eq_true,decide_eq_true_eq,bne_iff_ne,ne_eq,List.length_map]at ha;have e:(List.map Rd.Mth.cl ms).getD n.toNat 0=(ms.getD n.toNat ⟨0,0,[],(0,0),0,0,[],[],[]⟩).cl:=by
   simp only[List.getD_eq_getElem?_getD,List.getElem?_map];have:n.toNat<ms.length:=by omega
   rw[List.getElem?_eq_getElem this];rfl
  rw[e]at ha;exact ha.2
theorem Pc (cs:List Rd.Cls):((Aen cs).length:Int)=(Cd.fieldSum cs:Int):=by
 have:=Cd.fields_eq (Tr.tree cs) cs cs.length (Nat.le_refl _);rw[List.take_length]at this;unfold Aen;rw[this]
theorem Ol {cs:List Rd.Cls}{ms:List Rd.Mth} (k:Ae0 cs ms) {n:Int} (h:0≤n∧n<(Cd.fieldSum cs:Int)):(0≤((Aen cs).getD n.toNat ⟨0,0,(0,0)⟩).owner∧((Aen cs).getD n.toNat ⟨0,0,(0,0)⟩).owner<((Tr.tree cs).length:Int)) ∧
  Tr.plainB (Tr.tree cs) ((Aen cs).getD n.toNat ⟨0,0,(0,0)⟩).t.1 ((Aen cs).getD n.toNat ⟨0,0,(0,0)⟩).t.2=true:=by
 have hl:=Pc cs;have:=Lg k.fl cs.length _ (show (Aen cs).getD n.toNat ⟨0,0,(0,0)⟩∈Aen cs from Cj (by omega));have hT:=Bu cs;exact⟨by omega,this.2⟩
theorem Ni {cs:List Rd.Cls}{ms:List Rd.Mth} (k:Ae0 cs ms) {m:Rd.Mth}{op n:Int} (hm:m∈ms) (h:Ahs (Tr.tree cs) (Cd.fieldSum cs:Int) ms m op n):∀ t∈Ae3 (Aen cs) ms m.result op n,Tr.Arg (Tr.tree cs) t.1 t.2:=by
 have hT:=Bu cs;have g:=k.mt m hm;unfold Ae3;intro t ht
 split at ht
 ·simp at ht;rw[ht];exact .inr (.inl ⟨rfl,rfl⟩)
 split at ht
 ·simp at ht;rw[ht];exact .inr (.inl ⟨rfl,rfl⟩)
 split at ht
 ·simp at ht;rw[ht];exact Df ⟨by simp,by simp;omega⟩
 split at ht
 ·rename_i h17;obtain rfl:=List.mem_singleton.1 ht;exact Df (Ol k (h.fld (.inl h17))).1
 split at ht
 ·rename_i h18;have:=Ol k (h.fld (.inr h18));simp only[List.mem_cons,List.not_mem_nil,or_false]at ht;rcases ht with rfl | rfl
  ·exact Df this.1
  ·exact(Cw this.2).1
 split at ht
 ·rename_i h20;have:=h.mth (.inl h20);exact(Cw (Eh (k.mt _ (Cj (show n.toNat<ms.length by omega))).ps t ht)).1
 split at ht
 ·rename_i h21;have h1:=h.mth (.inr h21);have g':=k.mt _ (Cj (d:=⟨0,0,[],(0,0),0,0,[],[],[]⟩) (show n.toNat<ms.length by omega));rcases List.mem_cons.1 ht with rfl | ht
  ·exact Df (Ev.1 (g'.cl.resolve_left (h.own h21)))
  ·exact(Cw (Eh g'.ps t ht)).1
 split at ht
 ·exact(Cw (Nw g.res t ht)).1
 split at ht
 ·obtain rfl:=List.mem_singleton.1 ht;exact Df ⟨by simp,by simp;omega⟩
 ·simp at ht
theorem Vt {cs:List Rd.Cls}{ms:List Rd.Mth} (k:Ae0 cs ms) {m:Rd.Mth}{op n:Int}{isN:Int→Prop} (h:Ahs (Tr.tree cs) (Cd.fieldSum cs:Int) ms m op n):∀ t∈Aej (Aen cs) ms op n,Acw (Tr.tree cs) isN t:=by
 unfold Aej;intro t ht
 split at ht
 ·simp at ht;rw[ht];exact⟨.inr (.inl ⟨rfl,rfl⟩),fun h=>by simp at h⟩
 split at ht
 ·simp at ht;rw[ht];exact⟨.inr (.inr (.inl ⟨rfl,rfl⟩)),fun h=>by simp at h⟩
 split at ht
 ·rename_i h17;obtain rfl:=List.mem_singleton.1 ht;exact J9 (Ol k (h.fld (.inl h17))).2
 split at ht
 ·rename_i h19;obtain rfl:=List.mem_singleton.1 ht;exact⟨Df (h.cls (.inr (.inr h19))),fun h=>by simp at h⟩
 split at ht
 ·rename_i h20;have:=h.mth h20;exact J9 (Nw (k.mt _ (Cj (show n.toNat<ms.length by omega))).res t ht)
 ·simp at ht
theorem Ga {c:List Int} (h:Cd.unread c<0):Cd.readL c=Cd.insts c:=by
 unfold Cd.readL;rw[if_neg (by omega)]
theorem Kb {c:List Int}{q:Int} (h:Cd.begB c q=true):q.toNat∈Cd.places c:=by
 unfold Cd.begB at h;rw[List.any_eq_true]at h;obtain⟨p,hp,hn⟩:=h;have:(p:Int)=q:=by simpa using hn
 rw[← this,Int.toNat_natCast];exact hp
theorem Vh {c:List Int} (hu:Cd.unread c<0) {q:Int} (h:Ahb c q) (n:Int):Aex (Cd.readL c) n q=true↔Cd.atI c (q+1)=n:=by
 rw[Ga hu];have hb:=Fp h.1;have h1:(Cd.findAt q (Cd.insts c)).isSome=true:=by rw[Cd.find_beg];exact h.1
 have h2:=(Cd.find_at c q (Cd.places c) h1).1;have h3:=Dv hu _ (Kb h.1);rw[h.2]at h3;have hw:Cd.wd (c.getD q.toNat 0)=2:=by rw[h.2];rfl
 have h4:=Hs (c:=c) (p:=q.toNat) (by rw[h.2];exact h3.2) hw;unfold Aex;rw[h1];unfold Cd.insts;rw[h2,h4.1];have e:(Cd.insAt c q.toNat).op=15:=h.2;have e2:((q.toNat:Nat):Int)=q:=by omega
 rw[e,e2]
 simp
theorem Lf {cs:List Rd.Cls}{ms:List Rd.Mth} (k:Ae0 cs ms) {m:Rd.Mth} (hm:m∈ms) {p:Nat} (hp:p∈Cd.places m.code) {x y:Acp} (hx:Afw (Tr.tree cs) m x) (h:Aew cs ms m p x=some y):Afw (Tr.tree cs) m y:=by
 have g:=k.mt m hm;have hn:=Li g hp;unfold Aew at h;rw[Lz]at h;refine X8 _ _ _ _ _ _ _ _ _ hx (Vt k hn) (fun h2=>?_) (fun h15=>?_) (fun h16=>hn.cls (by omega)) h
 ·have:=hn.loc (.inl h2);have:=g.rd.lo;omega
 ·have hb:Cd.begB m.code (p:Int)=true:=by
   unfold Cd.begB;rw[List.any_eq_true];exact⟨p,hp,by simp⟩
  have:=Fp hb;have:=g.bd.code;exact⟨.inr (.inr (.inr (.inr ⟨rfl,by simp,by simp;omega⟩))),fun _=>⟨hb,by simpa using h15⟩⟩
theorem Fe {cs:List Rd.Cls}{ms:List Rd.Mth} (k:Ae0 cs ms) {m:Rd.Mth} (hm:m∈ms) {p:Nat} (hp:p∈Cd.places m.code) {x:Acp} (hx:Afw (Tr.tree cs) m x):Acz cs ms m (Cd.insAt m.code p) x=Aew cs ms m p x:=by
 have g:=k.mt m hm;have hT:=Bu cs;have hfl:=Pc cs;obtain⟨h25,hw⟩:=Dv g.unread p hp;have hn:=Li g hp;have e0:(Cd.insAt m.code p).op=m.code.getD p 0:=rfl;have e1:(Cd.insAt m.code p).place=(p:Int):=rfl
 -- the number as the program has it
 have hN:Aew cs ms m p x=Ad3 m.stack (Agn (Tr.tree cs) (Aen cs) ms (fun c=>Rf.all (Tr.tree cs) (Rf.given++cs) c.toNat) (fun q=>Cd.atI m.code (q+1)) m.result (p:Int) (m.code.getD p 0) (Cd.insAt m.code p).n x):=by
  unfold Aew;have hwb:=Cd.wd_bd (m.code.getD p 0);by_cases h2:Cd.wd (m.code.getD p 0)=2
  ·rw[(Hs hw h2).1]
  ·rw[Abo (show Cd.wd (m.code.getD p 0)=1 by omega)]
 have hnn:Ahs (Tr.tree cs) (Cd.fieldSum cs:Int) ms m (m.code.getD p 0) (Cd.insAt m.code p).n:=by
  have hwb:=Cd.wd_bd (m.code.getD p 0);by_cases h2:Cd.wd (m.code.getD p 0)=2
  ·rw[(Hs hw h2).1];exact hn
  ·have h':¬ (m.code.getD p 0=0∨m.code.getD p 0=2∨m.code.getD p 0=3∨(11≤m.code.getD p 0∧m.code.getD p 0≤21)):=by
    intro gg;unfold Cd.wd at h2;rw[if_pos gg]at h2;exact h2 rfl
   exact⟨fun h=>by omega,fun h=>by omega,fun h=>by omega,fun h=>by omega,fun h=>by omega⟩
 have hpos:0≤(Cd.insAt m.code p).n:=by
  unfold Cd.insAt;simp only
  split
  ·exact Hj g.bd.code0 _
  ·omega
 obtain⟨n,en⟩:∃ n:Nat,(Cd.insAt m.code p).n=(n:Int):=⟨(Cd.insAt m.code p).n.toNat,by omega⟩;rw[hN];unfold Acz;rw[e0,e1,en];rw[en]at hnn;clear hN hn e0 e1 en hpos;generalize hop:m.code.getD p 0=op at *;have hl7:7≤(Rf.given++cs).length:=by simp[Ef]
 have hlc:(Rf.given++cs).length-7=cs.length:=by simp[Ef]
 have hgl:(Rf.given++cs).length=7+cs.length:=by simp[Ef]
 have hF:Aen cs=Rf.fieldsTo (Tr.tree cs) (Rf.given++cs) ((Rf.given++cs).length-7):=by rw[hlc];rfl
 have t1:Ad9 (Agi cs) ms m.result op (n:Int)=Ae3 (Aen cs) ms m.result op (n:Int):=by
  rw[hF];refine Aab _ _ hl7 (Fq cs) _ _ _ _ (fun h=>?_);have:=hnn.fld h;rw[← hF];omega
 have t2:Adx (Agi cs) ms op (n:Int)=Aej (Aen cs) ms op (n:Int):=by
  rw[hF];refine Wd _ _ hl7 (Fq cs) _ _ _ (fun h=>?_);have:=hnn.fld (.inl h);rw[← hF];omega
 rw[Lz,t1,t2,← Wp k.ok (isNew:=Aex (Cd.readL m.code) (n:Int)) (want:=Rf.all (Tr.tree cs) (Rf.given++cs) (n:Int).toNat)]
 ·-- only Init wants the fields
  by_cases h16:op=16
  ·have:=hnn.cls (by omega);rw[show Agi cs=(Rf.given++cs).map Rd.Cls.fields from rfl,Rm k.ok (Rf.given++cs) (by omega) (by omega),Int.toNat_natCast]
  ·unfold Afp Ahg;simp only[if_neg h16]
 ·exact fun t ht=>(hx.ts t ht).1
 ·exact Ni k hm hnn
 ·exact fun t ht=>(Cw (Ia k.fl _ _ t ht)).1
 ·exact T2 _ _ _ _
 ·exact hx.hi
 ·intro h;have:=hnn.loc h;have:=hx.lo;have:=g.rd.lo;omega
 ·intro _ t ht h4;exact Vh g.unread ((hx.ts t ht).2 h4) _
theorem Mv {T:List Int}{mp:Int→Option Acp}{H:Int}{R:Option Acp}{op n nxt len:Int} (h:Agg T mp H R op n nxt len=0):∃ y,R=some y:=by
 unfold Agg at h;by_cases h0:H≠0
 ·rw[if_pos h0]at h;exact absurd h h0
 ·rw[if_neg h0]at h;cases R with
  | none=>simp at h
  | some y=>exact⟨y,rfl⟩
theorem Aa5 {T:List Int}{nf:Int}{ms:List Rd.Mth}{m:Rd.Mth} (g:Agq T nf ms m):∀ h∈m.handlers,Tr.Arg T 3 h.cl:=by
 intro h hh;have:=g.hnd h hh;unfold Cd.hndBad at this;simp only[Bool.or_eq_false_iff,Bool.not_eq_false']at this;exact Df (Ev.1 this.1.2)
theorem Mt {cs:List Rd.Cls}{ms:List Rd.Mth} (k:Ae0 cs ms) {m:Rd.Mth} (hm:m∈ms) {p:Nat} (hp:p∈Cd.places m.code) {x:Acp} (hx:Afw (Tr.tree cs) m x):Agb cs ms m (Cd.insAt m.code p) x=Agz cs ms m p x:=by
 have g:=k.mt m hm;obtain⟨h25,hw⟩:=Dv g.unread p hp;have hmp:∀ q z,Aeq m q=some z→Adb (Tr.tree cs) z:=fun q z h=>Lm (T7 g h);unfold Agb Agz;have e0:(Cd.insAt m.code p).op=m.code.getD p 0:=rfl;have e1:(Cd.insAt m.code p).place=(p:Int):=rfl;rw[Fe k hm hp hx,e0,e1,Int.toNat_natCast,Jz k.ok _ hmp _ _ (fun t ht=>(hx.tl t ht).1) _ (Aa5 g),
  Aa6 k.ok _ hmp _ _ (fun y hy=>Lm (Lf k hm hp hx hy))]
 have hwb:=Cd.wd_bd (m.code.getD p 0);by_cases h2:Cd.wd (m.code.getD p 0)=2
 ·rw[(Hs hw h2).1]
 ·exact Abu (by omega) _ _
theorem W2 {cs:List Rd.Cls}{ms:List Rd.Mth} (k:Ae0 cs ms) {m:Rd.Mth} (hm:m∈ms):Ae4 cs ms m=Af7 cs ms m:=by
 have g:=k.mt m hm;unfold Ae4 Af7 Ahx;rw[Ga g.unread];refine Pw k.ok (Aeq m) (Aew cs ms m) (Agz cs ms m) m.code (Agb cs ms m) (Acz cs ms m) (Afw (Tr.tree cs) m) (fun x h=>Lm h) (fun q z h=>T7 g h) (Ady m) (Mg g) ?_;intro p hp x hx;refine⟨Mt k hm hp hx,fun h0=>?_⟩;obtain⟨y,hy⟩:=Mv h0;exact⟨y,hy,by rw[Fe k hm hp hx,hy],Lf k hm hp hx hy⟩
def Aec (s:List UInt8):Int × Int × Int:=Ahe (Rf.formed s) (Afg (Af7 (Rd.read s).1.classes (Rd.read s).1.methods) 0 (Rd.read s).1.methods)
def Aes (lcs:List (Rd.Cls × Value)):List (Value × List (Int × Int)):=List.replicate 7 (.slice none 0 0,[])++lcs.map fun p=>(p.2,p.1.fields)
theorem Ou (lcs:List (Rd.Cls × Value)):(Aes lcs).map Prod.fst=Tr.fvals lcs:=by
 unfold Aes Tr.fvals;rw[List.map_append,List.map_replicate,List.map_map];rfl
theorem Xo (lcs:List (Rd.Cls × Value)):(Aes lcs).map Prod.snd=Agi (lcs.map Prod.fst):=by
 unfold Aes Agi;rw[List.map_append,List.map_replicate,List.map_map,List.map_append,List.map_map];rfl
theorem Gc (lcs:List (Rd.Cls × Value)):(Aes lcs).length=7+lcs.length:=by unfold Aes;simp;omega
theorem Abn {c:List Int} (h:∀ x∈c,x≤255) (i:Nat):c.getD i 0≤255:=by
 by_cases hi:i<c.length
 ·exact h _ (Cj hi)
 ·rw[List.getD_eq_getElem?_getD,List.getElem?_eq_none (by omega)];simp
structure Agr (cs:List Rd.Cls) (ms:List Rd.Mth) (lcs:List (Rd.Cls × Value)) (lms:List (Rd.Mth × MthV)) (b:PBd) (m:Rd.Mth) (bm:Nat) (w:World):Prop where
 k:Ae0 cs ms
 ec:lcs.map Prod.fst=cs
 em:lms.map Prod.fst=ms
 mem:m∈ms
 T:b.T=Tr.tree cs
 L:b.L=Cd.readL m.code
 ru:Ru b w 0 lms (Aes lcs)
 is:(⟨b.cl,b.nm,b.pa,b.pl,b.pc,b.r1,b.r2,b.lo,b.st,b.ca,b.cn,b.cc,b.ha,b.hl,b.hc,b.ma,b.ml,b.mc⟩:PM).is m w bm
theorem Agr.below {cs:List Rd.Cls}{ms:List Rd.Mth}{lcs:List (Rd.Cls × Value)}{lms:List (Rd.Mth × MthV)}{b:PBd}{m:Rd.Mth}{bm:Nat}{w w':World} (h:Agr cs ms lcs lms b m bm w) (hb:Below w.heap.size w w'):Agr cs ms lcs lms b m bm w' :=
 ⟨h.k,h.ec,h.em,h.mem,h.T,h.L,h.ru.below hb,h.is.below hb⟩
theorem Gn {cs:List Rd.Cls}{ms:List Rd.Mth}{lcs:List (Rd.Cls × Value)}{lms:List (Rd.Mth × MthV)}{b:PBd}{m:Rd.Mth}{bm:Nat}{w:World} (h:Agr cs ms lcs lms b m bm w):MpSays b (Aeq m) w:=by
 intro q w' hb;have h':=h.below hb;have g:=h.k.mt m h.mem;obtain⟨lm,elm,hmp⟩:=h'.is.mp;have hlm:lm.length=m.maps.length:=by rw[← elm];simp
 have h64:=g.bd.mp;have hfr:∀ q∈lm,q.1.locals.length≤5000∧q.1.stack.length≤5000:=fun q hq=>by
  have:q.1∈m.maps:=by rw[← elm];exact List.mem_map.2 ⟨q,hq,rfl⟩
  have:=g.bd.fr _ this;omega
 have:=Tf b lm bm q w' (by have:=h'.is.ml;simp only at this;omega) (by omega) hfr hmp;rw[elm]at this;exact this
theorem R9 {cs:List Rd.Cls}{ms:List Rd.Mth}{lcs:List (Rd.Cls × Value)}{lms:List (Rd.Mth × MthV)}{b:PBd}{m:Rd.Mth}{bm:Nat}{w:World} (h:Agr cs ms lcs lms b m bm w) :
  Calls Tryz.prog 110 #[.agg #[.int .i64 b.cl,.int .i64 b.nm,.slice b.pa b.pl b.pc,.int .i64 b.r1,.int .i64 b.r2,.int .i64 b.lo,.int .i64 b.st,.slice b.ca b.cn b.cc,.slice b.ha b.hl b.hc,.slice b.ma b.ml b.mc]] w fun e w''=>∃ u:FrV,e=.returned u.val∧u.is (Ady m) w''∧Below w.heap.size w w'':=by
 have g:=h.k.mt m h.mem;have hlo:=g.rd.lo;have e1:=h.is.lo;have e2:=h.is.cl;simp only at e1 e2;have:=Lo ⟨b.cl,b.nm,b.pa,b.pl,b.pc,b.r1,b.r2,b.lo,b.st,b.ca,b.cn,b.cc,b.ha,b.hl,b.hc,b.ma,b.ml,b.mc⟩ m.params m.locals.toNat w (by simp only;omega) (by omega) (TyR.of_tys h.is.ps) (by have:=g.bd.ps;omega);simp only[PM.val,e2]at this;unfold Ady;rw[e2];exact this
theorem Im {cs:List Rd.Cls}{ms:List Rd.Mth}{lcs:List (Rd.Cls × Value)}{lms:List (Rd.Mth × MthV)}{b:PBd}{m:Rd.Mth}{bm:Nat}{w:World} (h:Agr cs ms lcs lms b m bm w) (p:Nat) (v:FrV) (x:Acp) (hp:p∈Cd.places m.code) (hv:v.is x w) (hx:Afw (Tr.tree cs) m x) :
  Calls Tryz.prog 221 #[b.val,.agg #[.int .i64 (p:Int),.int .i64 (Cd.insAt m.code p).op,.int .i64 (Cd.insAt m.code p).n],v.val] w fun e w''=>∃ u:FrV,e=.returned (.tuple #[u.val,.bool (Acz cs ms m (Cd.insAt m.code p) x).isSome])∧(∀ y,Acz cs ms m (Cd.insAt m.code p) x=some y→u.is y w'')∧Below w.heap.size w w'':=by
 have g:=h.k.mt m h.mem;obtain⟨h25,hw⟩:=Dv g.unread p hp;have hn:=Li g hp;have hlo:=g.rd.lo;have hst:=g.rd.st;have hpos:0≤(Cd.insAt m.code p).n:=by
  unfold Cd.insAt;simp only
  split
  ·exact Hj g.bd.code0 _
  ·omega
 have hN2:(Cd.insAt m.code p).op=20∨(Cd.insAt m.code p).op=21→(Cd.insAt m.code p).n.toNat<lms.length:=by
  intro ho;have ho':m.code.getD p 0=20∨m.code.getD p 0=21:=ho;have h2:Cd.wd (m.code.getD p 0)=2:=by unfold Cd.wd;rw[if_pos (by omega)]
  have:=hn.mth ho';rw[(Hs hw h2).1];have:ms.length=lms.length:=by rw[← h.em];simp
  omega
 have hbig:(Cd.insAt m.code p).n.toNat≤100000:=by
  have:(Cd.insAt m.code p).n≤255:=by
   unfold Cd.insAt;simp only
   split
   ·exact Abn g.rd.c255 _
   ·omega
  omega
 have hps:∀ q∈lms,q.1.params.length≤1000:=fun q hq=>by
  have:q.1∈ms:=by rw[← h.em];exact List.mem_map.2 ⟨q,hq,rfl⟩
  have:=(h.k.mt _ this).bd.ps;omega
 have:=Rv b 0 lms (Aes lcs) (p:Int) (Cd.insAt m.code p).op (Cd.insAt m.code p).n.toNat v x w h.ru hv hbig (by rw[hx.lo];omega) (by have:=hx.hi;omega) hps hN2;have e1:=h.is.st;have e2:=h.is.r1;have e3:=h.is.r2;simp only at e1 e2 e3;rw[show (((Cd.insAt m.code p).n.toNat:Nat):Int)=(Cd.insAt m.code p).n by omega,Xo,h.em,h.ec,h.T,h.L,e1,show (b.r1,b.r2)=m.result by rw[e2,e3]]at this;exact this
theorem Ti {cs:List Rd.Cls}{ms:List Rd.Mth}{lcs:List (Rd.Cls × Value)}{lms:List (Rd.Mth × MthV)}{b:PBd}{m:Rd.Mth}{bm:Nat}{w:World} (h:Agr cs ms lcs lms b m bm w) (p:Nat) (v:FrV) (x:Acp) (hp:p∈Cd.places m.code) (hv:v.is x w) (hx:Afw (Tr.tree cs) m x) :
  Calls Tryz.prog 186 #[b.pval,.agg #[.int .i64 (p:Int),.int .i64 (Cd.insAt m.code p).op,.int .i64 (Cd.insAt m.code p).n],v.val] w fun e w''=>∃ u:FrV,e=.returned (.tuple #[u.val,.int .i64 (Agb cs ms m (Cd.insAt m.code p) x)]) ∧
   (Agb cs ms m (Cd.insAt m.code p) x=0→∃ y,Acz cs ms m (Cd.insAt m.code p) x=some y∧u.is y w''∧Afw (Tr.tree cs) m y)∧Below w.heap.size w w'':=by
 have g:=h.k.mt m h.mem;have hpl:p<m.code.length:=N1 hp;have h120:=g.bd.code;have hh4:=g.bd.hs;have ecn:=h.is.cn;have ehl:=h.is.hl;simp only at ecn ehl;have hH:=fun w' (hb:Below w.heap.size w w')=>Tj b (Aeq m) m.handlers bm (p:Int) v x w' h.ru.tl (h.ru.below hb).tr (Gn (h.below hb)) ehl (by omega) (h.is.below hb).hs (hv.below hb);have:=W8 b (Aeq m) p (Cd.insAt m.code p).op (Cd.insAt m.code p).n (Adw b.T (Aeq m) (p:Int) x.locals m.handlers) (Acz cs ms m (Cd.insAt m.code p) x) v w h.ru.tl h.ru.tr (Gn h) (by omega) hH (fun w' hb=>Im (h.below hb) p v x hp (hv.below hb) hx);rw[h.T,ecn]at this;refine this.mono ?_;rintro e w' ⟨u,rfl,h1,h2⟩;refine⟨u,rfl,fun h0=>?_,h2⟩;have hl:=Mt h.k h.mem hp hx;obtain⟨y,hy⟩:=Mv (show Agz cs ms m p x=0 by rw[← hl];exact h0);have hbr:Acz cs ms m (Cd.insAt m.code p) x=some y:=by rw[Fe h.k h.mem hp hx];exact hy
 exact⟨y,hbr,h1 h0 y hbr,Lf h.k h.mem hp hx hy⟩
theorem Tv {cs:List Rd.Cls}{ms:List Rd.Mth}{lcs:List (Rd.Cls × Value)}{lms:List (Rd.Mth × MthV)}{b:PBd}{m:Rd.Mth}{bm:Nat}{w:World} (h:Agr cs ms lcs lms b m bm w) :
  Calls Tryz.prog 129 #[b.pval] w fun e w'=>e=.returned (.agg #[.int .i64 (Ae4 cs ms m).1,.int .i64 0,.int .i64 (Ae4 cs ms m).2])∧Below w.heap.size w w':=by
 have g:=h.k.mt m h.mem;have:=Xm b (Aeq m) (Agb cs ms m) (Acz cs ms m) (Ady m) (Afw (Tr.tree cs) m) 0 w h.ru.tl h.ru.tr (Gn h) h.ru.ll h.ru.ins (fun w' hb=>R9 (h.below hb))
  (fun i hi v x w' hb hv hx=>by
   rw[h.L,Ga g.unread]at hi;obtain⟨p,hp,rfl⟩:=List.mem_map.1 hi;exact Ti (h.below hb) p v x hp hv hx) (Mg g) (fun q z hz=>T7 g hz)
 rw[h.T,h.L]at this;exact this
theorem Lu {cs:List Rd.Cls}{ms:List Rd.Mth} (k:Ae0 cs ms) {a1 a2:Option Addr}{n1 c1 n2 c2 bm:Nat}{lcs:List (Rd.Cls × Value)}{lms:List (Rd.Mth × MthV)}{w:World} (ec:lcs.map Prod.fst=cs) (hc:ClssIn w bm (.slice a1 n1 c1) lcs) (em:lms.map Prod.fst=ms) (hm:MthsIn w bm (.slice a2 n2 c2) lms) :
  Calls Tryz.prog 80 #[.agg #[.slice a1 n1 c1,.slice a2 n2 c2]] w fun e w'=>e=.returned (.agg #[.int .i64 (Adk (Ae4 cs ms) 0 ms).1,.int .i64 (Adk (Ae4 cs ms) 0 ms).2.1,.int .i64 (Adk (Ae4 cs ms) 0 ms).2.2])∧Below w.heap.size w w':=by
 obtain⟨xa,xc,hsh⟩:=Af hm.1;simp only[Value.slice.injEq]at hsh;obtain⟨rfl,rfl,rfl⟩:=hsh;have hl1:lcs.length=cs.length:=by rw[← ec];simp
 have hl2:lms.length=ms.length:=by rw[← em];simp
 have hl6:=k.l6;have hm6:=k.m6;have hTl:=Bu cs;have hmem:∀ p∈lms,p.1∈ms:=fun p hp=>by rw[← em];exact List.mem_map.2 ⟨p,hp,rfl⟩
 have:=Xd a1 a2 n1 c1 c2 bm lcs lms (Ae4 cs ms) w (by omega) hc (by omega) hm (fun p hp=>⟨by have:=(k.mt _ (hmem p hp)).bd.code;omega,(k.mt _ (hmem p hp)).bd.code0⟩)
  (fun p hp b bb w' hb e1 e2 e3 e4 e5 e6 hT hL htr hrow his hin=>by
   have g:=k.mt _ (hmem p hp);rw[ec]at hT;obtain⟨ya,yc,hsh⟩:=Af hrow;simp only[Value.slice.injEq]at hsh;have hyl:b.yn=(Aes lcs).length:=by rw[Gc];exact hsh.2.1
   have hll:b.L.length≤120:=by
    rw[hL,Ga g.unread];have:=Ih p.1.code;have:=g.bd.code;omega
   refine Tv ⟨k,ec,em,hmem p hp,hT,hL,⟨e5,by omega,?_,hyl,by rw[Gc];omega,?_,⟨?_,?_⟩,by rw[hT];omega,htr,by omega,Av hin (Nat.zero_le _)⟩,his⟩
   ·rw[e4,e5,e6];exact(hm.kp (Kp.of_below (e:=none) hb) (by decide) (by decide) (by decide) (by decide) (by decide)).mono (Nat.zero_le _)
   ·intro q hq;unfold Aes at hq;rcases List.mem_append.1 hq with hq | hq
    ·rw[(List.mem_replicate.1 hq).2];simp
    ·obtain⟨c,hc',rfl⟩:=List.mem_map.1 hq;exact k.fn c.1 (by rw[← ec];exact List.mem_map.2 ⟨c,hc',rfl⟩)
   ·rw[Ou,Gc];exact Av hrow (Nat.zero_le _)
   ·intro q hq;unfold Aes at hq;rcases List.mem_append.1 hq with hq | hq
    ·rw[(List.mem_replicate.1 hq).2];exact TyR.nil _
    ·obtain⟨c,hc',rfl⟩:=List.mem_map.1 hq;exact TyR.of_tys ((hc.kp (Kp.of_below (e:=none) hb) (by decide) (by decide)).2 c hc'))
 rw[em]at this;exact this
theorem Id (f:Rd.Mth→Int × Int):∀ (l:List Rd.Mth) (k:Nat),(Afg f k l).1=0→Afg f k l=(0,0,0)
 | [],_,_=>rfl
 | m::r,k,h=>by
  rw[Afg]at h ⊢;by_cases h1:(f m).1≠0
  ·rw[if_pos h1]at h;exact absurd h h1
  ·rw[if_neg h1]at h ⊢;exact Id f r _ h
theorem Ld (s:List UInt8):Ae5 (Adm s) (Adk (Ae4 (Rd.read s).1.classes (Rd.read s).1.methods) 0 (Rd.read s).1.methods)=Ahe (Rf.formed s) (Afg (Af7 (Rd.read s).1.classes (Rd.read s).1.methods) 0 (Rd.read s).1.methods):=by
 rw[Ce];unfold Ae5 Ahe;by_cases h0:(Rf.formed s).1≠0
 ·rw[if_pos h0,if_pos h0]
 ·rw[if_neg h0,if_neg h0];obtain⟨k,_,_⟩:=Dx s (by simpa using h0);rw[Kn _ (Af7 (Rd.read s).1.classes (Rd.read s).1.methods) _ _ (fun m hm=>W2 k hm)]
  split
  ·rfl
  ·rename_i h1;exact(Id _ _ _ (by simpa using h1)).symm
theorem Vw (s:ByteArray) (w:World) (hs:s.size≤maxLen) :
  Calls Tryz.prog 20 #[.string s] w fun e w'=>e=.returned (.tuple #[.int .i64 (Aec s.data.toList).1,.int .i64 (Aec s.data.toList).2.1,.int .i64 (Aec s.data.toList).2.2])∧Below w.heap.size w w':=by
 have h:=Vf s (Adk (Ae4 (Rd.read s.data.toList).1.classes (Rd.read s.data.toList).1.methods) 0 (Rd.read s.data.toList).1.methods) w hs
  (fun h0 a1 n1 c1 a2 n2 c2 bm lcs lms w' hb hl1 hc hl2 hm=>by
   rw[Ce]at h0;obtain⟨k,_,_⟩:=Dx _ h0;exact Lu k hl1 hc hl2 hm)
 rw[Ld]at h;exact h
structure Afr where
 fr:Acp
 st:Bool
 ri:Bool
 wa:Bool
def Aek:Afr:=⟨⟨[],[]⟩,false,false,false⟩
structure Acs where
 sp:List Afr
 hop:Bool
def Acs.at (s:Acs) (q:Nat):Afr:=s.sp.getD q Aek
def Acs.put (s:Acs) (q:Nat) (y:Acp):Acs:=⟨s.sp.set q ⟨y,true,true,(s.at q).wa⟩,s.hop⟩
def Acs.stop (s:Acs):Acs:=⟨s.sp,true⟩
def Acs.want (s:Acs) (q:Nat):Acs:=⟨s.sp.set q ⟨(s.at q).fr,(s.at q).st,(s.at q).ri,true⟩,s.hop⟩
def Acs.calm (s:Acs) (q:Nat):Acs:=⟨s.sp.set q ⟨(s.at q).fr,(s.at q).st,false,(s.at q).wa⟩,s.hop⟩
def Ae2 (T:List Int) (x y:Acp):Acp:=⟨List.zipWith (Tr.joinT T) x.locals y.locals,List.zipWith (Tr.joinT T) x.stack y.stack⟩
def Ac3 (T:List Int) (hi:Int) (x:Acp) (q:Int) (s:Acs):Acs :=
 if q<0∨(s.sp.length:Int)≤q∨hi<(x.stack.length:Int) then s.stop
 else if (s.at q.toNat).st=false then s.put q.toNat x
 else if Ad5 T x (s.at q.toNat).fr=true then s
 else if x.locals.length=(s.at q.toNat).fr.locals.length∧x.stack.length=(s.at q.toNat).fr.stack.length then s.put q.toNat (Ae2 T x (s.at q.toNat).fr)
 else s.stop
def Agx (q:Int) (s:Acs):Acs:=if 0≤q∧q<(s.sp.length:Int) then s.want q.toNat else s
def Ad7 (T:List Int) (hi:Int) (x:Acp) (q:Int) (s:Acs):Acs:=Agx q (Ac3 T hi x q s)
def Ac1 (T:List Int) (hi:Int) (p:Int) (lo:List (Int × Int)):List Rd.Hnd→Acs→Acs
 | [],s=>s
 | h::r,s=>Ac1 T hi p lo r (if Adl h p=true then Ad7 T hi ⟨lo,[(3,h.cl)]⟩ h.target s else s)
def Ae9 (T:List Int) (hi:Int) (hs:List Rd.Hnd) (bh:Cd.Ins→Acp→Option Acp) (i:Cd.Ins) (x:Acp) (s:Acs):Acs :=
 match bh i x with
 | none=>(Ac1 T hi i.place x.locals hs s).stop
 | some y =>
  let s1:=Ac1 T hi i.place x.locals hs s
  let s2:=if Ac9 i.op=true then Ad7 T hi y i.n s1 else s1
  if Adr i.op=true then Ac3 T hi y (i.place+(Cd.wd i.op:Int)) s2 else s2
def Acu (lk:Cd.Ins→Acp→Acs→Acs):List Cd.Ins→Bool→Acs→Acs × Bool
 | [],b,s=>(s,b)
 | i::r,b,s=>if (s.sp.length:Int)≤i.place∨(s.at i.place.toNat).ri=false then Acu lk r b s
  else Acu lk r true (lk i (s.at i.place.toNat).fr (s.calm i.place.toNat))
def Aeu (lk:Cd.Ins→Acp→Acs→Acs) (L:List Cd.Ins):Nat→Acs→Acs
 | 0,s=>s
 | n+1,s=>if (Acu lk L false s).2=true∧(Acu lk L false s).1.hop=false then Aeu lk L n (Acu lk L false s).1 else (Acu lk L false s).1
def Adi:Nat→List Afr→List Rd.Mp
 | _,[]=>[]
 | k,p::r=>if p.wa=true then ⟨(k:Int),p.fr.locals,p.fr.stack⟩::Adi (k+1) r else Adi (k+1) r
def Ags (T:List Int) (t:Int × Int):Nat:=if t.1=0 then 0 else if t.1=3 then 1+t.2.toNat else if t.1=2 then T.length+1 else 1
def Af6 (T:List Int) (l:List (Int × Int)):Nat:=(l.map (Ags T)).sum
def Ag5 (T:List Int) (x:Acp):Nat:=Af6 T x.locals+Af6 T x.stack
theorem Abc {T:List Int} (h:Tr.Ok T) {a b:Int × Int} (ha:Tr.Arg T a.1 a.2) (hb:Tr.Arg T b.1 b.2):Ags T (Tr.joinT T a b)≤Ags T b∧(Tr.fitsB T a.1 a.2 b.1 b.2=false→Ags T (Tr.joinT T a b)<Ags T b):=by
 obtain⟨k,n⟩:=a;obtain⟨k',n'⟩:=b;simp only at ha hb;obtain⟨j1,j2,j3,j4⟩:=Tr.join_spec h ha hb;simp only;by_cases hf:Tr.fitsB T k n k' n'=true
 ·have e:Tr.joinT T (k,n) (k',n')=(k',n'):=by unfold Tr.joinT;rw[if_pos hf]
  rw[e,hf];exact⟨Nat.le_refl _,fun h=>by simp at h⟩
 ·have hne:Tr.joinT T (k,n) (k',n')≠(k',n'):=fun e=>hf (by rw[e]at j2;exact j2);generalize Tr.joinT T (k,n) (k',n')=J at *;obtain⟨a,b⟩:=J;simp only at j1 j2 j3;have:Ags T (a,b)<Ags T (k',n'):=by
   unfold Ags;simp only;rcases(Tr.fits_iff ..).1 j3 with ⟨rfl,rfl⟩ | e | ⟨rfl,rfl⟩ | ⟨rfl,rfl,e⟩
   ·exact absurd rfl hne
   ·subst e;have hk':k' ≠ 0:=by
     rintro rfl;exact hf ((Tr.fits_iff ..).2 (.inr (.inl rfl)))
    rw[if_pos rfl,if_neg hk']
    split
    ·omega
    ·split<;>omega
   ·unfold Tr.Arg at j1;rw[if_neg (by decide),if_pos rfl,if_neg (by decide),if_neg (by decide),if_pos rfl];omega
   ·unfold Tr.Arg at j1 hb;have:=Tr.below_lt h (a:=n') (b:=b) (by omega) (by omega) e;rw[if_neg (by decide),if_pos rfl,if_neg (by decide),if_pos rfl];omega
  exact⟨Nat.le_of_lt this,fun _=>this⟩
theorem J8 {T:List Int} (h:Tr.Ok T):∀ (a b:List (Int × Int)),(∀ t∈a,Tr.Arg T t.1 t.2)→(∀ t∈b,Tr.Arg T t.1 t.2)→a.length=b.length →
  Af6 T (List.zipWith (Tr.joinT T) a b)≤Af6 T b∧(Ac6 T a b=false→Af6 T (List.zipWith (Tr.joinT T) a b)<Af6 T b)
 | [],[],_,_,_=>⟨Nat.le_refl _,fun h=>by simp[Ac6]at h⟩
 | [],y::b,_,_,hl=>by simp at hl
 | x::a,[],_,_,hl=>by simp at hl
 | x::a,y::b,ha,hb,hl=>by
  have h1:=Abc h (ha x (by simp)) (hb y (by simp));have h2:=J8 h a b (fun t ht=>ha t (by simp[ht])) (fun t ht=>hb t (by simp[ht])) (by simpa using hl);unfold Af6 at h2 ⊢;simp only[List.zipWith_cons_cons,List.map_cons,List.sum_cons];refine⟨by omega,fun hf=>?_⟩;unfold Ac6 at hf;by_cases hx:Tr.fitsB T x.1 x.2 y.1 y.2=true
  ·have:Ac6 T a b=false:=by simpa[hx] using hf
   have:=h2.2 this;omega
  ·have:=h1.2 (by simpa using hx);omega
theorem Aai {T:List Int} (h:Tr.Ok T) {x y:Acp} (hx:Adb T x) (hy:Adb T y) (hl:x.locals.length=y.locals.length) (hs:x.stack.length=y.stack.length) (hn:Ad5 T x y=false):Ag5 T (Ae2 T x y)<Ag5 T y:=by
 have h1:=J8 h x.locals y.locals hx.1 hy.1 hl;have h2:=J8 h x.stack y.stack hx.2 hy.2 hs;unfold Ad5 Afh at hn;rw[if_pos hl,if_pos hs]at hn;unfold Ag5 Ae2;simp only;by_cases hf:Ac6 T x.locals y.locals=true
 ·have:=h2.2 (by simpa[hf] using hn);omega
 ·have:=h1.2 (by simpa using hf);omega
theorem Oo {T:List Int}:∀ (l:List (Int × Int)),(∀ t∈l,Tr.Arg T t.1 t.2)→Af6 T l≤(T.length+1)*l.length
 | [],_=>by simp[Af6]
 | x::l,h=>by
  have h1:=Oo l (fun t ht=>h t (by simp[ht]));have hx:=h x (by simp);have:Ags T x≤T.length+1:=by
   unfold Ags;unfold Tr.Arg at hx
   split
   ·omega
   ·split
    ·omega
    ·split<;>omega
  unfold Af6 at h1 ⊢;simp only[List.map_cons,List.sum_cons,List.length_cons,Nat.mul_succ];omega
def Ae1 (T:List Int) (lo:Nat) (hi:Int) (isN:Int→Prop) (s:Acs):Prop:=∀ p∈s.sp,(p.st=true→Ael T lo hi isN p.fr)∧(p.ri=true→p.st=true)
def Ad8 (T:List Int) (K:Nat) (p:Afr):Nat:=if p.st=true then Ag5 T p.fr else K
def Afc (T:List Int) (K:Nat) (s:Acs):Nat:=(s.sp.map (Ad8 T K)).sum*(s.sp.length+1)+s.sp.countP (fun p=>p.ri)
theorem Jc {α:Type} (f:α→Nat) (d y:α):∀ (l:List α) (i:Nat),i<l.length→((l.set i y).map f).sum+f (l.getD i d)=(l.map f).sum+f y
 | [],_,h=>by simp at h
 | x::l,0,_=>by simp;omega
 | x::l,i+1,h=>by
  have:=Jc f d y l i (by simpa using h);simp at this ⊢;omega
theorem Gi {α:Type} (f:α→Bool) (d y:α):∀ (l:List α) (i:Nat),i<l.length→(l.set i y).countP f+(if f (l.getD i d)=true then 1 else 0)=l.countP f+(if f y=true then 1 else 0)
 | [],_,h=>by simp at h
 | x::l,0,_=>by
  simp only[List.set_cons_zero,List.countP_cons,List.getD_cons_zero];omega
 | x::l,i+1,h=>by
  have:=Gi f d y l i (by simpa using h);simp only[List.set_cons_succ,List.countP_cons,List.getD_cons_succ];omega
theorem Aeg {s:Acs}{q:Nat} (h:q<s.sp.length):s.at q∈s.sp:=by
 unfold Acs.at;rw[List.getD_eq_getElem?_getD,List.getElem?_eq_getElem h];exact List.getElem_mem _
structure Aeb (T:List Int) (lo:Nat) (hi:Int) (isN:Int→Prop) (K:Nat) (s s':Acs):Prop where
 ok:Ae1 T lo hi isN s'
 len:s'.sp.length=s.sp.length
 mu:Afc T K s'≤Afc T K s
theorem Aeb.refl {T:List Int}{lo:Nat}{hi:Int}{isN:Int→Prop}{K:Nat}{s:Acs} (h:Ae1 T lo hi isN s):Aeb T lo hi isN K s s:=⟨h,rfl,Nat.le_refl _⟩
theorem Aeb.trans {T:List Int}{lo:Nat}{hi:Int}{isN:Int→Prop}{K:Nat}{a b c:Acs} (h:Aeb T lo hi isN K a b) (g:Aeb T lo hi isN K b c):Aeb T lo hi isN K a c:=⟨g.ok,g.len.trans h.len,Nat.le_trans g.mu h.mu⟩
theorem Aeb.stop {T:List Int}{lo:Nat}{hi:Int}{isN:Int→Prop}{K:Nat}{s:Acs} (h:Ae1 T lo hi isN s):Aeb T lo hi isN K s s.stop:=⟨h,rfl,Nat.le_refl _⟩
theorem Aeb.put {T:List Int}{lo:Nat}{hi:Int}{isN:Int→Prop}{K:Nat}{s:Acs} (h:Ae1 T lo hi isN s) {q:Nat} (hq:q<s.sp.length) {y:Acp} (hy:Ael T lo hi isN y) (hc:Ag5 T y<Ad8 T K (s.at q)):Aeb T lo hi isN K s (s.put q y):=by
 refine⟨fun p hp=>?_,by simp[Acs.put],?_⟩
 ·rcases List.mem_or_eq_of_mem_set hp with hp|rfl
  ·exact h p hp
  ·exact⟨fun _=>hy,fun _=>rfl⟩
 ·have h1:=Jc (Ad8 T K) Aek ⟨y,true,true,(s.at q).wa⟩ s.sp q hq;have h2:=Gi (fun p:Afr=>p.ri) Aek ⟨y,true,true,(s.at q).wa⟩ s.sp q hq;unfold Afc Acs.put;simp only[List.length_set];unfold Acs.at at hc h1 h2 ⊢;simp only[if_true]at h2;have e:Ad8 T K ⟨y,true,true,(s.sp.getD q Aek).wa⟩=Ag5 T y:=by unfold Ad8;rw[if_pos rfl]
  rw[e]at h1;have h3:((s.sp.set q ⟨y,true,true,(s.sp.getD q Aek).wa⟩).map (Ad8 T K)).sum+1≤(s.sp.map (Ad8 T K)).sum:=by omega
  have h4:=Nat.mul_le_mul_right (s.sp.length+1) h3;rw[Nat.add_mul]at h4;omega
theorem Aeb.want {T:List Int}{lo:Nat}{hi:Int}{isN:Int→Prop}{K:Nat}{s:Acs} (h:Ae1 T lo hi isN s) {q:Nat} (hq:q<s.sp.length):Aeb T lo hi isN K s (s.want q):=by
 refine⟨fun p hp=>?_,by simp[Acs.want],?_⟩
 ·rcases List.mem_or_eq_of_mem_set hp with hp|rfl
  ·exact h p hp
  ·exact⟨(h _ (Aeg hq)).1,(h _ (Aeg hq)).2⟩
 ·have h1:=Jc (Ad8 T K) Aek ⟨(s.at q).fr,(s.at q).st,(s.at q).ri,true⟩ s.sp q hq;have h2:=Gi (fun p:Afr=>p.ri) Aek ⟨(s.at q).fr,(s.at q).st,(s.at q).ri,true⟩ s.sp q hq;unfold Afc Acs.want;simp only[List.length_set];have e:Ad8 T K ⟨(s.at q).fr,(s.at q).st,(s.at q).ri,true⟩=Ad8 T K (s.at q):=rfl;unfold Acs.at at h1 h2 e ⊢;rw[e]at h1;simp only at h2;have h3:((s.sp.set q ⟨(s.sp.getD q Aek).fr,(s.sp.getD q Aek).st,(s.sp.getD q Aek).ri,true⟩).map (Ad8 T K)).sum=(s.sp.map (Ad8 T K)).sum:=by omega
  rw[h3];omega
theorem Agu {T:List Int}{lo:Nat}{hi:Int}{isN:Int→Prop}{K:Nat}{s:Acs} (h:Ae1 T lo hi isN s) {q:Nat} (hq:q<s.sp.length) (hr:(s.at q).ri=true):Ae1 T lo hi isN (s.calm q)∧(s.calm q).sp.length=s.sp.length∧Afc T K (s.calm q)<Afc T K s:=by
 refine⟨fun p hp=>?_,by simp[Acs.calm],?_⟩
 ·rcases List.mem_or_eq_of_mem_set hp with hp|rfl
  ·exact h p hp
  ·exact⟨(h _ (Aeg hq)).1,fun h=>by simp at h⟩
 ·have h1:=Jc (Ad8 T K) Aek ⟨(s.at q).fr,(s.at q).st,false,(s.at q).wa⟩ s.sp q hq;have h2:=Gi (fun p:Afr=>p.ri) Aek ⟨(s.at q).fr,(s.at q).st,false,(s.at q).wa⟩ s.sp q hq;unfold Afc Acs.calm;simp only[List.length_set];have e:Ad8 T K ⟨(s.at q).fr,(s.at q).st,false,(s.at q).wa⟩=Ad8 T K (s.at q):=rfl;unfold Acs.at at h1 h2 e hr ⊢;rw[e]at h1;simp only[hr,if_true,Bool.false_eq_true,if_false]at h2;have h3:((s.sp.set q ⟨(s.sp.getD q Aek).fr,(s.sp.getD q Aek).st,false,(s.sp.getD q Aek).wa⟩).map (Ad8 T K)).sum=(s.sp.map (Ad8 T K)).sum:=by omega
  rw[h3];omega
theorem Ael.arg {T:List Int}{lo:Nat}{hi:Int}{isN:Int→Prop}{x:Acp} (h:Ael T lo hi isN x):Adb T x:=⟨fun t ht=>(h.tl t ht).1,fun t ht=>(h.ts t ht).1⟩
theorem Aau {T:List Int} (h:Tr.Ok T) {isN:Int→Prop}{a b:Int × Int} (ha:Acw T isN a) (hb:Acw T isN b):Acw T isN (Tr.joinT T a b):=by
 have j:=(Tr.join_spec h (k:=a.1) (n:=a.2) (k':=b.1) (n':=b.2) ha.1 hb.1).1;refine⟨j,?_⟩;unfold Tr.joinT
 split
 ·exact hb.2
 ·split
  ·exact ha.2
  ·split
   ·intro h;simp at h
   ·split
    ·intro h;simp at h
    ·intro h;simp at h
theorem Pr {T:List Int} (h:Tr.Ok T) {isN:Int→Prop}:∀ (a b:List (Int × Int)),(∀ t∈a,Acw T isN t)→(∀ t∈b,Acw T isN t)→∀ t∈List.zipWith (Tr.joinT T) a b,Acw T isN t
 | [],_,_,_,t,ht=>by simp at ht
 | _::_,[],_,_,t,ht=>by simp at ht
 | x::a,y::b,ha,hb,t,ht=>by
  simp only[List.zipWith_cons_cons,List.mem_cons]at ht;rcases ht with rfl | ht
  ·exact Aau h (ha x (by simp)) (hb y (by simp))
  ·exact Pr h a b (fun t ht=>ha t (by simp[ht])) (fun t ht=>hb t (by simp[ht])) t ht
theorem Pl {T:List Int} (h:Tr.Ok T) {lo:Nat}{hi:Int}{isN:Int→Prop}{x y:Acp} (hx:Ael T lo hi isN x) (hy:Ael T lo hi isN y):Ael T lo hi isN (Ae2 T x y):=by
 refine⟨?_,?_,Pr h _ _ hx.tl hy.tl,Pr h _ _ hx.ts hy.ts⟩
 ·have:=hx.lo;have:=hy.lo;simp[Ae2];omega
 ·have:=hx.hi;simp[Ae2];omega
theorem Aci {T:List Int}{lo:Nat}{hi:Int}{isN:Int→Prop}{x:Acp} (hx:Ael T lo hi isN x):Ag5 T x<(T.length+1)*(lo+hi.toNat)+1:=by
 have h1:=Oo x.locals hx.arg.1;have h2:=Oo x.stack hx.arg.2;have h3:=hx.lo;have h4:=hx.hi;have h5:=Nat.mul_le_mul_left (T.length+1) (show x.stack.length≤hi.toNat by omega);unfold Ag5;rw[Nat.mul_add];rw[h3]at h1;omega
def Agc (T:List Int) (lo:Nat) (hi:Int):Nat:=(T.length+1)*(lo+hi.toNat)+1
theorem M9 {T:List Int} (h:Tr.Ok T) {lo:Nat}{hi:Int}{isN:Int→Prop}{s:Acs} (hs:Ae1 T lo hi isN s) {x:Acp} (hx:x.locals.length=lo) (ht:∀ t∈x.locals,Acw T isN t) (hk:∀ t∈x.stack,Acw T isN t) (q:Int):Aeb T lo hi isN (Agc T lo hi) s (Ac3 T hi x q s):=by
 unfold Ac3
 split
 ·exact .stop hs
 ·next hn =>
  have hx':Ael T lo hi isN x:=⟨hx,by omega,ht,hk⟩
  split
  ·next h1=>exact .put hs (by omega) hx' (by unfold Ad8;rw[if_neg (by simp[h1])];exact Aci hx')
  ·next h1 =>
   split
   ·exact .refl hs
   ·next h2 =>
    split
    ·next h3 =>
     have hy:=(hs _ (Aeg (s:=s) (q:=q.toNat) (by omega))).1 (by simpa using h1);exact .put hs (by omega) (Pl h hx' hy) (by unfold Ad8;rw[if_pos (by simpa using h1)];exact Aai h hx'.arg hy.arg h3.1 h3.2 (by simpa using h2))
    ·exact .stop hs
theorem Aba {T:List Int}{lo:Nat}{hi:Int}{isN:Int→Prop}{K:Nat}{s:Acs} (hs:Ae1 T lo hi isN s) (q:Int):Aeb T lo hi isN K s (Agx q s):=by
 unfold Agx
 split
 ·exact .want hs (by omega)
 ·exact .refl hs
theorem Sb {T:List Int} (h:Tr.Ok T) {lo:Nat}{hi:Int}{isN:Int→Prop}{s:Acs} (hs:Ae1 T lo hi isN s) {x:Acp} (hx:x.locals.length=lo) (ht:∀ t∈x.locals,Acw T isN t) (hk:∀ t∈x.stack,Acw T isN t) (q:Int):Aeb T lo hi isN (Agc T lo hi) s (Ad7 T hi x q s):=by
 have h1:=M9 h hs hx ht hk q;exact h1.trans (Aba h1.ok q)
theorem Jo {T:List Int} (h:Tr.Ok T) {lo:Nat}{hi:Int}{isN:Int→Prop}{x:Acp} (hx:x.locals.length=lo) (ht:∀ t∈x.locals,Acw T isN t) (p:Int):∀ (hs:List Rd.Hnd),(∀ y∈hs,Tr.Arg T 3 y.cl)→∀ {s:Acs},Ae1 T lo hi isN s→Aeb T lo hi isN (Agc T lo hi) s (Ac1 T hi p x.locals hs s)
 | [],_,s,h0=>.refl h0
 | y::r,hy,s,h0=>by
  unfold Ac1;have h1:Aeb T lo hi isN (Agc T lo hi) s (if Adl y p=true then Ad7 T hi ⟨x.locals,[(3,y.cl)]⟩ y.target s else s):=by
   split
   ·exact Sb (x:=⟨x.locals,[(3,y.cl)]⟩) h h0 hx ht (by intro t ht;rw[List.mem_singleton.1 ht];exact⟨hy y (by simp),fun h=>by simp at h⟩) _
   ·exact .refl h0
  exact h1.trans (Jo h hx ht p r (fun z hz=>hy z (by simp[hz])) h1.ok)
theorem Abl {T:List Int} (h:Tr.Ok T) {lo:Nat}{hi:Int}{isN:Int→Prop}{x:Acp} (hx:Ael T lo hi isN x) {hs:List Rd.Hnd} (hy:∀ y∈hs,Tr.Arg T 3 y.cl) {bh:Cd.Ins→Acp→Option Acp}{i:Cd.Ins} (hb:∀ y,bh i x=some y→Ael T lo hi isN y) {s:Acs} (h0:Ae1 T lo hi isN s):Aeb T lo hi isN (Agc T lo hi) s (Ae9 T hi hs bh i x s):=by
 have h1:=Jo h hx.lo hx.tl i.place hs hy h0;unfold Ae9
 split
 ·exact h1.trans (.stop h1.ok)
 ·next y e =>
  have hy':=hb y e;have h2:Aeb T lo hi isN (Agc T lo hi) s (if Ac9 i.op=true then Ad7 T hi y i.n (Ac1 T hi i.place x.locals hs s) else Ac1 T hi i.place x.locals hs s):=by
   split
   ·exact h1.trans (Sb h h1.ok hy'.lo hy'.tl hy'.ts _)
   ·exact h1
  simp only
  split
  ·exact h2.trans (M9 h h2.ok hy'.lo hy'.tl hy'.ts _)
  ·exact h2
theorem Gw {T:List Int}{lo:Nat}{hi:Int}{isN:Int→Prop}{K:Nat}{lk:Cd.Ins→Acp→Acs→Acs}:∀ (L:List Cd.Ins),(∀ i∈L,0≤i.place) →
  (∀ i∈L,∀ x s,Ael T lo hi isN x→Ae1 T lo hi isN s→Aeb T lo hi isN K s (lk i x s)) →
  ∀ (b:Bool) {s:Acs},Ae1 T lo hi isN s→Aeb T lo hi isN K s (Acu lk L b s).1∧((Acu lk L b s).2=true→b=false→Afc T K (Acu lk L b s).1<Afc T K s)
 | [],_,_,b,s,h0=>⟨.refl h0,fun h g=>by simp[Acu,g]at h⟩
 | i::r,hp,hk,b,s,h0=>by
  unfold Acu;have ih:=fun b {s:Acs} h0=>Gw (T:=T) (lo:=lo) (hi:=hi) (isN:=isN) (K:=K) (lk:=lk) r (fun z hz=>hp z (by simp[hz])) (fun z hz=>hk z (by simp[hz])) b (s:=s) h0
  split
  ·exact ih b h0
  ·next hn =>
   have hpi:=hp i (by simp);have hri:(s.at i.place.toNat).ri=true:=by
    cases h:(s.at i.place.toNat).ri with
    | true=>rfl
    | false=>exact absurd (.inr h) hn
   have hq:i.place.toNat<s.sp.length:=by
    have:¬ (s.sp.length:Int)≤i.place:=fun h=>hn (.inl h);omega
   obtain⟨c1,c2,c3⟩:=Agu (K:=K) h0 hq hri;have hx:=(h0 _ (Aeg hq)).1 ((h0 _ (Aeg hq)).2 hri);have h1:=hk i (by simp) _ _ hx c1;have h2:=(ih true h1.ok).1;have hmu:=Nat.le_trans h2.mu h1.mu;exact⟨⟨h2.ok,h2.len.trans (h1.len.trans c2),by omega⟩,fun _ _=>by omega⟩
theorem Hv {T:List Int}{lo:Nat}{hi:Int}{isN:Int→Prop}{K:Nat}{lk:Cd.Ins→Acp→Acs→Acs}{L:List Cd.Ins} (hp:∀ i∈L,0≤i.place)
  (hk:∀ i∈L,∀ x s,Ael T lo hi isN x→Ae1 T lo hi isN s→Aeb T lo hi isN K s (lk i x s)):∀ (n m:Nat) {s:Acs},Ae1 T lo hi isN s→Afc T K s<n→Afc T K s<m→Aeu lk L n s=Aeu lk L m s
 | 0,_,s,_,h,_=>absurd h (by omega)
 | n+1,0,s,_,_,h=>absurd h (by omega)
 | n+1,m+1,s,h0,hn,hm=>by
  have h1:=Gw (K:=K) L hp hk false h0;unfold Aeu;by_cases hc:(Acu lk L false s).2=true∧(Acu lk L false s).1.hop=false
  ·rw[if_pos hc,if_pos hc];have:=h1.2 hc.1 rfl;exact Hv hp hk n m h1.1.ok (by omega) (by omega)
  ·rw[if_neg hc,if_neg hc]
def Ag8 (T:List Int) (K:Nat) (lk:Cd.Ins→Acp→Acs→Acs) (L:List Cd.Ins) (s:Acs):Acs:=Aeu lk L (Afc T K s+1) s
theorem V5 {T:List Int}{lo:Nat}{hi:Int}{isN:Int→Prop}{K:Nat}{lk:Cd.Ins→Acp→Acs→Acs}{L:List Cd.Ins} (hp:∀ i∈L,0≤i.place)
  (hk:∀ i∈L,∀ x s,Ael T lo hi isN x→Ae1 T lo hi isN s→Aeb T lo hi isN K s (lk i x s)) {s:Acs} (h0:Ae1 T lo hi isN s) :
  Ag8 T K lk L s=if (Acu lk L false s).2=true∧(Acu lk L false s).1.hop=false then Ag8 T K lk L (Acu lk L false s).1 else (Acu lk L false s).1:=by
 have h1:=Gw (K:=K) L hp hk false h0;unfold Ag8;rw[Aeu];by_cases hc:(Acu lk L false s).2=true∧(Acu lk L false s).1.hop=false
 ·rw[if_pos hc,if_pos hc];have:=h1.2 hc.1 rfl;exact Hv hp hk _ _ h1.1.ok (by omega) (by omega)
 ·rw[if_neg hc,if_neg hc]
abbrev Ahw (T:List Int) (s t:Int × Int):Prop:=Tr.fitsB T s.1 s.2 t.1 t.2=true
def Ac7 (T:List Int):List (Int × Int)→List (Int × Int)→Prop
 | [],[]=>True
 | s::a,t::b=>Ahw T s t∧Ac7 T a b
 | _,_=>False
theorem Ac7.nil {T:List Int}:Ac7 T [] []:=trivial
theorem Ac7.cons {T:List Int}{s t:Int × Int}{a b:List (Int × Int)} (h:Ahw T s t) (k:Ac7 T a b):Ac7 T (s::a) (t::b):=⟨h,k⟩
theorem Ac7.el {T:List Int}{P:(a b:List (Int × Int))→Ac7 T a b→Prop} (nil:P [] [] .nil) (cons:∀{s t:Int × Int}{a b:List (Int × Int)} (h:Ahw T s t) (k:Ac7 T a b),P a b k→P (s::a) (t::b) (.cons h k)):∀{a b:List (Int × Int)} (h:Ac7 T a b),P a b h
 | [],[],_=>nil
 | [],_::_,h=>False.elim h
 | _::_,[],h=>False.elim h
 | _::_,_::_,h=>cons h.1 h.2 (Ac7.el nil cons h.2)
structure Ade (T:List Int) (x y:Acp):Prop where
 lo:Ac7 T x.locals y.locals
 st:Ac7 T x.stack y.stack
theorem Ac7.len {T:List Int}{a b:List (Int × Int)} (h:Ac7 T a b):a.length=b.length:=by
 induction h using Ac7.el with
 | nil=>rfl
 | cons _ _ ih=>simp[ih]
theorem Ac7.refl (T:List Int) (a:List (Int × Int)):Ac7 T a a:=by
 induction a with
 | nil=>exact .nil
 | cons x r ih=>exact .cons (Tr.fits_refl _ _ _) ih
theorem Ac7.trans {T:List Int} (hT:Tr.Ok T) {a b c:List (Int × Int)} (h:Ac7 T a b) (g:Ac7 T b c) (ha:∀ t∈a,Tr.Arg T t.1 t.2) (hb:∀ t∈b,Tr.Arg T t.1 t.2) (hc:∀ t∈c,Tr.Arg T t.1 t.2):Ac7 T a c:=by
 induction h using Ac7.el generalizing c with
 | nil=>exact g
 | cons h1 h2 ih =>
  cases g using Ac7.el with
  | cons g1 g2=>exact .cons (Tr.fits_trans hT (ha _ (by simp)) (hb _ (by simp)) (hc _ (by simp)) h1 g1) (ih g2 (fun t ht=>ha t (by simp[ht])) (fun t ht=>hb t (by simp[ht])) (fun t ht=>hc t (by simp[ht])))
theorem Ac7.getD {T:List Int}{a b:List (Int × Int)} (h:Ac7 T a b) (i:Nat):Ahw T (a.getD i (0,0)) (b.getD i (0,0)):=by
 induction h using Ac7.el generalizing i with
 | nil=>exact Tr.fits_refl _ _ _
 | cons h1 _ ih =>
  cases i with
  | zero=>simpa using h1
  | succ i=>simpa using ih i
theorem Ac7.set {T:List Int}{a b:List (Int × Int)} (h:Ac7 T a b) (i:Nat) {s t:Int × Int} (hs:Ahw T s t):Ac7 T (a.set i s) (b.set i t):=by
 induction h using Ac7.el generalizing i with
 | nil=>exact .nil
 | cons h1 h2 ih =>
  cases i with
  | zero=>exact .cons hs h2
  | succ i=>exact .cons h1 (ih i)
theorem Ac7.take {T:List Int}{a b:List (Int × Int)} (h:Ac7 T a b) (i:Nat):Ac7 T (a.take i) (b.take i):=by
 induction h using Ac7.el generalizing i with
 | nil=>simpa using Ac7.nil
 | cons h1 h2 ih =>
  cases i with
  | zero=>exact .nil
  | succ i=>exact .cons h1 (ih i)
theorem Ac7.drop {T:List Int}{a b:List (Int × Int)} (h:Ac7 T a b) (i:Nat):Ac7 T (a.drop i) (b.drop i):=by
 induction h using Ac7.el generalizing i with
 | nil=>simpa using Ac7.nil
 | cons h1 h2 ih =>
  cases i with
  | zero=>exact .cons h1 h2
  | succ i=>exact ih i
theorem Ac7.append {T:List Int}{a b c d:List (Int × Int)} (h:Ac7 T a b) (g:Ac7 T c d):Ac7 T (a++c) (b++d):=by
 induction h using Ac7.el with
 | nil=>exact g
 | cons h1 _ ih=>exact .cons h1 ih
theorem Ps {T:List Int}{s:Int × Int}{p:Int} (h:Ahw T s (4,p)):s=(4,p):=by
 rcases(Tr.fits_iff ..).1 h with ⟨a,b⟩ | e|⟨e,_⟩|⟨e,_⟩
 ·exact Prod.ext a b
 ·exact absurd e (by simp)
 ·exact absurd e (by simp)
 ·exact absurd e (by simp)
theorem Yu {T:List Int}{t:Int × Int}{p:Int} (h:Ahw T (4,p) t):t=(4,p)∨t.1=0:=by
 rcases(Tr.fits_iff ..).1 h with ⟨a,b⟩ | e|⟨_,e⟩|⟨_,e,_⟩
 ·exact .inl (Prod.ext a.symm b.symm)
 ·exact .inr e
 ·exact absurd e (by simp)
 ·exact absurd e (by simp)
theorem Ac7.turned {T:List Int}{a b:List (Int × Int)} (h:Ac7 T a b) (p:Int) (u:Int × Int):Ac7 T (Add (4,p) u a) (Add (4,p) u b):=by
 induction h using Ac7.el with
 | nil=>exact .nil
 | @cons s t a b h1 _ ih =>
  refine Ac7.cons ?_ ih;show Ahw T (if s=(4,p) then u else s) (if t=(4,p) then u else t)
  by_cases hs:s=(4,p)
  ·subst hs;rw[if_pos rfl];rcases Yu h1 with rfl | h0
   ·rw[if_pos rfl];exact Tr.fits_refl _ _ _
   ·rw[if_neg (by rintro rfl;simp at h0)];exact(Tr.fits_iff ..).2 (.inr (.inl h0))
  ·rw[if_neg hs];by_cases ht:t=(4,p)
   ·subst ht;exact absurd (Ps h1) hs
   ·rw[if_neg ht];exact h1
theorem Vy {T:List Int} (hT:Tr.Ok T) {a b:List (Int × Int)} (h:Ac7 T a b) (ha:∀ t∈a,Tr.Arg T t.1 t.2) (hb:∀ t∈b,Tr.Arg T t.1 t.2):∀ {c:List (Int × Int)},(∀ t∈c,Tr.Arg T t.1 t.2)→Ac6 T b c=true→Ac6 T a c=true:=by
 induction h using Ac7.el with
 | nil=>exact fun _ h=>h
 | cons h1 _ ih =>
  intro c hc hf;cases c with
  | nil=>simp[Ac6]
  | cons u c =>
   simp only[Ac6,Bool.and_eq_true]at hf ⊢;exact⟨Tr.fits_trans hT (ha _ (by simp)) (hb _ (by simp)) (hc _ (by simp)) h1 hf.1,ih (fun t ht=>ha t (by simp[ht])) (fun t ht=>hb t (by simp[ht])) (fun t ht=>hc t (by simp[ht])) hf.2⟩
theorem Xa {T:List Int} (hT:Tr.Ok T) {a b c:List (Int × Int)} (h:Ac7 T a b) (ha:∀ t∈a,Tr.Arg T t.1 t.2) (hb:∀ t∈b,Tr.Arg T t.1 t.2) (hc:∀ t∈c,Tr.Arg T t.1 t.2) (hf:Aem T b c=true):Aem T a c=true:=by
 unfold Aem at hf ⊢;rw[h.len];by_cases hl:b.length<c.length
 ·rw[if_pos hl]at hf;cases hf
 ·rw[if_neg hl]at hf ⊢;rw[Dl hT _ _ (fun t ht=>hb t (List.mem_of_mem_drop ht)) hc]at hf;rw[Dl hT _ _ (fun t ht=>ha t (List.mem_of_mem_drop ht)) hc];exact Vy hT (h.drop _) (fun t ht=>ha t (List.mem_of_mem_drop ht)) (fun t ht=>hb t (List.mem_of_mem_drop ht)) hc hf
theorem Uj {T:List Int} (hT:Tr.Ok T) {tk lv want:List (Int × Int)}{arg:Int→Int}{p op n:Int}{x y z:Acp} (hx:Adb T x) (hy:Adb T y) (hk:∀ t∈tk,Tr.Arg T t.1 t.2) (hw:∀ t∈want,Tr.Arg T t.1 t.2) (h:Ade T x y)
  (hz:Aff T tk lv want arg p op n y=some z):∃ u,Aff T tk lv want arg p op n x=some u∧Ade T u z:=by
 have el:=h.lo.len;have es:=h.st.len;unfold Aff at hz ⊢;by_cases h2:op=2
 ·rw[if_pos h2]at hz ⊢;have hg:=h.lo.getD n.toNat;by_cases hk0:(y.locals.getD n.toNat (0,0)).1=0
  ·rw[if_pos hk0]at hz;cases hz
  ·rw[if_neg hk0]at hz;have hk1:(x.locals.getD n.toNat (0,0)).1≠0:=by
    intro e;rcases(Tr.fits_iff ..).1 hg with ⟨a,_⟩ | a | ⟨_,a⟩ | ⟨_,a,_⟩<;>omega
   rw[if_neg hk1];cases hz;exact⟨_,rfl,h.lo,h.st.append (.cons hg .nil)⟩
 ·rw[if_neg h2]at hz ⊢;by_cases h3:op=3
  ·rw[if_pos h3,es]at *;by_cases hl:y.stack.length<1
   ·rw[if_pos hl]at hz;cases hz
   ·rw[if_neg hl]at hz ⊢;cases hz;exact⟨_,rfl,h.lo.set _ (h.st.getD _),h.st.take _⟩
  ·rw[if_neg h3]at hz ⊢;by_cases h4:op=4
   ·rw[if_pos h4,es]at *;by_cases hl:y.stack.length<1
    ·rw[if_pos hl]at hz;cases hz
    ·rw[if_neg hl]at hz ⊢;cases hz;exact⟨_,rfl,h.lo,h.st.take _⟩
   ·rw[if_neg h4]at hz ⊢;by_cases h5:op=5
    ·rw[if_pos h5,es]at *;by_cases hl:y.stack.length<1
     ·rw[if_pos hl]at hz;cases hz
     ·rw[if_neg hl]at hz ⊢;cases hz;exact⟨_,rfl,h.lo,h.st.append (h.st.drop _)⟩
    ·rw[if_neg h5]at hz ⊢;by_cases h6:op=6
     ·rw[if_pos h6,es]at *;by_cases hl:y.stack.length<2
      ·rw[if_pos hl]at hz;cases hz
      ·rw[if_neg hl]at hz ⊢;cases hz;exact⟨_,rfl,h.lo,(h.st.take _).append (.cons (h.st.getD _) (.cons (h.st.getD _) .nil))⟩
     ·rw[if_neg h6]at hz ⊢;by_cases h15:op=15
      ·rw[if_pos h15]at hz ⊢;cases hz;exact⟨_,rfl,h.lo.turned _ _,(h.st.turned _ _).append (.cons (Tr.fits_refl _ _ _) .nil)⟩
      ·rw[if_neg h15]at hz ⊢;by_cases h16:op=16
       ·rw[if_pos h16]at hz ⊢;unfold Ahl at hz ⊢;rw[es]at *;by_cases ht:Aem T y.stack want=false
        ·rw[if_pos ht]at hz;cases hz
        ·have ht':=Xa hT h.st hx.2 hy.2 hw (by simpa using ht);rw[if_neg ht]at hz;rw[if_neg (by simp[ht'])];by_cases hl:y.stack.length<want.length+1
         ·rw[if_pos hl]at hz;cases hz
         ·rw[if_neg hl]at hz ⊢;have hg:=h.st.getD (y.stack.length-want.length-1);have hg2:=h.st.take (y.stack.length-want.length-1);generalize y.stack.getD (y.stack.length-want.length-1) (0,0)=r at *;generalize x.stack.getD (y.stack.length-want.length-1) (0,0)=r' at *;by_cases h41:r.1≠4
          ·rw[if_pos h41]at hz;cases hz
          ·rw[if_neg h41]at hz;obtain⟨r1,r2⟩:=r;have:r1=4:=by simpa using h41
           subst this;have e:=Ps hg;subst e;rw[if_neg h41];by_cases ha:arg r2≠n
           ·rw[if_pos ha]at hz;cases hz
           ·rw[if_neg ha]at hz ⊢;cases hz;exact⟨_,rfl,h.lo.turned _ _,hg2.turned _ _⟩
       ·rw[if_neg h16]at hz ⊢;by_cases ht:Aem T y.stack tk=false
        ·rw[if_pos ht]at hz;cases hz
        ·have ht':=Xa hT h.st hx.2 hy.2 hk (by simpa using ht);rw[if_neg ht,es]at *;rw[if_neg (by simp[ht'])];cases hz;exact⟨_,rfl,h.lo,(h.st.take _).append (.refl _ _)⟩
structure Acx where
 T:List Int
 lo:Nat
 hi:Int
 isN:Int→Prop
 n:Nat
 ps:List Nat
 hs:List Rd.Hnd
 rl:Nat→Acp→Option Acp
 op:Nat→Int
 ar:Nat→Int
 x0:Acp
abbrev Acx.I (E:Acx) (x:Acp):Prop:=Ael E.T E.lo E.hi E.isN x
def Acx.nx (E:Acx) (p:Nat):Int:=(p:Int)+(Cd.wd (E.op p):Int)
structure Acx.Good (E:Acx):Prop where
 T:Tr.Ok E.T
 x0:E.I E.x0
 rl:∀ p∈E.ps,∀ x y,E.I x→E.rl p x=some y→E.I y
 mono:∀ p∈E.ps,∀ x y z,E.I x→E.I y→Ade E.T x y→E.rl p y=some z→∃ u,E.rl p x=some u∧Ade E.T u z
 tgt:∀ p∈E.ps,Ac9 (E.op p)=true→0≤E.ar p∧E.ar p<(E.n:Int)∧(E.ar p).toNat∈E.ps
 nxt:∀ p∈E.ps,E.nx p<(E.n:Int)→(E.nx p).toNat∈E.ps
 hnd:∀ h∈E.hs,0≤h.target∧h.target<(E.n:Int)∧h.target.toNat∈E.ps∧Tr.Arg E.T 3 h.cl
 zero:0∈E.ps
 lt:∀ p∈E.ps,p<E.n
def Aef (x:Acp) (h:Rd.Hnd):Acp:=⟨x.locals,[(3,h.cl)]⟩
def Ae7 (E:Acx) (p:Nat) (x:Acp) (q:Int) (y:Acp) (a:Bool):Prop:=(∃ h,h∈E.hs∧Adl h (p:Int)=true∧q=h.target∧y=Aef x h∧a=true)∨(E.rl p x=some y∧Ac9 (E.op p)=true∧q=E.ar p∧a=true)∨(E.rl p x=some y∧Adr (E.op p)=true∧q=E.nx p∧a=false)
theorem Ae7.hnd {E:Acx}{p:Nat}{x:Acp} (h:Rd.Hnd) (k:h∈E.hs) (c:Adl h (p:Int)=true):Ae7 E p x h.target (Aef x h) true:=Or.inl ⟨h,k,c,rfl,rfl,rfl⟩
theorem Ae7.jmp {E:Acx}{p:Nat}{x:Acp} (y:Acp) (k:E.rl p x=some y) (c:Ac9 (E.op p)=true):Ae7 E p x (E.ar p) y true:=Or.inr (Or.inl ⟨k,c,rfl,rfl⟩)
theorem Ae7.nxt {E:Acx}{p:Nat}{x:Acp} (y:Acp) (k:E.rl p x=some y) (c:Adr (E.op p)=true):Ae7 E p x (E.nx p) y false:=Or.inr (Or.inr ⟨k,c,rfl,rfl⟩)
theorem Ae7.el {E:Acx}{p:Nat}{x:Acp}{P:(q:Int)→(y:Acp)→(a:Bool)→Ae7 E p x q y a→Prop} (hnd:∀ (h:Rd.Hnd) (k:h∈E.hs) (c:Adl h (p:Int)=true),P _ _ _ (.hnd h k c)) (jmp:∀ (y:Acp) (k:E.rl p x=some y) (c:Ac9 (E.op p)=true),P _ _ _ (.jmp y k c)) (nxt:∀ (y:Acp) (k:E.rl p x=some y) (c:Adr (E.op p)=true),P _ _ _ (.nxt y k c)){q:Int}{y:Acp}{a:Bool} (h:Ae7 E p x q y a):P q y a h:=by
 rcases h with ⟨h,k,c,rfl,rfl,rfl⟩|⟨k,c,rfl,rfl⟩|⟨k,c,rfl,rfl⟩
 ·exact hnd h k c
 ·exact jmp y k c
 ·exact nxt y k c
structure Ah3 (E:Acx) (F:Nat→Option Acp) (W:Nat→Prop) (p:Nat) (x:Acp):Prop where
 rl:∃ y,E.rl p x=some y
 go:∀ q y a,Ae7 E p x q y a→0≤q∧q<(E.n:Int)∧(y.stack.length:Int)≤E.hi∧(∃ z,F q.toNat=some z∧Ade E.T y z)∧(a=true→W q.toNat)
structure Ag2 (E:Acx) (F:Nat→Option Acp):Prop where
 inv:∀ p x,F p=some x→E.I x
 x0:∃ y,F 0=some y∧Ade E.T E.x0 y
 sat:∀ p∈E.ps,∀ x,F p=some x→Ah3 E F (fun _=>True) p x
def Ahz (E:Acx) (p q:Nat):Prop:=(∃ h∈E.hs,Adl h (p:Int)=true∧h.target.toNat=q)∨(Ac9 (E.op p)=true∧(E.ar p).toNat=q)
theorem Ade.refl (T:List Int) (x:Acp):Ade T x x:=⟨.refl _ _,.refl _ _⟩
theorem Ade.trans {E:Acx} (g:E.Good) {x y z:Acp} (h:Ade E.T x y) (k:Ade E.T y z) (hx:Adb E.T x) (hy:Adb E.T y) (hz:Adb E.T z):Ade E.T x z :=
 ⟨h.lo.trans g.T k.lo hx.1 hy.1 hz.1,h.st.trans g.T k.st hx.2 hy.2 hz.2⟩
theorem En {T:List Int}:∀ {a b:List (Int × Int)},a.length=b.length→(Ac6 T a b=true↔Ac7 T a b)
 | [],[],_=>⟨fun _=>.nil,fun _=>rfl⟩
 | [],_::_,h=>by simp at h
 | _::_,[],h=>by simp at h
 | s::a,t::b,h=>by
  have ih:=En (T:=T) (a:=a) (b:=b) (by simpa using h);simp only[Ac6,Bool.and_eq_true]
  constructor
  ·rintro ⟨h1,h2⟩;exact .cons h1 (ih.1 h2)
  ·intro k;cases k using Ac7.el with
   | cons k1 k2=>exact⟨k1,ih.2 k2⟩
theorem Yx {T:List Int}{x y:Acp}:Ad5 T x y=true↔Ade T x y:=by
 unfold Ad5 Afh
 constructor
 ·intro h;simp only[Bool.and_eq_true]at h;obtain⟨h1,h2⟩:=h
  split at h1
  ·next e1 =>
   split at h2
   ·next e2=>exact⟨(En e1).1 h1,(En e2).1 h2⟩
   ·cases h2
  ·cases h1
 ·intro h;rw[if_pos h.lo.len,if_pos h.st.len,(En h.lo.len).2 h.lo,(En h.st.len).2 h.st];rfl
theorem Ka {T:List Int} (hT:Tr.Ok T):∀ (a b:List (Int × Int)),(∀ t∈a,Tr.Arg T t.1 t.2)→(∀ t∈b,Tr.Arg T t.1 t.2)→a.length=b.length →
  Ac7 T a (List.zipWith (Tr.joinT T) a b)∧Ac7 T b (List.zipWith (Tr.joinT T) a b)∧∀ c,(∀ t∈c,Tr.Arg T t.1 t.2)→Ac7 T a c→Ac7 T b c→Ac7 T (List.zipWith (Tr.joinT T) a b) c
 | [],[],_,_,_=>⟨.nil,.nil,fun c _ h _=>h⟩
 | [],_::_,_,_,h=>by simp at h
 | _::_,[],_,_,h=>by simp at h
 | s::a,t::b,ha,hb,h=>by
  obtain⟨i1,i2,i3⟩:=Ka hT a b (fun t ht=>ha t (by simp[ht])) (fun t ht=>hb t (by simp[ht])) (by simpa using h);obtain⟨_,j1,j2,j3⟩:=Tr.join_spec hT (k:=s.1) (n:=s.2) (k':=t.1) (n':=t.2) (ha s (by simp)) (hb t (by simp));refine⟨.cons j1 i1,.cons j2 i2,fun c hc h1 h2=>?_⟩;cases h1 using Ac7.el with
  | cons h11 h12 =>
   cases h2 using Ac7.el with
   | cons h21 h22=>exact .cons (j3 _ _ (hc _ (by simp)) h11 h21) (i3 _ (fun t ht=>hc t (by simp[ht])) h12 h22)
theorem So {T:List Int} (hT:Tr.Ok T) {x y:Acp} (hx:Adb T x) (hy:Adb T y) (hl:x.locals.length=y.locals.length) (hs:x.stack.length=y.stack.length) :
  Ade T x (Ae2 T x y)∧Ade T y (Ae2 T x y)∧∀ z,Adb T z→Ade T x z→Ade T y z→Ade T (Ae2 T x y) z:=by
 obtain⟨a1,a2,a3⟩:=Ka hT x.locals y.locals hx.1 hy.1 hl;obtain⟨b1,b2,b3⟩:=Ka hT x.stack y.stack hx.2 hy.2 hs;exact⟨⟨a1,b1⟩,⟨a2,b2⟩,fun z hz h1 h2=>⟨a3 _ hz.1 h1.lo h2.lo,b3 _ hz.2 h1.st h2.st⟩⟩
theorem Wh {E:Acx} (g:E.Good) {p:Nat} (hp:p∈E.ps) {x y:Acp} (hx:E.I x) (hy:E.I y) (h:Ade E.T x y) {q:Int}{u:Acp}{a:Bool} (hg:Ae7 E p x q u a) (hr:∃ z,E.rl p y=some z):∃ z,Ae7 E p y q z a∧Ade E.T u z:=by
 cases hg using Ae7.el with
 | hnd k hk hc=>exact⟨_,.hnd k hk hc,h.lo,.refl _ _⟩
 | jmp _ h1 h2 =>
  obtain⟨z,hz⟩:=hr;obtain⟨u',h3,h4⟩:=g.mono p hp x y z hx hy h hz;rw[h1]at h3;cases h3;exact⟨z,.jmp z hz h2,h4⟩
 | nxt _ h1 h2 =>
  obtain⟨z,hz⟩:=hr;obtain⟨u',h3,h4⟩:=g.mono p hp x y z hx hy h hz;rw[h1]at h3;cases h3;exact⟨z,.nxt z hz h2,h4⟩
theorem Ja {E:Acx} (g:E.Good) {p:Nat} (hp:p∈E.ps) {x:Acp} (hx:E.I x) {q:Int}{u:Acp}{a:Bool} (hg:Ae7 E p x q u a):u.locals.length=E.lo∧(∀ t∈u.locals,Acw E.T E.isN t)∧∀ t∈u.stack,Acw E.T E.isN t:=by
 cases hg using Ae7.el with
 | hnd k hk hc=>exact⟨hx.lo,hx.tl,fun t ht=>by rw[List.mem_singleton.1 ht];exact⟨(g.hnd k hk).2.2.2,fun h=>by simp at h⟩⟩
 | jmp _ h1 _=>have:=g.rl p hp x u hx h1;exact⟨this.lo,this.tl,this.ts⟩
 | nxt _ h1 _=>have:=g.rl p hp x u hx h1;exact⟨this.lo,this.tl,this.ts⟩
theorem Yl {E:Acx}{p:Nat}{x:Acp}{q:Int}{u:Acp} (hg:Ae7 E p x q u true):Ahz E p q.toNat:=by
 cases hg using Ae7.el with
 | hnd k hk hc=>exact .inl ⟨k,hk,hc,rfl⟩
 | jmp _ h1 h2=>exact .inr ⟨h2,rfl⟩
theorem Aav {E:Acx} (g:E.Good) {p:Nat} (hp:p∈E.ps) {x:Acp}{q:Int}{u:Acp}{a:Bool} (hg:Ae7 E p x q u a) (hq:q<(E.n:Int)):q.toNat∈E.ps:=by
 cases hg using Ae7.el with
 | hnd k hk hc=>exact(g.hnd k hk).2.2.1
 | jmp _ h1 h2=>exact(g.tgt p hp h2).2.2
 | nxt _ h1 _=>exact g.nxt p hp hq
end Go.Proofs.YtpcgnjolfahacaaGreat
