/- a part of the proofs -/
import Derived.Test.YtpcgnjolfahacaaGreatPk12
set_option maxRecDepth 100000
set_option maxHeartbeats 40000000
set_option linter.unusedVariables false
set_option linter.unusedSimpArgs false
namespace Go.Proofs.YtpcgnjolfahacaaGreat
open Go.RowKit
def Ajk (c:List Int) (q:Int):Prop:=Cd.begB c q=true∧c.getD q.toNat 0=15
def Ahw (T:List Int) (m:Rd.Mth) (x:Aft):Prop:=Ahy T m.locals.toNat m.stack (Ajk m.code) x
def Ah1 (cs:List Rd.Cls):List Rf.Fld:=Rf.fieldsTo (Tr.tree cs) (Rf.given++cs) cs.length
def Agj (m:Rd.Mth) (q:Int):Option Aft:=Ag3 q m.maps
def Agx (m:Rd.Mth):Aft:=Ajg m.cl m.params m.locals.toNat
def Agv (cs:List Rd.Cls) (ms:List Rd.Mth) (m:Rd.Mth) (p:Nat) (x:Aft):Option Aft :=
 Ahb m.stack (Ajr (Tr.tree cs) (Ah1 cs) ms (fun c=>Rf.all (Tr.tree cs) (Rf.given++cs) c.toNat) (fun q=>Cd.atI m.code (q+1)) m.result (p:Int) (m.code.getD p 0) (Cd.atI m.code ((p:Int)+1)) x)
def Ajt (cs:List Rd.Cls) (ms:List Rd.Mth) (m:Rd.Mth) (p:Nat) (x:Aft):Int :=
 Ai1 (Tr.tree cs) (Agj m) (Ah4 (Tr.tree cs) (Agj m) (p:Int) x.locals m.handlers) (Agv cs ms m p x) (m.code.getD p 0) (Cd.atI m.code ((p:Int)+1)) ((p+Cd.wd (m.code.getD p 0):Nat):Int) (m.code.length:Int)
def Ahd (cs:List Rd.Cls) (ms:List Rd.Mth) (m:Rd.Mth) (q:Nat):Option Aft :=
 Ajh (fun p=>Agj m (p:Int)) (Agv cs ms m) (fun p=>Agq (m.code.getD p 0)) q (Cd.places m.code) (some (Agx m))
def Ahs (cs:List Rd.Cls) (ms:List Rd.Mth) (m:Rd.Mth):Int × Int :=
 Aj3 (Tr.tree cs) (Agj m 0) (Agx m) (Ahd cs ms m) (Ajt cs ms m) (Cd.places m.code)
def Ajl (cs:List Rd.Cls):List (List (Int × Int)):=(Rf.given++cs).map Rd.Cls.fields
def Af4 (cs:List Rd.Cls) (ms:List Rd.Mth) (m:Rd.Mth) (i:Cd.Ins) (x:Aft):Option Aft :=
 Ai4 (Tr.tree cs) m.stack (Ahl (Ajl cs) ms m.result i.op i.n) (Ag7 (Ajl cs) ms i.op i.n) (Af5 (Tr.tree cs) (Ajl cs) i.n) (Aig (Cd.readL m.code) i.n) i.place i.op i.n x
def Aji (cs:List Rd.Cls) (ms:List Rd.Mth) (m:Rd.Mth) (i:Cd.Ins) (x:Aft):Int :=
 Aju (Tr.tree cs) (Agj m) (Ag5 (Tr.tree cs) (Agj m) i.place x.locals m.handlers) (Af4 cs ms m i x) i.op i.n ((i.place.toNat+Cd.wd i.op:Nat):Int) (m.code.length:Int)
def Aie (cs:List Rd.Cls) (ms:List Rd.Mth) (m:Rd.Mth):Int × Int :=
 Ajq (Tr.tree cs) (Agj m) (Aji cs ms m) (Af4 cs ms m) (Cd.readL m.code) (Agx m)
theorem Fc {T:List Int}{m:Rd.Mth}{x:Aft} (h:Ahw T m x):Agh T x:=⟨fun t ht=>(h.tl t ht).1,fun t ht=>(h.ts t ht).1⟩
theorem Xc {l:List Rd.Mp}{q:Int}{z:Aft} (h:Ag3 q l=some z):∃ y∈l,z=⟨y.locals,y.stack⟩:=by
 induction l with
 | nil=>simp[Ag3]at h
 | cons y r ih =>
  rw[Ag3]at h
  split at h
  ·exact⟨y,by simp,(Option.some.inj h).symm⟩
  ·obtain⟨y',hy,e⟩:=ih h;exact⟨y',by simp[hy],e⟩
theorem Zo {T c:List Int} (hc:c.length≤120) {t:Int × Int} (h:Cd.framed T c t.1 t.2=true):Afy T (Ajk c) t:=by
 unfold Cd.framed at h;by_cases h0:t.1=0∨t.1=1∨t.1=2
 ·rw[if_pos h0]at h;have:t.2=0:=by simpa using h
  refine⟨?_,fun g=>by omega⟩;rcases h0 with h0 | h0 | h0
  ·exact .inl ⟨h0,this⟩
  ·exact .inr (.inl ⟨h0,this⟩)
  ·exact .inr (.inr (.inl ⟨h0,this⟩))
 rw[if_neg h0]at h;by_cases h3:t.1=3
 ·rw[if_pos h3]at h;exact⟨by rw[h3];exact Ds (Ep.1 h),fun g=>by omega⟩
 rw[if_neg h3]at h;by_cases h4:t.1=4
 ·rw[if_pos h4]at h;simp only[Bool.and_eq_true,beq_iff_eq]at h;have:=Fj h.1;exact⟨.inr (.inr (.inr (.inr ⟨h4,by omega,by omega⟩))),fun _=>h⟩
 ·rw[if_neg h4]at h;simp at h
theorem Se {T c:List Int} (hc:c.length≤120) {l:List (Int × Int)} (h:Cd.frAll T c l=true):∀ t∈l,Afy T (Ajk c) t:=fun t ht=>Zo hc (List.all_eq_true.1 h t ht)
theorem Gl {T:List Int}{nf:Int}{ms:List Rd.Mth}{m:Rd.Mth} (g:Ajp T nf ms m) {q:Int}{z:Aft} (h:Agj m q=some z):Ahw T m z:=by
 obtain⟨y,hy,rfl⟩:=Xc h;obtain⟨a,b,_⟩:=g.map y hy;obtain⟨c,d⟩:=g.rd.ml y hy;exact⟨c,d,Se g.bd.code a,Se g.bd.code b⟩
theorem Gn {T:List Int}{nf:Int}{ms:List Rd.Mth}{m:Rd.Mth} (g:Ajp T nf ms m):Ahw T m (Agx m):=by
 have h1:=g.own;have h2:=g.rd.lo;have h3:=g.rd.st;refine⟨?_,by simpa[Agx,Ajg] using h3.1,?_,by simp[Agx,Ajg]⟩
 ·simp only[Agx,Ajg,List.length_append,List.length_replicate];omega
 ·intro t ht;simp only[Agx,Ajg]at ht;rcases List.mem_append.1 ht with ht | ht
  ·unfold Aj7 at ht;rcases List.mem_append.1 ht with ht | ht
   ·split at ht
    ·simp at ht
    ·rename_i h255;obtain rfl:=List.mem_singleton.1 ht;exact⟨Ds (Ep.1 (g.cl.resolve_left h255)),fun h=>by simp at h⟩
   ·exact Lv (Fb g.ps t ht)
  ·rw[(List.mem_replicate.1 ht).2];exact Me _ _
structure Akx (T:List Int) (nf:Int) (ms:List Rd.Mth) (m:Rd.Mth) (op n:Int):Prop where
 loc:op=2∨op=3→0≤n∧n<m.locals
 cls:op=15∨op=16∨op=19→0≤n∧n<(T.length:Int)
 fld:op=17∨op=18→0≤n∧n<nf
 mth:op=20∨op=21→0≤n∧n<(ms.length:Int)
 own:op=21→(ms.getD n.toNat ⟨0,0,[],(0,0),0,0,[],[],[]⟩).cl≠255
theorem Mq {T:List Int}{nf:Int}{ms:List Rd.Mth}{m:Rd.Mth} (g:Ajp T nf ms m) {p:Nat} (hp:p∈Cd.places m.code):Akx T nf ms m (m.code.getD p 0) (Cd.atI m.code ((p:Int)+1)):=by
 have ha:=g.arg p hp;obtain⟨h25,hw⟩:=Dl g.unread p hp;unfold Cd.argAt at ha;rw[Nn]at ha;have hpos:Cd.wd (m.code.getD p 0)=2→0≤Cd.atI m.code ((p:Int)+1):=fun h2=>by
  rw[(Iw hw h2).2];exact Ir g.bd.code0 _
 generalize Cd.atI m.code ((p:Int)+1)=n at *;generalize m.code.getD p 0=op at *;have hwd:op=2∨op=3∨(11≤op∧op≤21)→0≤n:=fun h=>hpos (by unfold Cd.wd;rw[if_pos (by omega)]);unfold Cd.argB at ha;refine⟨fun h=>?_,fun h=>?_,fun h=>?_,fun h=>?_,fun h=>?_⟩
 ·rw[if_pos h]at ha;exact⟨hwd (by omega),by simpa using ha⟩
 ·rw[if_neg (by omega),if_neg (by omega),if_pos h]at ha;exact Ep.1 ha
 ·rw[if_neg (by omega),if_neg (by omega),if_neg (by omega),if_pos h]at ha;exact⟨hwd (by omega),by simpa using ha⟩
 ·refine⟨hwd (by omega),?_⟩;rw[if_neg (by omega),if_neg (by omega),if_neg (by omega),if_neg (by omega)]at ha;rcases h with h | h
  ·rw[if_pos h]at ha;simp at ha;exact_mod_cast ha.1
  ·rw[if_neg (by omega),if_pos h]at ha;simp at ha;exact_mod_cast ha.1
 ·have h0:=hwd (by omega);rw[if_neg (by omega),if_neg (by omega),if_neg (by omega),if_neg (by omega),if_neg (by omega),if_pos h]at ha;simp only[Bool.and_eq_true,decide_eq_true_eq,bne_iff_ne,ne_eq,List.length_map]at ha;have e:(List.map Rd.Mth.cl ms).getD n.toNat 0=(ms.getD n.toNat ⟨0,0,[],(0,0),0,0,[],[],[]⟩).cl:=by
   simp only[List.getD_eq_getElem?_getD,List.getElem?_map];have:n.toNat<ms.length:=by omega
   rw[List.getElem?_eq_getElem this];rfl
  rw[e]at ha;exact ha.2
theorem Sb (cs:List Rd.Cls):((Ah1 cs).length:Int)=(Cd.fieldSum cs:Int):=by
 have:=Cd.fields_eq (Tr.tree cs) cs cs.length (Nat.le_refl _);rw[List.take_length]at this;unfold Ah1;rw[this]
theorem Ss {cs:List Rd.Cls}{ms:List Rd.Mth} (k:Ahu cs ms) {n:Int} (h:0≤n∧n<(Cd.fieldSum cs:Int)):(0≤((Ah1 cs).getD n.toNat ⟨0,0,(0,0)⟩).owner∧((Ah1 cs).getD n.toNat ⟨0,0,(0,0)⟩).owner<((Tr.tree cs).length:Int)) ∧
  Tr.plainB (Tr.tree cs) ((Ah1 cs).getD n.toNat ⟨0,0,(0,0)⟩).t.1 ((Ah1 cs).getD n.toNat ⟨0,0,(0,0)⟩).t.2=true:=by
 have hl:=Sb cs;have:=Nf k.fl cs.length _ (show (Ah1 cs).getD n.toNat ⟨0,0,(0,0)⟩∈Ah1 cs from Cp (by omega));have hT:=Bq cs;exact⟨by omega,this.2⟩
theorem Pb {cs:List Rd.Cls}{ms:List Rd.Mth} (k:Ahu cs ms) {m:Rd.Mth}{op n:Int} (hm:m∈ms) (h:Akx (Tr.tree cs) (Cd.fieldSum cs:Int) ms m op n):∀ t∈Aht (Ah1 cs) ms m.result op n,Tr.Arg (Tr.tree cs) t.1 t.2:=by
 have hT:=Bq cs;have g:=k.mt m hm;unfold Aht;intro t ht
 split at ht
 ·simp at ht;rw[ht];exact .inr (.inl ⟨rfl,rfl⟩)
 split at ht
 ·simp at ht;rw[ht];exact .inr (.inl ⟨rfl,rfl⟩)
 split at ht
 ·simp at ht;rw[ht];exact Ds ⟨by simp,by simp;omega⟩
 split at ht
 ·rename_i h17;obtain rfl:=List.mem_singleton.1 ht;exact Ds (Ss k (h.fld (.inl h17))).1
 split at ht
 ·rename_i h18;have:=Ss k (h.fld (.inr h18));simp only[List.mem_cons,List.not_mem_nil,or_false]at ht;rcases ht with rfl | rfl
  ·exact Ds this.1
  ·exact(Df this.2).1
 split at ht
 ·rename_i h20;have:=h.mth (.inl h20);exact(Df (Fb (k.mt _ (Cp (show n.toNat<ms.length by omega))).ps t ht)).1
 split at ht
 ·rename_i h21;have h1:=h.mth (.inr h21);have g':=k.mt _ (Cp (d:=⟨0,0,[],(0,0),0,0,[],[],[]⟩) (show n.toNat<ms.length by omega));rcases List.mem_cons.1 ht with rfl | ht
  ·exact Ds (Ep.1 (g'.cl.resolve_left (h.own h21)))
  ·exact(Df (Fb g'.ps t ht)).1
 split at ht
 ·exact(Df (Oc g.res t ht)).1
 split at ht
 ·obtain rfl:=List.mem_singleton.1 ht;exact Ds ⟨by simp,by simp;omega⟩
 ·simp at ht
theorem Aap {cs:List Rd.Cls}{ms:List Rd.Mth} (k:Ahu cs ms) {m:Rd.Mth}{op n:Int}{isN:Int→Prop} (h:Akx (Tr.tree cs) (Cd.fieldSum cs:Int) ms m op n):∀ t∈Ahe (Ah1 cs) ms op n,Afy (Tr.tree cs) isN t:=by
 unfold Ahe;intro t ht
 split at ht
 ·simp at ht;rw[ht];exact⟨.inr (.inl ⟨rfl,rfl⟩),fun h=>by simp at h⟩
 split at ht
 ·simp at ht;rw[ht];exact⟨.inr (.inr (.inl ⟨rfl,rfl⟩)),fun h=>by simp at h⟩
 split at ht
 ·rename_i h17;obtain rfl:=List.mem_singleton.1 ht;exact Lv (Ss k (h.fld (.inl h17))).2
 split at ht
 ·rename_i h19;obtain rfl:=List.mem_singleton.1 ht;exact⟨Ds (h.cls (.inr (.inr h19))),fun h=>by simp at h⟩
 split at ht
 ·rename_i h20;have:=h.mth h20;exact Lv (Oc (k.mt _ (Cp (show n.toNat<ms.length by omega))).res t ht)
 ·simp at ht
theorem Gx {c:List Int} (h:Cd.unread c<0):Cd.readL c=Cd.insts c:=by
 unfold Cd.readL;rw[if_neg (by omega)]
theorem Lu {c:List Int}{q:Int} (h:Cd.begB c q=true):q.toNat∈Cd.places c:=by
 unfold Cd.begB at h;rw[List.any_eq_true]at h;obtain⟨p,hp,hn⟩:=h;have:(p:Int)=q:=by simpa using hn
 rw[← this,Int.toNat_natCast];exact hp
theorem X8 {c:List Int} (hu:Cd.unread c<0) {q:Int} (h:Ajk c q) (n:Int):Aig (Cd.readL c) n q=true↔Cd.atI c (q+1)=n:=by
 rw[Gx hu];have hb:=Fj h.1;have h1:(Cd.findAt q (Cd.insts c)).isSome=true:=by rw[Cd.find_beg];exact h.1
 have h2:=(Cd.find_at c q (Cd.places c) h1).1;have h3:=Dl hu _ (Lu h.1);rw[h.2]at h3;have hw:Cd.wd (c.getD q.toNat 0)=2:=by rw[h.2];rfl
 have h4:=Iw (c:=c) (p:=q.toNat) (by rw[h.2];exact h3.2) hw;unfold Aig;rw[h1];unfold Cd.insts;rw[h2,h4.1];have e:(Cd.insAt c q.toNat).op=15:=h.2;have e2:((q.toNat:Nat):Int)=q:=by omega
 rw[e,e2]
 simp
theorem Gf {cs:List Rd.Cls}{ms:List Rd.Mth} (k:Ahu cs ms) {m:Rd.Mth} (hm:m∈ms) {p:Nat} (hp:p∈Cd.places m.code) {x y:Aft} (hx:Ahw (Tr.tree cs) m x) (h:Agv cs ms m p x=some y):Ahw (Tr.tree cs) m y:=by
 have g:=k.mt m hm;have hn:=Mq g hp;unfold Agv at h;rw[H5]at h;refine Abc _ _ _ _ _ _ _ _ _ hx (Aap k hn) (fun h2=>?_) (fun h15=>?_) (fun h16=>hn.cls (by omega)) h
 ·have:=hn.loc (.inl h2);have:=g.rd.lo;omega
 ·have hb:Cd.begB m.code (p:Int)=true:=by
   unfold Cd.begB;rw[List.any_eq_true];exact⟨p,hp,by simp⟩
  have:=Fj hb;have:=g.bd.code;exact⟨.inr (.inr (.inr (.inr ⟨rfl,by simp,by simp;omega⟩))),fun _=>⟨hb,by simpa using h15⟩⟩
theorem Fu {cs:List Rd.Cls}{ms:List Rd.Mth} (k:Ahu cs ms) {m:Rd.Mth} (hm:m∈ms) {p:Nat} (hp:p∈Cd.places m.code) {x:Aft} (hx:Ahw (Tr.tree cs) m x):Af4 cs ms m (Cd.insAt m.code p) x=Agv cs ms m p x:=by
 have g:=k.mt m hm;have hT:=Bq cs;have hfl:=Sb cs;obtain⟨h25,hw⟩:=Dl g.unread p hp;have hn:=Mq g hp;have e0:(Cd.insAt m.code p).op=m.code.getD p 0:=rfl;have e1:(Cd.insAt m.code p).place=(p:Int):=rfl
 -- the number as the program has it
 have hN:Agv cs ms m p x=Ahb m.stack (Ajr (Tr.tree cs) (Ah1 cs) ms (fun c=>Rf.all (Tr.tree cs) (Rf.given++cs) c.toNat) (fun q=>Cd.atI m.code (q+1)) m.result (p:Int) (m.code.getD p 0) (Cd.insAt m.code p).n x):=by
  unfold Agv;have hwb:=Cd.wd_bd (m.code.getD p 0);by_cases h2:Cd.wd (m.code.getD p 0)=2
  ·rw[(Iw hw h2).1]
  ·rw[Aef (show Cd.wd (m.code.getD p 0)=1 by omega)]
 have hnn:Akx (Tr.tree cs) (Cd.fieldSum cs:Int) ms m (m.code.getD p 0) (Cd.insAt m.code p).n:=by
  have hwb:=Cd.wd_bd (m.code.getD p 0);by_cases h2:Cd.wd (m.code.getD p 0)=2
  ·rw[(Iw hw h2).1];exact hn
  ·have h':¬ (m.code.getD p 0=0∨m.code.getD p 0=2∨m.code.getD p 0=3∨(11≤m.code.getD p 0∧m.code.getD p 0≤21)):=by
    intro gg;unfold Cd.wd at h2;rw[if_pos gg]at h2;exact h2 rfl
   exact⟨fun h=>by omega,fun h=>by omega,fun h=>by omega,fun h=>by omega,fun h=>by omega⟩
 have hpos:0≤(Cd.insAt m.code p).n:=by
  unfold Cd.insAt;simp only
  split
  ·exact Ir g.bd.code0 _
  ·omega
 obtain⟨n,en⟩:∃ n:Nat,(Cd.insAt m.code p).n=(n:Int):=⟨(Cd.insAt m.code p).n.toNat,by omega⟩;rw[hN];unfold Af4;rw[e0,e1,en];rw[en]at hnn;clear hN hn e0 e1 en hpos;generalize hop:m.code.getD p 0=op at *;have hl7:7≤(Rf.given++cs).length:=by simp[Er]
 have hlc:(Rf.given++cs).length-7=cs.length:=by simp[Er]
 have hgl:(Rf.given++cs).length=7+cs.length:=by simp[Er]
 have hF:Ah1 cs=Rf.fieldsTo (Tr.tree cs) (Rf.given++cs) ((Rf.given++cs).length-7):=by rw[hlc];rfl
 have t1:Ahl (Ajl cs) ms m.result op (n:Int)=Aht (Ah1 cs) ms m.result op (n:Int):=by
  rw[hF];refine Acg _ _ hl7 (Gt cs) _ _ _ _ (fun h=>?_);have:=hnn.fld h;rw[← hF];omega
 have t2:Ag7 (Ajl cs) ms op (n:Int)=Ahe (Ah1 cs) ms op (n:Int):=by
  rw[hF];refine Yu _ _ hl7 (Gt cs) _ _ _ (fun h=>?_);have:=hnn.fld (.inl h);rw[← hF];omega
 rw[H5,t1,t2,← Zi k.ok (isNew:=Aig (Cd.readL m.code) (n:Int)) (want:=Rf.all (Tr.tree cs) (Rf.given++cs) (n:Int).toNat)]
 ·-- only Init wants the fields
  by_cases h16:op=16
  ·have:=hnn.cls (by omega);rw[show Ajl cs=(Rf.given++cs).map Rd.Cls.fields from rfl,Ud k.ok (Rf.given++cs) (by omega) (by omega),Int.toNat_natCast]
  ·unfold Ai4 Akh;simp only[if_neg h16]
 ·exact fun t ht=>(hx.ts t ht).1
 ·exact Pb k hm hnn
 ·exact fun t ht=>(Df (Jk k.fl _ _ t ht)).1
 ·exact Wm _ _ _ _
 ·exact hx.hi
 ·intro h;have:=hnn.loc h;have:=hx.lo;have:=g.rd.lo;omega
 ·intro _ t ht h4;exact X8 g.unread ((hx.ts t ht).2 h4) _
theorem Pi {T:List Int}{mp:Int→Option Aft}{H:Int}{R:Option Aft}{op n nxt len:Int} (h:Ai1 T mp H R op n nxt len=0):∃ y,R=some y:=by
 unfold Ai1 at h;by_cases h0:H≠0
 ·rw[if_pos h0]at h;exact absurd h h0
 ·rw[if_neg h0]at h;cases R with
  | none=>simp at h
  | some y=>exact⟨y,rfl⟩
theorem Aed {T:List Int}{nf:Int}{ms:List Rd.Mth}{m:Rd.Mth} (g:Ajp T nf ms m):∀ h∈m.handlers,Tr.Arg T 3 h.cl:=by
 intro h hh;have:=g.hnd h hh;unfold Cd.hndBad at this;simp only[Bool.or_eq_false_iff,Bool.not_eq_false']at this;exact Ds (Ep.1 this.1.2)
theorem Og {cs:List Rd.Cls}{ms:List Rd.Mth} (k:Ahu cs ms) {m:Rd.Mth} (hm:m∈ms) {p:Nat} (hp:p∈Cd.places m.code) {x:Aft} (hx:Ahw (Tr.tree cs) m x):Aji cs ms m (Cd.insAt m.code p) x=Ajt cs ms m p x:=by
 have g:=k.mt m hm;obtain⟨h25,hw⟩:=Dl g.unread p hp;have hmp:∀ q z,Agj m q=some z→Agh (Tr.tree cs) z:=fun q z h=>Fc (Gl g h);unfold Aji Ajt;have e0:(Cd.insAt m.code p).op=m.code.getD p 0:=rfl;have e1:(Cd.insAt m.code p).place=(p:Int):=rfl;rw[Fu k hm hp hx,e0,e1,Int.toNat_natCast,Kw k.ok _ hmp _ _ (fun t ht=>(hx.tl t ht).1) _ (Aed g),
  Ady k.ok _ hmp _ _ (fun y hy=>Fc (Gf k hm hp hx hy))]
 have hwb:=Cd.wd_bd (m.code.getD p 0);by_cases h2:Cd.wd (m.code.getD p 0)=2
 ·rw[(Iw hw h2).1]
 ·exact Aey (by omega) _ _
theorem Zj {cs:List Rd.Cls}{ms:List Rd.Mth} (k:Ahu cs ms) {m:Rd.Mth} (hm:m∈ms):Aie cs ms m=Ahs cs ms m:=by
 have g:=k.mt m hm;unfold Aie Ahs Ahd;rw[Gx g.unread];refine Ra k.ok (Agj m) (Agv cs ms m) (Ajt cs ms m) m.code (Aji cs ms m) (Af4 cs ms m) (Ahw (Tr.tree cs) m) (fun x h=>Fc h) (fun q z h=>Gl g h) (Agx m) (Gn g) ?_;intro p hp x hx;refine⟨Og k hm hp hx,fun h0=>?_⟩;obtain⟨y,hy⟩:=Pi h0;exact⟨y,hy,by rw[Fu k hm hp hx,hy],Gf k hm hp hx hy⟩
def Agu (s:List UInt8):Int × Int × Int:=Ajo (Rf.formed s) (Ahh (Ahs (Rd.read s).1.classes (Rd.read s).1.methods) 0 (Rd.read s).1.methods)
def Ah6 (lcs:List (Rd.Cls × Value)):List (Value × List (Int × Int)):=List.replicate 7 (.slice none 0 0,[])++lcs.map fun p=>(p.2,p.1.fields)
theorem Rb (lcs:List (Rd.Cls × Value)):(Ah6 lcs).map Prod.fst=Tr.fvals lcs:=by
 unfold Ah6 Tr.fvals;rw[List.map_append,List.map_replicate,List.map_map];rfl
theorem Aaf (lcs:List (Rd.Cls × Value)):(Ah6 lcs).map Prod.snd=Ajl (lcs.map Prod.fst):=by
 unfold Ah6 Ajl;rw[List.map_append,List.map_replicate,List.map_map,List.map_append,List.map_map];rfl
theorem Hg (lcs:List (Rd.Cls × Value)):(Ah6 lcs).length=7+lcs.length:=by unfold Ah6;simp;omega
theorem Aeg {c:List Int} (h:∀ x∈c,x≤255) (i:Nat):c.getD i 0≤255:=by
 by_cases hi:i<c.length
 ·exact h _ (Cp hi)
 ·rw[List.getD_eq_getElem?_getD,List.getElem?_eq_none (by omega)];simp
structure Ajz (cs:List Rd.Cls) (ms:List Rd.Mth) (lcs:List (Rd.Cls × Value)) (lms:List (Rd.Mth × MthV)) (b:PBd) (m:Rd.Mth) (bm:Nat) (w:World):Prop where
 k:Ahu cs ms
 ec:lcs.map Prod.fst=cs
 em:lms.map Prod.fst=ms
 mem:m∈ms
 T:b.T=Tr.tree cs
 L:b.L=Cd.readL m.code
 ru:Ru b w 0 lms (Ah6 lcs)
 is:(⟨b.cl,b.nm,b.pa,b.pl,b.pc,b.r1,b.r2,b.lo,b.st,b.ca,b.cn,b.cc,b.ha,b.hl,b.hc,b.ma,b.ml,b.mc⟩:PM).is m w bm
theorem Ajz.below {cs:List Rd.Cls}{ms:List Rd.Mth}{lcs:List (Rd.Cls × Value)}{lms:List (Rd.Mth × MthV)}{b:PBd}{m:Rd.Mth}{bm:Nat}{w w':World} (h:Ajz cs ms lcs lms b m bm w) (hb:Below w.heap.size w w'):Ajz cs ms lcs lms b m bm w' :=
 ⟨h.k,h.ec,h.em,h.mem,h.T,h.L,h.ru.below hb,h.is.below hb⟩
theorem Hy {cs:List Rd.Cls}{ms:List Rd.Mth}{lcs:List (Rd.Cls × Value)}{lms:List (Rd.Mth × MthV)}{b:PBd}{m:Rd.Mth}{bm:Nat}{w:World} (h:Ajz cs ms lcs lms b m bm w):MpSays b (Agj m) w:=by
 intro q w' hb;have h':=h.below hb;have g:=h.k.mt m h.mem;obtain⟨lm,elm,hmp⟩:=h'.is.mp;have hlm:lm.length=m.maps.length:=by rw[← elm];simp
 have h64:=g.bd.mp;have hfr:∀ q∈lm,q.1.locals.length≤5000∧q.1.stack.length≤5000:=fun q hq=>by
  have:q.1∈m.maps:=by rw[← elm];exact List.mem_map.2 ⟨q,hq,rfl⟩
  have:=g.bd.fr _ this;omega
 have:=Vx b lm bm q w' (by have:=h'.is.ml;simp only at this;omega) (by omega) hfr hmp;rw[elm]at this;exact this
theorem Tj {cs:List Rd.Cls}{ms:List Rd.Mth}{lcs:List (Rd.Cls × Value)}{lms:List (Rd.Mth × MthV)}{b:PBd}{m:Rd.Mth}{bm:Nat}{w:World} (h:Ajz cs ms lcs lms b m bm w) :
  Calls Tryz.prog 110 #[.agg #[.int .i64 b.cl,.int .i64 b.nm,.slice b.pa b.pl b.pc,.int .i64 b.r1,.int .i64 b.r2,.int .i64 b.lo,.int .i64 b.st,.slice b.ca b.cn b.cc,.slice b.ha b.hl b.hc,.slice b.ma b.ml b.mc]] w fun e w''=>∃ u:FrV,e=.returned u.val∧u.is (Agx m) w''∧Below w.heap.size w w'':=by
 have g:=h.k.mt m h.mem;have hlo:=g.rd.lo;have e1:=h.is.lo;have e2:=h.is.cl;simp only at e1 e2;have:=M7 ⟨b.cl,b.nm,b.pa,b.pl,b.pc,b.r1,b.r2,b.lo,b.st,b.ca,b.cn,b.cc,b.ha,b.hl,b.hc,b.ma,b.ml,b.mc⟩ m.params m.locals.toNat w (by simp only;omega) (by omega) (TyR.of_tys h.is.ps) (by have:=g.bd.ps;omega);simp only[PM.val,e2]at this;unfold Agx;rw[e2];exact this
theorem Jx {cs:List Rd.Cls}{ms:List Rd.Mth}{lcs:List (Rd.Cls × Value)}{lms:List (Rd.Mth × MthV)}{b:PBd}{m:Rd.Mth}{bm:Nat}{w:World} (h:Ajz cs ms lcs lms b m bm w) (p:Nat) (v:FrV) (x:Aft) (hp:p∈Cd.places m.code) (hv:v.is x w) (hx:Ahw (Tr.tree cs) m x) :
  Calls Tryz.prog 221 #[b.val,.agg #[.int .i64 (p:Int),.int .i64 (Cd.insAt m.code p).op,.int .i64 (Cd.insAt m.code p).n],v.val] w fun e w''=>∃ u:FrV,e=.returned (.tuple #[u.val,.bool (Af4 cs ms m (Cd.insAt m.code p) x).isSome])∧(∀ y,Af4 cs ms m (Cd.insAt m.code p) x=some y→u.is y w'')∧Below w.heap.size w w'':=by
 have g:=h.k.mt m h.mem;obtain⟨h25,hw⟩:=Dl g.unread p hp;have hn:=Mq g hp;have hlo:=g.rd.lo;have hst:=g.rd.st;have hpos:0≤(Cd.insAt m.code p).n:=by
  unfold Cd.insAt;simp only
  split
  ·exact Ir g.bd.code0 _
  ·omega
 have hN2:(Cd.insAt m.code p).op=20∨(Cd.insAt m.code p).op=21→(Cd.insAt m.code p).n.toNat<lms.length:=by
  intro ho;have ho':m.code.getD p 0=20∨m.code.getD p 0=21:=ho;have h2:Cd.wd (m.code.getD p 0)=2:=by unfold Cd.wd;rw[if_pos (by omega)]
  have:=hn.mth ho';rw[(Iw hw h2).1];have:ms.length=lms.length:=by rw[← h.em];simp
  omega
 have hbig:(Cd.insAt m.code p).n.toNat≤100000:=by
  have:(Cd.insAt m.code p).n≤255:=by
   unfold Cd.insAt;simp only
   split
   ·exact Aeg g.rd.c255 _
   ·omega
  omega
 have hps:∀ q∈lms,q.1.params.length≤1000:=fun q hq=>by
  have:q.1∈ms:=by rw[← h.em];exact List.mem_map.2 ⟨q,hq,rfl⟩
  have:=(h.k.mt _ this).bd.ps;omega
 have:=Uj b 0 lms (Ah6 lcs) (p:Int) (Cd.insAt m.code p).op (Cd.insAt m.code p).n.toNat v x w h.ru hv hbig (by rw[hx.lo];omega) (by have:=hx.hi;omega) hps hN2;have e1:=h.is.st;have e2:=h.is.r1;have e3:=h.is.r2;simp only at e1 e2 e3;rw[show (((Cd.insAt m.code p).n.toNat:Nat):Int)=(Cd.insAt m.code p).n by omega,Aaf,h.em,h.ec,h.T,h.L,e1,show (b.r1,b.r2)=m.result by rw[e2,e3]]at this;exact this
theorem Ww {cs:List Rd.Cls}{ms:List Rd.Mth}{lcs:List (Rd.Cls × Value)}{lms:List (Rd.Mth × MthV)}{b:PBd}{m:Rd.Mth}{bm:Nat}{w:World} (h:Ajz cs ms lcs lms b m bm w) (p:Nat) (v:FrV) (x:Aft) (hp:p∈Cd.places m.code) (hv:v.is x w) (hx:Ahw (Tr.tree cs) m x) :
  Calls Tryz.prog 186 #[b.pval,.agg #[.int .i64 (p:Int),.int .i64 (Cd.insAt m.code p).op,.int .i64 (Cd.insAt m.code p).n],v.val] w fun e w''=>∃ u:FrV,e=.returned (.tuple #[u.val,.int .i64 (Aji cs ms m (Cd.insAt m.code p) x)]) ∧
   (Aji cs ms m (Cd.insAt m.code p) x=0→∃ y,Af4 cs ms m (Cd.insAt m.code p) x=some y∧u.is y w''∧Ahw (Tr.tree cs) m y)∧Below w.heap.size w w'':=by
 have g:=h.k.mt m h.mem;have hpl:p<m.code.length:=Pw hp;have h120:=g.bd.code;have hh4:=g.bd.hs;have ecn:=h.is.cn;have ehl:=h.is.hl;simp only at ecn ehl;have hH:=fun w' (hb:Below w.heap.size w w')=>Vl b (Agj m) m.handlers bm (p:Int) v x w' h.ru.tl (h.ru.below hb).tr (Hy (h.below hb)) ehl (by omega) (h.is.below hb).hs (hv.below hb);have:=W7 b (Agj m) p (Cd.insAt m.code p).op (Cd.insAt m.code p).n (Ag5 b.T (Agj m) (p:Int) x.locals m.handlers) (Af4 cs ms m (Cd.insAt m.code p) x) v w h.ru.tl h.ru.tr (Hy h) (by omega) hH (fun w' hb=>Jx (h.below hb) p v x hp (hv.below hb) hx);rw[h.T,ecn]at this;refine this.mono ?_;rintro e w' ⟨u,rfl,h1,h2⟩;refine⟨u,rfl,fun h0=>?_,h2⟩;have hl:=Og h.k h.mem hp hx;obtain⟨y,hy⟩:=Pi (show Ajt cs ms m p x=0 by rw[← hl];exact h0);have hbr:Af4 cs ms m (Cd.insAt m.code p) x=some y:=by rw[Fu h.k h.mem hp hx];exact hy
 exact⟨y,hbr,h1 h0 y hbr,Gf h.k h.mem hp hx hy⟩
theorem Vt {cs:List Rd.Cls}{ms:List Rd.Mth}{lcs:List (Rd.Cls × Value)}{lms:List (Rd.Mth × MthV)}{b:PBd}{m:Rd.Mth}{bm:Nat}{w:World} (h:Ajz cs ms lcs lms b m bm w) :
  Calls Tryz.prog 129 #[b.pval] w fun e w'=>e=.returned (.agg #[.int .i64 (Aie cs ms m).1,.int .i64 0,.int .i64 (Aie cs ms m).2])∧Below w.heap.size w w':=by
 have g:=h.k.mt m h.mem;have:=Zf b (Agj m) (Aji cs ms m) (Af4 cs ms m) (Agx m) (Ahw (Tr.tree cs) m) 0 w h.ru.tl h.ru.tr (Hy h) h.ru.ll h.ru.ins (fun w' hb=>Tj (h.below hb))
  (fun i hi v x w' hb hv hx=>by
   rw[h.L,Gx g.unread]at hi;obtain⟨p,hp,rfl⟩:=List.mem_map.1 hi;exact Ww (h.below hb) p v x hp hv hx) (Gn g) (fun q z hz=>Gl g hz)
 rw[h.T,h.L]at this;exact this
theorem Mz {cs:List Rd.Cls}{ms:List Rd.Mth} (k:Ahu cs ms) {a1 a2:Option Addr}{n1 c1 n2 c2 bm:Nat}{lcs:List (Rd.Cls × Value)}{lms:List (Rd.Mth × MthV)}{w:World} (ec:lcs.map Prod.fst=cs) (hc:ClssIn w bm (.slice a1 n1 c1) lcs) (em:lms.map Prod.fst=ms) (hm:MthsIn w bm (.slice a2 n2 c2) lms) :
  Calls Tryz.prog 80 #[.agg #[.slice a1 n1 c1,.slice a2 n2 c2]] w fun e w'=>e=.returned (.agg #[.int .i64 (Ags (Aie cs ms) 0 ms).1,.int .i64 (Ags (Aie cs ms) 0 ms).2.1,.int .i64 (Ags (Aie cs ms) 0 ms).2.2])∧Below w.heap.size w w':=by
 obtain⟨xa,xc,hsh⟩:=Af hm.1;simp only[Value.slice.injEq]at hsh;obtain⟨rfl,rfl,rfl⟩:=hsh;have hl1:lcs.length=cs.length:=by rw[← ec];simp
 have hl2:lms.length=ms.length:=by rw[← em];simp
 have hl6:=k.l6;have hm6:=k.m6;have hTl:=Bq cs;have hmem:∀ p∈lms,p.1∈ms:=fun p hp=>by rw[← em];exact List.mem_map.2 ⟨p,hp,rfl⟩
 have:=Aab a1 a2 n1 c1 c2 bm lcs lms (Aie cs ms) w (by omega) hc (by omega) hm (fun p hp=>⟨by have:=(k.mt _ (hmem p hp)).bd.code;omega,(k.mt _ (hmem p hp)).bd.code0⟩)
  (fun p hp b bb w' hb e1 e2 e3 e4 e5 e6 hT hL htr hrow his hin=>by
   have g:=k.mt _ (hmem p hp);rw[ec]at hT;obtain⟨ya,yc,hsh⟩:=Af hrow;simp only[Value.slice.injEq]at hsh;have hyl:b.yn=(Ah6 lcs).length:=by rw[Hg];exact hsh.2.1
   have hll:b.L.length≤120:=by
    rw[hL,Gx g.unread];have:=Jg p.1.code;have:=g.bd.code;omega
   refine Vt ⟨k,ec,em,hmem p hp,hT,hL,⟨e5,by omega,?_,hyl,by rw[Hg];omega,?_,⟨?_,?_⟩,by rw[hT];omega,htr,by omega,Ay hin (Nat.zero_le _)⟩,his⟩
   ·rw[e4,e5,e6];exact(hm.kp (Kp.of_below (e:=none) hb) (by decide) (by decide) (by decide) (by decide) (by decide)).mono (Nat.zero_le _)
   ·intro q hq;unfold Ah6 at hq;rcases List.mem_append.1 hq with hq | hq
    ·rw[(List.mem_replicate.1 hq).2];simp
    ·obtain⟨c,hc',rfl⟩:=List.mem_map.1 hq;exact k.fn c.1 (by rw[← ec];exact List.mem_map.2 ⟨c,hc',rfl⟩)
   ·rw[Rb,Hg];exact Ay hrow (Nat.zero_le _)
   ·intro q hq;unfold Ah6 at hq;rcases List.mem_append.1 hq with hq | hq
    ·rw[(List.mem_replicate.1 hq).2];exact TyR.nil _
    ·obtain⟨c,hc',rfl⟩:=List.mem_map.1 hq;exact TyR.of_tys ((hc.kp (Kp.of_below (e:=none) hb) (by decide) (by decide)).2 c hc'))
 rw[em]at this;exact this
theorem Jj (f:Rd.Mth→Int × Int):∀ (l:List Rd.Mth) (k:Nat),(Ahh f k l).1=0→Ahh f k l=(0,0,0)
 | [],_,_=>rfl
 | m::r,k,h=>by
  rw[Ahh]at h ⊢;by_cases h1:(f m).1≠0
  ·rw[if_pos h1]at h;exact absurd h h1
  ·rw[if_neg h1]at h ⊢;exact Jj f r _ h
theorem Im (s:List UInt8):Aid (Agr s) (Ags (Aie (Rd.read s).1.classes (Rd.read s).1.methods) 0 (Rd.read s).1.methods)=Ajo (Rf.formed s) (Ahh (Ahs (Rd.read s).1.classes (Rd.read s).1.methods) 0 (Rd.read s).1.methods):=by
 rw[Cj];unfold Aid Ajo;by_cases h0:(Rf.formed s).1≠0
 ·rw[if_pos h0,if_pos h0]
 ·rw[if_neg h0,if_neg h0];obtain⟨k,_,_⟩:=Cm s (by simpa using h0);rw[M8 _ (Ahs (Rd.read s).1.classes (Rd.read s).1.methods) _ _ (fun m hm=>Zj k hm)]
  split
  ·rfl
  ·rename_i h1;exact(Jj _ _ _ (by simpa using h1)).symm
theorem Oa (s:ByteArray) (w:World) (hs:s.size≤maxLen) :
  Calls Tryz.prog 20 #[.string s] w fun e w'=>e=.returned (.tuple #[.int .i64 (Agu s.data.toList).1,.int .i64 (Agu s.data.toList).2.1,.int .i64 (Agu s.data.toList).2.2])∧Below w.heap.size w w':=by
 have h:=Zt s (Ags (Aie (Rd.read s.data.toList).1.classes (Rd.read s.data.toList).1.methods) 0 (Rd.read s.data.toList).1.methods) w hs
  (fun h0 a1 n1 c1 a2 n2 c2 bm lcs lms w' hb hl1 hc hl2 hm=>by
   rw[Cj]at h0;obtain⟨k,_,_⟩:=Cm _ h0;exact Mz k hl1 hc hl2 hm)
 rw[Im]at h;exact h
structure Aib where
 fr:Aft
 st:Bool
 ri:Bool
 wa:Bool
def Ahv:Aib:=⟨⟨[],[]⟩,false,false,false⟩
structure Afv where
 sp:List Aib
 hop:Bool
def Afv.at (s:Afv) (q:Nat):Aib:=s.sp.getD q Ahv
def Afv.put (s:Afv) (q:Nat) (y:Aft):Afv:=⟨s.sp.set q ⟨y,true,true,(s.at q).wa⟩,s.hop⟩
def Afv.stop (s:Afv):Afv:=⟨s.sp,true⟩
def Afv.want (s:Afv) (q:Nat):Afv:=⟨s.sp.set q ⟨(s.at q).fr,(s.at q).st,(s.at q).ri,true⟩,s.hop⟩
def Afv.calm (s:Afv) (q:Nat):Afv:=⟨s.sp.set q ⟨(s.at q).fr,(s.at q).st,false,(s.at q).wa⟩,s.hop⟩
def Aik (T:List Int) (x y:Aft):Aft:=⟨List.zipWith (Tr.joinT T) x.locals y.locals,List.zipWith (Tr.joinT T) x.stack y.stack⟩
def Af8 (T:List Int) (hi:Int) (x:Aft) (q:Int) (s:Afv):Afv :=
 if q<0∨(s.sp.length:Int)≤q∨hi<(x.stack.length:Int) then s.stop
 else if (s.at q.toNat).st=false then s.put q.toNat x
 else if Ahf T x (s.at q.toNat).fr=true then s
 else if x.locals.length=(s.at q.toNat).fr.locals.length∧x.stack.length=(s.at q.toNat).fr.stack.length then s.put q.toNat (Aik T x (s.at q.toNat).fr)
 else s.stop
def Aj5 (q:Int) (s:Afv):Afv:=if 0≤q∧q<(s.sp.length:Int) then s.want q.toNat else s
def Ahk (T:List Int) (hi:Int) (x:Aft) (q:Int) (s:Afv):Afv:=Aj5 q (Af8 T hi x q s)
def Af6 (T:List Int) (hi:Int) (p:Int) (lo:List (Int × Int)):List Rd.Hnd→Afv→Afv
 | [],s=>s
 | h::r,s=>Af6 T hi p lo r (if Agm h p=true then Ahk T hi ⟨lo,[(3,h.cl)]⟩ h.target s else s)
def Ain (T:List Int) (hi:Int) (hs:List Rd.Hnd) (bh:Cd.Ins→Aft→Option Aft) (i:Cd.Ins) (x:Aft) (s:Afv):Afv :=
 match bh i x with
 | none=>(Af6 T hi i.place x.locals hs s).stop
 | some y =>
  let s1:=Af6 T hi i.place x.locals hs s
  let s2:=if Agb i.op=true then Ahk T hi y i.n s1 else s1
  if Agq i.op=true then Af8 T hi y (i.place+(Cd.wd i.op:Int)) s2 else s2
def Afx (lk:Cd.Ins→Aft→Afv→Afv):List Cd.Ins→Bool→Afv→Afv × Bool
 | [],b,s=>(s,b)
 | i::r,b,s=>if (s.sp.length:Int)≤i.place∨(s.at i.place.toNat).ri=false then Afx lk r b s
  else Afx lk r true (lk i (s.at i.place.toNat).fr (s.calm i.place.toNat))
def Ah7 (lk:Cd.Ins→Aft→Afv→Afv) (L:List Cd.Ins):Nat→Afv→Afv
 | 0,s=>s
 | n+1,s=>if (Afx lk L false s).2=true∧(Afx lk L false s).1.hop=false then Ah7 lk L n (Afx lk L false s).1 else (Afx lk L false s).1
def Af2:Nat→List Aib→List Rd.Mp
 | _,[]=>[]
 | k,p::r=>if p.wa=true then ⟨(k:Int),p.fr.locals,p.fr.stack⟩::Af2 (k+1) r else Af2 (k+1) r
def Aj0 (T:List Int) (t:Int × Int):Nat:=if t.1=0 then 0 else if t.1=3 then 1+t.2.toNat else if t.1=2 then T.length+1 else 1
def Aje (T:List Int) (l:List (Int × Int)):Nat:=(l.map (Aj0 T)).sum
def Akb (T:List Int) (x:Aft):Nat:=Aje T x.locals+Aje T x.stack
theorem Ac6 {T:List Int} (h:Tr.Ok T) {a b:Int × Int} (ha:Tr.Arg T a.1 a.2) (hb:Tr.Arg T b.1 b.2):Aj0 T (Tr.joinT T a b)≤Aj0 T b∧(Tr.fitsB T a.1 a.2 b.1 b.2=false→Aj0 T (Tr.joinT T a b)<Aj0 T b):=by
 obtain⟨k,n⟩:=a;obtain⟨k',n'⟩:=b;simp only at ha hb;obtain⟨j1,j2,j3,j4⟩:=Tr.join_spec h ha hb;simp only;by_cases hf:Tr.fitsB T k n k' n'=true
 ·have e:Tr.joinT T (k,n) (k',n')=(k',n'):=by unfold Tr.joinT;rw[if_pos hf]
  rw[e,hf];exact⟨Nat.le_refl _,fun h=>by simp at h⟩
 ·have hne:Tr.joinT T (k,n) (k',n')≠(k',n'):=fun e=>hf (by rw[e]at j2;exact j2);generalize Tr.joinT T (k,n) (k',n')=J at *;obtain⟨a,b⟩:=J;simp only at j1 j2 j3;have:Aj0 T (a,b)<Aj0 T (k',n'):=by
   unfold Aj0;simp only;rcases(Tr.fits_iff ..).1 j3 with ⟨rfl,rfl⟩ | e | ⟨rfl,rfl⟩ | ⟨rfl,rfl,e⟩
   ·exact absurd rfl hne
   ·subst e;have hk':k' ≠ 0:=by
     rintro rfl;exact hf ((Tr.fits_iff ..).2 (.inr (.inl rfl)))
    rw[if_pos rfl,if_neg hk']
    split
    ·omega
    ·split<;>omega
   ·unfold Tr.Arg at j1;rw[if_neg (by decide),if_pos rfl,if_neg (by decide),if_neg (by decide),if_pos rfl];omega
   ·unfold Tr.Arg at j1 hb;have:=Tr.below_lt h (a:=n') (b:=b) (by omega) (by omega) e;rw[if_neg (by decide),if_pos rfl,if_neg (by decide),if_pos rfl];omega
  exact⟨Nat.le_of_lt this,fun _=>this⟩
theorem L9 {T:List Int} (h:Tr.Ok T):∀ (a b:List (Int × Int)),(∀ t∈a,Tr.Arg T t.1 t.2)→(∀ t∈b,Tr.Arg T t.1 t.2)→a.length=b.length →
  Aje T (List.zipWith (Tr.joinT T) a b)≤Aje T b∧(Agc T a b=false→Aje T (List.zipWith (Tr.joinT T) a b)<Aje T b)
 | [],[],_,_,_=>⟨Nat.le_refl _,fun h=>by simp[Agc]at h⟩
 | [],y::b,_,_,hl=>by simp at hl
 | x::a,[],_,_,hl=>by simp at hl
 | x::a,y::b,ha,hb,hl=>by
  have h1:=Ac6 h (ha x (by simp)) (hb y (by simp));have h2:=L9 h a b (fun t ht=>ha t (by simp[ht])) (fun t ht=>hb t (by simp[ht])) (by simpa using hl);unfold Aje at h2 ⊢;simp only[List.zipWith_cons_cons,List.map_cons,List.sum_cons];refine⟨by omega,fun hf=>?_⟩;unfold Agc at hf;by_cases hx:Tr.fitsB T x.1 x.2 y.1 y.2=true
  ·have:Agc T a b=false:=by simpa[hx] using hf
   have:=h2.2 this;omega
  ·have:=h1.2 (by simpa using hx);omega
theorem Ac2 {T:List Int} (h:Tr.Ok T) {x y:Aft} (hx:Agh T x) (hy:Agh T y) (hl:x.locals.length=y.locals.length) (hs:x.stack.length=y.stack.length) (hn:Ahf T x y=false):Akb T (Aik T x y)<Akb T y:=by
 have h1:=L9 h x.locals y.locals hx.1 hy.1 hl;have h2:=L9 h x.stack y.stack hx.2 hy.2 hs;unfold Ahf Air at hn;rw[if_pos hl,if_pos hs]at hn;unfold Akb Aik;simp only;by_cases hf:Agc T x.locals y.locals=true
 ·have:=h2.2 (by simpa[hf] using hn);omega
 ·have:=h1.2 (by simpa using hf);omega
theorem Qo {T:List Int}:∀ (l:List (Int × Int)),(∀ t∈l,Tr.Arg T t.1 t.2)→Aje T l≤(T.length+1)*l.length
 | [],_=>by simp[Aje]
 | x::l,h=>by
  have h1:=Qo l (fun t ht=>h t (by simp[ht]));have hx:=h x (by simp);have:Aj0 T x≤T.length+1:=by
   unfold Aj0;unfold Tr.Arg at hx
   split
   ·omega
   ·split
    ·omega
    ·split<;>omega
  unfold Aje at h1 ⊢;simp only[List.map_cons,List.sum_cons,List.length_cons,Nat.mul_succ];omega
def Aii (T:List Int) (lo:Nat) (hi:Int) (isN:Int→Prop) (s:Afv):Prop:=∀ p∈s.sp,(p.st=true→Ahy T lo hi isN p.fr)∧(p.ri=true→p.st=true)
def Ahj (T:List Int) (K:Nat) (p:Aib):Nat:=if p.st=true then Akb T p.fr else K
def Ais (T:List Int) (K:Nat) (s:Afv):Nat:=(s.sp.map (Ahj T K)).sum*(s.sp.length+1)+s.sp.countP (fun p=>p.ri)
theorem J8 {α:Type} (f:α→Nat) (d y:α):∀ (l:List α) (i:Nat),i<l.length→((l.set i y).map f).sum+f (l.getD i d)=(l.map f).sum+f y
 | [],_,h=>by simp at h
 | x::l,0,_=>by simp;omega
 | x::l,i+1,h=>by
  have:=J8 f d y l i (by simpa using h);simp at this ⊢;omega
theorem Ht {α:Type} (f:α→Bool) (d y:α):∀ (l:List α) (i:Nat),i<l.length→(l.set i y).countP f+(if f (l.getD i d)=true then 1 else 0)=l.countP f+(if f y=true then 1 else 0)
 | [],_,h=>by simp at h
 | x::l,0,_=>by
  simp only[List.set_cons_zero,List.countP_cons,List.getD_cons_zero];omega
 | x::l,i+1,h=>by
  have:=Ht f d y l i (by simpa using h);simp only[List.set_cons_succ,List.countP_cons,List.getD_cons_succ];omega
theorem Ahr {s:Afv}{q:Nat} (h:q<s.sp.length):s.at q∈s.sp:=by
 unfold Afv.at;rw[List.getD_eq_getElem?_getD,List.getElem?_eq_getElem h];exact List.getElem_mem _
structure Ahn (T:List Int) (lo:Nat) (hi:Int) (isN:Int→Prop) (K:Nat) (s s':Afv):Prop where
 ok:Aii T lo hi isN s'
 len:s'.sp.length=s.sp.length
 mu:Ais T K s'≤Ais T K s
theorem Ahn.refl {T:List Int}{lo:Nat}{hi:Int}{isN:Int→Prop}{K:Nat}{s:Afv} (h:Aii T lo hi isN s):Ahn T lo hi isN K s s:=⟨h,rfl,Nat.le_refl _⟩
theorem Ahn.trans {T:List Int}{lo:Nat}{hi:Int}{isN:Int→Prop}{K:Nat}{a b c:Afv} (h:Ahn T lo hi isN K a b) (g:Ahn T lo hi isN K b c):Ahn T lo hi isN K a c:=⟨g.ok,g.len.trans h.len,Nat.le_trans g.mu h.mu⟩
theorem Ahn.stop {T:List Int}{lo:Nat}{hi:Int}{isN:Int→Prop}{K:Nat}{s:Afv} (h:Aii T lo hi isN s):Ahn T lo hi isN K s s.stop:=⟨h,rfl,Nat.le_refl _⟩
theorem Ahn.put {T:List Int}{lo:Nat}{hi:Int}{isN:Int→Prop}{K:Nat}{s:Afv} (h:Aii T lo hi isN s) {q:Nat} (hq:q<s.sp.length) {y:Aft} (hy:Ahy T lo hi isN y) (hc:Akb T y<Ahj T K (s.at q)):Ahn T lo hi isN K s (s.put q y):=by
 refine⟨fun p hp=>?_,by simp[Afv.put],?_⟩
 ·rcases List.mem_or_eq_of_mem_set hp with hp|rfl
  ·exact h p hp
  ·exact⟨fun _=>hy,fun _=>rfl⟩
 ·have h1:=J8 (Ahj T K) Ahv ⟨y,true,true,(s.at q).wa⟩ s.sp q hq;have h2:=Ht (fun p:Aib=>p.ri) Ahv ⟨y,true,true,(s.at q).wa⟩ s.sp q hq;unfold Ais Afv.put;simp only[List.length_set];unfold Afv.at at hc h1 h2 ⊢;simp only[if_true]at h2;have e:Ahj T K ⟨y,true,true,(s.sp.getD q Ahv).wa⟩=Akb T y:=by unfold Ahj;rw[if_pos rfl]
  rw[e]at h1;have h3:((s.sp.set q ⟨y,true,true,(s.sp.getD q Ahv).wa⟩).map (Ahj T K)).sum+1≤(s.sp.map (Ahj T K)).sum:=by omega
  have h4:=Nat.mul_le_mul_right (s.sp.length+1) h3;rw[Nat.add_mul]at h4;omega
theorem Ahn.want {T:List Int}{lo:Nat}{hi:Int}{isN:Int→Prop}{K:Nat}{s:Afv} (h:Aii T lo hi isN s) {q:Nat} (hq:q<s.sp.length):Ahn T lo hi isN K s (s.want q):=by
 refine⟨fun p hp=>?_,by simp[Afv.want],?_⟩
 ·rcases List.mem_or_eq_of_mem_set hp with hp|rfl
  ·exact h p hp
  ·exact⟨(h _ (Ahr hq)).1,(h _ (Ahr hq)).2⟩
 ·have h1:=J8 (Ahj T K) Ahv ⟨(s.at q).fr,(s.at q).st,(s.at q).ri,true⟩ s.sp q hq;have h2:=Ht (fun p:Aib=>p.ri) Ahv ⟨(s.at q).fr,(s.at q).st,(s.at q).ri,true⟩ s.sp q hq;unfold Ais Afv.want;simp only[List.length_set];have e:Ahj T K ⟨(s.at q).fr,(s.at q).st,(s.at q).ri,true⟩=Ahj T K (s.at q):=rfl;unfold Afv.at at h1 h2 e ⊢;rw[e]at h1;simp only at h2;have h3:((s.sp.set q ⟨(s.sp.getD q Ahv).fr,(s.sp.getD q Ahv).st,(s.sp.getD q Ahv).ri,true⟩).map (Ahj T K)).sum=(s.sp.map (Ahj T K)).sum:=by omega
  rw[h3];omega
theorem Aj2 {T:List Int}{lo:Nat}{hi:Int}{isN:Int→Prop}{K:Nat}{s:Afv} (h:Aii T lo hi isN s) {q:Nat} (hq:q<s.sp.length) (hr:(s.at q).ri=true):Aii T lo hi isN (s.calm q)∧(s.calm q).sp.length=s.sp.length∧Ais T K (s.calm q)<Ais T K s:=by
 refine⟨fun p hp=>?_,by simp[Afv.calm],?_⟩
 ·rcases List.mem_or_eq_of_mem_set hp with hp|rfl
  ·exact h p hp
  ·exact⟨(h _ (Ahr hq)).1,fun h=>by simp at h⟩
 ·have h1:=J8 (Ahj T K) Ahv ⟨(s.at q).fr,(s.at q).st,false,(s.at q).wa⟩ s.sp q hq;have h2:=Ht (fun p:Aib=>p.ri) Ahv ⟨(s.at q).fr,(s.at q).st,false,(s.at q).wa⟩ s.sp q hq;unfold Ais Afv.calm;simp only[List.length_set];have e:Ahj T K ⟨(s.at q).fr,(s.at q).st,false,(s.at q).wa⟩=Ahj T K (s.at q):=rfl;unfold Afv.at at h1 h2 e hr ⊢;rw[e]at h1;simp only[hr,if_true,Bool.false_eq_true,if_false]at h2;have h3:((s.sp.set q ⟨(s.sp.getD q Ahv).fr,(s.sp.getD q Ahv).st,false,(s.sp.getD q Ahv).wa⟩).map (Ahj T K)).sum=(s.sp.map (Ahj T K)).sum:=by omega
  rw[h3];omega
theorem Ahy.arg {T:List Int}{lo:Nat}{hi:Int}{isN:Int→Prop}{x:Aft} (h:Ahy T lo hi isN x):Agh T x:=⟨fun t ht=>(h.tl t ht).1,fun t ht=>(h.ts t ht).1⟩
theorem Ad9 {T:List Int} (h:Tr.Ok T) {isN:Int→Prop}{a b:Int × Int} (ha:Afy T isN a) (hb:Afy T isN b):Afy T isN (Tr.joinT T a b):=by
 have j:=(Tr.join_spec h (k:=a.1) (n:=a.2) (k':=b.1) (n':=b.2) ha.1 hb.1).1;refine⟨j,?_⟩;unfold Tr.joinT
 split
 ·exact hb.2
 ·split
  ·exact ha.2
  ·split
   ·intro h;simp at h
   ·split
    ·intro h;simp at h
    ·intro h;simp at h
theorem Rq {T:List Int} (h:Tr.Ok T) {isN:Int→Prop}:∀ (a b:List (Int × Int)),(∀ t∈a,Afy T isN t)→(∀ t∈b,Afy T isN t)→∀ t∈List.zipWith (Tr.joinT T) a b,Afy T isN t
 | [],_,_,_,t,ht=>by simp at ht
 | _::_,[],_,_,t,ht=>by simp at ht
 | x::a,y::b,ha,hb,t,ht=>by
  simp only[List.zipWith_cons_cons,List.mem_cons]at ht;rcases ht with rfl | ht
  ·exact Ad9 h (ha x (by simp)) (hb y (by simp))
  ·exact Rq h a b (fun t ht=>ha t (by simp[ht])) (fun t ht=>hb t (by simp[ht])) t ht
theorem Rw {T:List Int} (h:Tr.Ok T) {lo:Nat}{hi:Int}{isN:Int→Prop}{x y:Aft} (hx:Ahy T lo hi isN x) (hy:Ahy T lo hi isN y):Ahy T lo hi isN (Aik T x y):=by
 refine⟨?_,?_,Rq h _ _ hx.tl hy.tl,Rq h _ _ hx.ts hy.ts⟩
 ·have:=hx.lo;have:=hy.lo;simp[Aik];omega
 ·have:=hx.hi;simp[Aik];omega
theorem Afm {T:List Int}{lo:Nat}{hi:Int}{isN:Int→Prop}{x:Aft} (hx:Ahy T lo hi isN x):Akb T x<(T.length+1)*(lo+hi.toNat)+1:=by
 have h1:=Qo x.locals hx.arg.1;have h2:=Qo x.stack hx.arg.2;have h3:=hx.lo;have h4:=hx.hi;have h5:=Nat.mul_le_mul_left (T.length+1) (show x.stack.length≤hi.toNat by omega);unfold Akb;rw[Nat.mul_add];rw[h3]at h1;omega
def Ajf (T:List Int) (lo:Nat) (hi:Int):Nat:=(T.length+1)*(lo+hi.toNat)+1
theorem Pn {T:List Int} (h:Tr.Ok T) {lo:Nat}{hi:Int}{isN:Int→Prop}{s:Afv} (hs:Aii T lo hi isN s) {x:Aft} (hx:x.locals.length=lo) (ht:∀ t∈x.locals,Afy T isN t) (hk:∀ t∈x.stack,Afy T isN t) (q:Int):Ahn T lo hi isN (Ajf T lo hi) s (Af8 T hi x q s):=by
 unfold Af8
 split
 ·exact .stop hs
 ·next hn =>
  have hx':Ahy T lo hi isN x:=⟨hx,by omega,ht,hk⟩
  split
  ·next h1=>exact .put hs (by omega) hx' (by unfold Ahj;rw[if_neg (by simp[h1])];exact Afm hx')
  ·next h1 =>
   split
   ·exact .refl hs
   ·next h2 =>
    split
    ·next h3 =>
     have hy:=(hs _ (Ahr (s:=s) (q:=q.toNat) (by omega))).1 (by simpa using h1);exact .put hs (by omega) (Rw h hx' hy) (by unfold Ahj;rw[if_pos (by simpa using h1)];exact Ac2 h hx'.arg hy.arg h3.1 h3.2 (by simpa using h2))
    ·exact .stop hs
theorem Adg {T:List Int}{lo:Nat}{hi:Int}{isN:Int→Prop}{K:Nat}{s:Afv} (hs:Aii T lo hi isN s) (q:Int):Ahn T lo hi isN K s (Aj5 q s):=by
 unfold Aj5
 split
 ·exact .want hs (by omega)
 ·exact .refl hs
theorem Ux {T:List Int} (h:Tr.Ok T) {lo:Nat}{hi:Int}{isN:Int→Prop}{s:Afv} (hs:Aii T lo hi isN s) {x:Aft} (hx:x.locals.length=lo) (ht:∀ t∈x.locals,Afy T isN t) (hk:∀ t∈x.stack,Afy T isN t) (q:Int):Ahn T lo hi isN (Ajf T lo hi) s (Ahk T hi x q s):=by
 have h1:=Pn h hs hx ht hk q;exact h1.trans (Adg h1.ok q)
theorem Ky {T:List Int} (h:Tr.Ok T) {lo:Nat}{hi:Int}{isN:Int→Prop}{x:Aft} (hx:x.locals.length=lo) (ht:∀ t∈x.locals,Afy T isN t) (p:Int):∀ (hs:List Rd.Hnd),(∀ y∈hs,Tr.Arg T 3 y.cl)→∀ {s:Afv},Aii T lo hi isN s→Ahn T lo hi isN (Ajf T lo hi) s (Af6 T hi p x.locals hs s)
 | [],_,s,h0=>.refl h0
 | y::r,hy,s,h0=>by
  unfold Af6;have h1:Ahn T lo hi isN (Ajf T lo hi) s (if Agm y p=true then Ahk T hi ⟨x.locals,[(3,y.cl)]⟩ y.target s else s):=by
   split
   ·exact Ux (x:=⟨x.locals,[(3,y.cl)]⟩) h h0 hx ht (by intro t ht;rw[List.mem_singleton.1 ht];exact⟨hy y (by simp),fun h=>by simp at h⟩) _
   ·exact .refl h0
  exact h1.trans (Ky h hx ht p r (fun z hz=>hy z (by simp[hz])) h1.ok)
theorem Aec {T:List Int} (h:Tr.Ok T) {lo:Nat}{hi:Int}{isN:Int→Prop}{x:Aft} (hx:Ahy T lo hi isN x) {hs:List Rd.Hnd} (hy:∀ y∈hs,Tr.Arg T 3 y.cl) {bh:Cd.Ins→Aft→Option Aft}{i:Cd.Ins} (hb:∀ y,bh i x=some y→Ahy T lo hi isN y) {s:Afv} (h0:Aii T lo hi isN s):Ahn T lo hi isN (Ajf T lo hi) s (Ain T hi hs bh i x s):=by
 have h1:=Ky h hx.lo hx.tl i.place hs hy h0;unfold Ain
 split
 ·exact h1.trans (.stop h1.ok)
 ·next y e =>
  have hy':=hb y e;have h2:Ahn T lo hi isN (Ajf T lo hi) s (if Agb i.op=true then Ahk T hi y i.n (Af6 T hi i.place x.locals hs s) else Af6 T hi i.place x.locals hs s):=by
   split
   ·exact h1.trans (Ux h h1.ok hy'.lo hy'.tl hy'.ts _)
   ·exact h1
  simp only
  split
  ·exact h2.trans (Pn h h2.ok hy'.lo hy'.tl hy'.ts _)
  ·exact h2
theorem Ib {T:List Int}{lo:Nat}{hi:Int}{isN:Int→Prop}{K:Nat}{lk:Cd.Ins→Aft→Afv→Afv}:∀ (L:List Cd.Ins),(∀ i∈L,0≤i.place) →
  (∀ i∈L,∀ x s,Ahy T lo hi isN x→Aii T lo hi isN s→Ahn T lo hi isN K s (lk i x s)) →
  ∀ (b:Bool) {s:Afv},Aii T lo hi isN s→Ahn T lo hi isN K s (Afx lk L b s).1∧((Afx lk L b s).2=true→b=false→Ais T K (Afx lk L b s).1<Ais T K s)
 | [],_,_,b,s,h0=>⟨.refl h0,fun h g=>by simp[Afx,g]at h⟩
 | i::r,hp,hk,b,s,h0=>by
  unfold Afx;have ih:=fun b {s:Afv} h0=>Ib (T:=T) (lo:=lo) (hi:=hi) (isN:=isN) (K:=K) (lk:=lk) r (fun z hz=>hp z (by simp[hz])) (fun z hz=>hk z (by simp[hz])) b (s:=s) h0
  split
  ·exact ih b h0
  ·next hn =>
   have hpi:=hp i (by simp);have hri:(s.at i.place.toNat).ri=true:=by
    cases h:(s.at i.place.toNat).ri with
    | true=>rfl
    | false=>exact absurd (.inr h) hn
   have hq:i.place.toNat<s.sp.length:=by
    have:¬ (s.sp.length:Int)≤i.place:=fun h=>hn (.inl h);omega
   obtain⟨c1,c2,c3⟩:=Aj2 (K:=K) h0 hq hri;have hx:=(h0 _ (Ahr hq)).1 ((h0 _ (Ahr hq)).2 hri);have h1:=hk i (by simp) _ _ hx c1;have h2:=(ih true h1.ok).1;have hmu:=Nat.le_trans h2.mu h1.mu;exact⟨⟨h2.ok,h2.len.trans (h1.len.trans c2),by omega⟩,fun _ _=>by omega⟩
theorem Iz {T:List Int}{lo:Nat}{hi:Int}{isN:Int→Prop}{K:Nat}{lk:Cd.Ins→Aft→Afv→Afv}{L:List Cd.Ins} (hp:∀ i∈L,0≤i.place)
  (hk:∀ i∈L,∀ x s,Ahy T lo hi isN x→Aii T lo hi isN s→Ahn T lo hi isN K s (lk i x s)):∀ (n m:Nat) {s:Afv},Aii T lo hi isN s→Ais T K s<n→Ais T K s<m→Ah7 lk L n s=Ah7 lk L m s
 | 0,_,s,_,h,_=>absurd h (by omega)
 | n+1,0,s,_,_,h=>absurd h (by omega)
 | n+1,m+1,s,h0,hn,hm=>by
  have h1:=Ib (K:=K) L hp hk false h0;unfold Ah7;by_cases hc:(Afx lk L false s).2=true∧(Afx lk L false s).1.hop=false
  ·rw[if_pos hc,if_pos hc];have:=h1.2 hc.1 rfl;exact Iz hp hk n m h1.1.ok (by omega) (by omega)
  ·rw[if_neg hc,if_neg hc]
def Akf (T:List Int) (K:Nat) (lk:Cd.Ins→Aft→Afv→Afv) (L:List Cd.Ins) (s:Afv):Afv:=Ah7 lk L (Ais T K s+1) s
theorem X9 {T:List Int}{lo:Nat}{hi:Int}{isN:Int→Prop}{K:Nat}{lk:Cd.Ins→Aft→Afv→Afv}{L:List Cd.Ins} (hp:∀ i∈L,0≤i.place)
  (hk:∀ i∈L,∀ x s,Ahy T lo hi isN x→Aii T lo hi isN s→Ahn T lo hi isN K s (lk i x s)) {s:Afv} (h0:Aii T lo hi isN s) :
  Akf T K lk L s=if (Afx lk L false s).2=true∧(Afx lk L false s).1.hop=false then Akf T K lk L (Afx lk L false s).1 else (Afx lk L false s).1:=by
 have h1:=Ib (K:=K) L hp hk false h0;unfold Akf;rw[Ah7];by_cases hc:(Afx lk L false s).2=true∧(Afx lk L false s).1.hop=false
 ·rw[if_pos hc,if_pos hc];have:=h1.2 hc.1 rfl;exact Iz hp hk _ _ h1.1.ok (by omega) (by omega)
 ·rw[if_neg hc,if_neg hc]
abbrev Aky (T:List Int) (s t:Int × Int):Prop:=Tr.fitsB T s.1 s.2 t.1 t.2=true
inductive Agf (T:List Int):List (Int × Int)→List (Int × Int)→Prop
 | nil:Agf T [] []
 | cons {s t:Int × Int}{a b:List (Int × Int)}:Aky T s t→Agf T a b→Agf T (s::a) (t::b)
structure Agg (T:List Int) (x y:Aft):Prop where
 lo:Agf T x.locals y.locals
 st:Agf T x.stack y.stack
theorem Agf.len {T:List Int}{a b:List (Int × Int)} (h:Agf T a b):a.length=b.length:=by
 induction h with
 | nil=>rfl
 | cons _ _ ih=>simp[ih]
theorem Agf.refl (T:List Int) (a:List (Int × Int)):Agf T a a:=by
 induction a with
 | nil=>exact .nil
 | cons x r ih=>exact .cons (Tr.fits_refl _ _ _) ih
theorem Agf.trans {T:List Int} (hT:Tr.Ok T) {a b c:List (Int × Int)} (h:Agf T a b) (g:Agf T b c) (ha:∀ t∈a,Tr.Arg T t.1 t.2) (hb:∀ t∈b,Tr.Arg T t.1 t.2) (hc:∀ t∈c,Tr.Arg T t.1 t.2):Agf T a c:=by
 induction h generalizing c with
 | nil=>exact g
 | cons h1 h2 ih =>
  cases g with
  | cons g1 g2=>exact .cons (Tr.fits_trans hT (ha _ (by simp)) (hb _ (by simp)) (hc _ (by simp)) h1 g1) (ih g2 (fun t ht=>ha t (by simp[ht])) (fun t ht=>hb t (by simp[ht])) (fun t ht=>hc t (by simp[ht])))
theorem Agf.getD {T:List Int}{a b:List (Int × Int)} (h:Agf T a b) (i:Nat):Aky T (a.getD i (0,0)) (b.getD i (0,0)):=by
 induction h generalizing i with
 | nil=>exact Tr.fits_refl _ _ _
 | cons h1 _ ih =>
  cases i with
  | zero=>simpa using h1
  | succ i=>simpa using ih i
theorem Agf.set {T:List Int}{a b:List (Int × Int)} (h:Agf T a b) (i:Nat) {s t:Int × Int} (hs:Aky T s t):Agf T (a.set i s) (b.set i t):=by
 induction h generalizing i with
 | nil=>exact .nil
 | cons h1 h2 ih =>
  cases i with
  | zero=>exact .cons hs h2
  | succ i=>exact .cons h1 (ih i)
theorem Agf.take {T:List Int}{a b:List (Int × Int)} (h:Agf T a b) (i:Nat):Agf T (a.take i) (b.take i):=by
 induction h generalizing i with
 | nil=>simpa using Agf.nil
 | cons h1 h2 ih =>
  cases i with
  | zero=>exact .nil
  | succ i=>exact .cons h1 (ih i)
theorem Agf.drop {T:List Int}{a b:List (Int × Int)} (h:Agf T a b) (i:Nat):Agf T (a.drop i) (b.drop i):=by
 induction h generalizing i with
 | nil=>simpa using Agf.nil
 | cons h1 h2 ih =>
  cases i with
  | zero=>exact .cons h1 h2
  | succ i=>exact ih i
theorem Agf.append {T:List Int}{a b c d:List (Int × Int)} (h:Agf T a b) (g:Agf T c d):Agf T (a++c) (b++d):=by
 induction h with
 | nil=>exact g
 | cons h1 _ ih=>exact .cons h1 ih
theorem Si {T:List Int}{s:Int × Int}{p:Int} (h:Aky T s (4,p)):s=(4,p):=by
 rcases(Tr.fits_iff ..).1 h with ⟨a,b⟩ | e|⟨e,_⟩|⟨e,_⟩
 ·exact Prod.ext a b
 ·exact absurd e (by simp)
 ·exact absurd e (by simp)
 ·exact absurd e (by simp)
theorem Abb {T:List Int}{t:Int × Int}{p:Int} (h:Aky T (4,p) t):t=(4,p)∨t.1=0:=by
 rcases(Tr.fits_iff ..).1 h with ⟨a,b⟩ | e|⟨_,e⟩|⟨_,e,_⟩
 ·exact .inl (Prod.ext a.symm b.symm)
 ·exact .inr e
 ·exact absurd e (by simp)
 ·exact absurd e (by simp)
theorem Agf.turned {T:List Int}{a b:List (Int × Int)} (h:Agf T a b) (p:Int) (u:Int × Int):Agf T (Agp (4,p) u a) (Agp (4,p) u b):=by
 induction h with
 | nil=>exact .nil
 | @cons s t a b h1 _ ih =>
  refine Agf.cons ?_ ih;show Aky T (if s=(4,p) then u else s) (if t=(4,p) then u else t)
  by_cases hs:s=(4,p)
  ·subst hs;rw[if_pos rfl];rcases Abb h1 with rfl | h0
   ·rw[if_pos rfl];exact Tr.fits_refl _ _ _
   ·rw[if_neg (by rintro rfl;simp at h0)];exact(Tr.fits_iff ..).2 (.inr (.inl h0))
  ·rw[if_neg hs];by_cases ht:t=(4,p)
   ·subst ht;exact absurd (Si h1) hs
   ·rw[if_neg ht];exact h1
theorem Yi {T:List Int} (hT:Tr.Ok T) {a b:List (Int × Int)} (h:Agf T a b) (ha:∀ t∈a,Tr.Arg T t.1 t.2) (hb:∀ t∈b,Tr.Arg T t.1 t.2):∀ {c:List (Int × Int)},(∀ t∈c,Tr.Arg T t.1 t.2)→Agc T b c=true→Agc T a c=true:=by
 induction h with
 | nil=>exact fun _ h=>h
 | cons h1 _ ih =>
  intro c hc hf;cases c with
  | nil=>simp[Agc]
  | cons u c =>
   simp only[Agc,Bool.and_eq_true]at hf ⊢;exact⟨Tr.fits_trans hT (ha _ (by simp)) (hb _ (by simp)) (hc _ (by simp)) h1 hf.1,ih (fun t ht=>ha t (by simp[ht])) (fun t ht=>hb t (by simp[ht])) (fun t ht=>hc t (by simp[ht])) hf.2⟩
theorem Zm {T:List Int} (hT:Tr.Ok T) {a b c:List (Int × Int)} (h:Agf T a b) (ha:∀ t∈a,Tr.Arg T t.1 t.2) (hb:∀ t∈b,Tr.Arg T t.1 t.2) (hc:∀ t∈c,Tr.Arg T t.1 t.2) (hf:Ahz T b c=true):Ahz T a c=true:=by
 unfold Ahz at hf ⊢;rw[h.len];by_cases hl:b.length<c.length
 ·rw[if_pos hl]at hf;cases hf
 ·rw[if_neg hl]at hf ⊢;rw[Dz hT _ _ (fun t ht=>hb t (List.mem_of_mem_drop ht)) hc]at hf;rw[Dz hT _ _ (fun t ht=>ha t (List.mem_of_mem_drop ht)) hc];exact Yi hT (h.drop _) (fun t ht=>ha t (List.mem_of_mem_drop ht)) (fun t ht=>hb t (List.mem_of_mem_drop ht)) hc hf
theorem V7 {T:List Int} (hT:Tr.Ok T) {tk lv want:List (Int × Int)}{arg:Int→Int}{p op n:Int}{x y z:Aft} (hx:Agh T x) (hy:Agh T y) (hk:∀ t∈tk,Tr.Arg T t.1 t.2) (hw:∀ t∈want,Tr.Arg T t.1 t.2) (h:Agg T x y)
  (hz:Aiw T tk lv want arg p op n y=some z):∃ u,Aiw T tk lv want arg p op n x=some u∧Agg T u z:=by
 have el:=h.lo.len;have es:=h.st.len;unfold Aiw at hz ⊢;by_cases h2:op=2
 ·rw[if_pos h2]at hz ⊢;have hg:=h.lo.getD n.toNat;by_cases hk0:(y.locals.getD n.toNat (0,0)).1=0
  ·rw[if_pos hk0]at hz;cases hz
  ·rw[if_neg hk0]at hz;have hk1:(x.locals.getD n.toNat (0,0)).1≠0:=by
    intro e;rcases(Tr.fits_iff ..).1 hg with ⟨a,_⟩ | a | ⟨_,a⟩ | ⟨_,a,_⟩<;>omega
   rw[if_neg hk1];cases hz;exact⟨_,rfl,h.lo,h.st.append (.cons hg .nil)⟩
 ·rw[if_neg h2]at hz ⊢;by_cases h3:op=3
  ·rw[if_pos h3,es]at *;by_cases hl:y.stack.length<1
   ·rw[if_pos hl]at hz;cases hz
   ·rw[if_neg hl]at hz ⊢;cases hz;exact⟨_,rfl,h.lo.set _ (h.st.getD _),h.st.take _⟩
  ·rw[if_neg h3]at hz ⊢;by_cases h4:op=4
   ·rw[if_pos h4,es]at *;by_cases hl:y.stack.length<1
    ·rw[if_pos hl]at hz;cases hz
    ·rw[if_neg hl]at hz ⊢;cases hz;exact⟨_,rfl,h.lo,h.st.take _⟩
   ·rw[if_neg h4]at hz ⊢;by_cases h5:op=5
    ·rw[if_pos h5,es]at *;by_cases hl:y.stack.length<1
     ·rw[if_pos hl]at hz;cases hz
     ·rw[if_neg hl]at hz ⊢;cases hz;exact⟨_,rfl,h.lo,h.st.append (h.st.drop _)⟩
    ·rw[if_neg h5]at hz ⊢;by_cases h6:op=6
     ·rw[if_pos h6,es]at *;by_cases hl:y.stack.length<2
      ·rw[if_pos hl]at hz;cases hz
      ·rw[if_neg hl]at hz ⊢;cases hz;exact⟨_,rfl,h.lo,(h.st.take _).append (.cons (h.st.getD _) (.cons (h.st.getD _) .nil))⟩
     ·rw[if_neg h6]at hz ⊢;by_cases h15:op=15
      ·rw[if_pos h15]at hz ⊢;cases hz;exact⟨_,rfl,h.lo.turned _ _,(h.st.turned _ _).append (.cons (Tr.fits_refl _ _ _) .nil)⟩
      ·rw[if_neg h15]at hz ⊢;by_cases h16:op=16
       ·rw[if_pos h16]at hz ⊢;unfold Akl at hz ⊢;rw[es]at *;by_cases ht:Ahz T y.stack want=false
        ·rw[if_pos ht]at hz;cases hz
        ·have ht':=Zm hT h.st hx.2 hy.2 hw (by simpa using ht);rw[if_neg ht]at hz;rw[if_neg (by simp[ht'])];by_cases hl:y.stack.length<want.length+1
         ·rw[if_pos hl]at hz;cases hz
         ·rw[if_neg hl]at hz ⊢;have hg:=h.st.getD (y.stack.length-want.length-1);have hg2:=h.st.take (y.stack.length-want.length-1);generalize y.stack.getD (y.stack.length-want.length-1) (0,0)=r at *;generalize x.stack.getD (y.stack.length-want.length-1) (0,0)=r' at *;by_cases h41:r.1≠4
          ·rw[if_pos h41]at hz;cases hz
          ·rw[if_neg h41]at hz;obtain⟨r1,r2⟩:=r;have:r1=4:=by simpa using h41
           subst this;have e:=Si hg;subst e;rw[if_neg h41];by_cases ha:arg r2≠n
           ·rw[if_pos ha]at hz;cases hz
           ·rw[if_neg ha]at hz ⊢;cases hz;exact⟨_,rfl,h.lo.turned _ _,hg2.turned _ _⟩
       ·rw[if_neg h16]at hz ⊢;by_cases ht:Ahz T y.stack tk=false
        ·rw[if_pos ht]at hz;cases hz
        ·have ht':=Zm hT h.st hx.2 hy.2 hk (by simpa using ht);rw[if_neg ht,es]at *;rw[if_neg (by simp[ht'])];cases hz;exact⟨_,rfl,h.lo,(h.st.take _).append (.refl _ _)⟩
structure Af1 where
 T:List Int
 lo:Nat
 hi:Int
 isN:Int→Prop
 n:Nat
 ps:List Nat
 hs:List Rd.Hnd
 rl:Nat→Aft→Option Aft
 op:Nat→Int
 ar:Nat→Int
 x0:Aft
abbrev Af1.I (E:Af1) (x:Aft):Prop:=Ahy E.T E.lo E.hi E.isN x
def Af1.nx (E:Af1) (p:Nat):Int:=(p:Int)+(Cd.wd (E.op p):Int)
structure Af1.Good (E:Af1):Prop where
 T:Tr.Ok E.T
 x0:E.I E.x0
 rl:∀ p∈E.ps,∀ x y,E.I x→E.rl p x=some y→E.I y
 mono:∀ p∈E.ps,∀ x y z,E.I x→E.I y→Agg E.T x y→E.rl p y=some z→∃ u,E.rl p x=some u∧Agg E.T u z
 tgt:∀ p∈E.ps,Agb (E.op p)=true→0≤E.ar p∧E.ar p<(E.n:Int)∧(E.ar p).toNat∈E.ps
 nxt:∀ p∈E.ps,E.nx p<(E.n:Int)→(E.nx p).toNat∈E.ps
 hnd:∀ h∈E.hs,0≤h.target∧h.target<(E.n:Int)∧h.target.toNat∈E.ps∧Tr.Arg E.T 3 h.cl
 zero:0∈E.ps
 lt:∀ p∈E.ps,p<E.n
def Agz (x:Aft) (h:Rd.Hnd):Aft:=⟨x.locals,[(3,h.cl)]⟩
inductive Aip (E:Af1) (p:Nat) (x:Aft):Int→Aft→Bool→Prop
 | hnd (h:Rd.Hnd):h∈E.hs→Agm h (p:Int)=true→Aip E p x h.target (Agz x h) true
 | jmp (y:Aft):E.rl p x=some y→Agb (E.op p)=true→Aip E p x (E.ar p) y true
 | nxt (y:Aft):E.rl p x=some y→Agq (E.op p)=true→Aip E p x (E.nx p) y false
structure Ak6 (E:Af1) (F:Nat→Option Aft) (W:Nat→Prop) (p:Nat) (x:Aft):Prop where
 rl:∃ y,E.rl p x=some y
 go:∀ q y a,Aip E p x q y a→0≤q∧q<(E.n:Int)∧(y.stack.length:Int)≤E.hi∧(∃ z,F q.toNat=some z∧Agg E.T y z)∧(a=true→W q.toNat)
structure Ajm (E:Af1) (F:Nat→Option Aft):Prop where
 inv:∀ p x,F p=some x→E.I x
 x0:∃ y,F 0=some y∧Agg E.T E.x0 y
 sat:∀ p∈E.ps,∀ x,F p=some x→Ak6 E F (fun _=>True) p x
def Akn (E:Af1) (p q:Nat):Prop:=(∃ h∈E.hs,Agm h (p:Int)=true∧h.target.toNat=q)∨(Agb (E.op p)=true∧(E.ar p).toNat=q)
theorem Agg.refl (T:List Int) (x:Aft):Agg T x x:=⟨.refl _ _,.refl _ _⟩
theorem Agg.trans {E:Af1} (g:E.Good) {x y z:Aft} (h:Agg E.T x y) (k:Agg E.T y z) (hx:Agh E.T x) (hy:Agh E.T y) (hz:Agh E.T z):Agg E.T x z :=
 ⟨h.lo.trans g.T k.lo hx.1 hy.1 hz.1,h.st.trans g.T k.st hx.2 hy.2 hz.2⟩
theorem Ey {T:List Int}:∀ {a b:List (Int × Int)},a.length=b.length→(Agc T a b=true↔Agf T a b)
 | [],[],_=>⟨fun _=>.nil,fun _=>rfl⟩
 | [],_::_,h=>by simp at h
 | _::_,[],h=>by simp at h
 | s::a,t::b,h=>by
  have ih:=Ey (T:=T) (a:=a) (b:=b) (by simpa using h);simp only[Agc,Bool.and_eq_true]
  constructor
  ·rintro ⟨h1,h2⟩;exact .cons h1 (ih.1 h2)
  ·intro k;cases k with
   | cons k1 k2=>exact⟨k1,ih.2 k2⟩
theorem Ig {T:List Int}{x y:Aft}:Ahf T x y=true↔Agg T x y:=by
 unfold Ahf Air
 constructor
 ·intro h;simp only[Bool.and_eq_true]at h;obtain⟨h1,h2⟩:=h
  split at h1
  ·next e1 =>
   split at h2
   ·next e2=>exact⟨(Ey e1).1 h1,(Ey e2).1 h2⟩
   ·cases h2
  ·cases h1
 ·intro h;rw[if_pos h.lo.len,if_pos h.st.len,(Ey h.lo.len).2 h.lo,(Ey h.st.len).2 h.st];rfl
theorem Lq {T:List Int} (hT:Tr.Ok T):∀ (a b:List (Int × Int)),(∀ t∈a,Tr.Arg T t.1 t.2)→(∀ t∈b,Tr.Arg T t.1 t.2)→a.length=b.length →
  Agf T a (List.zipWith (Tr.joinT T) a b)∧Agf T b (List.zipWith (Tr.joinT T) a b)∧∀ c,(∀ t∈c,Tr.Arg T t.1 t.2)→Agf T a c→Agf T b c→Agf T (List.zipWith (Tr.joinT T) a b) c
 | [],[],_,_,_=>⟨.nil,.nil,fun c _ h _=>h⟩
 | [],_::_,_,_,h=>by simp at h
 | _::_,[],_,_,h=>by simp at h
 | s::a,t::b,ha,hb,h=>by
  obtain⟨i1,i2,i3⟩:=Lq hT a b (fun t ht=>ha t (by simp[ht])) (fun t ht=>hb t (by simp[ht])) (by simpa using h);obtain⟨_,j1,j2,j3⟩:=Tr.join_spec hT (k:=s.1) (n:=s.2) (k':=t.1) (n':=t.2) (ha s (by simp)) (hb t (by simp));refine⟨.cons j1 i1,.cons j2 i2,fun c hc h1 h2=>?_⟩;cases h1 with
  | cons h11 h12 =>
   cases h2 with
   | cons h21 h22=>exact .cons (j3 _ _ (hc _ (by simp)) h11 h21) (i3 _ (fun t ht=>hc t (by simp[ht])) h12 h22)
theorem U8 {T:List Int} (hT:Tr.Ok T) {x y:Aft} (hx:Agh T x) (hy:Agh T y) (hl:x.locals.length=y.locals.length) (hs:x.stack.length=y.stack.length) :
  Agg T x (Aik T x y)∧Agg T y (Aik T x y)∧∀ z,Agh T z→Agg T x z→Agg T y z→Agg T (Aik T x y) z:=by
 obtain⟨a1,a2,a3⟩:=Lq hT x.locals y.locals hx.1 hy.1 hl;obtain⟨b1,b2,b3⟩:=Lq hT x.stack y.stack hx.2 hy.2 hs;exact⟨⟨a1,b1⟩,⟨a2,b2⟩,fun z hz h1 h2=>⟨a3 _ hz.1 h1.lo h2.lo,b3 _ hz.2 h1.st h2.st⟩⟩
theorem Zx {E:Af1} (g:E.Good) {p:Nat} (hp:p∈E.ps) {x y:Aft} (hx:E.I x) (hy:E.I y) (h:Agg E.T x y) {q:Int}{u:Aft}{a:Bool} (hg:Aip E p x q u a) (hr:∃ z,E.rl p y=some z):∃ z,Aip E p y q z a∧Agg E.T u z:=by
 cases hg with
 | hnd k hk hc=>exact⟨_,.hnd k hk hc,h.lo,.refl _ _⟩
 | jmp _ h1 h2 =>
  obtain⟨z,hz⟩:=hr;obtain⟨u',h3,h4⟩:=g.mono p hp x y z hx hy h hz;rw[h1]at h3;cases h3;exact⟨z,.jmp z hz h2,h4⟩
 | nxt _ h1 h2 =>
  obtain⟨z,hz⟩:=hr;obtain⟨u',h3,h4⟩:=g.mono p hp x y z hx hy h hz;rw[h1]at h3;cases h3;exact⟨z,.nxt z hz h2,h4⟩
theorem Kb {E:Af1} (g:E.Good) {p:Nat} (hp:p∈E.ps) {x:Aft} (hx:E.I x) {q:Int}{u:Aft}{a:Bool} (hg:Aip E p x q u a):u.locals.length=E.lo∧(∀ t∈u.locals,Afy E.T E.isN t)∧∀ t∈u.stack,Afy E.T E.isN t:=by
 cases hg with
 | hnd k hk hc=>exact⟨hx.lo,hx.tl,fun t ht=>by rw[List.mem_singleton.1 ht];exact⟨(g.hnd k hk).2.2.2,fun h=>by simp at h⟩⟩
 | jmp _ h1 _=>have:=g.rl p hp x u hx h1;exact⟨this.lo,this.tl,this.ts⟩
 | nxt _ h1 _=>have:=g.rl p hp x u hx h1;exact⟨this.lo,this.tl,this.ts⟩
theorem Abz {E:Af1}{p:Nat}{x:Aft}{q:Int}{u:Aft} (hg:Aip E p x q u true):Akn E p q.toNat:=by
 cases hg with
 | hnd k hk hc=>exact .inl ⟨k,hk,hc,rfl⟩
 | jmp _ h1 h2=>exact .inr ⟨h2,rfl⟩
theorem Ac5 {E:Af1} (g:E.Good) {p:Nat} (hp:p∈E.ps) {x:Aft}{q:Int}{u:Aft}{a:Bool} (hg:Aip E p x q u a) (hq:q<(E.n:Int)):q.toNat∈E.ps:=by
 cases hg with
 | hnd k hk hc=>exact(g.hnd k hk).2.2.1
 | jmp _ h1 h2=>exact(g.tgt p hp h2).2.2
 | nxt _ h1 _=>exact g.nxt p hp hq
end Go.Proofs.YtpcgnjolfahacaaGreat
