/- Texts of the proof, put together: RowBase, EmbThy3, TyThy8, RunThy, InvThy, GenThy, GenThy2, GenThy3, GenThy4, AlThy, RenThy, PosThy, LexRen, LexRen2, ChgThy, RowLib, GenWalk. -/
import Derived.Test.YtckhafpejefbbaaGreatDoorB15
import Derived.Test.YtckhafpejefbbaaGreatDoorB01
import Derived.Test.YtckhafpejefbbaaGreatDoorRows
import Derived.Test.YtckhafpejefbbaaGreatDoorCards
import Derived.Test.YtckhafpejefbbaaGreatDoorTie
import Derived.ChangeSame
import Derived.ChangeVars
import Derived.JoinedOf
import Derived.RowKit
import Derived.RowKitTokens
import Derived.LaidLaws
import Derived.LaidMore
import Derived.OpenShut
import Derived.ProofKit
import Derived.Stop.Joined
import Derived.SevenTiedAt
import Derived.Carry
import Derived.Test.YtckhafpejefbbaaGreatDoorB13
import Derived.Test.YtckhafpejefbbaaGreatDoorB11
import Derived.Test.YtckhafpejefbbaaGreatDoorB12

set_option maxRecDepth 100000
set_option maxHeartbeats 4000000
namespace Go.Proofs.YtckhafpejefbbaaGreatDoor
open Go.ChangeShapes Go.WideShapes Go.ChangeAt Go.RowKit
theorem zog (w:World) (e:TypeId) (s:ByteArray):w.grownBy (Lib.bytesWorld w e s) none :=
 ⟨rfl,rfl,rfl,by rw [Lib.bytesWorld_size]; omega,fun k hk _=>Lib.bytesWorld_at_old w e s k hk⟩
theorem zxr (w:World) (k:Nat) (os:Array Obj):w.grownBy (Sort.grow (w.drewN k) os) none :=
 ⟨rfl,rfl,rfl,by simp [Sort.grow],fun i hi _=>by simp [Sort.grow,Array.getElem?_append,hi]⟩
theorem lib4:Lib4 :=
 {ib:=fun s c w=>(Tryz.strings_IndexByte s c w).mono fun e w' ⟨h1,h2⟩=>⟨h1,h2.symm⟩
  pi:=fun s hs v h w=>(Tryz.strconv_ParseInt_10_at64_ok s (by omega) v h w).mono fun e w' ⟨h1,h2⟩=>⟨h1,by
   rcases h2 with rfl | ⟨t,rfl⟩
   ·exact zab _
   ·exact zog _ _ _⟩
  fi:=fun n h0 h1 w hT=>(Tryz.strconv_FormatInt_10 n h0 h1 w hT).mono fun e w' ⟨h1,k,os,h2⟩=>⟨h1,by rw [h2]; exact zxr _ _ _⟩
  fb:=fun b w=>(Tryz.strconv_FormatBool b w).mono fun e w' ⟨h1,h2⟩=>⟨by rw [h1]; cases b <;> rfl,h2.symm⟩}
theorem own:ownKnob Tryz.prog.godebug=none:=by kernel_rfl
theorem tPow:(Tryz.prog.globals[1]?).map (fun x=>x.type)=some 378:=by kernel_rfl
abbrev zwc:List (String×DataW Unit):=Rows.recursiveRow.laid
theorem yer {W:World} (h:laidMetH Tryz.prog zwc W):Tab W/\1<W.heap.size:=by
 rw [MakeChecks.laidMetH_plain _ _ _ (by kernel_rfl)] at h
 obtain ⟨ps,⟨g0,t0,cs0,f0,p0,q0,hg0,ht0,hv0,hd0,⟨g1,t1,cs1,f1,p1,q1,hg1,ht1,hv1,hd1,⟨g2,t2,cs2,f2,p2,q2,hg2,ht2,hv2,hd2,_,_⟩,_⟩,_⟩,_,_⟩:=h
 obtain rfl:=Option.some.inj (gPow.symm.trans hg2)
 obtain rfl:=Option.some.inj (tPow.symm.trans ht2)
 have hz:(Rows.laid_internal_strconv_uint64pow10:DataW Unit)=Lib.tabData .u64 Lib.pow10Tab:=by kernel_rfl
 have hT:Tab W:=by
  show W.var? Tryz.prog "internal/strconv.uint64pow10"=_
  rw [hv2]
  have:=Lib.cells_of_tab (zs:=Lib.pow10Tab) Tryz.underlying378 Tryz.underlying372 (by kernel_rfl) (by kernel_rfl) (by rw [<-hz]; exact hd2)
  rw [<-this]
 refine ⟨hT,?_⟩
 rcases Nat.lt_or_ge 1 W.heap.size with h1 | h1
 ·exact h1
 ·have hv:W.var? Tryz.prog "internal/strconv.uint64pow10"=_:=hT
  unfold World.var? at hv
  rw [gPow] at hv
  simp only [zbS] at hv
  rw [Array.getElem?_eq_none h1] at hv
  simp at hv
theorem yc7 (os:Os) (args:Array Value):laidMetH Tryz.prog zwc ((World.doorLaid Tryz.prog 62 os).forCall (fun _ _=>0) ⟨#[],args,[]⟩).memory :=
 laidMetH_of_parts3 (fuel:=8) (laidMet_of_run' 8 (by kernel_rfl) (by kernel_rfl)) (by kernel_rfl) (by kernel_rfl)
theorem zoh {W W':World} (h:W.grownBy W' none) (may:MemPlace->Prop):W.keptBut W' may:=by
 refine ⟨h.os,h.output,fun i hi => ?_⟩
 rw [h.block i hi (by simp)]
 cases W.heap[i]? with
 | none=>trivial
 | some o=>cases o <;> simp
theorem ye7:laidOutB Tryz.prog=true:=by kernel_rfl
theorem zqr {W W':World} (h:W.grownBy W' none):Below W.heap.size W W':=⟨h.os,h.tape,h.output,h.size,fun k hk=>h.block k hk (by simp)⟩
theorem zo4 {H:Type} {enc:TypeId×Value->H} {P:Program} (hP:laidOutB P=true) {W W':World} (hg:W.grownBy W' none):∀(ts:List TypeId) (vs:List Value) (ds:List (DataW H)) (ps:List MemPlace),
  (ts.all fun t=>P.readableRec t&&decide (t<P.types.size))=true->(∀x∈ps,x.block<W.heap.size)->DataW.TrodAll enc P W 0 (fun _=>true) true ts vs ds ps->DataW.TrodAll enc P W' 0 (fun b=>decide (b<W.heap.size)) true ts vs ds ps
 | [],[],[],_,_,_,h=>h
 | t::ts,v::vs,d::ds,ps,hr,hl,h=>by
  obtain ⟨p,q,h1,h2,rfl⟩:=h
  simp only [List.all_cons,Bool.and_eq_true,decide_eq_true_eq] at hr
  exact ⟨p,q,Below.trod hP hr.1.1 hr.1.2 h1 (zqr hg) (fun x hx=>hl x (zmA.2 (.inl hx))),zo4 hP hg ts vs ds q hr.2 (fun x hx=>hl x (zmA.2 (.inr hx))) h2,rfl⟩
 | [],[],_::_,_,_,_,h=>h.elim
 | [],_::_,_,_,_,_,h=>h.elim
 | _::_,[],_,_,_,_,h=>h.elim
 | _::_,_::_,[],_,_,_,h=>h.elim
theorem zxs {H:Type} {enc:TypeId×Value->H} {W W':World} (hg:W.grownBy W' none) {ts:List TypeId} {vs:List Value} {ds:List (DataW H)} {ps:List MemPlace}
  (hr:(ts.all fun t=>Tryz.prog.readableRec t&&decide (t<Tryz.prog.types.size))=true) (hl:∀x∈ps,x.block<W.heap.size) (h:DataW.TrodAll enc Tryz.prog W 0 (fun _=>true) true ts vs ds ps):DataW.TrodAll enc Tryz.prog W' 0 (fun b=>decide (b<W.heap.size)) true ts vs ds ps :=
 zo4 ye7 hg ts vs ds ps hr hl h
end Go.Proofs.YtckhafpejefbbaaGreatDoor
namespace Go.Proofs.YtckhafpejefbbaaGreatDoor.Tw
open Go
variable {l1 l2 : List UInt8} {ts1 ts2 : List Tok} {o N dd : Nat} {m : Mv}
variable (l1 l2 ts1 ts2 o m N dd)
def Two (f:Nat->PS->Option (T×PS)) (g:Nat->PS->Option (T×PS)) (n:Nat):Prop :=
 ∀ {n':Nat} {s1 s2 s1' s2':PS} {r r2:T},Sim o dd N s1 s2->f n s1=some (r,s1')->s1'.stuck=false->g n' s2=some (r2,s2')->s2'.stuck=false->r2=r.re m/\Sim o dd N s1' s2'
structure WAll (n:Nat):Prop where
 expr:Two o N dd m (za6 l1 ts1) (za6 l2 ts2) n
 lett:Two o N dd m (letS l1 ts1) (letS l2 ts2) n
 fn:Two o N dd m (funS l1 ts1) (funS l2 ts2) n
 cond:Two o N dd m (zco l1 ts1) (zco l2 ts2) n
 cmp:Two o N dd m (cmpS l1 ts1) (cmpS l2 ts2) n
 sum:Two o N dd m (sumS l1 ts1) (sumS l2 ts2) n
 term:Two o N dd m (zci l1 ts1) (zci l2 ts2) n
 part:∀(p:Part),Two o N dd m (fun n=>zbc l1 ts1 n p) (fun n=>zbc l2 ts2 n p) n
 chain:∀(p:Part) (g:List Int),(∀x∈g,x≠0)->(∀x∈g,zbt x=false)->Two o N dd m (fun n=>zbf l1 ts1 n p g) (fun n=>zbf l2 ts2 n p g) n
 chainFrom:∀(p:Part) (g:List Int) (a:T),(∀x∈g,x≠0)->(∀x∈g,zbt x=false)->Two o N dd m (fun n=>zan l1 ts1 n p g a) (fun n=>zan l2 ts2 n p g (a.re m)) n
 call:Two o N dd m (zcc l1 ts1) (zcc l2 ts2) n
 callFrom:∀(a:T),Two o N dd m (fun n=>zar l1 ts1 n a) (fun n=>zar l2 ts2 n (a.re m)) n
 atom:Two o N dd m (zbv l1 ts1) (zbv l2 ts2) n
 bracket:Two o N dd m (za0 l1 ts1) (za0 l2 ts2) n
variable {l1 l2 ts1 ts2 o m N dd}
end Go.Proofs.YtckhafpejefbbaaGreatDoor.Tw 
namespace Go.Proofs.YtckhafpejefbbaaGreatDoor.Tw
open Go
open Go
theorem zo5 (bud:Nat):∀(n:Nat) {t:T} {e:VEnv} {st:RS} {r:Option Val×RS},zap bud n t e st=some r->zap bud (n+1) t e st=some r
 | 0,t,e,st,r,h=>by simp [zap] at h
 | n+1,t,e,st,r,h=>by
  have ih:∀ {t:T} {e:VEnv} {st:RS} {r:Option Val×RS},zap bud n t e st=some r->zap bud (n+1) t e st=some r:=fun h=>zo5 bud n h
  have both:∀ {l r:T} {e:VEnv} {st:RS} {c:Option (Val×Val)×RS},zdl bud n l r e st=some c->zdl bud (n+1) l r e st=some c:=by
   intro l r e st c h
   unfold zdl at h ⊢
   obtain ⟨a,h1,h⟩:=zbE.1 h
   rw [ih h1,zbS]
   obtain ⟨a1,a2⟩:=a
   cases a1 with
   | none=>exact h
   | some x =>
    simp only at h ⊢
    obtain ⟨b,h2,h⟩:=zbE.1 h
    rw [ih h2,zbS]
    exact h
  cases t with
  | name fr to x=>rw [zap] at h ⊢; exact h
  | int fr to v=>rw [zap] at h ⊢; exact h
  | truth fr to v=>rw [zap] at h ⊢; exact h
  | side fr to v=>rw [zap] at h ⊢; exact h
  | fn fr to bn bat b=>rw [zap] at h ⊢; exact h
  | bracket fr to i=>rw [zap] at h ⊢; exact ih h
  | pair fr to x y =>
   rw [zdy] at h ⊢
   obtain ⟨c,h1,h⟩:=zbE.1 h
   rw [both h1,zbS]
   exact h
  | binary fr to s x y =>
   rw [zcy] at h ⊢
   obtain ⟨c,h1,h⟩:=zbE.1 h
   rw [both h1,zbS]
   exact h
  | call fr to x y =>
   rw [zb7] at h ⊢
   obtain ⟨c,h1,h⟩:=zbE.1 h
   rw [both h1,zbS]
   obtain ⟨c1,c2⟩:=c
   cases c1 with
   | none=>exact h
   | some p =>
    obtain ⟨f,a⟩:=p
    simp only at h ⊢
    unfold zft at h ⊢
    cases f with
    | clo _ _ bn _ body env =>
     simp only at h ⊢
     split at h
     ·rename_i q; rw [if_pos q]; exact h
     ·rename_i q; rw [if_neg q]; exact ih h
    | num _=>exact h
    | truth _=>exact h
    | side _=>exact h
    | pair _ _=>exact h
  | cond fr to c x y =>
   rw [zap] at h ⊢
   obtain ⟨a,h1,h⟩:=zbE.1 h
   rw [ih h1,zbS]
   obtain ⟨a1,a2⟩:=a
   cases a1 with
   | none=>exact h
   | some v =>
    simp only at h ⊢
    split at h
    ·rename_i q; rw [if_pos q]; exact ih h
    ·rename_i q; rw [if_neg q]; exact ih h
  | lett fr to rc bn bat d b =>
   rw [zap] at h ⊢
   obtain ⟨a,h1,h⟩:=zbE.1 h
   rw [ih h1,zbS]
   obtain ⟨a1,a2⟩:=a
   cases a1 with
   | none=>exact h
   | some v=>exact ih h
theorem za3 {bud n k:Nat} (hk:n<=k) {t:T} {e:VEnv} {st:RS} {r:Option Val×RS} (h:zap bud n t e st=some r):zap bud k t e st=some r:=by
 induction k with
 | zero=>rw [show n=0 from by omega] at h; exact h
 | succ k ih =>
  rcases Nat.lt_or_ge n (k+1) with h1 | h1
  ·exact zo5 bud k (ih (by omega))
  ·rw [show n=k+1 from by omega] at h; exact h
def T.fit:T->Prop
 | .name .. | .truth .. | .side .. => True
 | .int _ _ v => -9223372036854775808<=v/\v<=9223372036854775807
 | .bracket _ _ i=>i.fit
 | .pair _ _ x y=>x.fit/\y.fit
 | .call _ _ x y=>x.fit/\y.fit
 | .binary _ _ _ x y=>x.fit/\y.fit
 | .cond _ _ x y z=>x.fit/\y.fit/\z.fit
 | .fn _ _ _ _ x=>x.fit
 | .lett _ _ _ _ _ x y=>x.fit/\y.fit
def OkE (N:Nat) (e:VEnv):Prop:=∀p∈e,p.2<N
def OkV (N:Nat):Val->Prop
 | .num _ | .truth _ | .side _=>True
 | .pair l r=>OkV N l/\OkV N r
 | .clo _ _ bn _ body env=>body.freeS (bn::env.map (·.1))=none/\body.fit/\OkE N env
theorem OkE.mono {N M:Nat} (h:N<=M) {e:VEnv} (k:OkE N e):OkE M e:=fun p hp=>Nat.lt_of_lt_of_le (k p hp) h
theorem OkV.mono {N M:Nat} (h:N<=M):∀ {v:Val},OkV N v->OkV M v
 | .num _,_=>trivial
 | .truth _,_=>trivial
 | .side _,_=>trivial
 | .pair _ _,k=>⟨OkV.mono h k.1,OkV.mono h k.2⟩
 | .clo _ _ _ _ _ _,k=>⟨k.1,k.2.1,k.2.2.mono h⟩
def OkS (st:RS):Prop:=∀v,some v∈st.slots->OkV st.slots.length v
theorem zix {x:List UInt8}:∀ {e:VEnv},(e.map (·.1)).contains x=true->∃p∈e,zd6 e x=some p.2
 | [],h=>by simp at h
 | (n,k)::o,h=>by
  by_cases hn:n=x
  ·exact ⟨(n,k),by simp,by simp [zd6,hn]⟩
  ·simp only [List.map_cons,List.contains_cons,Bool.or_eq_true,beq_iff_eq] at h
   obtain ⟨p,hp,e⟩:=zix (h.resolve_left fun q=>hn q.symm)
   exact ⟨p,by simp [hp],by simp [zd6,hn,e]⟩
structure OkOut (bud:Nat) (st:RS) (a:Option Val×RS):Prop where
 slots:OkS a.2
 val:∀v,a.1=some v->OkV a.2.slots.length v
 len:st.slots.length<=a.2.slots.length
 up:st.steps<=a.2.steps
 top:a.2.steps<=bud
theorem OkOut.trans {bud:Nat} {st st':RS} {a:Option Val×RS} (h:st.slots.length<=st'.slots.length) (h2:st.steps<=st'.steps) (k:OkOut bud st' a):OkOut bud st a:=⟨k.slots,k.val,Nat.le_trans h k.len,Nat.le_trans h2 k.up,k.top⟩
def Ans (bud:Nat) (t:T) (e:VEnv) (st:RS):Prop:=∃n a,zap bud n t e st=some a/\OkOut bud st a
theorem ya8 {bud:Nat} (s a b:Int) {st:RS} (h:OkS st) (ht:st.steps<=bud):OkOut bud st (zck s a b st):=by
 have fine:∀v:Val,OkV st.slots.length v->OkOut bud st (some v,st):=fun v hv=>⟨h,fun w hw=>by cases hw; exact hv,znL _,znL _,ht⟩
 unfold zck
 split
 ·exact fine _ trivial
 split
 ·exact fine _ trivial
 split
 ·exact fine _ trivial
 split
 ·exact fine _ trivial
 split
 ·exact fine _ trivial
 split
 ·exact ⟨h,fun w hw=>(by cases hw),znL _,znL _,ht⟩
 ·exact fine _ trivial
theorem yet (bud:Nat):∀(k:Nat) (t:T) (e:VEnv) (st:RS),st.steps<=bud->bud-st.steps<=k->t.freeS (e.map (·.1))=none->t.fit->OkE st.slots.length e->OkS st->Ans bud t e st:=by
 intro k
 induction k using Nat.strongRecOn with
 | _ k IH =>
 have both:∀(l r:T),(∀(e:VEnv) (st:RS),st.steps<=bud->bud-st.steps<=k->l.freeS (e.map (·.1))=none->l.fit->OkE st.slots.length e->OkS st->Ans bud l e st)->(∀(e:VEnv) (st:RS),st.steps<=bud->bud-st.steps<=k->r.freeS (e.map (·.1))=none->r.fit->OkE st.slots.length e->OkS st->Ans bud r e st) ->
   ∀(e:VEnv) (st:RS),st.steps<=bud->bud-st.steps<=k->l.freeS (e.map (·.1))=none->r.freeS (e.map (·.1))=none->l.fit->r.fit->OkE st.slots.length e->OkS st ->
   ∃n c,(∀j,n<=j->zdl bud j l r e st=some c)/\OkOut bud st (none,c.2)/\∀x y,c.1=some (x,y)->OkV c.2.slots.length x/\OkV c.2.slots.length y:=by
  intro l r hl hr e st h1 h2 h3 h4 h5 h6 h7 h8
  obtain ⟨n1,⟨a1,a2⟩,g1,o1⟩:=hl e st h1 h2 h3 h5 h7 h8
  cases a1 with
  | none =>
   refine ⟨n1,(none,a2),fun j hj => ?_,o1,fun x y q=>by cases q⟩
   unfold zdl
   rw [za3 hj g1]
   rfl
  | some x =>
   have u:=o1.up
   obtain ⟨n2,⟨b1,b2⟩,g2,o2⟩:=hr e a2 o1.top (by simp only at u; omega) h4 h6 (h7.mono o1.len) o1.slots
   cases b1 with
   | none =>
    refine ⟨max n1 n2,(none,b2),fun j hj => ?_,o2.trans o1.len o1.up,fun x y q=>by cases q⟩
    unfold zdl
    rw [za3 (by omega) g1]
    simp only [zbS]
    rw [za3 (by omega) g2]
    rfl
   | some y =>
    refine ⟨max n1 n2,(some (x,y),b2),fun j hj => ?_,?_,fun x' y' q => ?_⟩
    ·unfold zdl
     rw [za3 (by omega) g1]
     simp only [zbS]
     rw [za3 (by omega) g2]
     rfl
    ·have:=o2.trans o1.len o1.up
     exact ⟨this.slots,fun v q=>(by cases q),this.len,this.up,this.top⟩
    ·cases q
     exact ⟨(o1.val x rfl).mono o2.len,o2.val y rfl⟩
 intro t
 induction t with
 | name fr to x =>
  intro e st h1 h2 h3 h4 h5 h6
  simp only [T.freeS] at h3
  split at h3
  ·rename_i hx
   obtain ⟨p,hp,hl⟩:=zix hx
   have hlt:=h5 p hp
   have hg:st.slots[p.2]? = some st.slots[p.2]:=List.getElem?_eq_getElem hlt
   cases hs:st.slots[p.2] with
   | none =>
    refine ⟨1,(none,{st with fin:=1}),?_,⟨h6,fun v q=>(by cases q),znL _,znL _,h1⟩⟩
    simp only [zap]
    rw [hl]
    simp only [zbS]
    rw [hg,hs]
   | some v =>
    refine ⟨1,(some v,st),?_,⟨h6,fun w q=>by cases q; exact h6 v (by rw [<-hs]; exact List.getElem_mem hlt),znL _,znL _,h1⟩⟩
    simp only [zap]
    rw [hl]
    simp only [zbS]
    rw [hg,hs]
  ·cases h3
 | int fr to v =>
  intro e st h1 h2 h3 h4 h5 h6
  exact ⟨1,(some (.num v),st),by simp only [zap]; rw [if_pos (show -9223372036854775808<=v/\v<=9223372036854775807 from h4)],⟨h6,fun w q=>(by cases q; exact trivial),znL _,znL _,h1⟩⟩
 | truth fr to v =>
  intro e st h1 h2 h3 h4 h5 h6
  exact ⟨1,(some (.truth v),st),rfl,⟨h6,fun w q=>(by cases q; exact trivial),znL _,znL _,h1⟩⟩
 | side fr to v =>
  intro e st h1 h2 h3 h4 h5 h6
  exact ⟨1,(some (.side v),st),rfl,⟨h6,fun w q=>(by cases q; exact trivial),znL _,znL _,h1⟩⟩
 | fn fr to bn bat b ih =>
  intro e st h1 h2 h3 h4 h5 h6
  exact ⟨1,(some (.clo fr to bn bat b e),st),rfl,⟨h6,fun w q=>(by cases q; exact ⟨h3,h4,h5⟩),znL _,znL _,h1⟩⟩
 | bracket fr to i ih =>
  intro e st h1 h2 h3 h4 h5 h6
  obtain ⟨n,a,g,o⟩:=ih e st h1 h2 h3 h4 h5 h6
  exact ⟨n+1,a,by simp only [zap]; exact g,o⟩
 | pair fr to x y ihx ihy =>
  intro e st h1 h2 h3 h4 h5 h6
  simp only [T.freeS,Option.or_eq_none_iff] at h3
  obtain ⟨n,⟨c1,c2⟩,g,o,hv⟩:=both x y ihx ihy e st h1 h2 h3.1 h3.2 h4.1 h4.2 h5 h6
  cases c1 with
  | none=>exact ⟨n+1,(none,c2),by rw [zdy,g n (znL _)]; rfl,o⟩
  | some p =>
   obtain ⟨u,v⟩:=p
   exact ⟨n+1,(some (.pair u v),c2),by rw [zdy,g n (znL _)]; rfl,⟨o.slots,fun w q=>(by cases q; exact hv u v rfl),o.len,o.up,o.top⟩⟩
 | binary fr to s x y ihx ihy =>
  intro e st h1 h2 h3 h4 h5 h6
  simp only [T.freeS,Option.or_eq_none_iff] at h3
  obtain ⟨n,⟨c1,c2⟩,g,o,hv⟩:=both x y ihx ihy e st h1 h2 h3.1 h3.2 h4.1 h4.2 h5 h6
  cases c1 with
  | none=>exact ⟨n+1,(none,c2),by rw [zcy,g n (znL _)]; rfl,o⟩
  | some p =>
   obtain ⟨u,v⟩:=p
   exact ⟨n+1,_,by rw [zcy,g n (znL _)]; rfl,(ya8 s (asNum u) (asNum v) o.slots o.top).trans o.len o.up⟩
 | call fr to x y ihx ihy =>
  intro e st h1 h2 h3 h4 h5 h6
  simp only [T.freeS,Option.or_eq_none_iff] at h3
  obtain ⟨n,⟨c1,c2⟩,g,o,hv⟩:=both x y ihx ihy e st h1 h2 h3.1 h3.2 h4.1 h4.2 h5 h6
  cases c1 with
  | none=>exact ⟨n+1,(none,c2),by rw [zb7,g n (znL _)]; rfl,o⟩
  | some p =>
   obtain ⟨u,v⟩:=p
   obtain ⟨hu,hw⟩:=hv u v rfl
   have stop:∀st':RS,st'.slots=c2.slots->st'.steps=c2.steps->OkOut bud st (none,st'):=fun st' q1 q2 =>
    ⟨by have:=o.slots; unfold OkS at this ⊢; simp only at this ⊢; rw [q1]; exact this,fun w q=>(by cases q),by have:=o.len; simp only at this ⊢; rw [q1]; exact this,by have:=o.up; simp only at this ⊢; rw [q2]; exact this,by have:=o.top; simp only at this ⊢; rw [q2]; exact this⟩
   cases u with
   | clo f1 t1 bn bat body env =>
    by_cases hb:c2.steps=bud
    ·refine ⟨n+1,(none,{c2 with fin:=2}),?_,stop _ rfl rfl⟩
     rw [zb7,g n (znL _)]
     simp only [zbS,zft]
     rw [if_pos hb]
    ·have t1:=o.top
     have u1:=o.up
     simp only at t1 u1
     obtain ⟨n2,a,g2,o2⟩:=IH (k-1) (by omega) body ((bn,c2.slots.length)::env) {c2 with slots:=c2.slots ++ [some v],steps:=c2.steps+1} (by simp only; omega) (by simp only; omega) hu.1 hu.2.1 (by
       intro p hp
       simp only [List.length_append,List.length_singleton]
       simp only [zmC] at hp
       rcases hp with rfl | hp
       ·simp
       ·exact Nat.lt_succ_of_lt (hu.2.2 p hp)) (by
       intro w hw'
       simp only [List.length_append,List.length_singleton,zmA,List.mem_singleton,zsI] at hw' ⊢
       rcases hw' with hw' | rfl
       ·exact (o.slots w hw').mono (by simp)
       ·exact hw.mono (by simp))
     refine ⟨max n n2+1,a,?_,(o2.trans (st:=c2) (by simp) (by simp)).trans o.len o.up⟩
     rw [zb7,g _ (by omega)]
     simp only [zbS,zft]
     rw [if_neg hb]
     exact za3 (by omega) g2
   | num _=>exact ⟨n+1,(none,c2),by rw [zb7,g n (znL _)]; rfl,stop _ rfl rfl⟩
   | truth _=>exact ⟨n+1,(none,c2),by rw [zb7,g n (znL _)]; rfl,stop _ rfl rfl⟩
   | pair _ _=>exact ⟨n+1,(none,c2),by rw [zb7,g n (znL _)]; rfl,stop _ rfl rfl⟩
   | side s =>
    refine ⟨n+1,(znw v s,c2),by rw [zb7,g n (znL _)]; rfl,?_⟩
    cases v with
    | pair a b =>
     refine ⟨o.slots,fun w q => ?_,o.len,o.up,o.top⟩
     simp only [znw,zsI] at q
     subst q
     split
     ·exact hw.2
     ·exact hw.1
    | num _=>exact stop _ rfl rfl
    | truth _=>exact stop _ rfl rfl
    | side _=>exact stop _ rfl rfl
    | clo _ _ _ _ _ _=>exact stop _ rfl rfl
 | cond fr to c x y ihc ihx ihy =>
  intro e st h1 h2 h3 h4 h5 h6
  simp only [T.freeS,Option.or_eq_none_iff] at h3
  obtain ⟨n,⟨a1,a2⟩,g,o⟩:=ihc e st h1 h2 h3.1.1 h4.1 h5 h6
  have u:=o.up
  simp only at u
  cases a1 with
  | none=>exact ⟨n+1,(none,a2),by simp only [zap]; rw [g]; rfl,o⟩
  | some v =>
   by_cases hv:v = .truth true
   ·obtain ⟨n2,b,g2,o2⟩:=ihx e a2 o.top (by omega) h3.1.2 h4.2.1 (h5.mono o.len) o.slots
    refine ⟨max n n2+1,b,?_,o2.trans o.len o.up⟩
    simp only [zap]
    rw [za3 (by omega) g]
    simp only [zbS]
    rw [if_pos hv]
    exact za3 (by omega) g2
   ·obtain ⟨n2,b,g2,o2⟩:=ihy e a2 o.top (by omega) h3.2 h4.2.2 (h5.mono o.len) o.slots
    refine ⟨max n n2+1,b,?_,o2.trans o.len o.up⟩
    simp only [zap]
    rw [za3 (by omega) g]
    simp only [zbS]
    rw [if_neg hv]
    exact za3 (by omega) g2
 | lett fr to rc bn bat d b ihd ihb =>
  intro e st h1 h2 h3 h4 h5 h6
  simp only [T.freeS,Option.or_eq_none_iff] at h3
  have hE:∀N,st.slots.length<N->OkE N ((bn,st.slots.length)::e):=fun N hN p hp=>by
   simp only [zmC] at hp
   rcases hp with rfl | hp
   ·exact hN
   ·have:=h5 p hp; omega
  have hS:OkS {st with slots:=st.slots ++ [none]}:=fun v hv=>by
   simp only [zmA,List.mem_singleton,reduceCtorEq,or_false] at hv
   exact (h6 v hv).mono (by simp)
  obtain ⟨n,⟨a1,a2⟩,g,o⟩:=ihd (if rc then (bn,st.slots.length)::e else e) {st with slots:=st.slots ++ [none]} h1 h2 (by
   cases rc with
   | true=>exact h3.1
   | false=>exact h3.1) h4.1 (by
   cases rc with
   | true=>exact hE _ (by simp)
   | false=>exact h5.mono (by simp)) hS
  have u:=o.up
  have ln:=o.len
  simp only [List.length_append,List.length_singleton] at u ln
  cases a1 with
  | none=>exact ⟨n+1,(none,a2),by simp only [zap]; rw [g]; rfl,OkOut.trans (st' := {st with slots:=st.slots ++ [none]}) (by simp) (znL _) o⟩
  | some x =>
   have hx:=o.val x rfl
   obtain ⟨n2,c,g2,o2⟩:=ihb ((bn,st.slots.length)::e) {a2 with slots:=a2.slots.set st.slots.length (some x)} o.top (by simp only; omega) h3.2 h4.2 (hE _ (by simp; omega)) (fun v hv=>by
    simp only [List.length_set]
    rcases List.mem_or_eq_of_mem_set hv with hv | hv
    ·exact o.slots v hv
    ·cases hv; exact hx)
   refine ⟨max n n2+1,c,?_,OkOut.trans (st' := {a2 with slots:=a2.slots.set st.slots.length (some x)}) (by simp; omega) u o2⟩
   simp only [zap]
   rw [za3 (by omega) g]
   simp only [zbS]
   exact za3 (by omega) g2
theorem yeu {t:T} (hf:t.freeS []=none) (hi:t.fit) (bud:Nat):∃n r,runS n t bud=some r:=by
 obtain ⟨n,⟨a1,a2⟩,g,_⟩:=yet bud bud t [] ⟨[],0,0⟩ (Nat.zero_le _) (Nat.sub_le _ _) hf hi (fun p hp=>by cases hp) (fun v hv=>by cases hv)
 cases a1 with
 | none=>exact ⟨n,_,by unfold runS; rw [g]; rfl⟩
 | some v=>exact ⟨n,_,by unfold runS; rw [g]; rfl⟩
open Go
structure yd6 (l:List UInt8) (P:T->Prop):Prop where
 leaf:∀ {t:Tok} {x:T},zeq l t=some x->P x
 none:P (.name 0 0 [])
 bracket:∀ {f t:Nat} {x:T},P x->P (.bracket f t x)
 pair:∀ {f t:Nat} {x y:T},P x->P y->P (.pair f t x y)
 call:∀ {f t:Nat} {x y:T},P x->P y->P (.call f t x y)
 binary:∀ {f t:Nat} {s:Int} {x y:T},P x->P y->P (.binary f t s x y)
 cond:∀ {f t:Nat} {x y z:T},P x->P y->P z->P (.cond f t x y z)
 fn:∀ {f t k:Nat} {n:List UInt8} {x:T},P x->P (.fn f t n k x)
 lett:∀ {f t k:Nat} {r:Bool} {n:List UInt8} {x y:T},P x->P y->P (.lett f t r n k x y)
variable {l : List UInt8} {ts : List Tok}
structure PAll (l:List UInt8) (ts:List Tok) (P:T->Prop) (n:Nat):Prop where
 expr:∀ {s s':PS} {r:T},za6 l ts n s=some (r,s')->P r
 lett:∀ {s s':PS} {r:T},letS l ts n s=some (r,s')->P r
 fn:∀ {s s':PS} {r:T},funS l ts n s=some (r,s')->P r
 cond:∀ {s s':PS} {r:T},zco l ts n s=some (r,s')->P r
 cmp:∀ {s s':PS} {r:T},cmpS l ts n s=some (r,s')->P r
 sum:∀ {s s':PS} {r:T},sumS l ts n s=some (r,s')->P r
 term:∀ {s s':PS} {r:T},zci l ts n s=some (r,s')->P r
 part:∀ {p:Part} {s s':PS} {r:T},zbc l ts n p s=some (r,s')->P r
 chain:∀ {p:Part} {g:List Int} {s s':PS} {r:T},zbf l ts n p g s=some (r,s')->P r
 chainFrom:∀ {p:Part} {g:List Int} {a:T} {s s':PS} {r:T},P a->zan l ts n p g a s=some (r,s')->P r
 call:∀ {s s':PS} {r:T},zcc l ts n s=some (r,s')->P r
 callFrom:∀ {a:T} {s s':PS} {r:T},P a->zar l ts n a s=some (r,s')->P r
 atom:∀ {s s':PS} {r:T},zbv l ts n s=some (r,s')->P r
 bracket:∀ {s s':PS} {r:T},za0 l ts n s=some (r,s')->P r
theorem zy1 {P:T->Prop} (K:yd6 l P):∀n,PAll l ts P n
 | 0=>by constructor <;> (intros; rename_i h; simp [za6,letS,funS,zco,cmpS,sumS,zci,zbc,zbf,zan,zcc,zar,zbv,za0] at h)
 | n+1=>by
  have ih:=zy1 K n
  constructor
  case expr =>
   intro s s' r h
   rw [za6] at h
   obtain ⟨t,_,h⟩:=zbE.1 h
   split at h
   ·exact ih.lett h
   split at h
   ·exact ih.fn h
   split at h
   ·exact ih.cond h
   ·exact ih.cmp h
  case lett =>
   intro s s' r h
   simp only [letS,zbE,zsI,zpI,Prod.exists] at h
   obtain ⟨k,t1,h1,rc,t2,h2,bn,bat,t3,h3,c4,t4,h4,d,t5,h5,c6,t6,h6,x,t7,h7,t8,h8,rfl,rfl⟩:=h
   exact K.lett (ih.expr h5) (ih.expr h7)
  case fn =>
   intro s s' r h
   simp only [funS,zbE,zsI,zpI,Prod.exists] at h
   obtain ⟨k,t1,h1,bn,bat,t3,h3,c4,t4,h4,d,t5,h5,t8,h8,rfl,rfl⟩:=h
   exact K.fn (ih.expr h5)
  case cond =>
   intro s s' r h
   simp only [zco,zbE,zsI,zpI,Prod.exists] at h
   obtain ⟨k,t1,h1,x,t2,h2,c3,t3,h3,y,t4,h4,c5,t5,h5,z,t6,h6,t8,h8,rfl,rfl⟩:=h
   exact K.cond (ih.expr h2) (ih.expr h4) (ih.expr h6)
  case cmp =>
   intro s s' r h
   simp only [cmpS,zbE,Prod.exists] at h
   obtain ⟨x,t1,h1,sg,t2,h2,h⟩:=h
   split at h
   ·cases h; exact ih.sum h1
   ·simp only [zbE,zsI,zpI,Prod.exists] at h
    obtain ⟨y,t3,h3,rfl,rfl⟩:=h
    exact K.binary (ih.sum h1) (ih.sum h3)
  case sum =>
   intro s s' r h
   rw [sumS] at h
   exact ih.chain h
  case term =>
   intro s s' r h
   rw [zci] at h
   exact ih.chain h
  case part =>
   intro p s s' r h
   cases p with
   | term=>rw [zbc] at h; exact ih.term h
   | call=>rw [zbc] at h; exact ih.call h
  case chain =>
   intro p g s s' r h
   simp only [zbf,zbE,Prod.exists] at h
   obtain ⟨a,t1,h1,h2⟩:=h
   exact ih.chainFrom (ih.part h1) h2
  case chainFrom =>
   intro p g a s s' r ha h
   simp only [zan,zbE,Prod.exists] at h
   obtain ⟨k,t1,h1,h⟩:=h
   split at h
   ·cases h; exact ha
   ·simp only [zbE,Prod.exists] at h
    obtain ⟨c,t2,h2,h3⟩:=h
    exact ih.chainFrom (K.binary ha (ih.part h2)) h3
  case call =>
   intro s s' r h
   simp only [zcc,zbE,Prod.exists] at h
   obtain ⟨a,t1,h1,h2⟩:=h
   exact ih.callFrom (ih.atom h1) h2
  case callFrom =>
   intro a s s' r ha h
   simp only [zar,zbE] at h
   obtain ⟨t,ht,h⟩:=h
   split at h
   ·simp only [zbE,Prod.exists] at h
    obtain ⟨c,t3,h2,h3⟩:=h
    exact ih.callFrom (K.call ha (ih.atom h2)) h3
   ·cases h; exact ha
  case atom =>
   intro s s' r h
   simp only [zbv,zbE] at h
   obtain ⟨t,ht,h⟩:=h
   split at h
   ·exact ih.bracket h
   split at h
   ·simp only [zbE,zsI,zpI,Prod.exists] at h
    obtain ⟨c,t3,h2,x,h3,rfl,rfl⟩:=h
    exact K.leaf h3
   ·simp only [zbE,zsI,zpI] at h
    obtain ⟨_,h2,rfl,rfl⟩:=h
    exact K.none
  case bracket =>
   intro s s' r h
   simp only [za0,zbE,Prod.exists] at h
   obtain ⟨k,t1,h1,x,t2,h2,sg,t3,h3,h⟩:=h
   split at h
   ·simp only [zbE,zsI,zpI,Prod.exists] at h
    obtain ⟨y,t4,h4,c5,t5,h5,t6,h6,rfl,rfl⟩:=h
    exact K.pair (ih.expr h2) (ih.expr h4)
   ·simp only [zbE,zsI,zpI,Prod.exists] at h
    obtain ⟨c5,t5,h5,t6,h6,rfl,rfl⟩:=h
    exact K.bracket (ih.expr h2)
theorem ya9 {P:T->Prop} (K:yd6 l P) {n:Nat} {t:T} (h:zb9 l ts n=some (.ok t)):P t:=by
 unfold zb9 at h
 obtain ⟨⟨x,s⟩,hx,h⟩:=zbE.1 h
 obtain ⟨r,_,h⟩:=zbE.1 h
 simp only [zsI] at h
 split at h
 ·cases h
 ·cases h
  exact (zy1 K n).expr hx
theorem zpk {l:List UInt8} {v:Int} (h:Lib.parseIntB 64 l = .ok v) : -9223372036854775808<=v/\v<=9223372036854775807:=by
 unfold Lib.parseIntB at h
 split at h
 ·cases h
 ·simp only at h
  split at h
  ·cases h
  ·cases h
  ·split at h
   ·cases h
   ·split at h
    ·cases h
    ·rename_i h1 h2
     cases h
     split <;> omega
theorem yba (l:List UInt8):yd6 l T.fit where
 leaf:=by
  intro t x h
  unfold zeq at h
  split at h
  ·split at h
   ·obtain ⟨v,hv,h⟩:=zbE.1 h
    cases h
    unfold zfs at hv
    split at hv
    ·rename_i v' hv'
     cases hv
     exact zpk hv'
    ·cases hv
   ·cases h
  split at h
  ·cases h; exact trivial
  split at h
  ·cases h; exact trivial
  split at h
  ·cases h; exact trivial
  ·cases h
 none:=trivial
 bracket:=fun h=>h
 pair:=fun h k=>⟨h,k⟩
 call:=fun h k=>⟨h,k⟩
 binary:=fun h k=>⟨h,k⟩
 cond:=fun h k j=>⟨h,k,j⟩
 fn:=fun h=>h
 lett:=fun h k=>⟨h,k⟩
theorem ybb {n:Nat} {t:T} (h:zb9 l ts n=some (.ok t)):t.fit:=ya9 (yba l) h
end Go.Proofs.YtckhafpejefbbaaGreatDoor.Tw 
namespace Go.Proofs.YtckhafpejefbbaaGreatDoor.Tw
open Go
def shM (d:Nat):Mv:=⟨fun p=>d+p,fun q=>d+q,fun _ v=>v,fun _ x=>x⟩
structure At (st:PS) (k d:Nat):Prop where
 go:st.stuck=false
 next:st.next=k
 depth:st.depth=d
section
variable {l : List UInt8} {ts : List Tok} {st st' : PS} {k d : Nat} {u : Tok}
end
theorem zxt {l:List UInt8} {body:List Tok} {e1:Tok} (hb:∀t∈body,t.sort≠0) {n:Nat} {t:T} (h:zb9 l (body ++ [e1]) n=some (.ok t)):∃s,za6 l (body ++ [e1]) n ⟨0,0,false,0⟩=some (t,s)/\s.stuck=false/\(s.next<=body.length->s.next=body.length):=by
 unfold zb9 at h
 obtain ⟨⟨x,s1⟩,hx,h⟩:=zbE.1 h
 obtain ⟨⟨k,s2⟩,hk,h⟩:=zbE.1 h
 simp only [zsI] at h hk
 have hs2:s2.stuck=false:=by
  cases hq:s2.stuck
  ·rfl
  ·rw [hq] at h; simp at h
 rw [hs2] at h
 simp only [Bool.false_eq_true,if_false,Except.ok.injEq] at h
 subst h
 have hs1:=(zai hk).1 hs2
 refine ⟨s1,hx,hs1,fun hle => ?_⟩
 rcases Nat.lt_or_ge s1.next body.length with hlt | hge
 ·exfalso
  have ht:tokS (body ++ [e1]) s1=some body[s1.next]:=by
   unfold tokS
   rw [hs1]
   simp [List.getElem?_append_left hlt,List.getElem?_eq_getElem hlt]
  unfold zbe at hk
  rw [ht,zbS,if_neg (hb _ (List.getElem_mem hlt))] at hk
  obtain ⟨s9,q9,hk⟩:=zbE.1 hk
  cases hk
  rw [(zcm q9).1] at hs2
  cases hs2
 ·omega
end Go.Proofs.YtckhafpejefbbaaGreatDoor.Tw 
namespace Go.Proofs.YtckhafpejefbbaaGreatDoor.Tw
open Go
def zz9:List UInt8:=[122,122,57]
section
variable {s : List UInt8} {body : List Tok} {fp : Nat} {t : T} (hL : Lex 0 s body) (hp : zb9 s (body ++ [⟨0, s.length, s.length⟩]) fp = some (.ok t)) (hl : s.length <= 100)
include hL
include hp hl
end
end Go.Proofs.YtckhafpejefbbaaGreatDoor.Tw 
namespace Go.Proofs.YtckhafpejefbbaaGreatDoor.Tw
open Go
inductive zzm (t:T):Nat->T->Prop
 | lett {f t0 b f1 t1 d:Nat}:zzm t 0 (.lett f t0 false zz9 b (t.re (shM d)) (.name f1 t1 zz9))
 | fst {f1 t1 f2 t2 f3 t3 f4 t4 f5 t5 d:Nat}:zzm t 1 (.call f1 t1 (.side f2 t2 false) (.pair f3 t3 (.bracket f4 t4 (t.re (shM d))) (.int f5 t5 1)))
 | cond {f1 t1 f2 t2 f3 t3 d d':Nat}:zzm t 2 (.cond f1 t1 (.truth f2 t2 true) (t.re (shM d)) (.bracket f3 t3 (t.re (shM d'))))
 | snd {f1 t1 f2 t2 f3 t3 f4 t4 f5 t5 f6 t6 f7 t7 b7 f8 t8 f9 t9 d:Nat}:zzm t 3 (.call f1 t1 (.side f2 t2 true) (.pair f3 t3 (.int f4 t4 1) (.call f5 t5 (.bracket f6 t6 (.fn f7 t7 zz9 b7 (.name f8 t8 zz9))) (.bracket f9 t9 (t.re (shM d))))))
open Go
theorem ze4 {fo:Nat} {t t1:T} {sh:List UInt8} (h:zgu fo t=some (.fine t1 sh)):t1=t/\t.freeS []=none/\(∃w,zaj t .nil=some w/\w<=2000)/\ofS fo t=some (some sh):=by
 unfold zgu at h
 cases hf:t.freeS [] with
 | some p=>rw [hf] at h; cases h
 | none =>
  rw [hf] at h
  simp only [zbE] at h
  obtain ⟨k,hk,h⟩:=h
  split at h
  ·cases h
  ·rename_i hl
   simp only [zbE] at h
   obtain ⟨o,ho,h⟩:=h
   cases o with
   | none=>cases h
   | some s=>cases h; exact ⟨rfl,rfl,⟨k,hk,by omega⟩,ho⟩
theorem yc8 {fp fo:Nat} {l:List UInt8} {t:T} {sh:List UInt8} (h:zcd fp fo l=some (.fine t sh)) (bud:Nat):∃n r,runS n t bud=some r:=by
 obtain ⟨_,body,_,_,hp,htr⟩:=zcw h
 exact yeu (ze4 htr).2.1 (ybb hp) bud
open Go
abbrev AE:=List (List UInt8×List UInt8)
def zl0:AE->List UInt8->List UInt8->Prop
 | [],x,y=>x=y
 | (a,b)::E,x,y=>(a=x/\b=y)\/(a≠x/\b≠y/\zl0 E x y)
inductive Al:AE->T->T->Prop
 | name {E:AE} {f t f' t':Nat} {x y:List UInt8} (h:zl0 E x y):Al E (.name f t x) (.name f' t' y)
 | int {E:AE} {f t f' t':Nat} {v:Int}:Al E (.int f t v) (.int f' t' v)
 | truth {E:AE} {f t f' t':Nat} {v:Bool}:Al E (.truth f t v) (.truth f' t' v)
 | side {E:AE} {f t f' t':Nat} {v:Bool}:Al E (.side f t v) (.side f' t' v)
 | bracket {E:AE} {f t f' t':Nat} {i i':T} (h:Al E i i'):Al E (.bracket f t i) (.bracket f' t' i')
 | pair {E:AE} {f t f' t':Nat} {x y x' y':T} (h:Al E x x') (k:Al E y y'):Al E (.pair f t x y) (.pair f' t' x' y')
 | call {E:AE} {f t f' t':Nat} {x y x' y':T} (h:Al E x x') (k:Al E y y'):Al E (.call f t x y) (.call f' t' x' y')
 | binary {E:AE} {f t f' t':Nat} {s:Int} {x y x' y':T} (h:Al E x x') (k:Al E y y'):Al E (.binary f t s x y) (.binary f' t' s x' y')
 | cond {E:AE} {f t f' t':Nat} {x y z x' y' z':T} (h:Al E x x') (k:Al E y y') (j:Al E z z'):Al E (.cond f t x y z) (.cond f' t' x' y' z')
 | fn {E:AE} {f t f' t' b b':Nat} {n n':List UInt8} {x x':T} (h:Al ((n,n')::E) x x'):Al E (.fn f t n b x) (.fn f' t' n' b' x')
 | lett {E:AE} {f t f' t' b b':Nat} {r:Bool} {n n':List UInt8} {x x' y y':T} (h:Al (if r then (n,n')::E else E) x x') (k:Al ((n,n')::E) y y'):Al E (.lett f t r n b x y) (.lett f' t' r n' b' x' y')
theorem zkj {x y:List UInt8}:∀ {E:AE},zl0 E x y->(E.map (·.1)).contains x=(E.map (·.2)).contains y
 | [],_=>rfl
 | (a,b)::E,h=>by
  simp only [List.map_cons,List.contains_cons]
  rcases h with ⟨rfl,rfl⟩ | ⟨h1,h2,h3⟩
  ·simp
  ·rw [zkj h3]
   have e1:(x==a)=false:=by simpa using fun e=>h1 e.symm
   have e2:(y==b)=false:=by simpa using fun e=>h2 e.symm
   rw [e1,e2]
theorem Al.free {E:AE} {t t':T} (h:Al E t t'):t.freeS (E.map (·.1))=none↔t'.freeS (E.map (·.2))=none:=by
 induction h with
 | name h=>simp only [T.freeS,zkj h]; split <;> simp
 | int=>simp [T.freeS]
 | truth=>simp [T.freeS]
 | side=>simp [T.freeS]
 | bracket _ ih=>exact ih
 | pair _ _ ih1 ih2=>simp only [T.freeS,Option.or_eq_none_iff]; rw [ih1,ih2]
 | call _ _ ih1 ih2=>simp only [T.freeS,Option.or_eq_none_iff]; rw [ih1,ih2]
 | binary _ _ ih1 ih2=>simp only [T.freeS,Option.or_eq_none_iff]; rw [ih1,ih2]
 | cond _ _ _ ih1 ih2 ih3=>simp only [T.freeS,Option.or_eq_none_iff]; rw [ih1,ih2,ih3]
 | fn _ ih=>simpa [T.freeS] using ih
 | @lett E f t f' t' b b' r n n' x x' y y' _ _ ih1 ih2 =>
  simp only [T.freeS,Option.or_eq_none_iff]
  have:∀(p:List UInt8×List UInt8->List UInt8),(if r then (n,n')::E else E).map p=if r then p (n,n')::E.map p else E.map p:=fun p=>by cases r <;> rfl
  rw [this,this] at ih1
  rw [ih1]
  simp only [List.map_cons] at ih2
  rw [ih2]
inductive WRel:AE->WEn->WEn->Prop
 | nil:WRel [] .nil .nil
 | cons {E:AE} {a b:List UInt8} {k:Nat} {o o':WEn} (h:WRel E o o'):WRel ((a,b)::E) (.cons a k o) (.cons b k o')
theorem WRel.look {E:AE} {e e':WEn} (h:WRel E e e') {x y:List UInt8} (hl:zl0 E x y):e.look x=e'.look y:=by
 induction h with
 | nil=>rfl
 | cons _ ih =>
  simp only [WEn.look]
  rcases hl with ⟨h1,h2⟩ | ⟨h1,h2,h3⟩
  ·rw [if_pos h1,if_pos h2]
  ·rw [if_neg h1,if_neg h2]
   exact ih h3
theorem Al.weight {E:AE} {t t':T} (h:Al E t t'):∀ {e e':WEn},WRel E e e'->zaj t e=zaj t' e':=by
 induction h with
 | name h=>intro e e' hr; simp only [zaj]; rw [hr.look h]
 | int=>intro e e' hr; rfl
 | truth=>intro e e' hr; rfl
 | side=>intro e e' hr; rfl
 | bracket _ ih=>intro e e' hr; simp only [zaj]; rw [ih hr]
 | pair _ _ ih1 ih2=>intro e e' hr; simp only [zaj]; rw [ih1 hr,ih2 hr]
 | call _ _ ih1 ih2=>intro e e' hr; simp only [zaj]; rw [ih1 hr,ih2 hr]
 | binary _ _ ih1 ih2=>intro e e' hr; simp only [zaj]; rw [ih1 hr,ih2 hr]
 | cond _ _ _ ih1 ih2 ih3=>intro e e' hr; simp only [zaj]; rw [ih1 hr,ih2 hr,ih3 hr]
 | fn _ ih=>intro e e' hr; simp only [zaj]; rw [ih (.cons hr)]
 | @lett E f t f' t' b b' r n n' x x' y y' _ _ ih1 ih2 =>
  intro e e' hr
  simp only [zaj]
  have:zaj x (if r then .cons n 1 e else e)=zaj x' (if r then .cons n' 1 e' else e'):=by
   cases r with
   | true=>exact ih1 (.cons hr)
   | false=>exact ih1 hr
  rw [this]
  cases zaj x' (if r then .cons n' 1 e' else e') with
  | none=>rfl
  | some a=>simp only [zbS]; rw [ih2 (.cons hr)]
inductive ERel:AE->En->En->Prop
 | nil:ERel [] .nil .nil
 | fix {E:AE} {a b:List UInt8} {r:Nat} {o o':En} (h:ERel E o o'):ERel ((a,b)::E) (.fix a r o) (.fix b r o')
 | dfn {E:AE} {a b:List UInt8} {t t':T} {o o':En} (h:ERel E o o') (k:Al E t t'):ERel ((a,b)::E) (.dfn a t o) (.dfn b t' o')
theorem ERel.look {E:AE} {e e':En} (h:ERel E e e') {x y:List UInt8} (hl:zl0 E x y) :
  (e.look x=none/\e'.look y=none)\/(∃r,e.look x=some (.inl r)/\e'.look y=some (.inl r))\/∃t t' o o' E',e.look x=some (.inr (t,o))/\e'.look y=some (.inr (t',o'))/\ERel E' o o'/\Al E' t t':=by
 induction h with
 | nil=>exact .inl ⟨rfl,rfl⟩
 | @fix E a b r o o' _ ih =>
  simp only [En.look]
  rcases hl with ⟨h1,h2⟩ | ⟨h1,h2,h3⟩
  ·rw [if_pos h1,if_pos h2]
   exact .inr (.inl ⟨r,rfl,rfl⟩)
  ·rw [if_neg h1,if_neg h2]
   exact ih h3
 | @dfn E a b t t' o o' h k ih =>
  simp only [En.look]
  rcases hl with ⟨h1,h2⟩ | ⟨h1,h2,h3⟩
  ·rw [if_pos h1,if_pos h2]
   exact .inr (.inr ⟨t,t',o,o',E,rfl,rfl,h,k⟩)
  ·rw [if_neg h1,if_neg h2]
   exact ih h3
theorem Al.infer:∀(n:Nat),(∀ {E:AE} {t t':T} {e e':En} (st:SS),Al E t t'->ERel E e e'->zav n t e st=zav n t' e' st)/\(∀ {E:AE} {t t':T} {e e':En} (st:SS),Al E t t'->ERel E e e'->defS n t e st=defS n t' e' st)
 | 0=>⟨fun st h _=>by cases h <;> rfl,fun st h _=>by cases h <;> rfl⟩
 | n+1=>by
  obtain ⟨ih,ihd⟩:=Al.infer n
  constructor
  ·intro E t t' e e' st h hr
   have h0:=h
   cases h with
   | name h =>
    simp only [zav]
    rcases hr.look h with ⟨q1,q2⟩ | ⟨r,q1,q2⟩ | ⟨t,t',o,o',E',q1,q2,q3,q4⟩
    ·rw [q1,q2]
    ·rw [q1,q2]
    ·rw [q1,q2]
     exact ihd st q4 q3
   | int=>rfl
   | truth=>rfl
   | side=>rfl
   | bracket h=>simp only [zav]; exact ih st h hr
   | pair h k =>
    simp only [zav]
    rw [ih st h hr]
    refine Option.bind_congr fun a _ => ?_
    rw [ih a.2 k hr]
   | call h k =>
    simp only [zav]
    rw [ih st h hr]
    refine Option.bind_congr fun a _ => ?_
    rw [ih a.2 k hr]
   | binary h k =>
    simp only [zav]
    rw [ih st h hr]
    refine Option.bind_congr fun a _ => ?_
    refine Option.bind_congr fun b _ => ?_
    rw [ih b k hr]
   | cond h k j =>
    simp only [zav]
    rw [ih st h hr]
    refine Option.bind_congr fun a _ => ?_
    refine Option.bind_congr fun b _ => ?_
    rw [ih b k hr]
    refine Option.bind_congr fun c _ => ?_
    rw [ih c.2 j hr]
   | fn h =>
    simp only [zav]
    refine Option.bind_congr fun a _ => ?_
    rw [ih a.2 h (.fix hr)]
   | lett h k =>
    simp only [zav]
    rw [ihd st h0 hr]
    refine Option.bind_congr fun a _ => ?_
    exact ih a.2 k (.dfn hr h0)
  ·intro E t t' e e' st h hr
   cases h with
   | @lett _ _ _ _ _ _ _ r _ _ _ _ _ _ h k =>
    cases r with
    | false=>simp only [defS]; exact ih st h hr
    | true =>
     simp only [defS]
     refine Option.bind_congr fun a _ => ?_
     rw [ih a.2 h (.fix hr)]
   | _=>rfl
theorem Al.of {t t':T} (h:Al [] t t') (n:Nat):ofS n t=ofS n t':=by
 unfold ofS
 rw [(Al.infer n).1 _ h .nil]
inductive VERel:AE->VEnv->VEnv->Prop
 | nil:VERel [] [] []
 | cons {E:AE} {a b:List UInt8} {k:Nat} {o o':VEnv} (h:VERel E o o'):VERel ((a,b)::E) ((a,k)::o) ((b,k)::o')
theorem VERel.look {E:AE} {e e':VEnv} (h:VERel E e e') {x y:List UInt8} (hl:zl0 E x y):zd6 e x=zd6 e' y:=by
 induction h with
 | nil=>rfl
 | cons _ ih =>
  simp only [zd6]
  rcases hl with ⟨h1,h2⟩ | ⟨h1,h2,h3⟩
  ·rw [if_pos h1,if_pos h2]
  ·rw [if_neg h1,if_neg h2]
   exact ih h3
inductive VR:Val->Val->Prop
 | num {n:Int}:VR (.num n) (.num n)
 | truth {b:Bool}:VR (.truth b) (.truth b)
 | side {b:Bool}:VR (.side b) (.side b)
 | pair {l r l' r':Val} (h:VR l l') (k:VR r r'):VR (.pair l r) (.pair l' r')
 | clo {fr to fr' to' bat bat':Nat} {n n':List UInt8} {b b':T} {e e':VEnv} {E:AE} (h:VERel E e e') (k:Al ((n,n')::E) b b'):VR (.clo fr to n bat b e) (.clo fr' to' n' bat' b' e')
inductive OR:Option Val->Option Val->Prop
 | none:OR none none
 | some {v v':Val} (h:VR v v'):OR (some v) (some v')
structure SR (st st':RS):Prop where
 len:st.slots.length=st'.slots.length
 get:∀(i:Nat) (o:Option Val),st.slots[i]? = some o->∃o',st'.slots[i]? = some o'/\OR o o'
 steps:st.steps=st'.steps
 fin:st.fin=st'.fin
theorem SR.push {st st':RS} (h:SR st st') {o o':Option Val} (ho:OR o o') (k:Nat):SR {st with slots:=st.slots ++ [o],steps:=k} {st' with slots:=st'.slots ++ [o'],steps:=k}:=by
 refine ⟨by simp [h.len],fun i x hx => ?_,rfl,h.fin⟩
 simp only at hx ⊢
 rcases Nat.lt_trichotomy i st.slots.length with hi | hi | hi
 ·rw [List.getElem?_append_left hi] at hx
  obtain ⟨o',h1,h2⟩:=h.get i x hx
  exact ⟨o',by rw [List.getElem?_append_left (by rw [<-h.len]; exact hi)]; exact h1,h2⟩
 ·subst hi
  rw [List.getElem?_append_right (znL _)] at hx
  simp only [Nat.sub_self,List.getElem?_cons_zero,zsI] at hx
  subst hx
  exact ⟨o',by rw [h.len,List.getElem?_append_right (znL _)]; simp,ho⟩
 ·rw [List.getElem?_eq_none (by simp; omega)] at hx
  cases hx
theorem SR.set {st st':RS} (h:SR st st') {o o':Option Val} (ho:OR o o') (j:Nat):SR {st with slots:=st.slots.set j o} {st' with slots:=st'.slots.set j o'}:=by
 refine ⟨by simp [h.len],fun i x hx => ?_,h.steps,h.fin⟩
 simp only [List.getElem?_set] at hx ⊢
 split at hx
 ·rename_i hij
  split at hx
  ·rename_i hlt
   cases hx
   rw [if_pos hij,if_pos (by rw [<-h.len]; exact hlt)]
   exact ⟨o',rfl,ho⟩
  ·cases hx
 ·rename_i hij
  rw [if_neg hij]
  exact h.get i x hx
theorem SR.fin' {st st':RS} (h:SR st st') (f:Int):SR {st with fin:=f} {st' with fin:=f}:=⟨h.len,h.get,h.steps,rfl⟩
theorem VR.asNum {v v':Val} (h:VR v v'):asNum v=asNum v':=by cases h <;> rfl
theorem VR.write {v v':Val} (h:VR v v'):∀acc,zdd v acc=zdd v' acc:=by
 induction h with
 | num=>intro acc; rfl
 | truth=>intro acc; rfl
 | side=>intro acc; rfl
 | pair _ _ ih1 ih2=>intro acc; simp only [zdd]; rw [ih1,ih2]
 | clo=>intro acc; rfl
theorem VR.isTrue {v v':Val} (h:VR v v'):v = .truth true↔v' = .truth true:=by cases h <;> simp
def Same (a a':Option (Option Val×RS)):Prop:=∀r,a=some r->∃r',a'=some r'/\OR r.1 r'.1/\SR r.2 r'.2
theorem zu3 (s a b:Int) {st st':RS} (h:SR st st'):OR (zck s a b st).1 (zck s a b st').1/\SR (zck s a b st).2 (zck s a b st').2:=by
 unfold zck
 split
 ·exact ⟨.some .num,h⟩
 split
 ·exact ⟨.some .num,h⟩
 split
 ·exact ⟨.some .num,h⟩
 split
 ·exact ⟨.some .truth,h⟩
 split
 ·exact ⟨.some .truth,h⟩
 split
 ·exact ⟨.none,h.fin' 1⟩
 ·exact ⟨.some .num,h⟩
theorem Al.eval (bud:Nat):∀(n:Nat) {E:AE} {t t':T} {e e':VEnv} {st st':RS},Al E t t'->VERel E e e'->SR st st'->Same (zap bud n t e st) (zap bud n t' e' st')
 | 0,_,_,_,_,_,_,_,h,_,_=>by intro r hr; cases h <;> cases hr
 | n+1,E,t,t',e,e',st,st',h,hE,hS=>by
  have both:∀ {x y x' y':T},Al E x x'->Al E y y'->∀c,zdl bud n x y e st=some c->∃c',zdl bud n x' y' e' st'=some c'/\SR c.2 c'.2/\((c.1=none/\c'.1=none)\/∃u v u' v',c.1=some (u,v)/\c'.1=some (u',v')/\VR u u'/\VR v v'):=by
   intro x y x' y' h k c hc
   unfold zdl at hc ⊢
   obtain ⟨⟨a1,a2⟩,h1,hc⟩:=zbE.1 hc
   obtain ⟨⟨b1,b2⟩,g1,o1,s1⟩:=Al.eval bud n h hE hS _ h1
   rw [g1]
   simp only [zbS] at hc ⊢
   cases o1 with
   | none =>
    cases hc
    exact ⟨_,rfl,s1,.inl ⟨rfl,rfl⟩⟩
   | some v1 =>
    simp only at hc ⊢
    obtain ⟨⟨a3,a4⟩,h2,hc⟩:=zbE.1 hc
    obtain ⟨⟨b3,b4⟩,g2,o2,s2⟩:=Al.eval bud n k hE s1 _ h2
    rw [g2]
    simp only [zbS] at hc ⊢
    cases o2 with
    | none =>
     cases hc
     exact ⟨_,rfl,s2,.inl ⟨rfl,rfl⟩⟩
    | some v2 =>
     cases hc
     exact ⟨_,rfl,s2,.inr ⟨_,_,_,_,rfl,rfl,v1,v2⟩⟩
  intro r hr
  cases h with
  | @name _ f t f' t' x y h =>
   simp only [zap] at hr ⊢
   rw [<-hE.look h]
   obtain ⟨i,hi,hr⟩:=zbE.1 hr
   rw [hi]
   simp only [zbS]
   cases hg:st.slots[i]? with
   | none=>rw [hg] at hr; cases hr
   | some o =>
    obtain ⟨o',h1,h2⟩:=hS.get i o hg
    rw [hg] at hr
    rw [h1]
    cases h2 with
    | none=>cases hr; exact ⟨_,rfl,.none,hS.fin' 1⟩
    | some hv=>cases hr; exact ⟨_,rfl,.some hv,hS⟩
  | int =>
   simp only [zap] at hr ⊢
   split at hr
   ·rename_i hc
    cases hr
    rw [if_pos hc]
    exact ⟨_,rfl,.some .num,hS⟩
   ·cases hr
  | truth=>cases hr; exact ⟨_,rfl,.some .truth,hS⟩
  | side=>cases hr; exact ⟨_,rfl,.some .side,hS⟩
  | bracket h=>exact Al.eval bud n h hE hS r hr
  | pair h k =>
   rw [zdy] at hr ⊢
   obtain ⟨c,hc,hr⟩:=zbE.1 hr
   obtain ⟨⟨c1,c2⟩,g,s,hcase⟩:=both h k c hc
   rw [g]
   simp only [zbS]
   obtain ⟨c3,c4⟩:=c
   rcases hcase with ⟨q1,q2⟩ | ⟨u,v,u',v',q1,q2,q3,q4⟩
   ·simp only at q1 q2
    subst q1 q2
    cases hr
    exact ⟨_,rfl,.none,s⟩
   ·simp only at q1 q2
    subst q1 q2
    cases hr
    exact ⟨_,rfl,.some (.pair q3 q4),s⟩
  | binary h k =>
   rw [zcy] at hr ⊢
   obtain ⟨c,hc,hr⟩:=zbE.1 hr
   obtain ⟨⟨c1,c2⟩,g,s,hcase⟩:=both h k c hc
   rw [g]
   simp only [zbS]
   obtain ⟨c3,c4⟩:=c
   rcases hcase with ⟨q1,q2⟩ | ⟨u,v,u',v',q1,q2,q3,q4⟩
   ·simp only at q1 q2
    subst q1 q2
    cases hr
    exact ⟨_,rfl,.none,s⟩
   ·simp only at q1 q2
    subst q1 q2
    cases hr
    refine ⟨_,rfl,?_⟩
    rw [<-q3.asNum,<-q4.asNum]
    exact zu3 _ _ _ s
  | call h k =>
   rw [zb7] at hr ⊢
   obtain ⟨c,hc,hr⟩:=zbE.1 hr
   obtain ⟨⟨c1,c2⟩,g,s,hcase⟩:=both h k c hc
   rw [g]
   simp only [zbS]
   obtain ⟨c3,c4⟩:=c
   rcases hcase with ⟨q1,q2⟩ | ⟨u,v,u',v',q1,q2,q3,q4⟩
   ·simp only at q1 q2
    subst q1 q2
    cases hr
    exact ⟨_,rfl,.none,s⟩
   ·simp only at q1 q2
    subst q1 q2
    simp only at hr ⊢
    cases q3 with
    | num=>cases hr; exact ⟨_,rfl,.none,s⟩
    | truth=>cases hr; exact ⟨_,rfl,.none,s⟩
    | pair=>cases hr; exact ⟨_,rfl,.none,s⟩
    | side =>
     cases hr
     refine ⟨_,rfl,?_,s⟩
     cases q4 with
     | pair h k =>
      simp only [znw]
      split
      ·exact .some k
      ·exact .some h
     | num=>exact .none
     | truth=>exact .none
     | side=>exact .none
     | clo=>exact .none
    | clo hE' hb =>
     simp only [zft] at hr ⊢
     have hst:=s.steps
     simp only at hst
     rw [<-hst]
     split at hr
     ·rename_i q
      cases hr
      rw [if_pos q]
      exact ⟨_,rfl,.none,⟨s.len,s.get,rfl,rfl⟩⟩
     ·rename_i q
      rw [if_neg q]
      have hlen:=s.len
      simp only at hlen
      rw [<-hlen]
      exact Al.eval bud n hb (.cons hE') (s.push (.some q4) _) r hr
  | cond h k j =>
   simp only [zap] at hr ⊢
   obtain ⟨⟨a1,a2⟩,h1,hr⟩:=zbE.1 hr
   obtain ⟨⟨b1,b2⟩,g1,o1,s1⟩:=Al.eval bud n h hE hS _ h1
   rw [g1]
   simp only [zbS] at hr ⊢
   cases o1 with
   | none=>cases hr; exact ⟨_,rfl,.none,s1⟩
   | some hv =>
    simp only at hr ⊢
    split at hr
    ·rename_i q
     rw [if_pos (hv.isTrue.1 q)]
     exact Al.eval bud n k hE s1 r hr
    ·rename_i q
     rw [if_neg (fun z=>q (hv.isTrue.2 z))]
     exact Al.eval bud n j hE s1 r hr
  | fn h=>cases hr; exact ⟨_,rfl,.some (.clo hE h),hS⟩
  | @lett _ _ _ _ _ _ _ rc nn nn' _ _ _ _ h k =>
   simp only [zap] at hr ⊢
   obtain ⟨⟨a1,a2⟩,h1,hr⟩:=zbE.1 hr
   have hE1:VERel (if rc then (nn,nn')::E else E) (if rc then (nn,st.slots.length)::e else e) (if rc then (nn',st'.slots.length)::e' else e'):=by
    cases rc with
    | true=>rw [<-hS.len]; exact .cons hE
    | false=>exact hE
   have hS1:=hS.push .none st.steps
   obtain ⟨⟨b1,b2⟩,g1,o1,s1⟩:=Al.eval bud n h hE1 hS1 _ h1
   have e1:({st' with slots:=st'.slots ++ [none],steps:=st.steps}:RS) = {st' with slots:=st'.slots ++ [none]}:=by rw [hS.steps]
   rw [e1] at g1
   rw [g1]
   simp only [zbS] at hr ⊢
   cases o1 with
   | none=>cases hr; exact ⟨_,rfl,.none,s1⟩
   | some hv =>
    simp only at hr ⊢
    rw [<-hS.len]
    exact Al.eval bud n k (.cons hE) (s1.set (.some hv) _) r hr
theorem Al.run {t t':T} (h:Al [] t t') {n bud:Nat} {r:Int×Nat×List UInt8} (hr:runS n t bud=some r):runS n t' bud=some r:=by
 unfold runS at hr ⊢
 obtain ⟨⟨a1,a2⟩,h1,hr⟩:=zbE.1 hr
 obtain ⟨⟨b1,b2⟩,g1,o1,s1⟩:=Al.eval bud n h .nil (st:=⟨[],0,0⟩) (st':=⟨[],0,0⟩) ⟨rfl,fun i o hi=>by simp at hi,rfl,rfl⟩ _ h1
 rw [g1]
 simp only [zbS] at hr ⊢
 cases o1 with
 | none=>simp only at hr ⊢; rw [<-s1.fin,<-s1.steps]; exact hr
 | some hv=>simp only at hr ⊢; rw [<-s1.steps,<-hv.write]; exact hr
open Go
def T.places:T->List Nat
 | .name f _ _=>[f]
 | .int .. | .truth .. | .side .. => []
 | .bracket _ _ i=>i.places
 | .pair _ _ x y=>x.places++y.places
 | .call _ _ x y=>x.places++y.places
 | .binary _ _ _ x y=>x.places++y.places
 | .cond _ _ x y z=>x.places++(y.places++z.places)
 | .fn _ _ _ k x=>k::x.places
 | .lett _ _ _ _ k x y=>k::(x.places++y.places)
def T.occ (x:List UInt8):T->List (List UInt8)->List Nat
 | .name f _ z,I=>if z=x/\x∉I then [f] else []
 | .int ..,_ | .truth ..,_ | .side ..,_=>[]
 | .bracket _ _ i,I=>i.occ x I
 | .pair _ _ a b,I=>a.occ x I++b.occ x I
 | .call _ _ a b,I=>a.occ x I++b.occ x I
 | .binary _ _ _ a b,I=>a.occ x I++b.occ x I
 | .cond _ _ a b c,I=>a.occ x I++(b.occ x I++c.occ x I)
 | .fn _ _ n _ a,I=>a.occ x (n::I)
 | .lett _ _ r n _ a b,I=>a.occ x (if r then n::I else I)++b.occ x (n::I)
def T.capt (x y:List UInt8):T->List (List UInt8)->Prop
 | .name _ _ z,I=>z∉I/\(z=y\/(z=x/\y∈I))
 | .int ..,_ | .truth ..,_ | .side ..,_=>False
 | .bracket _ _ i,I=>i.capt x y I
 | .pair _ _ a b,I=>a.capt x y I\/b.capt x y I
 | .call _ _ a b,I=>a.capt x y I\/b.capt x y I
 | .binary _ _ _ a b,I=>a.capt x y I\/b.capt x y I
 | .cond _ _ a b c,I=>a.capt x y I\/(b.capt x y I\/c.capt x y I)
 | .fn _ _ n _ a,I=>a.capt x y (n::I)
 | .lett _ _ r n _ a b,I=>a.capt x y (if r then n::I else I)\/b.capt x y (n::I)
theorem zat (x:List UInt8):∀(t:T) (I:List (List UInt8)),∀f∈t.occ x I,f∈t.places
 | .name f _ z,I,g,h=>by
  simp only [T.occ] at h
  split at h
  ·exact h
  ·cases h
 | .int ..,_,_,h=>by cases h
 | .truth ..,_,_,h=>by cases h
 | .side ..,_,_,h=>by cases h
 | .bracket _ _ i,I,g,h=>zat x i I g h
 | .pair _ _ a b,I,g,h=>by
  simp only [T.occ,T.places,zmA] at h ⊢
  exact h.imp (zat x a I g) (zat x b I g)
 | .call _ _ a b,I,g,h=>by
  simp only [T.occ,T.places,zmA] at h ⊢
  exact h.imp (zat x a I g) (zat x b I g)
 | .binary _ _ _ a b,I,g,h=>by
  simp only [T.occ,T.places,zmA] at h ⊢
  exact h.imp (zat x a I g) (zat x b I g)
 | .cond _ _ a b c,I,g,h=>by
  simp only [T.occ,T.places,zmA] at h ⊢
  exact h.imp (zat x a I g) fun h=>h.imp (zat x b I g) (zat x c I g)
 | .fn _ _ n k a,I,g,h=>by
  simp only [T.places,zmC]
  exact .inr (zat x a (n::I) g h)
 | .lett _ _ r n k a b,I,g,h=>by
  simp only [T.occ,T.places,zmA,zmC] at h ⊢
  exact .inr (h.imp (zat x a _ g) (zat x b (n::I) g))
def idE (E:AE):Prop:=∀p∈E,p.1=p.2
theorem idE.look {z:List UInt8}:∀ {E:AE},idE E->zl0 E z z
 | [],_=>rfl
 | (a,b)::E,h=>by
  have e:a=b:=h (a,b) (by simp)
  subst e
  by_cases ha:a=z
  ·exact .inl ⟨ha,ha⟩
  ·exact .inr ⟨ha,ha,idE.look fun p hp=>h p (by simp [hp])⟩
theorem zy2 {z:List UInt8} {O:AE}:∀ {I:AE},idE I->z∈I.map (·.1)->zl0 (I++O) z z
 | [],_,h=>by simp at h
 | (a,b)::E,h,hz=>by
  have e:a=b:=h (a,b) (by simp)
  subst e
  by_cases ha:a=z
  ·exact .inl ⟨ha,ha⟩
  ·simp only [List.map_cons,zmC] at hz
   exact .inr ⟨ha,ha,zy2 (fun p hp=>h p (by simp [hp])) (hz.resolve_left fun q=>ha q.symm)⟩
theorem zoi {z z':List UInt8} {O:AE}:∀ {I:AE},idE I->z∉I.map (·.1)->z'∉I.map (·.1)->zl0 O z z'->zl0 (I++O) z z'
 | [],_,_,_,h=>h
 | (a,b)::E,h,h1,h2,h3=>by
  have e:a=b:=h (a,b) (by simp)
  subst e
  simp only [List.map_cons,zmC,not_or] at h1 h2
  exact .inr ⟨fun q=>h1.1 q.symm,fun q=>h2.1 q.symm,zoi (fun p hp=>h p (by simp [hp])) h1.2 h2.2 h3⟩
theorem idE.cons {E:AE} (h:idE E) (n:List UInt8):idE ((n,n)::E):=fun p hp=>by
 simp only [zmC] at hp
 rcases hp with rfl | hp
 ·rfl
 ·exact h p hp
structure yd7 (m:Mv) (S:List Nat) (y:List UInt8):Prop where
 val:∀f v,m.val f v=v
 at_:∀f x,f∈S->m.nm f x=y
 other:∀f x,f∉S->m.nm f x=x
theorem yc9 (r:Bool) (n:List UInt8) (I:AE):(if r then (n,n)::I else I).map (·.1)=if r then n::I.map (·.1) else I.map (·.1):=by cases r <;> rfl
section
variable {m : Mv} {S : List Nat} {x y : List UInt8} (M : yd7 m S y)
include M
theorem zdk:∀(t:T) {E:AE},idE E->(∀f∈t.places,f∉S)->Al E t (t.re m)
 | .name f _ z,E,hE,hp=>by
  simp only [T.re]
  rw [M.other f z (hp f (by simp [T.places]))]
  exact .name hE.look
 | .int ..,_,_,_=>by simp only [T.re,M.val]; exact .int
 | .truth ..,_,_,_=>.truth
 | .side ..,_,_,_=>.side
 | .bracket _ _ i,E,hE,hp=>.bracket (zdk i hE hp)
 | .pair _ _ a b,E,hE,hp=>.pair (zdk a hE fun f h=>hp f (by simp [T.places,h])) (zdk b hE fun f h=>hp f (by simp [T.places,h]))
 | .call _ _ a b,E,hE,hp=>.call (zdk a hE fun f h=>hp f (by simp [T.places,h])) (zdk b hE fun f h=>hp f (by simp [T.places,h]))
 | .binary _ _ _ a b,E,hE,hp=>.binary (zdk a hE fun f h=>hp f (by simp [T.places,h])) (zdk b hE fun f h=>hp f (by simp [T.places,h]))
 | .cond _ _ a b c,E,hE,hp=>.cond (zdk a hE fun f h=>hp f (by simp [T.places,h])) (zdk b hE fun f h=>hp f (by simp [T.places,h])) (zdk c hE fun f h=>hp f (by simp [T.places,h]))
 | .fn _ _ n k a,E,hE,hp=>by
  simp only [T.re]
  rw [M.other k n (hp k (by simp [T.places]))]
  exact .fn (zdk a (hE.cons n) fun f h=>hp f (by simp [T.places,h]))
 | .lett _ _ r n k a b,E,hE,hp=>by
  simp only [T.re]
  rw [M.other k n (hp k (by simp [T.places]))]
  refine .lett (zdk a ?_ fun f h=>hp f (by simp [T.places,h])) (zdk b (hE.cons n) fun f h=>hp f (by simp [T.places,h]))
  cases r
  ·exact hE
  ·exact hE.cons n
theorem zcn {O:AE} (hO:idE O):∀(t:T) {I:AE},idE I->t.places.Nodup->(∀f∈t.places,f∈S↔f∈t.occ x (I.map (·.1)))->¬t.capt x y (I.map (·.1))->Al (I++(x,y)::O) t (t.re m)
 | .name f _ z,I,hI,_,hS,hc=>by
  simp only [T.re]
  have hf:=hS f (by simp [T.places])
  simp only [T.occ] at hf
  simp only [T.capt] at hc
  by_cases hz:z∈I.map (·.1)
  ·have:f∉S:=by
    rw [hf]
    split
    ·rename_i h; exact absurd (h.1 ▸ hz) h.2
    ·simp
   rw [M.other f z this]
   exact .name (zy2 hI hz)
  ·by_cases hx:z=x
   ·subst hx
    have:f∈S:=by rw [hf,if_pos ⟨rfl,hz⟩]; simp
    rw [M.at_ f z this]
    have hy:y∉I.map (·.1):=fun hy=>hc ⟨hz,.inr ⟨rfl,hy⟩⟩
    exact .name (zoi hI hz hy (.inl ⟨rfl,rfl⟩))
   ·have:f∉S:=by rw [hf,if_neg (fun h=>hx h.1)]; simp
    rw [M.other f z this]
    have hy:z≠y:=fun h=>hc ⟨hz,.inl h⟩
    exact .name (zoi hI hz hz (.inr ⟨fun h=>hx h.symm,fun h=>hy h.symm,hO.look⟩))
 | .int ..,_,_,_,_,_=>by simp only [T.re,M.val]; exact .int
 | .truth ..,_,_,_,_,_=>.truth
 | .side ..,_,_,_,_,_=>.side
 | .bracket _ _ i,I,hI,hn,hS,hc=>.bracket (zcn hO i hI hn hS hc)
 | .pair _ _ a b,I,hI,hn,hS,hc=>by
  simp only [T.places,List.nodup_append,T.occ,T.capt,not_or] at hn hS hc
  refine .pair (zcn hO a hI hn.1 (fun f hf => ?_) hc.1) (zcn hO b hI hn.2.1 (fun f hf => ?_) hc.2)
  ·rw [hS f (by simp [hf]),zmA]
   exact ⟨fun h=>h.elim id fun h=>absurd rfl (hn.2.2 f hf f (zat x b _ f h)),.inl⟩
  ·rw [hS f (by simp [hf]),zmA]
   exact ⟨fun h=>h.elim (fun h=>absurd rfl (hn.2.2 f (zat x a _ f h) f hf)) id,.inr⟩
 | .call _ _ a b,I,hI,hn,hS,hc=>by
  simp only [T.places,List.nodup_append,T.occ,T.capt,not_or] at hn hS hc
  refine .call (zcn hO a hI hn.1 (fun f hf => ?_) hc.1) (zcn hO b hI hn.2.1 (fun f hf => ?_) hc.2)
  ·rw [hS f (by simp [hf]),zmA]
   exact ⟨fun h=>h.elim id fun h=>absurd rfl (hn.2.2 f hf f (zat x b _ f h)),.inl⟩
  ·rw [hS f (by simp [hf]),zmA]
   exact ⟨fun h=>h.elim (fun h=>absurd rfl (hn.2.2 f (zat x a _ f h) f hf)) id,.inr⟩
 | .binary _ _ _ a b,I,hI,hn,hS,hc=>by
  simp only [T.places,List.nodup_append,T.occ,T.capt,not_or] at hn hS hc
  refine .binary (zcn hO a hI hn.1 (fun f hf => ?_) hc.1) (zcn hO b hI hn.2.1 (fun f hf => ?_) hc.2)
  ·rw [hS f (by simp [hf]),zmA]
   exact ⟨fun h=>h.elim id fun h=>absurd rfl (hn.2.2 f hf f (zat x b _ f h)),.inl⟩
  ·rw [hS f (by simp [hf]),zmA]
   exact ⟨fun h=>h.elim (fun h=>absurd rfl (hn.2.2 f (zat x a _ f h) f hf)) id,.inr⟩
 | .cond _ _ a b c,I,hI,hn,hS,hc=>by
  simp only [T.places,List.nodup_append,T.occ,T.capt,not_or,zmA] at hn hS hc
  refine .cond (zcn hO a hI hn.1 (fun f hf => ?_) hc.1) (zcn hO b hI hn.2.1.1 (fun f hf => ?_) hc.2.1) (zcn hO c hI hn.2.1.2.1 (fun f hf => ?_) hc.2.2)
  ·rw [hS f (by simp [hf])]
   exact ⟨fun h=>h.elim id fun h=>absurd rfl (hn.2.2 f hf f (h.imp (zat x b _ f) (zat x c _ f))),.inl⟩
  ·rw [hS f (by simp [hf])]
   exact ⟨fun h=>h.elim (fun h=>absurd rfl (hn.2.2 f (zat x a _ f h) f (.inl hf))) fun h=>h.elim id fun h=>absurd rfl (hn.2.1.2.2 f hf f (zat x c _ f h)),fun h=>.inr (.inl h)⟩
  ·rw [hS f (by simp [hf])]
   exact ⟨fun h=>h.elim (fun h=>absurd rfl (hn.2.2 f (zat x a _ f h) f (.inr hf))) fun h=>h.elim (fun h=>absurd rfl (hn.2.1.2.2 f (zat x b _ f h) f hf)) id,fun h=>.inr (.inr h)⟩
 | .fn _ _ n k a,I,hI,hn,hS,hc=>by
  simp only [T.places,List.nodup_cons,T.occ,T.capt,zmC] at hn hS hc
  have hk:k∉S:=by rw [hS k (.inl rfl)]; exact fun h=>hn.1 (zat x a _ k h)
  simp only [T.re]
  rw [M.other k n hk]
  exact .fn (zcn hO a (I:=(n,n)::I) (hI.cons n) hn.2 (fun f hf=>hS f (.inr hf)) hc)
 | .lett _ _ r n k a b,I,hI,hn,hS,hc=>by
  simp only [T.places,List.nodup_cons,List.nodup_append,T.occ,T.capt,zmC,zmA,not_or] at hn hS hc
  have hk:k∉S:=by
   rw [hS k (.inl rfl)]
   exact fun h=>h.elim (fun h=>hn.1.1 (zat x a _ k h)) fun h=>hn.1.2 (zat x b _ k h)
  simp only [T.re]
  rw [M.other k n hk]
  have e:(if r then (n,n)::(I++(x,y)::O) else I++(x,y)::O)=(if r then (n,n)::I else I)++(x,y)::O:=by cases r <;> rfl
  have hI':idE (if r then (n,n)::I else I):=by
   cases r
   ·exact hI
   ·exact hI.cons n
  have h1:Al ((if r then (n,n)::I else I)++(x,y)::O) a (a.re m):=by
   refine zcn hO a hI' hn.2.1 (fun f hf => ?_) (by rw [yc9]; exact hc.1)
   rw [hS f (.inr (.inl hf)),yc9]
   exact ⟨fun h=>h.elim id fun h=>absurd rfl (hn.2.2.2 f hf f (zat x b _ f h)),.inl⟩
  refine .lett (by rw [e]; exact h1) (zcn hO b (I:=(n,n)::I) (hI.cons n) hn.2.2.1 (fun f hf => ?_) hc.2)
  ·rw [hS f (.inr (.inr hf))]
   exact ⟨fun h=>h.elim (fun h=>absurd rfl (hn.2.2.2 f (zat x a _ f h) f hf)) id,.inr⟩
end
def T.hit (p:Nat):T->Option T
 | .name .. | .int .. | .truth .. | .side .. => none
 | .bracket _ _ i=>i.hit p
 | .pair _ _ a b=>(a.hit p).or (b.hit p)
 | .call _ _ a b=>(a.hit p).or (b.hit p)
 | .binary _ _ _ a b=>(a.hit p).or (b.hit p)
 | .cond _ _ a b c=>(a.hit p).or ((b.hit p).or (c.hit p))
 | .fn f t n k a=>if k=p then some (.fn f t n k a) else a.hit p
 | .lett f t r n k a b=>if k=p then some (.lett f t r n k a b) else (a.hit p).or (b.hit p)
def T.bname:T->List UInt8
 | .fn _ _ n _ _=>n
 | .lett _ _ _ n _ _ _=>n
 | _=>[]
def T.useS:T->List Nat
 | .fn _ _ n _ a=>a.occ n []
 | .lett _ _ r n _ a b=>(if r then a.occ n [] else [])++b.occ n []
 | _=>[]
def T.captN (y:List UInt8):T->Prop
 | .fn _ _ n _ a=>a.capt n y []
 | .lett _ _ r n _ a b=>(r=true/\a.capt n y [])\/b.capt n y []
 | _=>False
theorem zaq {p:Nat}:∀ {t n:T},t.hit p=some n->p∈t.places/\∀f∈n.useS,f∈t.places
 | .bracket _ _ i,n,h=>zaq (t:=i) h
 | .pair _ _ a b,n,h=>by
  simp only [T.hit,Option.or_eq_some_iff] at h
  simp only [T.places,zmA]
  rcases h with h | ⟨_,h⟩
  ·exact ⟨.inl (zaq h).1,fun f hf=>.inl ((zaq h).2 f hf)⟩
  ·exact ⟨.inr (zaq h).1,fun f hf=>.inr ((zaq h).2 f hf)⟩
 | .call _ _ a b,n,h=>by
  simp only [T.hit,Option.or_eq_some_iff] at h
  simp only [T.places,zmA]
  rcases h with h | ⟨_,h⟩
  ·exact ⟨.inl (zaq h).1,fun f hf=>.inl ((zaq h).2 f hf)⟩
  ·exact ⟨.inr (zaq h).1,fun f hf=>.inr ((zaq h).2 f hf)⟩
 | .binary _ _ _ a b,n,h=>by
  simp only [T.hit,Option.or_eq_some_iff] at h
  simp only [T.places,zmA]
  rcases h with h | ⟨_,h⟩
  ·exact ⟨.inl (zaq h).1,fun f hf=>.inl ((zaq h).2 f hf)⟩
  ·exact ⟨.inr (zaq h).1,fun f hf=>.inr ((zaq h).2 f hf)⟩
 | .cond _ _ a b c,n,h=>by
  simp only [T.hit,Option.or_eq_some_iff] at h
  simp only [T.places,zmA]
  rcases h with h | ⟨_,h | ⟨_,h⟩⟩
  ·exact ⟨.inl (zaq h).1,fun f hf=>.inl ((zaq h).2 f hf)⟩
  ·exact ⟨.inr (.inl (zaq h).1),fun f hf=>.inr (.inl ((zaq h).2 f hf))⟩
  ·exact ⟨.inr (.inr (zaq h).1),fun f hf=>.inr (.inr ((zaq h).2 f hf))⟩
 | .fn f t nn k a,n,h=>by
  simp only [T.hit] at h
  simp only [T.places,zmC]
  split at h
  ·rename_i hk
   cases h
   exact ⟨.inl hk.symm,fun f hf=>.inr (zat _ a _ f hf)⟩
  ·exact ⟨.inr (zaq h).1,fun f hf=>.inr ((zaq h).2 f hf)⟩
 | .lett f t r nn k a b,n,h=>by
  simp only [T.hit] at h
  simp only [T.places,zmC,zmA]
  split at h
  ·rename_i hk
   cases h
   refine ⟨.inl hk.symm,fun f hf=>.inr ?_⟩
   simp only [T.useS,zmA] at hf
   rcases hf with hf | hf
   ·cases r
    ·simp at hf
    ·exact .inl (zat _ a _ f hf)
   ·exact .inr (zat _ b _ f hf)
  ·simp only [Option.or_eq_some_iff] at h
   rcases h with h | ⟨_,h⟩
   ·exact ⟨.inr (.inl (zaq h).1),fun f hf=>.inr (.inl ((zaq h).2 f hf))⟩
   ·exact ⟨.inr (.inr (zaq h).1),fun f hf=>.inr (.inr ((zaq h).2 f hf))⟩
theorem zfn {m:Mv} {S:List Nat} {y:List UInt8} (M:yd7 m S y) {p:Nat} {n:T} (hc:¬n.captN y) (hS:∀f,f∈S↔f=p\/f∈n.useS):∀(t:T) {E:AE},idE E->t.places.Nodup->t.hit p=some n->Al E t (t.re m)
 | .bracket _ _ i,E,hE,hn,h=>.bracket (zfn M hc hS i hE hn h)
 | .pair _ _ a b,E,hE,hn,h=>by
  simp only [T.hit,Option.or_eq_some_iff,T.places,List.nodup_append] at h hn
  rcases h with h | ⟨_,h⟩
  ·refine .pair (zfn M hc hS a hE hn.1 h) (zdk M b hE fun f hf hs => ?_)
   rcases (hS f).1 hs with rfl | hs
   ·exact hn.2.2 _ (zaq h).1 _ hf rfl
   ·exact hn.2.2 _ ((zaq h).2 f hs) _ hf rfl
  ·refine .pair (zdk M a hE fun f hf hs => ?_) (zfn M hc hS b hE hn.2.1 h)
   rcases (hS f).1 hs with rfl | hs
   ·exact hn.2.2 _ hf _ (zaq h).1 rfl
   ·exact hn.2.2 _ hf _ ((zaq h).2 f hs) rfl
 | .call _ _ a b,E,hE,hn,h=>by
  simp only [T.hit,Option.or_eq_some_iff,T.places,List.nodup_append] at h hn
  rcases h with h | ⟨_,h⟩
  ·refine .call (zfn M hc hS a hE hn.1 h) (zdk M b hE fun f hf hs => ?_)
   rcases (hS f).1 hs with rfl | hs
   ·exact hn.2.2 _ (zaq h).1 _ hf rfl
   ·exact hn.2.2 _ ((zaq h).2 f hs) _ hf rfl
  ·refine .call (zdk M a hE fun f hf hs => ?_) (zfn M hc hS b hE hn.2.1 h)
   rcases (hS f).1 hs with rfl | hs
   ·exact hn.2.2 _ hf _ (zaq h).1 rfl
   ·exact hn.2.2 _ hf _ ((zaq h).2 f hs) rfl
 | .binary _ _ _ a b,E,hE,hn,h=>by
  simp only [T.hit,Option.or_eq_some_iff,T.places,List.nodup_append] at h hn
  rcases h with h | ⟨_,h⟩
  ·refine .binary (zfn M hc hS a hE hn.1 h) (zdk M b hE fun f hf hs => ?_)
   rcases (hS f).1 hs with rfl | hs
   ·exact hn.2.2 _ (zaq h).1 _ hf rfl
   ·exact hn.2.2 _ ((zaq h).2 f hs) _ hf rfl
  ·refine .binary (zdk M a hE fun f hf hs => ?_) (zfn M hc hS b hE hn.2.1 h)
   rcases (hS f).1 hs with rfl | hs
   ·exact hn.2.2 _ hf _ (zaq h).1 rfl
   ·exact hn.2.2 _ hf _ ((zaq h).2 f hs) rfl
 | .cond _ _ a b c,E,hE,hn,h=>by
  simp only [T.hit,Option.or_eq_some_iff,T.places,List.nodup_append,zmA] at h hn
  have out:∀ {u:T},u.hit p=some n->∀f,f∈S->f∈u.places:=fun h f hs=>by
   rcases (hS f).1 hs with rfl | hs
   ·exact (zaq h).1
   ·exact (zaq h).2 f hs
  rcases h with h | ⟨_,h | ⟨_,h⟩⟩
  ·exact .cond (zfn M hc hS a hE hn.1 h) (zdk M b hE fun f hf hs=>hn.2.2 _ (out h f hs) _ (.inl hf) rfl) (zdk M c hE fun f hf hs=>hn.2.2 _ (out h f hs) _ (.inr hf) rfl)
  ·exact .cond (zdk M a hE fun f hf hs=>hn.2.2 _ hf _ (.inl (out h f hs)) rfl) (zfn M hc hS b hE hn.2.1.1 h) (zdk M c hE fun f hf hs=>hn.2.1.2.2 _ (out h f hs) _ hf rfl)
  ·exact .cond (zdk M a hE fun f hf hs=>hn.2.2 _ hf _ (.inr (out h f hs)) rfl) (zdk M b hE fun f hf hs=>hn.2.1.2.2 _ hf _ (out h f hs) rfl) (zfn M hc hS c hE hn.2.1.2.1 h)
 | .fn f t nn k a,E,hE,hn,h=>by
  simp only [T.hit,T.places,List.nodup_cons] at h hn
  split at h
  ·rename_i hk
   cases h
   subst hk
   simp only [T.re]
   rw [M.at_ k nn ((hS k).2 (.inl rfl))]
   refine .fn (zcn M hE a (I:=[]) (fun p hp=>by cases hp) hn.2 (fun g hg => ?_) hc)
   rw [hS]
   exact ⟨fun h=>h.elim (fun e=>absurd (e ▸ hg) hn.1) id,.inr⟩
  ·rename_i hk
   have hk':k∉S:=fun hs=>by
    rcases (hS k).1 hs with e | hs
    ·exact hk e
    ·exact hn.1 ((zaq h).2 k hs)
   simp only [T.re]
   rw [M.other k nn hk']
   exact .fn (zfn M hc hS a (hE.cons nn) hn.2 h)
 | .lett f t r nn k a b,E,hE,hn,h=>by
  simp only [T.hit,T.places,List.nodup_cons,List.nodup_append,zmA,not_or] at h hn
  split at h
  ·rename_i hk
   cases h
   subst hk
   simp only [T.re]
   rw [M.at_ k nn ((hS k).2 (.inl rfl))]
   simp only [T.captN,not_or] at hc
   cases r with
   | true =>
    simp only [true_and] at hc
    refine .lett (zcn M hE a (I:=[]) (fun p hp=>by cases hp) hn.2.1 (fun g hg => ?_) hc.1) (zcn M hE b (I:=[]) (fun p hp=>by cases hp) hn.2.2.1 (fun g hg => ?_) hc.2)
    ·rw [hS]
     simp only [T.useS,if_true,zmA]
     exact ⟨fun h=>h.elim (fun e=>absurd (e ▸ hg) hn.1.1) fun h=>h.elim id fun h=>absurd rfl (hn.2.2.2 g hg g (zat _ b _ g h)),fun h=>.inr (.inl h)⟩
    ·rw [hS]
     simp only [T.useS,if_true,zmA]
     exact ⟨fun h=>h.elim (fun e=>absurd (e ▸ hg) hn.1.2) fun h=>h.elim (fun h=>absurd rfl (hn.2.2.2 g (zat _ a _ g h) g hg)) id,fun h=>.inr (.inr h)⟩
   | false =>
    refine .lett (zdk M a hE fun g hg hs => ?_) (zcn M hE b (I:=[]) (fun p hp=>by cases hp) hn.2.2.1 (fun g hg => ?_) hc.2)
    ·rcases (hS g).1 hs with e | hs
     ·exact hn.1.1 (e ▸ hg)
     ·simp only [T.useS,Bool.false_eq_true,if_false,List.nil_append] at hs
      exact hn.2.2.2 g hg g (zat _ b _ g hs) rfl
    ·rw [hS]
     simp only [T.useS,Bool.false_eq_true,if_false,List.nil_append]
     exact ⟨fun h=>h.elim (fun e=>absurd (e ▸ hg) hn.1.2) id,.inr⟩
  ·rename_i hk
   simp only [Option.or_eq_some_iff] at h
   have out:∀ {u:T},u.hit p=some n->∀f,f∈S->f∈u.places:=fun h f hs=>by
    rcases (hS f).1 hs with rfl | hs
    ·exact (zaq h).1
    ·exact (zaq h).2 f hs
   have hk':k∉S:=fun hs=>by
    rcases h with h | ⟨_,h⟩
    ·exact hn.1.1 (out h k hs)
    ·exact hn.1.2 (out h k hs)
   simp only [T.re]
   rw [M.other k nn hk']
   have hE':idE (if r then (nn,nn)::E else E):=by
    cases r
    ·exact hE
    ·exact hE.cons nn
   rcases h with h | ⟨_,h⟩
   ·exact .lett (zfn M hc hS a hE' hn.2.1 h) (zdk M b (hE.cons nn) fun f hf hs=>hn.2.2.2 _ (out h f hs) _ hf rfl)
   ·exact .lett (zdk M a hE' fun f hf hs=>hn.2.2.2 _ hf _ (out h f hs) rfl) (zfn M hc hS b (hE.cons nn) hn.2.2.1 h)
end Go.Proofs.YtckhafpejefbbaaGreatDoor.Tw 
namespace Go.Proofs.YtckhafpejefbbaaGreatDoor.Tw
open Go
def T.spans:T->List (Nat×Nat×List UInt8)
 | .name f t z=>[(f,t,z)]
 | .int .. | .truth .. | .side .. => []
 | .bracket _ _ i=>i.spans
 | .pair _ _ x y=>x.spans++y.spans
 | .call _ _ x y=>x.spans++y.spans
 | .binary _ _ _ x y=>x.spans++y.spans
 | .cond _ _ x y z=>x.spans++(y.spans++z.spans)
 | .fn _ _ n k x=>(k,k+n.length,n)::x.spans
 | .lett _ _ _ n k x y=>(k,k+n.length,n)::(x.spans++y.spans)
theorem zbi:∀t:T,t.places=t.spans.map (·.1)
 | .name .. | .int .. | .truth .. | .side .. => rfl
 | .bracket _ _ i=>zbi i
 | .pair _ _ x y=>by simp [T.places,T.spans,zbi x,zbi y]
 | .call _ _ x y=>by simp [T.places,T.spans,zbi x,zbi y]
 | .binary _ _ _ x y=>by simp [T.places,T.spans,zbi x,zbi y]
 | .cond _ _ x y z=>by simp [T.places,T.spans,zbi x,zbi y,zbi z]
 | .fn _ _ n k x=>by simp [T.places,T.spans,zbi x]
 | .lett _ _ _ n k x y=>by simp [T.places,T.spans,zbi x,zbi y]
def zzn (ts:List Tok) (i:Nat):Tok:=(ts[i]?).getD ⟨0,0,0⟩
def znx (l:List UInt8) (t:Tok):Nat×Nat×List UInt8:=(t.fr,t.to,zaw l t.fr t.to)
def Pl (l:List UInt8) (ts:List Tok) (lo hi:Nat) (L:List (Nat×Nat×List UInt8)):Prop :=
 ∃is:List Nat,is.Pairwise (· < ·)/\(∀i∈is,lo<=i/\i<hi/\∃t,ts[i]? = some t/\t.sort=1)/\L=is.map fun i=>znx l (zzn ts i)
variable {l : List UInt8} {ts : List Tok}
theorem Pl.nil {lo hi:Nat}:Pl l ts lo hi []:=⟨[],.nil,fun i h=>(by cases h),rfl⟩
theorem Pl.wide {lo hi lo' hi':Nat} {L:List (Nat×Nat×List UInt8)} (h:Pl l ts lo hi L) (h1:lo'<=lo) (h2:hi<=hi'):Pl l ts lo' hi' L:=by
 obtain ⟨is,a,b,c⟩:=h
 exact ⟨is,a,fun i hi=>⟨by have:=(b i hi).1; omega,by have:=(b i hi).2.1; omega,(b i hi).2.2⟩,c⟩
theorem Pl.append {lo mid hi:Nat} {A B:List (Nat×Nat×List UInt8)} (h:Pl l ts lo mid A) (k:Pl l ts mid hi B) (h1:lo<=mid) (h2:mid<=hi):Pl l ts lo hi (A++B):=by
 obtain ⟨is,a,b,rfl⟩:=h
 obtain ⟨js,c,d,rfl⟩:=k
 refine ⟨is++js,List.pairwise_append.2 ⟨a,c,fun i hi j hj=>by have:=(b i hi).2.1; have:=(d j hj).1; omega⟩,fun i hi => ?_,by simp⟩
 rcases zmA.1 hi with hi | hi
 ·exact ⟨(b i hi).1,by have:=(b i hi).2.1; omega,(b i hi).2.2⟩
 ·exact ⟨by have:=(d i hi).1; omega,(d i hi).2.1,(d i hi).2.2⟩
theorem Pl.one {i hi:Nat} {t:Tok} (ht:ts[i]? = some t) (hs:t.sort=1) (h:i<hi):Pl l ts i hi [znx l t] :=
 ⟨[i],by simp,fun j hj=>by simp only [List.mem_singleton] at hj; subst hj; exact ⟨znL _,h,t,ht,hs⟩,by simp [zzn,ht]⟩
def Pos (l:List UInt8) (ts:List Tok) (st:PS) (r:T) (st':PS):Prop:=st.next<=st'.next/\Pl l ts st.next st'.next r.spans
structure OAll (l:List UInt8) (ts:List Tok) (n:Nat):Prop where
 expr:∀ {s s':PS} {r:T},za6 l ts n s=some (r,s')->s'.stuck=false->Pos l ts s r s'
 lett:∀ {s s':PS} {r:T},letS l ts n s=some (r,s')->s'.stuck=false->Pos l ts s r s'
 fn:∀ {s s':PS} {r:T},funS l ts n s=some (r,s')->s'.stuck=false->Pos l ts s r s'
 cond:∀ {s s':PS} {r:T},zco l ts n s=some (r,s')->s'.stuck=false->Pos l ts s r s'
 cmp:∀ {s s':PS} {r:T},cmpS l ts n s=some (r,s')->s'.stuck=false->Pos l ts s r s'
 sum:∀ {s s':PS} {r:T},sumS l ts n s=some (r,s')->s'.stuck=false->Pos l ts s r s'
 term:∀ {s s':PS} {r:T},zci l ts n s=some (r,s')->s'.stuck=false->Pos l ts s r s'
 part:∀ {p:Part} {s s':PS} {r:T},zbc l ts n p s=some (r,s')->s'.stuck=false->Pos l ts s r s'
 chain:∀ {p:Part} {g:List Int} {s s':PS} {r:T},(∀x∈g,x≠0)->zbf l ts n p g s=some (r,s')->s'.stuck=false->Pos l ts s r s'
 chainFrom:∀ {p:Part} {g:List Int} {a:T} {lo:Nat} {s s':PS} {r:T},(∀x∈g,x≠0)->lo<=s.next->Pl l ts lo s.next a.spans->zan l ts n p g a s=some (r,s')->s'.stuck=false->s.next<=s'.next/\Pl l ts lo s'.next r.spans
 call:∀ {s s':PS} {r:T},zcc l ts n s=some (r,s')->s'.stuck=false->Pos l ts s r s'
 callFrom:∀ {a:T} {lo:Nat} {s s':PS} {r:T},lo<=s.next->Pl l ts lo s.next a.spans->zar l ts n a s=some (r,s')->s'.stuck=false->s.next<=s'.next/\Pl l ts lo s'.next r.spans
 atom:∀ {s s':PS} {r:T},zbv l ts n s=some (r,s')->s'.stuck=false->Pos l ts s r s'
 bracket:∀ {s s':PS} {r:T},za0 l ts n s=some (r,s')->s'.stuck=false->Pos l ts s r s'
theorem zbd {s:Int} {st st':PS} {t:Tok} (h:zbe ts s st=some (t,st')) (hs:st'.stuck=false) (h0:s≠0):st'.next=st.next+1/\ts[st.next]? = some t/\t.sort=s:=by
 have hst:=(zai h).1 hs
 obtain ⟨h1,h2,rfl,_⟩:=ze2 h hs h0
 refine ⟨rfl,?_,h2⟩
 unfold tokS at h1
 rw [hst] at h1
 simpa using h1
theorem zhn {s:Int} {st st':PS} {k:Nat} (h:zce ts s st=some (k,st')) (hs:st'.stuck=false) (h0:s≠0):st'.next=st.next+1:=by
 have d1:=(ze3 h hs).1
 unfold zce at h
 rw [if_neg d1,zbS] at h
 split at h
 ·obtain ⟨⟨t1,s3⟩,h2,h⟩:=zbE.1 h
  cases h
  exact (zbd h2 hs h0).1
 ·cases h
theorem zgl:∀ {g:List Int} {st st':PS} {k:Int},(∀x∈g,x≠0)->zao ts g st=some (k,st')->st'.stuck=false->st.next<=st'.next
 | [],st,st',k,_,h,_=>by cases h; exact znL _
 | x::g,st,st',k,h0,h,hs=>by
  rw [zao] at h
  obtain ⟨t,ht,h⟩:=zbE.1 h
  split at h
  ·obtain ⟨⟨t1,s3⟩,h2,h⟩:=zbE.1 h
   cases h
   have:=(zbd h2 hs (h0 x (by simp))).1
   simp only at this ⊢
   omega
  ·exact zgl (fun y hy=>h0 y (by simp [hy])) h hs
theorem zc8 {st st':PS} (h:endS st=some st'):st'.next=st.next:=by
 unfold endS at h
 split at h
 ·cases h
 ·cases h; rfl
theorem zo6 {st st':PS} {x:List UInt8} {k:Nat} (h:zct l ts st=some ((x,k),st')) (hs:st'.stuck=false):st'.next=st.next+1/\Pl l ts st.next st'.next [(k,k+x.length,x)]:=by
 unfold zct at h
 obtain ⟨⟨t,s3⟩,h1,h⟩:=zbE.1 h
 split at h
 ·rename_i hc
  cases h
  obtain ⟨a,b,c⟩:=zbd h1 hs (by decide)
  refine ⟨a,?_⟩
  have e:(t.fr,t.fr+(zaw l t.fr t.to).length,zaw l t.fr t.to)=znx l t:=by
   simp only [znx,zpI,true_and,and_true]
   simp only [zaw,List.length_take,List.length_drop]
   have:=hc.1
   have:=hc.2
   simp only at *
   omega
  rw [e,a]
  exact Pl.one b c (Nat.lt_succ_self _)
 ·cases h
theorem zy3 (l:List UInt8) (ts:List Tok):∀n,OAll l ts n
 | 0=>by constructor <;> (intros; simp_all [za6,letS,funS,zco,cmpS,sumS,zci,zbc,zbf,zan,zcc,zar,zbv,za0])
 | n+1=>by
  have ih:=zy3 l ts n
  have M:=zbp l ts n
  constructor
  case expr =>
   intro s s' r h hs
   rw [za6] at h
   obtain ⟨t,_,h⟩:=zbE.1 h
   split at h
   ·exact ih.lett h hs
   split at h
   ·exact ih.fn h hs
   split at h
   ·exact ih.cond h hs
   ·exact ih.cmp h hs
  case lett =>
   intro s s' r h hs
   simp only [letS,zbE,zsI,zpI,Prod.exists] at h
   obtain ⟨k,t1,h1,rc,t2,h2,bn,bat,t3,h3,c4,t4,h4,d,t5,h5,c6,t6,h6,x,t7,h7,t8,h8,rfl,rfl⟩:=h
   have a7:t7.stuck=false:=by rw [<-(zaz h8).1]; exact hs
   have a6:=(M.expr h7).1 a7
   have a5:=(zai h6).1 a6
   have a4:=(M.expr h5).1 a5
   have a3:=(zai h4).1 a4
   have a2:=(zbm h3).1 a3
   have a1:=(zak h2).1 a2
   have n1:=zhn h1 a1 (by decide)
   have n2:=zgl (by decide) h2 a2
   obtain ⟨n3,p3⟩:=zo6 h3 a3
   have n4:=(zbd h4 a4 (by decide)).1
   obtain ⟨n5,p5⟩:=ih.expr h5 a5
   have n6:=(zbd h6 a6 (by decide)).1
   obtain ⟨n7,p7⟩:=ih.expr h7 a7
   have n8:=zc8 h8
   refine ⟨by omega,?_⟩
   have q:=((p5.wide (znL _) (by omega:t5.next<=t6.next)).append p7 (by omega) (by omega))
   exact (p3.append (q.wide (by omega:t3.next<=t4.next) (by omega:t7.next<=t8.next)) (by omega) (by omega)).wide (by omega) (znL _)
  case fn =>
   intro s s' r h hs
   simp only [funS,zbE,zsI,zpI,Prod.exists] at h
   obtain ⟨k,t1,h1,bn,bat,t3,h3,c4,t4,h4,d,t5,h5,t8,h8,rfl,rfl⟩:=h
   have a5:t5.stuck=false:=by rw [<-(zaz h8).1]; exact hs
   have a4:=(M.expr h5).1 a5
   have a3:=(zai h4).1 a4
   have a1:=(zbm h3).1 a3
   have n1:=zhn h1 a1 (by decide)
   obtain ⟨n3,p3⟩:=zo6 h3 a3
   have n4:=(zbd h4 a4 (by decide)).1
   obtain ⟨n5,p5⟩:=ih.expr h5 a5
   have n8:=zc8 h8
   refine ⟨by omega,?_⟩
   exact (p3.append (p5.wide (by omega:t3.next<=t4.next) (by omega:t5.next<=t8.next)) (by omega) (by omega)).wide (by omega) (znL _)
  case cond =>
   intro s s' r h hs
   simp only [zco,zbE,zsI,zpI,Prod.exists] at h
   obtain ⟨k,t1,h1,x,t2,h2,c3,t3,h3,y,t4,h4,c5,t5,h5,z,t6,h6,t8,h8,rfl,rfl⟩:=h
   have a6:t6.stuck=false:=by rw [<-(zaz h8).1]; exact hs
   have a5:=(M.expr h6).1 a6
   have a4:=(zai h5).1 a5
   have a3:=(M.expr h4).1 a4
   have a2:=(zai h3).1 a3
   have a1:=(M.expr h2).1 a2
   have n1:=zhn h1 a1 (by decide)
   obtain ⟨n2,p2⟩:=ih.expr h2 a2
   have n3:=(zbd h3 a3 (by decide)).1
   obtain ⟨n4,p4⟩:=ih.expr h4 a4
   have n5:=(zbd h5 a5 (by decide)).1
   obtain ⟨n6,p6⟩:=ih.expr h6 a6
   have n8:=zc8 h8
   refine ⟨by omega,?_⟩
   have q:=(p4.wide (znL _) (by omega:t4.next<=t5.next)).append p6 (by omega) (by omega)
   exact ((p2.wide (by omega:s.next<=t1.next) (by omega:t2.next<=t3.next)).append (q.wide (znL _) (by omega:t6.next<=t8.next)) (by omega) (by omega))
  case cmp =>
   intro s s' r h hs
   simp only [cmpS,zbE,Prod.exists] at h
   obtain ⟨x,t1,h1,sg,t2,h2,h⟩:=h
   split at h
   ·cases h
    have a1:=(zak h2).1 hs
    obtain ⟨n1,p1⟩:=ih.sum h1 a1
    have n2:=zgl (by decide) h2 hs
    exact ⟨by omega,p1.wide (znL _) n2⟩
   ·simp only [zbE,zsI,zpI,Prod.exists] at h
    obtain ⟨y,t3,h3,rfl,rfl⟩:=h
    have a2:=(M.sum h3).1 hs
    have a1:=(zak h2).1 a2
    obtain ⟨n1,p1⟩:=ih.sum h1 a1
    have n2:=zgl (by decide) h2 a2
    obtain ⟨n3,p3⟩:=ih.sum h3 hs
    exact ⟨by omega,(p1.wide (znL _) n2).append p3 (by omega) n3⟩
  case sum =>
   intro s s' r h hs
   rw [sumS] at h
   exact ih.chain (by decide) h hs
  case term =>
   intro s s' r h hs
   rw [zci] at h
   exact ih.chain (by decide) h hs
  case part =>
   intro p s s' r h hs
   cases p with
   | term=>rw [zbc] at h; exact ih.term h hs
   | call=>rw [zbc] at h; exact ih.call h hs
  case chain =>
   intro p g s s' r hg h hs
   simp only [zbf,zbE,Prod.exists] at h
   obtain ⟨a,t1,h1,h2⟩:=h
   have a1:=(M.chainFrom h2).1 hs
   obtain ⟨n1,p1⟩:=ih.part h1 a1
   obtain ⟨n2,p2⟩:=ih.chainFrom hg n1 p1 h2 hs
   exact ⟨by omega,p2⟩
  case chainFrom =>
   intro p g a lo s s' r hg hlo hp h hs
   simp only [zan,zbE,Prod.exists] at h
   obtain ⟨k,t1,h1,h⟩:=h
   split at h
   ·cases h
    have n1:=zgl hg h1 hs
    exact ⟨n1,hp.wide (znL _) n1⟩
   ·simp only [zbE,Prod.exists] at h
    obtain ⟨c,t2,h2,h3⟩:=h
    have a2:=(M.chainFrom h3).1 hs
    have a1:=(M.part h2).1 a2
    have n1:=zgl hg h1 a1
    obtain ⟨n2,p2⟩:=ih.part h2 a2
    obtain ⟨n3,p3⟩:=ih.chainFrom hg (lo:=lo) (by omega) ((hp.wide (znL _) n1).append p2 (by omega) n2) h3 hs
    exact ⟨by omega,p3⟩
  case call =>
   intro s s' r h hs
   simp only [zcc,zbE,Prod.exists] at h
   obtain ⟨a,t1,h1,h2⟩:=h
   have a1:=(M.callFrom h2).1 hs
   obtain ⟨n1,p1⟩:=ih.atom h1 a1
   obtain ⟨n2,p2⟩:=ih.callFrom n1 p1 h2 hs
   exact ⟨by omega,p2⟩
  case callFrom =>
   intro a lo s s' r hlo hp h hs
   simp only [zar,zbE] at h
   obtain ⟨t,ht,h⟩:=h
   split at h
   ·simp only [zbE,Prod.exists] at h
    obtain ⟨c,t3,h2,h3⟩:=h
    have a2:=(M.callFrom h3).1 hs
    obtain ⟨n2,p2⟩:=ih.atom h2 a2
    obtain ⟨n3,p3⟩:=ih.callFrom (lo:=lo) (by omega) (hp.append p2 (by omega) n2) h3 hs
    exact ⟨by omega,p3⟩
   ·cases h
    exact ⟨znL _,hp⟩
  case atom =>
   intro s s' r h hs
   simp only [zbv,zbE] at h
   obtain ⟨t,ht,h⟩:=h
   split at h
   ·exact ih.bracket h hs
   split at h
   ·rename_i h16 hb
    simp only [zbE,zsI,zpI,Prod.exists] at h
    obtain ⟨c,t3,h2,x,h3,rfl,rfl⟩:=h
    simp only [zal,decide_eq_true_eq] at hb
    have h0:t.sort≠0:=by omega
    have hst:=(zai h2).1 hs
    obtain ⟨n1,q1,q2⟩:=zbd h2 hs h0
    have ht':ts[s.next]? = some t:=by
     unfold tokS at ht
     rw [hst] at ht
     simpa using ht
    refine ⟨by omega,?_⟩
    unfold zeq at h3
    split at h3
    ·split at h3
     ·obtain ⟨v,_,h3⟩:=zbE.1 h3
      cases h3
      exact Pl.nil
     ·cases h3
    split at h3
    ·cases h3; exact Pl.nil
    split at h3
    ·cases h3; exact Pl.nil
    split at h3
    ·cases h3
     exact Pl.one ht' (by omega) (by omega)
    ·cases h3
   ·simp only [zbE,zsI,zpI] at h
    obtain ⟨_,h2,rfl,rfl⟩:=h
    rw [(zcm h2).1] at hs
    cases hs
  case bracket =>
   intro s s' r h hs
   simp only [za0,zbE,Prod.exists] at h
   obtain ⟨k,t1,h1,x,t2,h2,sg,t3,h3,h⟩:=h
   split at h
   ·simp only [zbE,zsI,zpI,Prod.exists] at h
    obtain ⟨y,t4,h4,c5,t5,h5,t6,h6,rfl,rfl⟩:=h
    have a5:t5.stuck=false:=by rw [<-(zaz h6).1]; exact hs
    have a4:=(zai h5).1 a5
    have a3:=(M.expr h4).1 a4
    have a2:=(zak h3).1 a3
    have a1:=(M.expr h2).1 a2
    have n1:=zhn h1 a1 (by decide)
    obtain ⟨n2,p2⟩:=ih.expr h2 a2
    have n3:=zgl (by decide) h3 a3
    obtain ⟨n4,p4⟩:=ih.expr h4 a4
    have n5:=(zbd h5 a5 (by decide)).1
    have n6:=zc8 h6
    exact ⟨by omega,(p2.wide (by omega:s.next<=t1.next) n3).append (p4.wide (znL _) (by omega:t4.next<=t6.next)) (by omega) (by omega)⟩
   ·simp only [zbE,zsI,zpI,Prod.exists] at h
    obtain ⟨c5,t5,h5,t6,h6,rfl,rfl⟩:=h
    have a5:t5.stuck=false:=by rw [<-(zaz h6).1]; exact hs
    have a3:=(zai h5).1 a5
    have a2:=(zak h3).1 a3
    have a1:=(M.expr h2).1 a2
    have n1:=zhn h1 a1 (by decide)
    obtain ⟨n2,p2⟩:=ih.expr h2 a2
    have n3:=zgl (by decide) h3 a3
    have n5:=(zbd h5 a5 (by decide)).1
    have n6:=zc8 h6
    exact ⟨by omega,p2.wide (by omega:s.next<=t1.next) (by omega:t2.next<=t6.next)⟩
theorem ybc {n:Nat} {t:T} (h:zb9 l ts n=some (.ok t)):∃hi,Pl l ts 0 hi t.spans:=by
 unfold zb9 at h
 obtain ⟨⟨x,s1⟩,hx,h⟩:=zbE.1 h
 obtain ⟨⟨k,s2⟩,hk,h⟩:=zbE.1 h
 simp only [zsI] at h hk
 have hs2:s2.stuck=false:=by
  cases hq:s2.stuck
  ·rfl
  ·rw [hq] at h; simp at h
 rw [hs2] at h
 simp only [Bool.false_eq_true,if_false,Except.ok.injEq] at h
 subst h
 exact ⟨_,((zy3 l ts n).expr hx ((zai hk).1 hs2)).2⟩
end Go.Proofs.YtckhafpejefbbaaGreatDoor.Tw 
namespace Go.Proofs.YtckhafpejefbbaaGreatDoor.Tw
open Go
def chgR:Nat->List UInt8->List (Nat×Nat×List UInt8)->List UInt8
 | _,m,[]=>m
 | off,m,(f,t,b)::cs=>m.take (f-off)++(b++chgR t (m.drop (t-off)) cs)
def HR (r r':List UInt8):Prop:=zam r=zam r'\/(zbh (zam r)=true/\zbh (zam r')=true)
theorem HR.notP {r r':List UInt8} (h:HR r r') (p:Int->Bool) (hp:∀c,zbh c=true->p c=false) (hr:p (zam r)=false):p (zam r')=false:=by
 rcases h with h | h
 ·rw [<-h]; exact hr
 ·exact hp _ h.2
theorem HR.notW {r r':List UInt8} (h:HR r r') (hr:zbg (zam r)=false):zbg (zam r')=false:=by
 rcases h with h | h
 ·rw [<-h]; exact hr
 ·exfalso
  have:=h.1
  simp [zbh,zbg] at this hr
  omega
theorem zg6 (p:Int->Bool) (h1:p (-1)=false):∀(m:List UInt8),p (zam (m.drop (runL p m).length))=false
 | []=>by simpa [runL,zam] using h1
 | c::m=>by
  simp only [runL,List.takeWhile_cons]
  split
  ·have:=zg6 p h1 m
   simp only [runL] at this
   simpa using this
  ·rename_i h
   simpa [zam] using h
theorem ziy (p:Int->Bool):∀(a r':List UInt8),(∀c∈a,p c.toNat=true)->p (zam r')=false->runL p (a++r')=a
 | [],r',_,h=>by
  cases r' with
  | nil=>rfl
  | cons c r'=>simp only [runL,List.nil_append,List.takeWhile_cons]; rw [show p c.toNat=false from h]; rfl
 | c::a,r',ha,h=>by
  simp only [runL,List.cons_append,List.takeWhile_cons]
  rw [ha c (by simp)]
  simp only [if_true]
  have:=ziy p a r' (fun d hd=>ha d (by simp [hd])) h
  simp only [runL] at this
  rw [this]
theorem zsi (c:Int):(zfw c).2=0\/(zfw c).2=1:=by
 unfold zfw
 (repeat' split) <;> simp
theorem zqs {m r':List UInt8} (hm:m ≠ []) (h0:(zah m).2≠0) (hr:HR (m.drop (zah m).2.toNat) r'):zah (m.take (zah m).2.toNat++r')=zah m/\zam (m.take (zah m).2.toNat++r')=zam m:=by
 have key:∀k:Nat,0<k->zam (m.take k++r')=zam m:=fun k hk=>by
  cases m with
  | nil=>exact absurd rfl hm
  | cons c m =>
   obtain ⟨j,rfl⟩:∃j,k=j+1:=⟨k-1,by omega⟩
   rfl
 unfold zah at h0 hr ⊢
 by_cases hs:zbh (zam m)=true
 ·rw [if_pos hs] at h0 hr ⊢
  unfold zh5 at h0 hr ⊢
  split at h0
  ·exact absurd rfl h0
  ·rename_i hl
   rw [if_neg hl] at hr ⊢
   simp only [Int.toNat_natCast] at hr ⊢ h0
   have hpos:0<(runL zbg m).length:=by omega
   have e:=zf2 zbg m
   have hstop:=zg6 zbg (by decide) m
   have hnew:runL zbg (m.take (runL zbg m).length++r')=runL zbg m:=by
    rw [e]
    exact ziy zbg _ r' (zfe zbg m) (hr.notW hstop)
   rw [key _ hpos,if_pos hs,hnew,if_neg hl]
   exact ⟨rfl,rfl⟩
 ·rw [if_neg hs] at h0 hr ⊢
  by_cases hd:zas (zam m)=true
  ·rw [if_pos hd] at h0 hr ⊢
   unfold zdm at h0 hr ⊢
   split at h0
   ·exact absurd rfl h0
   ·rename_i hl
    rw [if_neg hl] at hr ⊢
    simp only [Int.toNat_natCast] at hr ⊢ h0
    have hpos:0<(runL zas m).length:=by omega
    have e:=zf2 zas m
    have hstop:=zg6 zas (by decide) m
    have hnew:runL zas (m.take (runL zas m).length++r')=runL zas m:=by
     rw [e]
     refine ziy zas _ r' (zfe zas m) (hr.notP zas (fun c hc => ?_) hstop)
     simp [zbh,zas] at hc ⊢
     omega
    rw [key _ hpos,if_neg hs,if_pos hd,hnew,if_neg hl]
    exact ⟨rfl,rfl⟩
  ·rw [if_neg hd] at h0 hr ⊢
   by_cases ha:m.take 2=[45,62]
   ·rw [if_pos ha] at hr ⊢
    have h2:((14:Int),(2:Int)).2.toNat=2:=rfl
    rw [h2] at hr ⊢
    rw [key 2 (by omega),if_neg hs,if_neg hd,ha]
    exact ⟨rfl,rfl⟩
   ·rw [if_neg ha] at hr h0 ⊢
    have h1:(zfw (zam m)).2=1:=(zsi _).resolve_left h0
    rw [h1] at hr ⊢
    have h2:(1:Int).toNat=1:=rfl
    rw [h2] at hr ⊢
    rw [key 1 (by omega),if_neg hs,if_neg hd]
    refine ⟨?_,rfl⟩
    rw [if_neg]
    intro hq
    apply ha
    cases m with
    | nil=>exact absurd rfl hm
    | cons c m =>
     simp only [List.take_succ_cons,List.take_zero,List.cons_append,List.nil_append,List.cons.injEq] at hq ⊢
     refine ⟨hq.1,?_⟩
     have hq2:=hq.2
     cases r' with
     | nil=>simp at hq2
     | cons b r' =>
      simp only [List.take_succ_cons,List.take_zero,List.cons.injEq,and_true] at hq2
      subst hq2
      simp only [List.drop_succ_cons,List.drop_zero] at hr
      rcases hr with hr | hr
      ·cases m with
       | nil=>simp [zam] at hr
       | cons d m =>
        simp only [zam] at hr
        have:d=62:=by
         have h62:d.toNat=62:=by exact_mod_cast hr
         exact UInt8.toNat_inj.1 (by simpa using h62)
        simp [this]
      ·have:=hr.2
       simp [zam,zbh] at this
theorem zy4 {m r':List UInt8} (hm:m ≠ []) (hg:0<gapL m):gapL (m.take (gapL m).toNat++r')=gapL m:=by
 have hle:=zex m (List.length_pos_iff.2 hm)
 have ha:m.take (gapL m).toNat ≠ []:=by
  intro e
  have h1:=congrArg List.length e
  rw [List.length_take,List.length_nil] at h1
  have:=List.length_pos_iff.2 hm
  omega
 have hga:gapL (m.take (gapL m).toNat)=gapL m:=by
  have hh:zam (m.take (gapL m).toNat)=zam m:=by
   have e:m.take (gapL m).toNat++m.drop (gapL m).toNat=m:=List.take_append_drop _ _
   rw [<-zdz ha (m.drop (gapL m).toNat),e]
  generalize hk:(gapL m).toNat=k at *
  unfold gapL at hg hle hk ⊢
  rw [hh]
  split
  ·rfl
  ·rename_i h1
   rw [if_neg h1] at hg hle hk
   split
   ·rename_i h2
    rw [if_pos h2] at hg hle hk
    have:Lib.indexByte (m.take k) 125=Lib.indexByte m 125:=by
     have hnat:∃j:Nat,Lib.indexByte m 125=j:=⟨(Lib.indexByte m 125).toNat,by omega⟩
     obtain ⟨j,hj⟩:=hnat
     have hkj:k=j+1:=by omega
     subst hkj
     clear hk hle hg h2 h1 hh ha
     induction j generalizing m with
     | zero =>
      cases m with
      | nil=>simp [Lib.indexByte] at hj
      | cons c m =>
       simp only [Lib.indexByte] at hj
       split at hj
       ·rename_i hc; simp [Lib.indexByte,hc]
       ·exfalso
        have:=Lib.indexByte_ge m 125
        split at hj
        ·simp at hj
        ·rename_i hq
         simp at hq hj
         omega
     | succ j ih =>
      cases m with
      | nil=>exact absurd rfl hm
      | cons c m =>
       simp only [Lib.indexByte,List.take_succ_cons] at hj ⊢
       split at hj
       ·omega
       ·rename_i hc
        rw [if_neg hc]
        split at hj
        ·omega
        ·rename_i hne
         have hmj:Lib.indexByte m 125=j:=by omega
         by_cases hmn:m=[]
         ·subst hmn; simp [Lib.indexByte] at hmj
         ·have:=ih hmn hmj
          rw [this,if_neg hne,if_neg hc]
    rw [this]
   ·rfl
 rw [zux ha (by rw [hga]; exact hg),hga]
open Go
structure Nm (y:List UInt8):Prop where
 head:zbh (zam y)=true
 all:∀c∈y,zbg c.toNat=true
 len:y.length<=6
 sort:zf6 y=1
theorem Nm.ne {y:List UInt8} (Y:Nm y):y ≠ []:=by
 intro e
 have:=Y.head
 rw [e] at this
 simp [zam,zbh] at this
theorem zkk {m:List UInt8} (h1:zam m≠32) (h2:zam m≠9) (h3:zam m≠10) (h4:zam m≠123):¬0<gapL m:=by
 unfold gapL
 rw [if_neg (by omega),if_neg h4]
 omega
theorem zo7 {y r':List UInt8} (Y:Nm y) (hr:zbg (zam r')=false):zah (y++r')=(1,(y.length:Int))/\¬0<gapL (y++r')/\zam (y++r')=zam y:=by
 have hh:=zdz Y.ne r'
 have h0:=Y.head
 refine ⟨?_,?_,hh⟩
 ·unfold zah
  rw [hh,if_pos h0,ziy zbg y r' Y.all hr]
  unfold zh5
  rw [if_neg (by have:=Y.len; omega),Y.sort]
 ·simp only [zbh,decide_eq_true_eq] at h0
  exact zkk (by omega) (by omega) (by omega) (by omega)
theorem zfo {m:List UInt8} (h:(zah m).1=1):zbh (zam m)=true/\(zah m).2=(runL zbg m).length:=by
 unfold zah at h ⊢
 by_cases hs:zbh (zam m)=true
 ·rw [if_pos hs] at h ⊢
  unfold zh5 at h ⊢
  split at h
  ·simp at h
  ·rename_i hl
   rw [if_neg hl]
   exact ⟨hs,rfl⟩
 ·exfalso
  rw [if_neg hs] at h
  split at h
  ·unfold zdm at h
   split at h <;> simp at h
  split at h
  ·simp at h
  ·unfold zfw at h
   (repeat' split at h) <;> simp at h
theorem zu4 {m:List UInt8} (hm:m ≠ []) (hg:¬0<gapL m) (h0:(zah m).2≠0):zam m≠32/\zam m≠9/\zam m≠10/\zam m≠123:=by
 have:=ztd hm hg h0 [125]
 unfold gapL at hg this
 rw [zdz hm] at this
 refine ⟨fun e=>hg (by rw [if_pos (.inl e)]; omega),fun e=>hg (by rw [if_pos (.inr (.inl e))]; omega),fun e=>hg (by rw [if_pos (.inr (.inr e))]; omega),fun e=>this ?_⟩
 rw [if_neg (by omega),if_pos e]
 have:∀m:List UInt8,0<=Lib.indexByte (m ++ [125]) 125:=fun m=>by
  induction m with
  | nil=>simp [Lib.indexByte]
  | cons c m ih =>
   simp only [List.cons_append,Lib.indexByte]
   split
   ·omega
   ·split
    ·rename_i hq; simp at hq; omega
    ·omega
 have:=this m
 omega
def zgo (S:List Nat) (p:Nat):Nat:=(S.filter fun f=>decide (f<p)).length
def newP (dx dy c:Nat) (S:List Nat) (p:Nat):Nat:=p-(c+zgo S p) * dx+(c+zgo S p) * dy
def newT (dx dy c:Nat) (S:List Nat) (t:Tok):Tok:=⟨t.sort,newP dx dy c S t.fr,newP dx dy c S t.to⟩
theorem ze5 {S:List Nat} {p:Nat} (h:∀f∈S,p<=f):zgo S p=0:=by
 unfold zgo
 rw [List.length_eq_zero_iff,List.filter_eq_nil_iff]
 intro f hf
 have:=h f hf
 simpa using this
theorem zqt {S:List Nat} {f p:Nat} (h:f<p):zgo (f::S) p=zgo S p+1:=by
 unfold zgo
 rw [List.filter_cons_of_pos (by simpa using h)]
 rfl
theorem zg7 {dx dy c:Nat} {S:List Nat} {f p:Nat} (h:f<p):newP dx dy c (f::S) p=newP dx dy (c+1) S p:=by
 unfold newP
 rw [zqt h,show c+(zgo S p+1)=c+1+zgo S p from by omega]
def chs (dx:Nat) (y:List UInt8) (S:List Nat):List (Nat×Nat×List UInt8):=S.map fun f=>(f,f+dx,y)
theorem zqu {dx:Nat} {y:List UInt8} {off g:Nat} {m:List UInt8} {S:List Nat} (h:∀f∈S,off+g<=f):chgR off m (chs dx y S)=m.take g++chgR (off+g) (m.drop g) (chs dx y S):=by
 cases S with
 | nil=>simp [chs,chgR]
 | cons f S =>
  have hf:=h f (by simp)
  simp only [chs,List.map_cons,chgR]
  rw [show f-off=g+(f-(off+g)) from by omega,List.take_add,List.append_assoc,List.drop_drop,show g+(f+dx-(off+g))=f+dx-off from by omega]
section
variable {dx : Nat} {y : List UInt8}
def Reps (dx:Nat) (ts:List Tok) (S:List Nat):Prop:=S.Pairwise (· < ·)/\∀f∈S,∃t∈ts,t.fr=f/\t.sort=1/\t.to=f+dx
theorem zu5 (Y:Nm y) {off:Nat} {m:List UInt8} {ts:List Tok} (h:Lex off m ts) {S:List Nat} (hS:Reps dx ts S):HR m (chgR off m (chs dx y S)):=by
 cases S with
 | nil=>exact .inl rfl
 | cons f S =>
  obtain ⟨t,ht,rfl,h1,_⟩:=hS.2 f (by simp)
  have low:=((h.toks).1 t ht).low
  simp only [chs,List.map_cons,chgR]
  rcases Nat.lt_or_ge off t.fr with hlt | hge
  ·have hm:m ≠ []:=by
    intro e
    subst e
    have k1:=((h.toks).1 t ht).high
    have k2:=((h.toks).1 t ht).lt
    simp at k1
    omega
   left
   obtain ⟨j,hj⟩:∃j,t.fr-off=j+1:=⟨t.fr-off-1,by omega⟩
   rw [hj]
   cases m with
   | nil=>exact absurd rfl hm
   | cons c m=>rfl
  ·have e:t.fr-off=0:=by omega
   rw [e,List.take_zero,List.nil_append]
   right
   rw [zdz Y.ne]
   refine ⟨?_,Y.head⟩
   cases h with
   | nil=>simp at ht
   | gap hm hg hr =>
    have:=((hr.toks).1 t ht).low
    omega
   | tok hm hg h0 hr =>
    simp only [zmC] at ht
    rcases ht with rfl | ht
    ·exact (zfo h1).1
    ·have:=((hr.toks).1 t ht).low
     have f1:=zde m (List.length_pos_iff.2 hm)
     omega
theorem yev (Y:Nm y):∀ {off:Nat} {m:List UInt8} {ts:List Tok},Lex off m ts->∀ {c:Nat} {S:List Nat},Reps dx ts S->c * dx<=off->Lex (off-c * dx+c * y.length) (chgR off m (chs dx y S)) (ts.map (newT dx y.length c S)):=by
 intro off m ts h
 induction h with
 | nil off =>
  intro c S hS _
  have:S=[]:=by
   cases S with
   | nil=>rfl
   | cons f S=>obtain ⟨t,ht,_⟩:=hS.2 f (by simp); cases ht
  subst this
  exact .nil _
 | @gap off m ts hm hg hr ih =>
  intro c S hS hc
  have hle:=zex m (List.length_pos_iff.2 hm)
  obtain ⟨g,hgg⟩:∃g:Nat,gapL m=g:=⟨(gapL m).toNat,by omega⟩
  have hgn:(gapL m).toNat=g:=by omega
  rw [hgn] at hr ih
  have hge:∀f∈S,off+g<=f:=fun f hf=>by
   obtain ⟨t,ht,rfl,_⟩:=hS.2 f hf
   exact ((hr.toks).1 t ht).low
  have k:=ih hS (show c * dx<=off+g by omega)
  rw [zqu hge]
  have e:gapL (m.take g++chgR (off+g) (m.drop g) (chs dx y S))=gapL m:=by
   have:=zy4 (r':=chgR (off+g) (m.drop g) (chs dx y S)) hm hg
   rw [hgn] at this
   exact this
  have hlen:(m.take g).length=g:=by rw [List.length_take]; omega
  refine .gap (by intro q; have:=congrArg List.length q; rw [List.length_append,hlen] at this; simp at this; omega) (by rw [e]; exact hg) ?_
  rw [e,hgn,List.drop_append_of_le_length (by omega),List.drop_of_length_le (by omega),List.nil_append,show off-c * dx+c * y.length+g=off+g-c * dx+c * y.length from by omega]
  exact k
 | @tok off m ts hm hg h0 hr ih =>
  intro c S hS hc
  have hle:=zde m (List.length_pos_iff.2 hm)
  obtain ⟨k,hkk⟩:∃k:Nat,(zah m).2=k:=⟨(zah m).2.toNat,by omega⟩
  have hkn:(zah m).2.toNat=k:=by omega
  have hk0:0<k:=by omega
  rw [hkn] at hr ih hS ⊢
  have later:∀t∈ts,off+k<=t.fr:=fun t ht=>((hr.toks).1 t ht).low
  have hts:∀t∈ts,off<t.fr/\off<t.to:=fun t ht=>by
   have a:=later t ht
   have b:=((hr.toks).1 t ht).lt
   omega
  by_cases hoff:off∈S
  ·
   obtain ⟨f,S',rfl⟩:∃f S',S=f::S':=by
    cases S with
    | nil=>cases hoff
    | cons f S'=>exact ⟨f,S',rfl⟩
   have hf:f=off:=by
    simp only [zmC] at hoff
    rcases hoff with h | h
    ·exact h.symm
    ·have h1:=(List.pairwise_cons.1 hS.1).1 off h
     obtain ⟨t,ht,h2,_⟩:=hS.2 f (by simp)
     simp only [zmC] at ht
     rcases ht with rfl | ht
     ·simp only at h2; omega
     ·have:=later t ht; omega
   subst hf
   obtain ⟨t,ht,h1,h2,h3⟩:=hS.2 f (by simp)
   have ht':t=⟨(zah m).1,f,f+k⟩:=by
    simp only [zmC] at ht
    rcases ht with rfl | ht
    ·rfl
    ·have:=later t ht; omega
   subst ht'
   simp only at h2 h3
   have hkx:k=dx:=by omega
   subst hkx
   obtain ⟨q1,q2⟩:=zfo h2
   have hS':Reps k ts S':=by
    refine ⟨(List.pairwise_cons.1 hS.1).2,fun g hg => ?_⟩
    obtain ⟨t,ht,a1,a2,a3⟩:=hS.2 g (by simp [hg])
    have hlt:=(List.pairwise_cons.1 hS.1).1 g hg
    simp only [zmC] at ht
    rcases ht with rfl | ht
    ·simp only at a1; omega
    ·exact ⟨t,ht,a1,a2,a3⟩
   have hc':(c+1) * k<=f+k:=by rw [Nat.succ_mul]; omega
   have K:=ih hS' hc'
   have hhead:zbg (zam (chgR (f+k) (m.drop k) (chs k y S')))=false:=by
    refine (zu5 Y hr hS').notW ?_
    have:k=(runL zbg m).length:=by omega
    rw [this]
    exact zg6 zbg (by decide) m
   obtain ⟨r1,r2,r3⟩:=zo7 (r':=chgR (f+k) (m.drop k) (chs k y S')) Y hhead
   have e:chgR f m (chs k y (f::S'))=y++chgR (f+k) (m.drop k) (chs k y S'):=by
    simp only [chs,List.map_cons,chgR]
    rw [Nat.sub_self,List.take_zero,List.nil_append,Nat.add_sub_cancel_left]
   have hcnt:∀g∈S',f+k<=g:=fun g hg=>by
    obtain ⟨t,ht,rfl,_⟩:=hS'.2 g hg
    exact later t ht
   have hy:=List.length_pos_iff.2 Y.ne
   have n1:newP k y.length c (f::S') f=f-c * k+c * y.length:=by
    unfold newP
    rw [ze5 (fun g hg=>by simp only [zmC] at hg; rcases hg with rfl | hg; exact znL _; have:=hcnt g hg; omega)]
    simp
   have n2:newP k y.length c (f::S') (f+k)=f-c * k+c * y.length+y.length:=by
    rw [zg7 (by omega)]
    unfold newP
    rw [ze5 hcnt,Nat.add_zero,Nat.succ_mul,Nat.succ_mul]
    omega
   have hmap:ts.map (newT k y.length c (f::S'))=ts.map (newT k y.length (c+1) S'):=by
    refine List.map_congr_left fun t ht => ?_
    have:=hts t ht
    unfold newT
    rw [zg7 this.1,zg7 this.2]
   rw [e,List.map_cons,hmap]
   have tokE:newT k y.length c (f::S') ⟨(zah m).1,f,f+k⟩=⟨(zah (y++chgR (f+k) (m.drop k) (chs k y S'))).1,f-c * k+c * y.length,f-c * k+c * y.length+(zah (y++chgR (f+k) (m.drop k) (chs k y S'))).2.toNat⟩:=by
    unfold newT
    rw [r1]
    simp only [n1,n2,h2,Int.toNat_natCast]
   rw [tokE]
   refine .tok (by intro q; have:=congrArg List.length q; rw [List.length_append] at this; simp at this; exact Y.ne this.1) r2 (by rw [r1]; simp only; omega) ?_
   rw [r1]
   simp only [Int.toNat_natCast]
   rw [List.drop_append_of_le_length (znL _),List.drop_length,List.nil_append]
   have:f-c * k+c * y.length+y.length=f+k-(c+1) * k+(c+1) * y.length:=by rw [Nat.succ_mul,Nat.succ_mul]; omega
   rw [this]
   exact K
  ·have hS':Reps dx ts S:=by
    refine ⟨hS.1,fun g hg => ?_⟩
    obtain ⟨t,ht,a1,a2,a3⟩:=hS.2 g hg
    simp only [zmC] at ht
    rcases ht with rfl | ht
    ·simp only at a1; subst a1; exact absurd hg hoff
    ·exact ⟨t,ht,a1,a2,a3⟩
   have hge:∀f∈S,off+k<=f:=fun f hf=>by
    obtain ⟨t,ht,rfl,_⟩:=hS'.2 f hf
    exact later t ht
   have K:=ih hS' (show c * dx<=off+k by omega)
   have hrel:=zu5 Y hr hS'
   have hk':HR (m.drop (zah m).2.toNat) (chgR (off+k) (m.drop k) (chs dx y S)):=by rw [hkn]; exact hrel
   obtain ⟨r1,r2⟩:=zqs hm h0 hk'
   rw [hkn] at r1 r2
   rw [zqu hge]
   have hh:=zu4 hm hg h0
   have hlen:(m.take k).length=k:=by rw [List.length_take]; omega
   have n1:newP dx y.length c S off=off-c * dx+c * y.length:=by
    unfold newP
    rw [ze5 (fun g hg=>by have:=hge g hg; omega)]
    simp
   have n2:newP dx y.length c S (off+k)=off-c * dx+c * y.length+k:=by
    unfold newP
    rw [ze5 hge]
    simp only [Nat.add_zero]
    omega
   rw [List.map_cons]
   have tokE:newT dx y.length c S ⟨(zah m).1,off,off+k⟩=⟨(zah (m.take k++chgR (off+k) (m.drop k) (chs dx y S))).1,off-c * dx+c * y.length,off-c * dx+c * y.length+(zah (m.take k++chgR (off+k) (m.drop k) (chs dx y S))).2.toNat⟩:=by
    unfold newT
    rw [r1]
    simp only [n1,n2,hkn]
   rw [tokE]
   refine .tok (by intro q; have:=congrArg List.length q; rw [List.length_append,hlen] at this; simp at this; omega) (zkk (by rw [r2]; exact hh.1) (by rw [r2]; exact hh.2.1) (by rw [r2]; exact hh.2.2.1) (by rw [r2]; exact hh.2.2.2)) (by rw [r1]; exact h0) ?_
   rw [r1,hkn,List.drop_append_of_le_length (by omega),List.drop_of_length_le (by omega),List.nil_append,show off-c * dx+c * y.length+k=off+k-c * dx+c * y.length from by omega]
   exact K
end
end Go.Proofs.YtckhafpejefbbaaGreatDoor.Tw 
namespace Go.Proofs.YtckhafpejefbbaaGreatDoor.Tw
open Go
theorem zqv {a b:List UInt8} {i j:Nat} (h:j<=a.length):zaw (a++b) i j=zaw a i j:=by
 unfold zaw
 rcases Nat.lt_or_ge i a.length with h1 | h1
 ·rw [List.drop_append_of_le_length (by omega),List.take_append_of_le_length (by simp; omega)]
 ·rw [show j-i=0 from by omega]
  simp
theorem zkl {a b:List UInt8} {i j:Nat} (h:a.length<=i):zaw (a++b) i j=zaw b (i-a.length) (j-a.length):=by
 unfold zaw
 rw [List.drop_append,List.drop_of_length_le h,List.nil_append]
 congr 1
 omega
theorem zjf {m:List UInt8} {k i j:Nat} (h:k<=i):zaw (m.drop k) (i-k) (j-k)=zaw m i j:=by
 unfold zaw
 rw [List.drop_drop,show k+(i-k)=i from by omega]
 congr 1
 omega
theorem zxu {m:List UInt8} {k i j:Nat} (h:j<=k):zaw (m.take k) i j=zaw m i j:=by
 unfold zaw
 rw [List.drop_take,List.take_take]
 congr 1
 omega
variable {dx : Nat} {y : List UInt8}
theorem zu6 (c p:Nat) (dy:Nat):newP dx dy c [] p=p-c * dx+c * dy:=by simp [newP,zgo]
theorem zkm {c p dy f:Nat} {S:List Nat} (h:∀g∈f::S,p<=g):newP dx dy c (f::S) p=p-c * dx+c * dy:=by
 unfold newP
 rw [ze5 h]
 simp
theorem zsj (hdx:0<dx):∀(S:List Nat) (off:Nat) (m:List UInt8) (c:Nat),S.Pairwise (fun f g=>f+dx<=g)->(∀f∈S,off<=f/\f+dx<=off+m.length)->c * dx<=off->∀(a b:Nat),off<=a->a<b->b<=off+m.length->(∀f∈S,b<=f\/f+dx<=a\/(a=f/\b=f+dx)) ->
  zaw (chgR off m (chs dx y S)) (newP dx y.length c S a-(off-c * dx+c * y.length)) (newP dx y.length c S b-(off-c * dx+c * y.length))=if a∈S then y else zaw m (a-off) (b-off)
 | [],off,m,c,_,_,hc,a,b,ha,hab,hb,_=>by
  rw [zu6,zu6]
  simp only [chs,List.map_nil,chgR,List.not_mem_nil,if_false]
  rw [show a-c * dx+c * y.length-(off-c * dx+c * y.length)=a-off from by omega,show b-c * dx+c * y.length-(off-c * dx+c * y.length)=b-off from by omega]
 | f::S,off,m,c,hS,hI,hc,a,b,ha,hab,hb,hO=>by
  obtain ⟨h1,h2⟩:=hI f (by simp)
  have hS':=List.pairwise_cons.1 hS
  have htl:(m.take (f-off)).length=f-off:=by rw [List.length_take]; omega
  simp only [chs,List.map_cons,chgR]
  rcases hO f (by simp) with h | h | ⟨rfl,rfl⟩
  ·
   have hlow:∀g∈f::S,b<=g:=fun g hg=>by
    simp only [zmC] at hg
    rcases hg with rfl | hg
    ·exact h
    ·have:=hS'.1 g hg; omega
   rw [zkm (fun g hg=>by have:=hlow g hg; omega),zkm hlow]
   rw [show a-c * dx+c * y.length-(off-c * dx+c * y.length)=a-off from by omega,show b-c * dx+c * y.length-(off-c * dx+c * y.length)=b-off from by omega]
   rw [zqv (by omega),zxu (by omega),if_neg (fun hm=>by have:=hlow a hm; omega)]
  ·
   have hc1:(c+1) * dx<=f+dx:=by rw [Nat.succ_mul]; omega
   have ih:=zsj hdx S (f+dx) (m.drop (f+dx-off)) (c+1) hS'.2 (fun g hg=>by
    have:=hS'.1 g hg
    have:=(hI g (by simp [hg])).2
    rw [List.length_drop]
    omega) hc1 a b (by omega) hab (by rw [List.length_drop]; omega) (fun g hg=>hO g (by simp [hg]))
   have ea:(a∈f::S)↔(a∈S):=by
    simp only [zmC]
    exact ⟨fun q=>q.elim (fun q=>by omega) id,.inr⟩
   rw [zg7 (by omega:f<a),zg7 (by omega:f<b)]
   have base:f+dx-(c+1) * dx+(c+1) * y.length=f-off+y.length+(off-c * dx+c * y.length):=by
    rw [Nat.succ_mul,Nat.succ_mul]
    omega
   have low:∀p,f+dx<=p->(∀g∈S,g<p->g+dx<=p)->f-off+y.length+(off-c * dx+c * y.length)<=newP dx y.length (c+1) S p:=fun p hp hg=>by
    rw [<-base]
    unfold newP
    have key:∀(S:List Nat) (q:Nat),S.Pairwise (fun f g=>f+dx<=g)->(∀g∈S,q<=g)->q<=p->(∀g∈S,g<p->g+dx<=p)->zgo S p * dx<=p-q:=by
     intro S
     induction S with
     | nil=>intro q _ _ _ _; simp [zgo]
     | cons g S ih =>
      intro q h1 h2 h3 h4
      by_cases hgp:g<p
      ·rw [zqt hgp,Nat.succ_mul]
       have e1:=h2 g (by simp)
       have e2:=h4 g (by simp) hgp
       have:=ih (g+dx) (List.pairwise_cons.1 h1).2 (List.pairwise_cons.1 h1).1 e2 (fun g' hg'=>h4 g' (by simp [hg']))
       omega
      ·have:zgo (g::S) p=0:=ze5 (fun g' hg'=>by
        simp only [zmC] at hg'
        rcases hg' with rfl | hg'
        ·omega
        ·have:=(List.pairwise_cons.1 h1).1 g' hg'; omega)
       rw [this]
       omega
    have k1:=key S (f+dx) hS'.2 hS'.1 hp hg
    have k2:(c+1+zgo S p) * dx=(c+1) * dx+zgo S p * dx:=Nat.add_mul _ _ _
    have k3:(c+1+zgo S p) * y.length=(c+1) * y.length+zgo S p * y.length:=Nat.add_mul _ _ _
    rw [k2,k3]
    omega
   have la:=low a h (fun g hg hga=>by rcases hO g (by simp [hg]) with h | h | h <;> omega)
   have lb:=low b (by omega) (fun g hg hgb=>by rcases hO g (by simp [hg]) with h | h | h <;> omega)
   rw [zkl (by omega),htl,zkl (by omega)]
   rw [base] at ih
   rw [show newP dx y.length (c+1) S a-(off-c * dx+c * y.length)-(f-off)-y.length=newP dx y.length (c+1) S a-(f-off+y.length+(off-c * dx+c * y.length)) from by omega,show newP dx y.length (c+1) S b-(off-c * dx+c * y.length)-(f-off)-y.length=newP dx y.length (c+1) S b-(f-off+y.length+(off-c * dx+c * y.length)) from by omega]
   simp only [chs] at ih
   rw [ih]
   simp only [ea]
   split
   ·rfl
   ·rw [show a-(f+dx)=(a-off)-(f+dx-off) from by omega,show b-(f+dx)=(b-off)-(f+dx-off) from by omega,zjf (by omega)]
  ·
   rw [if_pos (by simp)]
   rw [zkm (fun g hg=>by
    simp only [zmC] at hg
    rcases hg with rfl | hg
    ·exact znL _
    ·have:=hS'.1 g hg; omega),zg7 (by omega:a<a+dx)]
   have e:newP dx y.length (c+1) S (a+dx)=a-c * dx+c * y.length+y.length:=by
    unfold newP
    rw [ze5 (fun g hg=>hS'.1 g hg)]
    simp only [Nat.add_zero]
    rw [Nat.succ_mul,Nat.succ_mul]
    omega
   rw [e,show a-c * dx+c * y.length-(off-c * dx+c * y.length)=a-off from by omega,show a-c * dx+c * y.length+y.length-(off-c * dx+c * y.length)=a-off+y.length from by omega]
   rw [zkl (by omega),htl,Nat.sub_self,show a-off+y.length-(a-off)=y.length from by omega,zqv (znL _)]
   simp [zaw]
end Go.Proofs.YtckhafpejefbbaaGreatDoor.Tw 
namespace Go.Proofs.YtckhafpejefbbaaGreatDoor
open Go.ChangeShapes Go.WideShapes Go.ChangeAt Go.RowKit
theorem lib5:Lib5 := {lib4 with it:=fun i hi w=>(Tryz.strconv_Itoa_small i hi w).mono fun _ _ ⟨h1,h2⟩=>⟨h1,h2.symm⟩}
open Go.RowKit
theorem zho (hIt:Said.ItoaSmall) {t:Tw.T} {fuel:Nat} {sh:List UInt8} (hf:Tw.ofS fuel t=some (some sh)):zrh WtS t sh:=fun _ _ _ hr=>yco hIt hr hf
end Go.Proofs.YtckhafpejefbbaaGreatDoor
