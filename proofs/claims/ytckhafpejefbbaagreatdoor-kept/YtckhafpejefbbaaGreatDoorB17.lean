/- Texts of the proof, put together: RangeO, Parts2. -/
import Derived.RangeFuncNested
import Derived.RangeFuncBound
import Derived.RangeFuncCalls
import Derived.RangeFuncLeaves
import Derived.Shelf.Abstract
import Derived.Shelf.RegionOpen
import Derived.WalkKit
import Derived.OwnWalkIn
import Derived.TacticsInMore
import Derived.Test.YtckhafpejefbbaaGreatDoorB10

set_option maxRecDepth 100000
set_option maxHeartbeats 4000000
namespace Go.Proofs.YtckhafpejefbbaaGreatDoor
open Go Go.RowKit
def zsr {α : Type} (P:Program) (g:Nat) (lb:Array Value) (encs : α -> Array Value) (Ok : α -> World->Prop) (Kp:World->World->Prop) (S Sp:List α -> Prop) (N:Nat) (w:World):Prop :=
 ∀(l:Nat) (J Jx:List α -> World->Prop) (W:World),Below w.heap.size w W->OwnFrom W.heap.size J->OwnFrom W.heap.size Jx ->
  (∀pre x W1,J pre W1->pre.length<N->Ok x W1->YieldAt Fence.wide 0 P l (encs x) W1 fun e W'=>KeepsFrom W.heap.size W1 W' /\
   ((e = .returned (.bool true)/\J (pre ++ [x]) W'/\Kp W1 W')\/(e = .returned (.bool false)/\Jx (pre ++ [x]) W'))) ->
  J [] W ->
  Calls P g (#[.func (.yield l) #[] #[]]++lb) W fun e W'=>(∃v,e = .returned v)/\((∃xs,S xs/\J xs W')\/(∃pre,Sp pre/\Jx pre W'))
abbrev SeqO {α : Type} (P:Program) (g:Nat) (lb:Array Value) (encs : α -> Array Value) (Kp:World->World->Prop) (S Sp:List α -> Prop) (N:Nat) (w:World):Prop:=zsr P g lb encs (fun _ _=>True) Kp S Sp N w
theorem zo8 {m m':Nat} {P:Program} {l:Nat} {args:Array Value} {W:World} {R:Ending->World->Prop} (h:YieldAt Fence.wide m P l args W R):YieldAt Fence.wide m' P l args W R:=by
 obtain ⟨fn,tmps,assign,body,hy,hR⟩:=h
 exact ⟨fn,tmps,assign,body,hy,hR.1,fun c cs _=>hR.2 c cs (room_wide _)⟩
theorem zpr {α : Type} {n:Nat} {P:Program} {g:Nat} {lb:Array Value} {encs : α -> Array Value} {Kp:World->World->Prop} {S Sp:List α -> Prop} {N:Nat} {w:World} (h:SeqStopsK Fence.wide n P g lb encs Kp S Sp N w):SeqO P g lb encs Kp S Sp N w:=by
 intro l J Jx W hW hJ hJx hY h0
 have weak:∀ {K:List α -> World->Prop},OwnFrom W.heap.size K->AbidesFrom W.heap.size K:=fun hK s A B row hs hg hr =>
  hK s A B row hs hg fun r e=>⟨(hr r e).1,by obtain ⟨o,ho,hw⟩:=(hr r e).2; exact ⟨o,ho,Obj.not_cells_of_walk hw⟩⟩
 exact callsIn_wide.1 (h l J Jx W hW (weak hJ) (weak hJx) (fun pre x W1 hj hl=>zo8 (YieldAt.mono (hY pre x W1 hj hl trivial) fun e W' hr=>hr.2)) h0)
theorem za7 {B:Nat} {A C D:World} (h:KeepsFrom B A C) (k:KeepsFrom B C D):KeepsFrom B A D:=⟨Nat.le_trans h.size k.size,fun i o hi ho hc=>k.same i o hi (h.same i o hi ho hc) hc⟩
theorem zcz {B B':Nat} (hB:B<=B') {A C:World} (h:KeepsFrom B A C):KeepsFrom B' A C:=⟨h.size,fun i o hi ho hc=>h.same i o (Nat.le_trans hB hi) ho hc⟩
theorem zlt {B l:Nat} (hl:l<B) (W:World) (o:Obj):KeepsFrom B W (W.putObj l o) :=
 ⟨by simp [World.putObj],fun i o' hi ho _=>(World.putObj_heap_other (by omega)).trans ho⟩
structure yd8 (rc:LoopState->Option Code->Loop) (fn:FuncId) (tmps:Array Value) (ps:Array Tmp) (assign body:Code) (D:Nat):Prop where
 eq:rc=fun st pe => {state:=st,pending:=pe,fn:=fn,tmps:=tmps,params:=ps,assign:=assign,body:=body,defers:=D}
variable {P : Program} {α : Type}
theorem zy5 {rc:LoopState->Option Code->Loop} {fn:FuncId} {tmps:Array Value} {ps:Array Tmp} {assign body:Code} {D l B B' m:Nat} (R:yd8 rc fn tmps ps assign body D) (hB:B<=l) (hB':l<B')
  {encs : α -> Array Value} {Kp:World->World->Prop} (hKt:∀ {A B C:World},Kp A B->Kp B C->Kp A C) (hKb:∀(W:World) (l:Nat) (o o':Obj),B<=l->W.heap[l]? = some o->o.isCells=false->o.isWalk=false->Kp W (W.putObj l o')) (hps:∀x,(encs x).size=ps.size)
  {I:List α -> World->Prop} {Ix:Code->List α -> World->Prop} (hI:OwnFrom B I) (hIx:∀c,OwnFrom B (Ix c)) {a₁ : α -> Act} {pre:List α} {x : α} {W:World} {Ok : α -> World->Prop} (hOk:OwnFrom B (fun (_:Unit) W=>Ok x W)) (hok:Ok x W) (hi:I pre W) (hl:W.heap[l]? = some (.loop (rc .ready none)))
  (hassign:∀(W:World) (K:Act->World->Prop),K (a₁ x) W->assign.wpIn (Fence.wide.inRound l) m P (Exit.then K (fun _ _ _=>False)) {tmps:=(ps.zip (encs x)).foldl (fun t (p,v)=>t.setIfInBounds p v) tmps,defers:=[]} W)
  (hbody:∀W,(∃r,W.heap[l]? = some (.loop r))->I pre W->Ok x W->body.wpIn (Fence.wide.inRound l) m P (ownPostG B Kp I Ix (pre ++ [x]) W) (a₁ x) W) :
  YieldAt Fence.wide m P l (encs x) W fun e W'=>KeepsFrom B' W W' /\
   ((e = .returned (.bool true)/\(I (pre ++ [x]) W'/\W'.heap[l]? = some (.loop (rc .ready none)))/\Kp W W')\/(e = .returned (.bool false)/\∃c,Ix c (pre ++ [x]) W'/\W'.heap[l]? = some (.loop (rc .done (some c))))):=by
 have fld:(rc .ready none).params=ps/\(rc .ready none).fn=fn/\(rc .ready none).tmps=tmps/\(rc .ready none).assign=assign/\(rc .ready none).body=body:=by rw [R.eq]; exact ⟨rfl,rfl,rfl,rfl,rfl⟩
 have hy:=run_yield (P:=P) (args:=encs x) hl (by rw [fld.1]; exact hps x)
 rw [fld.1,fld.2.1,fld.2.2.1,fld.2.2.2.1,fld.2.2.2.2] at hy
 refine ⟨fn,_,assign,body,hy,roundIn_of_wpIn trivial (hassign W _ ?_)⟩
 have hlt:=(zgE.1 hl).1
 refine ⟨_,run_beginRound hl (by rw [R.eq]),?_⟩
 obtain ⟨busy,hbusy⟩:∃b,({rc .ready none with state:=.busy}:Loop)=b:=⟨_,rfl⟩
 rw [hbusy]
 have hend:∀j:Option Code,({busy with state:=if j.isNone then .ready else .done,pending:=j}:Loop)=rc (if j.isNone then .ready else .done) j:=fun j=>by rw [<-hbusy,R.eq]
 have lb:(W.putObj l (.loop busy)).heap[l]? = some (.loop busy):=World.putObj_heap_same hlt
 have k0:KeepsFrom B' W (W.putObj l (.loop busy)):=zlt hB' W _
 have p0:Kp W (W.putObj l (.loop busy)):=hKb _ _ _ _ hB hl rfl rfl
 refine wpIn_mono (hbody _ ⟨busy,lb⟩ (hI.putObj _ hi hB hl rfl) (hOk.putObj (s:=()) _ hok hB hl rfl)) ?_
 -- a round's end
 have fin:∀(j:Option Code) (W3:World),KeepsFrom B (W.putObj l (.loop busy)) W3->W3.heap[l]? = some (.loop busy)/\(Instr.endRound l j).run P W3 = .ok (.bool j.isNone) (W3.putObj l (.loop (rc (if j.isNone then .ready else .done) j)))/\KeepsFrom B' W (W3.putObj l (.loop (rc (if j.isNone then .ready else .done) j))):=fun j W3 k3=>by
  have l3:=k3.same l _ hB lb rfl
  have e:=run_endRound (P:=P) j l3
  rw [hend] at e
  exact ⟨l3,e,za7 (za7 k0 (zcz (by omega) k3)) (zlt hB' _ _)⟩
 have leave:∀(c:Code) (W3:World),KeepsFrom B (W.putObj l (.loop busy)) W3->Ix c (pre ++ [x]) W3->∃v W4,(Instr.endRound l (some c)).run P W3 = .ok v W4/\(KeepsFrom B' W W4/\((Ending.returned v = .returned (.bool true)/\(I (pre ++ [x]) W4/\W4.heap[l]? = some (.loop (rc .ready none)))/\Kp W W4)\/(Ending.returned v = .returned (.bool false)/\∃c,Ix c (pre ++ [x]) W4/\W4.heap[l]? = some (.loop (rc .done (some c)))))):=fun c W3 k3 hx=>by
  obtain ⟨l3,e,k4⟩:=fin (some c) W3 k3
  exact ⟨_,_,e,k4,.inr ⟨rfl,c,(hIx c).putObj _ hx hB l3 rfl,World.putObj_heap_same (zgE.1 l3).1⟩⟩
 rintro e a3 W3 hp
 cases e with
 | normal =>
  obtain ⟨k3,p3,i3⟩:=hp
  obtain ⟨l3,e,k4⟩:=fin none W3 k3
  exact ⟨_,_,e,k4,.inl ⟨rfl,⟨hI.putObj _ i3 hB l3 rfl,World.putObj_heap_same (zgE.1 l3).1⟩,hKt (hKt p0 p3) (hKb _ _ _ _ hB l3 rfl rfl)⟩⟩
 | ret=>exact leave .ret W3 hp.1 hp.2
 | exit id=>exact leave (.exit id) W3 hp.1 hp.2
 | goto t=>exact leave (.goto t) W3 hp.1 hp.2
 | panic ch=>exact hp.elim
 | outgrown=>exact hp.elim
variable {n : Nat} {g : Operand} {ps : Array Tmp} {assign body : Code} {Q : Exit -> Act -> World -> Prop} {a : Act} {w : World}
theorem zps {gf:Nat} {lb:Array Value} (hg:a.eval g = .func (.func gf) #[] lb) (eg:∀args w,(callFunc gf args).run P w = .ok (.enter gf args) w)
  {encs : α -> Array Value} {Ok : α -> World->Prop} {Kp:World->World->Prop} {S Sp:List α -> Prop} {N:Nat} {w0:World} (hseq:zsr P gf lb encs Ok Kp S Sp N w0) (hOk:∀x,OwnFrom w.heap.size (fun (_:Unit) W=>Ok x W))
  (hKt:∀ {A B C:World},Kp A B->Kp B C->Kp A C) (hKb:∀(W:World) (l:Nat) (o o':Obj),w.heap.size<=l->W.heap[l]? = some o->o.isCells=false->o.isWalk=false->Kp W (W.putObj l o')) (hb0:Below w0.heap.size w0 w) (hps:∀x,(encs x).size=ps.size)
  (I:List α -> World->Prop) (Ix:Code->List α -> World->Prop) (hI:OwnFrom w.heap.size I) (hIx:∀c,OwnFrom w.heap.size (Ix c)) (h0:I [] w) (a₁ : α -> Act)
  (hassign:∀(l:Nat) (x : α) (W:World) (K:Act->World->Prop),K (a₁ x) W->assign.wpIn (Fence.wide.inRound l) 0 P (Exit.then K (fun _ _ _=>False)) {tmps:=(ps.zip (encs x)).foldl (fun t (p,v)=>t.setIfInBounds p v) a.tmps,defers:=[]} W)
  (hbody:∀(l:Nat) (pre:List α) (x : α) (W:World),w.heap.size<=l->(∃r,W.heap[l]? = some (.loop r))->I pre W->pre.length<N->Ok x W->body.wpIn (Fence.wide.inRound l) 0 P (ownPostG w.heap.size Kp I Ix (pre ++ [x]) W) (a₁ x) W)
  (hdone:∀(D:Nat) (xs:List α) (W:World),w.heap.size<=D->S xs->I xs W->W.heap[D]? = some (.deferred (some []))->Q .normal {a with defers := {target:=.collected D,args:=#[]}::a.defers} W)
  (hstop:∀(D:Nat) (c:Code) (pre:List α) (W:World),w.heap.size<=D->Sp pre->Ix c pre W->W.heap[D]? = some (.deferred (some []))->c.wpIn Fence.wide n P Q {a with defers := {target:=.collected D,args:=#[]}::a.defers} W) :
  (Code.rangeFunc g ps assign body).wpIn Fence.wide n P Q a w:=by
 refine wpIn_rangeFunc fun fn _ => ?_
 obtain ⟨rc,hrc⟩:∃rc:LoopState->Option Code->Loop,yd8 rc fn a.tmps ps assign body w.heap.size:=⟨_,⟨rfl⟩⟩
 obtain ⟨W1,hW1⟩:∃W1,(w.alloc (.deferred (some []))).alloc (.loop (rc .ready none))=W1:=⟨_,rfl⟩
 have z1:W1.heap.size=w.heap.size+2:=by rw [<-hW1]; simp
 have hl1:W1.heap[w.heap.size+1]? = some (.loop (rc .ready none)):=by
  have:=World.alloc_heap_new (w.alloc (.deferred (some []))) (.loop (rc .ready none))
  rw [World.size_alloc] at this
  rw [<-hW1]
  exact this
 have hd1:W1.heap[w.heap.size]? = some (.deferred (some [])):=by
  rw [<-hW1]
  exact (Below.heap_alloc _ _ _ (by simp)).trans (World.alloc_heap_new w _)
 have hi1:I [] W1:=by rw [<-hW1]; exact hI.alloc _ (hI.alloc _ h0)
 have hb1:Below w0.heap.size w0 W1:=by
  rw [<-hW1]
  exact hb0.trans ((((Below.refl _ w).alloc (znL _) _).alloc (by simp) _).mono hb0.size)
 have tail:∀ {A:World} {row:Option Nat},(∀r,row=some r->W1.heap.size<=r/\∃o:Obj,A.heap[r]? = some o/\o.isCells=false)->∀r,row=some r->w.heap.size<=r/\∃o:Obj,A.heap[r]? = some o/\o.isCells=false:=fun hr r e=>⟨by have:=(hr r e).1; omega,(hr r e).2⟩
 have stays:∀ {A B:World} {row:Option Nat} {k:Nat} {o:Obj},A.grownBy B row->(∀r,row=some r->W1.heap.size<=r/\∃o:Obj,A.heap[r]? = some o/\o.isCells=false)->k<W1.heap.size->A.heap[k]? = some o->B.heap[k]? = some o:=fun {A B row k o} hg hr hk ho =>
  (hg.block k (zgE.1 ho).1 (fun e=>by have:=(hr k e.symm).1; omega)).trans ho
 refine ⟨w.heap.size+1,[{target:=.collected w.heap.size,args:=#[]}],W1,{target:=.fn (.func gf) lb,args:=#[.func (.yield (w.heap.size+1)) #[] #[]]},W1,gf,#[.func (.yield (w.heap.size+1)) #[] #[]]++lb,W1,?_,?_,fun _ _=>trivial,?_,fun h=>(by cases h),?_⟩
 ·have:=run_enterLoop_outer (P:=P) (w:=w) fn a.tmps ps assign body
  rw [<-hW1,hrc.eq]
  exact this
 ·simp only [resolve,hg]
  simp [go_sem]
 ·simp [invoke,go_sem,eg]
 ·refine callsIn_wide.2 ((hseq (w.heap.size+1)
   (fun pre W=>(I pre W/\W.heap[w.heap.size+1]? = some (.loop (rc .ready none)))/\W.heap[w.heap.size]? = some (.deferred (some [])))
   (fun pre W=>(∃c,Ix c pre W/\W.heap[w.heap.size+1]? = some (.loop (rc .done (some c))))/\W.heap[w.heap.size]? = some (.deferred (some [])))
   W1 hb1
   (fun s A B row hs hg' hr=>⟨⟨hI s A B row hs.1.1 hg' (tail hr),stays hg' hr (by omega) hs.1.2⟩,stays hg' hr (by omega) hs.2⟩)
   (fun s A B row hs hg' hr=>by
    obtain ⟨⟨c,hc,hl⟩,hd⟩:=hs
    exact ⟨⟨c,hIx c s A B row hc hg' (tail hr),stays hg' hr (by omega) hl⟩,stays hg' hr (by omega) hd⟩)
   ?_ ⟨⟨hi1,hl1⟩,hd1⟩).mono ?_)
  ·rintro pre x W ⟨⟨hi,hl⟩,hd⟩ hlen hok
   have dn:∀ {K:List α -> World->Prop},OwnFrom w.heap.size K->OwnFrom (w.heap.size+1) (fun s W=>K s W/\W.heap[w.heap.size]? = some (.deferred (some []))):=fun hK s A B row hs hg' hr =>
    ⟨hK s A B row hs.1 hg' (fun r e=>⟨by have:=(hr r e).1; omega,(hr r e).2⟩),(hg'.block _ (zgE.1 hs.2).1 (fun e=>by have:=(hr _ e.symm).1; omega)).trans hs.2⟩
   refine YieldAt.mono (zy5 (P:=P) (m:=0) hrc (znL _) (show w.heap.size+1<W1.heap.size by omega) (encs:=encs) (Kp:=Kp) (fun h k=>hKt h k) (fun W l o o' h=>hKb W l o o' (by omega)) hps (dn hI) (fun c=>dn (hIx c)) (a₁ := a₁) (pre:=pre) (x:=x) (Ok:=Ok) (fun s A B row hs hg' hr=>hOk x s A B row hs hg' (fun r e=>⟨by have:=(hr r e).1; omega,(hr r e).2⟩)) hok ⟨hi,hd⟩ hl (fun W K hK=>hassign _ x W K hK) (fun W hr ⟨hi,hd⟩ hok=>wpIn_mono (hbody _ pre x W (by omega) hr hi hlen hok) ?_)) ?_
   ·rintro e a3 W3 hp
    cases e with
    | normal=>exact ⟨zcz (by omega) hp.1,hp.2.1,hp.2.2,hp.1.same _ _ (znL _) hd rfl⟩
    | ret=>exact ⟨zcz (by omega) hp.1,hp.2,hp.1.same _ _ (znL _) hd rfl⟩
    | exit id=>exact ⟨zcz (by omega) hp.1,hp.2,hp.1.same _ _ (znL _) hd rfl⟩
    | goto t=>exact ⟨zcz (by omega) hp.1,hp.2,hp.1.same _ _ (znL _) hd rfl⟩
    | panic ch=>exact hp.elim
    | outgrown=>exact hp.elim
   ·rintro e W' ⟨hk,⟨he,⟨⟨h1,h2⟩,h3⟩,h4⟩ | ⟨he,c,⟨h1,h2⟩,h3⟩⟩
    ·exact ⟨hk,.inl ⟨he,⟨⟨h1,h3⟩,h2⟩,h4⟩⟩
    ·exact ⟨hk,.inr ⟨he,⟨c,h1,h3⟩,h2⟩⟩
  ·rintro e W2 ⟨⟨v,rfl⟩,(⟨xs,hS,⟨hi,hl⟩,hd⟩ | ⟨pre,hSp,⟨c,hi,hl⟩,hd⟩)⟩
   ·refine ⟨none,_,by have:=run_endLoop (P:=P) hl (by rw [hrc.eq]; simp); rw [hrc.eq] at this; exact this,hdone _ xs _ (znL _) hS (hI.putObj _ hi (by omega) hl rfl) ((World.putObj_heap_other (by omega)).trans hd)⟩
   ·refine ⟨some c,_,by have:=run_endLoop (P:=P) hl (by rw [hrc.eq]; simp); rw [hrc.eq] at this; exact this,hstop _ c pre _ (znL _) hSp ((hIx c).putObj _ hi (by omega) hl rfl) ((World.putObj_heap_other (by omega)).trans hd)⟩
theorem yda {l₀ : Nat} {r₀ : Loop} (hl₀ : w.heap[l₀]? = some (.loop r₀)) {gf:Nat} {lb:Array Value} (hg:a.eval g = .func (.func gf) #[] lb) (eg:∀args w,(callFunc gf args).run P w = .ok (.enter gf args) w)
  {encs : α -> Array Value} {Ok : α -> World->Prop} {Kp:World->World->Prop} {S Sp:List α -> Prop} {N:Nat} {w0:World} (hseq:zsr P gf lb encs Ok Kp S Sp N w0) (hOk:∀x,OwnFrom w.heap.size (fun (_:Unit) W=>Ok x W))
  (hKt:∀ {A B C:World},Kp A B->Kp B C->Kp A C) (hKb:∀(W:World) (l:Nat) (o o':Obj),w.heap.size<=l->W.heap[l]? = some o->o.isCells=false->o.isWalk=false->Kp W (W.putObj l o')) (hb0:Below w0.heap.size w0 w) (hps:∀x,(encs x).size=ps.size)
  (I:List α -> World->Prop) (Ix:Code->List α -> World->Prop) (hI:OwnFrom w.heap.size I) (hIx:∀c,OwnFrom w.heap.size (Ix c)) (h0:I [] w) (a₁ : α -> Act)
  (hassign:∀(l:Nat) (x : α) (W:World) (K:Act->World->Prop),K (a₁ x) W->assign.wpIn (Fence.wide.inRound l) 0 P (Exit.then K (fun _ _ _=>False)) {tmps:=(ps.zip (encs x)).foldl (fun t (p,v)=>t.setIfInBounds p v) a.tmps,defers:=[]} W)
  (hbody:∀(l:Nat) (pre:List α) (x : α) (W:World),w.heap.size<=l->(∃r,W.heap[l]? = some (.loop r))->I pre W->pre.length<N->Ok x W->body.wpIn (Fence.wide.inRound l) 0 P (ownPostG w.heap.size Kp I Ix (pre ++ [x]) W) (a₁ x) W)
  (hdone:∀(xs:List α) (W:World),S xs->I xs W->Q .normal a W)
  (hstop:∀(c:Code) (pre:List α) (W:World),Sp pre->Ix c pre W->c.wpIn (Fence.wide.inRound l₀) n P Q a W) :
  (Code.rangeFunc g ps assign body).wpIn (Fence.wide.inRound l₀) n P Q a w:=by
 refine wpIn_rangeFunc fun fn _ => ?_
 obtain ⟨rc,hrc⟩:∃rc:LoopState->Option Code->Loop,yd8 rc fn a.tmps ps assign body r₀.defers:=⟨_,⟨rfl⟩⟩
 obtain ⟨W1,hW1⟩:∃W1,w.alloc (.loop (rc .ready none))=W1:=⟨_,rfl⟩
 have z1:W1.heap.size=w.heap.size+1:=by rw [<-hW1]; simp
 have hl1:W1.heap[w.heap.size]? = some (.loop (rc .ready none)):=by rw [<-hW1]; exact World.alloc_heap_new w _
 have hi1:I [] W1:=by rw [<-hW1]; exact hI.alloc _ h0
 have hb1:Below w0.heap.size w0 W1:=by
  rw [<-hW1]
  exact hb0.trans (((Below.refl _ w).alloc (znL _) _).mono hb0.size)
 have tail:∀ {A:World} {row:Option Nat},(∀r,row=some r->W1.heap.size<=r/\∃o:Obj,A.heap[r]? = some o/\o.isCells=false)->∀r,row=some r->w.heap.size<=r/\∃o:Obj,A.heap[r]? = some o/\o.isCells=false:=fun hr r e=>⟨by have:=(hr r e).1; omega,(hr r e).2⟩
 have stays:∀ {A B:World} {row:Option Nat} {k:Nat} {o:Obj},A.grownBy B row->(∀r,row=some r->W1.heap.size<=r/\∃o:Obj,A.heap[r]? = some o/\o.isCells=false)->k<W1.heap.size->A.heap[k]? = some o->B.heap[k]? = some o:=fun {A B row k o} hg hr hk ho =>
  (hg.block k (zgE.1 ho).1 (fun e=>by have:=(hr k e.symm).1; omega)).trans ho
 refine ⟨w.heap.size,[],W1,{target:=.fn (.func gf) lb,args:=#[.func (.yield w.heap.size) #[] #[]]},W1,gf,#[.func (.yield w.heap.size) #[] #[]]++lb,W1,?_,?_,fun _ _=>trivial,?_,fun h=>(by cases h),?_⟩
 ·have:=run_enterLoop_inner (P:=P) hl₀ fn a.tmps ps assign body
  rw [<-hW1,hrc.eq]
  exact this
 ·simp only [resolve,hg]
  simp [go_sem]
 ·simp [invoke,go_sem,eg]
 ·refine CallsIn.inRound l₀ (callsIn_wide.2 ((hseq w.heap.size
   (fun pre W=>I pre W/\W.heap[w.heap.size]? = some (.loop (rc .ready none)))
   (fun pre W=>∃c,Ix c pre W/\W.heap[w.heap.size]? = some (.loop (rc .done (some c))))
   W1 hb1
   (fun s A B row hs hg' hr=>⟨hI s A B row hs.1 hg' (tail hr),stays hg' hr (by omega) hs.2⟩)
   (fun s A B row hs hg' hr=>by
    obtain ⟨c,hc,hl⟩:=hs
    exact ⟨c,hIx c s A B row hc hg' (tail hr),stays hg' hr (by omega) hl⟩)
   ?_ ⟨hi1,hl1⟩).mono ?_))
  ·rintro pre x W ⟨hi,hl⟩ hlen hok
   exact zy5 (P:=P) (m:=0) hrc (znL _) (show w.heap.size<W1.heap.size by omega) (encs:=encs) (Kp:=Kp) (fun h k=>hKt h k) hKb hps hI hIx (a₁ := a₁) (pre:=pre) (x:=x) (Ok:=Ok) (hOk x) hok hi hl (fun W K hK=>hassign _ x W K hK) (fun W hr hi hok=>hbody _ pre x W (znL _) hr hi hlen hok)
  ·rintro e W2 ⟨⟨v,rfl⟩,(⟨xs,hS,hi,hl⟩ | ⟨pre,hSp,c,hi,hl⟩)⟩
   ·refine ⟨none,_,by have:=run_endLoop (P:=P) hl (by rw [hrc.eq]; simp); rw [hrc.eq] at this; exact this,?_⟩
    simpa using hdone xs _ hS (hI.putObj _ hi (by omega) hl rfl)
   ·refine ⟨some c,_,by have:=run_endLoop (P:=P) hl (by rw [hrc.eq]; simp); rw [hrc.eq] at this; exact this,?_⟩
    simpa using hstop c pre _ hSp ((hIx c).putObj _ hi (by omega) hl rfl)
theorem zea {β : Type} (B:Nat) (k:Nat) (c:Array Value) (t:TypeId) (m:Nat×Nat):OwnFrom B (fun (_ : β) W=>W.heap[k]? = some (.cells c t m)):=fun _ A C row hs hg hr =>
 (hg.block k (zgE.1 hs).1 (fun e=>by
  obtain ⟨_,o,ho,hc⟩:=hr k e.symm
  rw [hs] at ho
  cases ho
  cases hc)).trans hs
theorem ydb {p q d1 d2:Tmp} {gf:Nat} {lb:Array Value} (hg:a.eval g = .func (.func gf) #[] lb) (eg:∀args w,(callFunc gf args).run P w = .ok (.enter gf args) w)
  {e1 e2 : α -> Value} {Kp:World->World->Prop} {S Sp:List α -> Prop} {N:Nat} {w0:World} (hseq:SeqO P gf lb (fun x => #[e1 x,e2 x]) Kp S Sp N w0)
  (hKt:∀ {A B C:World},Kp A B->Kp B C->Kp A C) (hKb:∀(W:World) (l:Nat) (o o':Obj),w.heap.size<=l->W.heap[l]? = some o->o.isCells=false->o.isWalk=false->Kp W (W.putObj l o')) (hb0:Below w0.heap.size w0 w)
  (I:List α -> World->Prop) (Ix:Code->List α -> World->Prop) (hI:OwnFrom w.heap.size I) (hIx:∀c,OwnFrom w.heap.size (Ix c)) (h0:I [] w)
  (hassign:∀(l:Nat) (x : α) (W:World) (K:Act->World->Prop),K {tmps:=(((a.tmps.setIfInBounds p (e1 x)).setIfInBounds q (e2 x)).setIfInBounds d1 (e1 x)).setIfInBounds d2 (e2 x),defers:=[]} W ->
   assign.wpIn (Fence.wide.inRound l) 0 P (Exit.then K (fun _ _ _=>False)) {tmps:=(a.tmps.setIfInBounds p (e1 x)).setIfInBounds q (e2 x),defers:=[]} W)
  (hbody:∀(l:Nat) (pre:List α) (x : α) (W:World),w.heap.size<=l->(∃r,W.heap[l]? = some (.loop r))->I pre W->pre.length<N->body.wpIn (Fence.wide.inRound l) 0 P (ownPostG w.heap.size Kp I Ix (pre ++ [x]) W) {tmps:=(((a.tmps.setIfInBounds p (e1 x)).setIfInBounds q (e2 x)).setIfInBounds d1 (e1 x)).setIfInBounds d2 (e2 x),defers:=[]} W)
  (hdone:∀(D:Nat) (xs:List α) (W:World),w.heap.size<=D->S xs->I xs W->W.heap[D]? = some (.deferred (some []))->Q .normal {a with defers := {target:=.collected D,args:=#[]}::a.defers} W)
  (hstop:∀(D:Nat) (c:Code) (pre:List α) (W:World),w.heap.size<=D->Sp pre->Ix c pre W->W.heap[D]? = some (.deferred (some []))->c.wpIn Fence.wide n P Q {a with defers := {target:=.collected D,args:=#[]}::a.defers} W) :
  (Code.rangeFunc g #[p,q] assign body).wpIn Fence.wide n P Q a w :=
 zps hg eg hseq (fun _ _ _ _ _ hs _ _=>hs) (fun h k=>hKt h k) hKb hb0 (fun _=>rfl) I Ix hI hIx h0 (fun x => {tmps:=(((a.tmps.setIfInBounds p (e1 x)).setIfInBounds q (e2 x)).setIfInBounds d1 (e1 x)).setIfInBounds d2 (e2 x),defers:=[]})
  (fun l x W K hK=>by simpa using hassign l x W K hK) (fun l pre x W h1 h2 h3 h4 _=>hbody l pre x W h1 h2 h3 h4) hdone hstop
theorem zla {p q d1 d2:Tmp} {gf:Nat} {lb:Array Value} (hg:a.eval g = .func (.func gf) #[] lb) (eg:∀args w,(callFunc gf args).run P w = .ok (.enter gf args) w)
  {e1 e2 : α -> Value} {Ok : α -> World->Prop} {Kp:World->World->Prop} {S Sp:List α -> Prop} {N:Nat} {w0:World} (hseq:zsr P gf lb (fun x => #[e1 x,e2 x]) Ok Kp S Sp N w0) (hOk:∀x,OwnFrom w.heap.size (fun (_:Unit) W=>Ok x W))
  (hKt:∀ {A B C:World},Kp A B->Kp B C->Kp A C) (hKb:∀(W:World) (l:Nat) (o o':Obj),w.heap.size<=l->W.heap[l]? = some o->o.isCells=false->o.isWalk=false->Kp W (W.putObj l o')) (hb0:Below w0.heap.size w0 w)
  (I:List α -> World->Prop) (Ix:Code->List α -> World->Prop) (hI:OwnFrom w.heap.size I) (hIx:∀c,OwnFrom w.heap.size (Ix c)) (h0:I [] w)
  (hassign:∀(l:Nat) (x : α) (W:World) (K:Act->World->Prop),K {tmps:=(((a.tmps.setIfInBounds p (e1 x)).setIfInBounds q (e2 x)).setIfInBounds d1 (e1 x)).setIfInBounds d2 (e2 x),defers:=[]} W ->
   assign.wpIn (Fence.wide.inRound l) 0 P (Exit.then K (fun _ _ _=>False)) {tmps:=(a.tmps.setIfInBounds p (e1 x)).setIfInBounds q (e2 x),defers:=[]} W)
  (hbody:∀(l:Nat) (pre:List α) (x : α) (W:World),w.heap.size<=l->(∃r,W.heap[l]? = some (.loop r))->I pre W->pre.length<N->Ok x W->body.wpIn (Fence.wide.inRound l) 0 P (ownPostG w.heap.size Kp I Ix (pre ++ [x]) W) {tmps:=(((a.tmps.setIfInBounds p (e1 x)).setIfInBounds q (e2 x)).setIfInBounds d1 (e1 x)).setIfInBounds d2 (e2 x),defers:=[]} W)
  (hdone:∀(D:Nat) (xs:List α) (W:World),w.heap.size<=D->S xs->I xs W->W.heap[D]? = some (.deferred (some []))->Q .normal {a with defers := {target:=.collected D,args:=#[]}::a.defers} W)
  (hstop:∀(D:Nat) (c:Code) (pre:List α) (W:World),w.heap.size<=D->Sp pre->Ix c pre W->W.heap[D]? = some (.deferred (some []))->c.wpIn Fence.wide n P Q {a with defers := {target:=.collected D,args:=#[]}::a.defers} W) :
  (Code.rangeFunc g #[p,q] assign body).wpIn Fence.wide n P Q a w :=
 zps hg eg hseq hOk (fun h k=>hKt h k) hKb hb0 (fun _=>rfl) I Ix hI hIx h0 (fun x => {tmps:=(((a.tmps.setIfInBounds p (e1 x)).setIfInBounds q (e2 x)).setIfInBounds d1 (e1 x)).setIfInBounds d2 (e2 x),defers:=[]})
  (fun l x W K hK=>by simpa using hassign l x W K hK) hbody hdone hstop
theorem zhp {p d1:Tmp} {gf:Nat} {lb:Array Value} (hg:a.eval g = .func (.func gf) #[] lb) (eg:∀args w,(callFunc gf args).run P w = .ok (.enter gf args) w)
  {e1 : α -> Value} {Kp:World->World->Prop} {S Sp:List α -> Prop} {N:Nat} {w0:World} (hseq:SeqO P gf lb (fun x => #[e1 x]) Kp S Sp N w0)
  (hKt:∀ {A B C:World},Kp A B->Kp B C->Kp A C) (hKb:∀(W:World) (l:Nat) (o o':Obj),w.heap.size<=l->W.heap[l]? = some o->o.isCells=false->o.isWalk=false->Kp W (W.putObj l o')) (hb0:Below w0.heap.size w0 w)
  (I:List α -> World->Prop) (Ix:Code->List α -> World->Prop) (hI:OwnFrom w.heap.size I) (hIx:∀c,OwnFrom w.heap.size (Ix c)) (h0:I [] w)
  (hassign:∀(l:Nat) (x : α) (W:World) (K:Act->World->Prop),K {tmps:=(a.tmps.setIfInBounds p (e1 x)).setIfInBounds d1 (e1 x),defers:=[]} W ->
   assign.wpIn (Fence.wide.inRound l) 0 P (Exit.then K (fun _ _ _=>False)) {tmps:=a.tmps.setIfInBounds p (e1 x),defers:=[]} W)
  (hbody:∀(l:Nat) (pre:List α) (x : α) (W:World),w.heap.size<=l->(∃r,W.heap[l]? = some (.loop r))->I pre W->pre.length<N->body.wpIn (Fence.wide.inRound l) 0 P (ownPostG w.heap.size Kp I Ix (pre ++ [x]) W) {tmps:=(a.tmps.setIfInBounds p (e1 x)).setIfInBounds d1 (e1 x),defers:=[]} W)
  (hdone:∀(D:Nat) (xs:List α) (W:World),w.heap.size<=D->S xs->I xs W->W.heap[D]? = some (.deferred (some []))->Q .normal {a with defers := {target:=.collected D,args:=#[]}::a.defers} W)
  (hstop:∀(D:Nat) (c:Code) (pre:List α) (W:World),w.heap.size<=D->Sp pre->Ix c pre W->W.heap[D]? = some (.deferred (some []))->c.wpIn Fence.wide n P Q {a with defers := {target:=.collected D,args:=#[]}::a.defers} W) :
  (Code.rangeFunc g #[p] assign body).wpIn Fence.wide n P Q a w :=
 zps hg eg hseq (fun _ _ _ _ _ hs _ _=>hs) (fun h k=>hKt h k) hKb hb0 (fun _=>rfl) I Ix hI hIx h0 (fun x => {tmps:=(a.tmps.setIfInBounds p (e1 x)).setIfInBounds d1 (e1 x),defers:=[]})
  (fun l x W K hK=>by simpa using hassign l x W K hK) (fun l pre x W h1 h2 h3 h4 _=>hbody l pre x W h1 h2 h3 h4) hdone hstop
theorem zc1 {β : Type} (W1:World) {B:Nat} (hB:W1.heap.size<=B):OwnFrom B (fun (_ : β) X=>W1.grownBy X none):=fun _ X Y row hs hg hr =>
 ⟨hg.os.trans hs.os,hg.tape.trans hs.tape,hg.output.trans hs.output,Nat.le_trans hs.size hg.size,fun k hk _=>(hg.block k (Nat.lt_of_lt_of_le hk hs.size) (fun e=>by have:=(hr k e.symm).1; omega)).trans (hs.block k hk (by simp))⟩
theorem zax {B:Nat} {A C:World} (hg:A.grownBy C none):KeepsFrom B A C:=⟨hg.size,fun k _ _ hk _=>(hg.block k (zgE.1 hk).1 (by simp)).trans hk⟩
theorem za8 {B:Nat} (W:World) (a:Addr) (v:Value):KeepsFrom B W (W.setCell a v):=(KeepsOthers.setCell W a v).from B
structure Set1 (W1:World) (rb:Nat) (v:Value) (ty:TypeId) (X:World):Prop where
 res:X.heap[rb]? = some (.cells #[v] ty (0,0))
 old:∀k,k<W1.heap.size->k≠rb->X.heap[k]? = W1.heap[k]?
 size:W1.heap.size<=X.heap.size
 os:X.os=W1.os
 tape:X.tape=W1.tape
 output:X.output=W1.output
theorem Set1.own {β : Type} {W1:World} {rb:Nat} {v:Value} {ty:TypeId} {B:Nat} (hB:W1.heap.size<=B) (hrb:rb<W1.heap.size):OwnFrom B (fun (_ : β) X=>Set1 W1 rb v ty X):=fun _ X Y row hs hg hr=>by
 have hz:=hs.size
 have key:∀k,k<W1.heap.size->Y.heap[k]? = X.heap[k]? := fun k hk=>hg.block k (by omega) (fun e=>by have:=(hr k e.symm).1; omega)
 exact ⟨(key rb hrb).trans hs.res,fun k hk hn=>(key k hk).trans (hs.old k hk hn),Nat.le_trans hz hg.size,hg.os.trans hs.os,hg.tape.trans hs.tape,hg.output.trans hs.output⟩
theorem Set1.zer {W1 X:World} (hg:W1.grownBy X none) {rb:Nat} {u:Value} {ty:TypeId} (hr:X.heap[rb]? = some (.cells #[u] ty (0,0))) (v:Value):Set1 W1 rb v ty (X.setCell ⟨rb,0,none⟩ v):=by
 have hb:=grownBy_setCell' X rb v
 refine ⟨?_,fun k hk hn => ?_,Nat.le_trans hg.size hb.size,hb.os.trans hg.os,hb.tape.trans hg.tape,hb.output.trans hg.output⟩
 ·unfold World.setCell
  simp only
  rw [Array.getElem?_modify]
  simp [hr]
 ·exact (hb.block k (Nat.lt_of_lt_of_le hk hg.size) (fun e=>hn (by cases e; rfl))).trans (hg.block k hk (by simp))
open Go.RowKit
theorem zxv (w:World) (b:Nat) :
  Calls Tryz.prog 162 #[.iface 83 (.pointer (some ⟨b,0,none⟩))] w (zbw w []):=by
 have q0:=zjq
 have q1:=zmq
 have q2:=zmr
 have q3:=zjy
 have q4:=zp3
 have q5:=zgf
 have q6:=zgg
 go_enter Tryz.func162,Tryz.ntmps162
 go_wp2_with fail
 go_ret
 exact ⟨zab _,.inl ⟨rfl,rfl⟩⟩
theorem ybd {w:World} {b:Nat} {c0 c1 c2 c3:Value} {v1:Value} (h0:∃T n,v1 = .iface T (.pointer (some ⟨n,0,none⟩))) (hb:w.heap[b]? = some (.cells #[c0,c1,c2,c3,v1] 235 (0,0))) :
  Calls Tryz.prog 162 #[.iface 215 (.pointer (some ⟨b,0,none⟩))] w (zbw w [v1]):=by
 obtain ⟨T0,n0,rfl⟩:=h0
 have c0:w.cell? ⟨b,4,none⟩=some (.iface T0 (.pointer (some ⟨n0,0,none⟩))):=zcR hb
 have q0:=zhi
 have q1:=zj8
 have q2:=zj9
 have q3:=zif
 have q4:=zn3
 have q5:=zdw
 have q6:=zei
 clear hb
 go_enter Tryz.func162,Tryz.ntmps162
 go_wp2_with fail
 go_ret
 exact ⟨zwA _ _ none,.inr ⟨_,rfl,zad w _⟩⟩
theorem ybe {w:World} {b:Nat} {c0 c1 c2 c3 c4:Value} {v1 v2:Value} (h0:∃T n,v1 = .iface T (.pointer (some ⟨n,0,none⟩))) (h1:∃T n,v2 = .iface T (.pointer (some ⟨n,0,none⟩))) (hb:w.heap[b]? = some (.cells #[c0,c1,c2,c3,c4,v1,v2] 140 (0,0))) :
  Calls Tryz.prog 162 #[.iface 136 (.pointer (some ⟨b,0,none⟩))] w (zbw w [v1,v2]):=by
 obtain ⟨T0,n0,rfl⟩:=h0
 obtain ⟨T1,n1,rfl⟩:=h1
 have c0:w.cell? ⟨b,5,none⟩=some (.iface T0 (.pointer (some ⟨n0,0,none⟩))):=zcR hb
 have c1:w.cell? ⟨b,6,none⟩=some (.iface T1 (.pointer (some ⟨n1,0,none⟩))):=zcR hb
 have q0:=zfm
 have q1:=zhx
 have q2:=zkb
 have q3:=zig
 have q4:=zn4
 have q5:=zdx
 have q6:=zcv
 clear hb
 go_enter Tryz.func162,Tryz.ntmps162
 go_wp2_with fail
 go_region
 go_wp2_with fail
 go_ret
 exact ⟨zac (zwA _ _ none),.inr ⟨_,rfl,zad w _⟩⟩
theorem zru (w:World) (b:Nat):Calls Tryz.prog 58 #[.iface 83 (.pointer (some ⟨b,0,none⟩))] w fun e w'=>e = .returned (.pointer none)/\w=w':=by
 have q0:=zgf
 have q1:=zgg
 go_enter Tryz.func58,Tryz.ntmps58
 go_wp2_with fail
 go_ret
 exact ⟨rfl,rfl⟩
theorem ztf (w:World) (b:Nat):Calls Tryz.prog 58 #[.iface 191 (.pointer (some ⟨b,0,none⟩))] w fun e w'=>e = .returned (.pointer none)/\w=w':=by
 have q0:=ze1
 have q1:=zfx
 go_enter Tryz.func58,Tryz.ntmps58
 go_wp2_with fail
 go_ret
 exact ⟨rfl,rfl⟩
theorem zqw (w:World) (b:Nat):Calls Tryz.prog 58 #[.iface 195 (.pointer (some ⟨b,0,none⟩))] w fun e w'=>e = .returned (.pointer none)/\w=w':=by
 have q0:=zdu
 have q1:=zem
 go_enter Tryz.func58,Tryz.ntmps58
 go_wp2_with fail
 go_ret
 exact ⟨rfl,rfl⟩
theorem zrv (w:World) (b:Nat):Calls Tryz.prog 58 #[.iface 199 (.pointer (some ⟨b,0,none⟩))] w fun e w'=>e = .returned (.pointer none)/\w=w':=by
 have q0:=zee
 have q1:=ze9
 go_enter Tryz.func58,Tryz.ntmps58
 go_wp2_with fail
 go_ret
 exact ⟨rfl,rfl⟩
theorem zoj (w:World) (b:Nat):Calls Tryz.prog 58 #[.iface 204 (.pointer (some ⟨b,0,none⟩))] w fun e w'=>e = .returned (.pointer none)/\w=w':=by
 have q0:=zc6
 have q1:=zdn
 go_enter Tryz.func58,Tryz.ntmps58
 go_wp2_with fail
 go_ret
 exact ⟨rfl,rfl⟩
theorem zrw (w:World) (b:Nat):Calls Tryz.prog 58 #[.iface 207 (.pointer (some ⟨b,0,none⟩))] w fun e w'=>e = .returned (.pointer none)/\w=w':=by
 have q0:=zef
 have q1:=zfa
 go_enter Tryz.func58,Tryz.ntmps58
 go_wp2_with fail
 go_ret
 exact ⟨rfl,rfl⟩
theorem zrx (w:World) (b:Nat):Calls Tryz.prog 58 #[.iface 209 (.pointer (some ⟨b,0,none⟩))] w fun e w'=>e = .returned (.pointer none)/\w=w':=by
 have q0:=zeg
 have q1:=zfb
 go_enter Tryz.func58,Tryz.ntmps58
 go_wp2_with fail
 go_ret
 exact ⟨rfl,rfl⟩
theorem zpl (w:World) (b:Nat):Calls Tryz.prog 58 #[.iface 211 (.pointer (some ⟨b,0,none⟩))] w fun e w'=>e = .returned (.pointer none)/\w=w':=by
 have q0:=zdi
 have q1:=zd8
 go_enter Tryz.func58,Tryz.ntmps58
 go_wp2_with fail
 go_ret
 exact ⟨rfl,rfl⟩
theorem zu7 (w:World) (b:Nat):Calls Tryz.prog 58 #[.iface 213 (.pointer (some ⟨b,0,none⟩))] w fun e w'=>e = .returned (.pointer none)/\w=w':=by
 have q0:=zf0
 have q1:=zg5
 go_enter Tryz.func58,Tryz.ntmps58
 go_wp2_with fail
 go_ret
 exact ⟨rfl,rfl⟩
theorem zjg (w:World) (b:Nat):Calls Tryz.prog 58 #[.iface 215 (.pointer (some ⟨b,0,none⟩))] w fun e w'=>e = .returned (.pointer (some ⟨b,2,none⟩))/\w=w':=by
 have q0:=zdw
 have q1:=zei
 go_enter Tryz.func58,Tryz.ntmps58
 go_wp2_with fail
 go_ret
 exact ⟨rfl,rfl⟩
theorem zgy (w:World) (b:Nat):Calls Tryz.prog 58 #[.iface 136 (.pointer (some ⟨b,0,none⟩))] w fun e w'=>e = .returned (.pointer (some ⟨b,3,none⟩))/\w=w':=by
 have q0:=zdx
 have q1:=zcv
 go_enter Tryz.func58,Tryz.ntmps58
 go_wp2_with fail
 go_ret
 exact ⟨rfl,rfl⟩
end Go.Proofs.YtckhafpejefbbaaGreatDoor
