import Derived.Test.YtamjpojnonaecaaGreatDoorM48
namespace Go.Proofs.YtamjpojnonaecaaGreatDoor
theorem okF_1 : (List.range 128).all (fun i => okF (128 + i)) = true := by decide +kernel
end Go.Proofs.YtamjpojnonaecaaGreatDoor
namespace Go.Proofs.YtamjpojnonaecaaGreatDoor
theorem okF_2 : (List.range 128).all (fun i => okF (256 + i)) = true := by decide +kernel
end Go.Proofs.YtamjpojnonaecaaGreatDoor
namespace Go.Proofs.YtamjpojnonaecaaGreatDoor
theorem okF_3 : (List.range 128).all (fun i => okF (384 + i)) = true := by decide +kernel
end Go.Proofs.YtamjpojnonaecaaGreatDoor
namespace Go.Proofs.YtamjpojnonaecaaGreatDoor
theorem okF_4 : (List.range 128).all (fun i => okF (512 + i)) = true := by decide +kernel
end Go.Proofs.YtamjpojnonaecaaGreatDoor
