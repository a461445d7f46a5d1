package house

import (
	"slices"

	"moveout/api"
	"moveout/common"
)

// unfinished is the checksum of a tile that is left.
const unfinished = -1

// The numbers of the digest.
const (
	digestFactor  = 257
	digestModulus = 16777213
)

func (r Register) refuseRun(a act) api.Errno {
	return common.First(
		when(slices.ContainsFunc(r.linesOf(a.names[1]), Line.isOpen), api.ErrOpen),
		common.CheckRange(a.values[1], 1, MaxTiles),
		room(r.Jobs, MaxJobs),
	)
}

func (r Register) addJob(a act) Register {
	j := Job{Name: a.names[0], Module: a.names[1]}
	for range a.values[1] {
		j.Sums = append(j.Sums, unfinished)
	}
	r.Jobs = with(r.Jobs, j)
	return r
}

// left returns the tiles of a job that are left.
func (j Job) left() []int {
	var out []int
	for tile, sum := range j.Sums {
		if sum == unfinished {
			out = append(out, tile)
		}
	}
	return out
}

func (j Job) isLeft(tile int) bool {
	return slices.Contains(j.left(), tile)
}

// finished returns a job with another checksum of a tile.
func (j Job) finished(tile, sum int) Job {
	j.Sums = slices.Clone(j.Sums)
	j.Sums[tile] = sum
	return j
}

// checkOver returns ErrOver if there is a picture of a job, or OK.
func (r Register) checkOver(j Job) api.Errno {
	is := slices.ContainsFunc(r.Pictures, func(p Picture) bool { return p.Job == j.Name })
	return when(is, api.ErrOver)
}

// checkTile returns the first error of the tile of an act of a job, or OK.
func (r Register) checkTile(j Job, tile int) api.Errno {
	return common.First(r.checkOver(j), common.CheckRange(tile, 0, len(j.Sums)-1))
}

func (r Register) refuseTile(a act) api.Errno {
	j, tile := found(r.Jobs, a.names[0]), a.values[1]
	return common.First(r.checkTile(j, tile), when(!j.isLeft(tile), api.ErrTwice))
}

func (r Register) refuseFail(a act) api.Errno {
	j, tile := found(r.Jobs, a.names[0]), a.values[1]
	return common.First(r.checkTile(j, tile), when(j.isLeft(tile), api.ErrNone))
}

func (r Register) finishTile(a act) Register {
	r.Jobs = changed(r.Jobs, a.names[0], func(j Job) Job { return j.finished(a.values[1], a.values[2]) })
	return r
}

func (r Register) loseTile(a act) Register {
	r.Jobs = changed(r.Jobs, a.names[0], func(j Job) Job { return j.finished(a.values[1], unfinished) })
	return r
}

func (r Register) refusePicture(a act) api.Errno {
	j := found(r.Jobs, a.names[1])
	return common.First(r.checkOver(j), when(len(j.left()) > 0, api.ErrOpen), room(r.Pictures, MaxPictures))
}

func (r Register) addPicture(a act) Register {
	j := found(r.Jobs, a.names[1])
	r.Pictures = with(r.Pictures, Picture{Name: a.names[0], Job: j.Name, Digest: digest(j.Sums)})
	return r
}

func (r Register) refuseRelease(a act) api.Errno {
	return when(found(r.Pictures, a.names[0]).Released, api.ErrOver)
}

func (r Register) release(a act) Register {
	r.Pictures = changed(r.Pictures, a.names[0], func(p Picture) Picture {
		p.Released = true
		return p
	})
	return r
}

// shotsOf returns the shots of a picture.
func (r Register) shotsOf(picture string) []Shot {
	job := found(r.Jobs, found(r.Pictures, picture).Job)
	return filtered(r.Shots, Shot.isOf, names(r.linesOf(job.Module)))
}

func digest(sums []int) int {
	return common.Checksum(sums, digestFactor, digestModulus)
}

// Digest returns the digest of checksums.
func Digest(sums []int) (int, api.Errno) {
	if e := common.First(common.CheckCount(len(sums), MaxTiles), common.FirstOf(sums, checkNumber)); e != api.OK {
		return 0, e
	}
	return digest(sums), api.OK
}
