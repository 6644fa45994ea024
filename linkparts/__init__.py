"""Parts of linkages put together: linkparts.linkage.answers is the way in."""
