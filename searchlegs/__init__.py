"""A search by legs: an area of the sea, searched by craft that go to and fro."""
