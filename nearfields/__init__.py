"""Points, triangles whose rings are empty, and the fields that lie nearest to each."""
